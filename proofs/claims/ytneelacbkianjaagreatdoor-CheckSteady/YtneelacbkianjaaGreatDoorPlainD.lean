/-
  A part of the proof.
-/
import Derived.Test.YtneelacbkianjaaGreatDoorPlainA
set_option maxHeartbeats 16000000
set_option maxRecDepth 100000
namespace Go.Proofs.YtneelacbkianjaaGreatDoor
def brkQ(t:Tr)(a:Bool):Bool:=decide (t.k=10)||(decide (t.k=9) && !a)
mutual
def dTy:Tr->Nat
 | .nd k _ a=>if k=10 then F7b a else D4a a
def D4a:List Tr->Nat
 |[]=>0
 |t::r=>max (dTy t+1) (D4a r)
def F7b:List Tr->Nat
 |[]=>0
 |t::r=>max (dTy t+(brkQ t (decide (r.length=0))).toNat) (F7b r)
end
theorem M0a(t:Tr)(a:Bool):(one t a).length=(tks t).length+2 * (brkQ t a).toNat:=by
 unfold one brkQ;cases a<;>by_cases b:t.k=10<;>by_cases c:t.k=9<;>simp[b,c]<;>omega
theorem P3b(a:Bool)(t:Tr)(r:List Tr):(M6 a (t::r)).length=(if a then 0 else 1)+(one t (decide (r.length=0))).length+(M6 false r).length:=by
 have e:M6 a (t::r)=(if a then [] else [sgQ [124]])++one t (decide (r.length=0))++M6 false r:=by
  rw[M6,one];simp
 rw[e,qQ,qQ];cases a<;>simp
def Yft(s:St)(t:Tr)(a:St)(x:Int):Prop:=a.N=s.N/\a.T=s.T++emT s.T.length t/\x=((s.T.length+nTy t:Nat):Int) - 1
def YftL(s:St)(a:List Tr)(b:St)(l:uZ):Prop:=b.N=s.N/\b.T=s.T++M9 s.T.length a/\l=ixT s.T.length a
theorem YftL.nil(s:St):YftL s [] s []:=⟨rfl,by simp[M9],rfl⟩
theorem YftL.cons{s a d:St}{t:Tr}{x:Int}{c:List Tr}{l:uZ}(h:Yft s t a x)(k:YftL a c d l):YftL s (t::c) d (x::l):=by
 have b:a.T.length=s.T.length+nTy t:=by rw[h.2.1,qQ,D3a]
 refine⟨k.1.trans h.1, ?_, ?_⟩
 · rw[k.2.1,b,h.2.1,M9,kZ]
 · rw[k.2.2,b,h.2.2,ixT]
theorem Yft.cons'{s b c:St}{t:Tr}{x:Int}{a:List Tr}{l:uZ}(h:Yft s t b x)(k:YftL b a c l):YftL s (t::a) c (x::l):=YftL.cons h k
theorem YftL.len{s b:St}{a:List Tr}{l:uZ}(h:YftL s a b l):b.T.length=s.T.length+M3 a:=by rw[h.2.1,qQ,G9a]
theorem Yft.len{s a:St}{t:Tr}{x:Int}(h:Yft s t a x):a.T.length=s.T.length+nTy t:=by rw[h.2.1,qQ,D3a]
theorem R2a:∀(a:List Tr) (b:Nat),(ixT b a).length=a.length
 |[],_=>rfl
 |t::r,b=>by rw[ixT,jQ,jQ,R2a r]
theorem Y8a(b:Nat)(k:Int)(c:List bZ)(a:List Tr)(h:k≠9):emT b (.nd k c a)=M9 b a++[G0a k c (ixT b a)]:=by rw[emT,yY h]
theorem YftL.row{s a:St}{b:List Tr}{l:uZ}(h:YftL s b a l)(k:Int)(c:List bZ)(d:k≠9)(t:Ty)(e:t=G0a k c l):Yft s (.nd k c b) ⟨a.i,a.N,a.T++[t]⟩ a.T.length:=by
 refine⟨h.1, ?_, ?_⟩
 · show a.T++[t]=_;rw[Y8a _ _ _ _ d,<-h.2.2,e,h.2.1,kZ]
 · rw[h.len,nTy];omega
structure YF(L:List Tk)(r:Sp):Prop where
 typ:∀d s s' x,r.typ d s=some (.ok s' x)->∃t,Wf t/\Yft s t s' x/\(tks t).length+s.i<=s'.i/\dTy t+1<=20 - d/\isM L s'.i [[124]]=false
 union:∀d s s' x,r.union d s=some (.ok s' x)->∃t,Wf t/\Yft s t s' x/\(tks t).length+s.i<=s'.i/\dTy t<=20 - d/\isM L s'.i [[124]]=false
 unionL:∀d s acc s' l,r.unionL d s acc=some (.ok s' l)->∃ks l',l=acc++l'/\(∀x∈ks,Wf x)/\YftL s ks s' l'/\(M6 false ks).length+s.i<=s'.i/\F7b ks<=20 - d/\isM L s'.i [[124]]=false/\(isM L s.i [[124]]=true ↔ ks≠[])
 member:∀d s s' x,r.member d s=some (.ok s' x)->∃t,Wf t/\Yft s t s' x/\(one t (!(isM L s'.i [[124]]))).length+s.i<=s'.i/\dTy t+(brkQ t (!(isM L s'.i [[124]]))).toNat<=20 - d
 objL:∀d s fs s' x,(fs.map (·.1)).Nodup->r.objL d s fs=some (.ok s' x)->∃ns ks,ns.length=ks.length/\(fs.map (·.1)++ns).Nodup/\(∀n∈ns,S4 n)/\(∀x∈ks,Wf x)/\s'.N=s.N/\
  s'.T=s.T++M9 s.T.length ks++[⟨7,fs++ns.zip (ixT s.T.length ks),[],0⟩]/\x=((s.T.length+M3 ks:Nat):Int)/\(A4a ns ks).length+1+s.i<=s'.i/\D4a ks<=20 - d
 fob:∀d s s' x,r.fob d s=some (.ok s' x)->∃t,Wf t/\Yft s t s' x/\(one t (!(isM L s'.i [[124]]))).length+s.i<=s'.i+1/\dTy t+(brkQ t (!(isM L s'.i [[124]]))).toNat<=20 - d
 list:∀d s nm acc s' l,r.list .typ [41] d s nm acc=some (.ok s' l)->∃ks l',l=acc++l'/\(∀x∈ks,Wf x)/\YftL s ks s' l'/\(N8 (decide (acc.length=0)) ks).length+1+s.i<=s'.i/\D4a ks<=20 - d
theorem newName_okQ{L:List Tk}{s c:St}{b:List bZ}{a:bZ}(h:newNameQ L s b=some (.ok c a)):(tk L s.i).kind=1/\a=(tk L s.i).text/\a ∉ b/\c=s.nx:=by
 unfold newNameQ at h;split at h
 · rename_i e;split at h
   · simp[fltQ]at h
   · rename_i d;simp only[zQ,Out.ok.injEq]at h;refine⟨e,h.2.symm, ?_,h.1.symm⟩;rw[<-h.2];simpa[has]using d
 · simp[fltQ]at h
theorem M4a{L:List Tk}{b:Bool}{d:Nat}{s a:St}{x:Int}{p:Nat->St->Option (Out Int)}(h:insideQ L b d s p=some (.ok a x)):b=true/\d<20/\p (d+1) s=some (.ok a x):=by
 unfold insideQ at h;split at h
 · rename_i c;split at h
   · simp[fltQ]at h
   · exact⟨c,by omega,h⟩
 · simp[fltQ]at h
theorem K8{d:Type}{s c:St}{a b:d}(h:some (Out.ok s a)=some (.ok c b)):s=c/\a=b:=by
 simp only[zQ,Out.ok.injEq]at h;exact h
section
variable{L:List Tk}{r:Sp}
theorem Y6d(i:YF L r):∀d s a x,(step L r).typ d s=some (.ok a x)->∃t,Wf t/\Yft s t a x/\(tks t).length+s.i<=a.i/\dTy t+1<=20 - d/\isM L a.i [[124]]=false:=by
 intro d s a x h;obtain⟨_,j,h⟩:=M4a h;obtain⟨t,b,c,e,g,f⟩:=i.union _ _ _ _ h;exact⟨t,b,c,e,by omega,f⟩
theorem S8c(i:YF L r):∀d s b x,(step L r).union d s=some (.ok b x)->∃t,Wf t/\Yft s t b x/\(tks t).length+s.i<=b.i/\dTy t<=20 - d/\isM L b.i [[124]]=false:=by
 intro d s b x h;obtain⟨n,y,q,f⟩:=B8 h;obtain⟨t,w1,o,m,j⟩:=i.member _ _ _ _ q;have F:=M0a t (!(isM L n.i [[124]]));split at f
 · rename_i c;obtain⟨B,l,u,v⟩:=B8 f;obtain⟨rfl,rfl⟩:=S2a v;obtain⟨a,G,rfl,w2,C,H,D,p,A⟩:=i.unionL _ _ _ _ _ u;have z:=A.1 c;have E:1<=a.length:=by
    cases a with
    |nil=>exact absurd rfl z
    |cons _ _=>simp
   have k:decide (a.length=0)=false:=decide_eq_false (by omega);rw[c]at m j;simp only[Bool.not_true]at m j;refine⟨.nd 10 [] (t::a),Wf.uni _ (by simp;omega) (λx g=> ?_),(o.cons' C).row 10 [] (by decide) _ rfl, ?_, ?_,p⟩
   · rcases jW.1 g with rfl|g
     · exact w1
     · exact w2 x g
   · have e:tks (.nd 10 [] (t::a))=M6 true (t::a):=by simp[tks]
     rw[e,P3b,k];simp only[if_true];show _<=B.i;omega
   · rw[dTy,rY rfl,F7b,k];omega
 · rename_i c;obtain⟨rfl,rfl⟩:=K8 f;have w:isM L n.i [[124]]=false:=by simpa using c
   refine⟨t,w1,o,by omega,by omega,w⟩
theorem M3c(i:YF L r):∀d s c b l,(step L r).unionL d s c=some (.ok b l)->∃a e,l=c++e/\(∀x∈a,Wf x)/\YftL s a b e/\(M6 false a).length+s.i<=b.i/\F7b a<=20 - d/\isM L b.i [[124]]=false/\(isM L s.i [[124]]=true ↔ a≠[]):=by
 intro d s c b l h;have h:(if isM L s.i [[124]] then A3 (r.member d s.nx) λs x=>r.unionL d s (c++[x]) else some (.ok s c))=some (.ok b l):=h;split at h
 · rename_i g;obtain⟨f,y,v,w⟩:=B8 h;obtain⟨t,w1,n,m,q⟩:=i.member _ _ _ _ v;obtain⟨a,e,rfl,w2,B,D,C,u,p⟩:=i.unionL _ _ _ _ _ w;have n:Yft s t f y:=n;have z:(!(isM L f.i [[124]]))=decide (a.length=0):=by
    cases j:isM L f.i [[124]]
    · have:a=[]:=Classical.byContradiction λA=>by rw[p.2 A]at j;exact absurd j (by decide)
      subst this;rfl
    · have:=p.1 j;cases a with
      |nil=>exact absurd rfl this
      |cons _ _=>simp
   rw[z]at m q;have m:(one t (decide (a.length=0))).length+(s.i+1)<=f.i:=m;refine⟨t::a,y::e,by simp,λx k=> ?_,n.cons' B, ?_, ?_,u,by simp[g]⟩
   · rcases jW.1 k with rfl|k
     · exact w1
     · exact w2 x k
   · rw[P3b];simp only[rZ,if_false];omega
   · rw[F7b];omega
 · rename_i g;obtain⟨rfl,rfl⟩:=K8 h;have o:isM L s.i [[124]]=false:=by simpa using g
   exact⟨[],[],by simp,by simp,YftL.nil s,by simp[M6],by simp[F7b],o,by simp[o]⟩
theorem M4c(i:YF L r):∀d s a x,(step L r).member d s=some (.ok a x)->∃t,Wf t/\Yft s t a x/\(one t (!(isM L a.i [[124]]))).length+s.i<=a.i/\dTy t+(brkQ t (!(isM L a.i [[124]]))).toNat<=20 - d:=by
 intro d s a x h;have h:(if isM L s.i [[123]] then r.objL d s.nx []
  else if isM L s.i [[91]] then A3 (r.typ d s.nx) λs x=>A3 (needQ L s [93]) λs _=>addTQ s ⟨8,[],[],x⟩
  else if isM L s.i [[40]] then r.fob d s.nx
  else if (tk L s.i).kind=2/\H7 (tk L s.i).text≠0 then addTQ s.nx ⟨H7 (tk L s.i).text,[],[],0⟩ else fltQ L s.i 1)=some (.ok a x):=h
 split at h
 · obtain⟨g,f,D,K,E,G,z,A,H,q,B⟩:=i.objL _ _ _ _ _ (by simp) h;have q:(A4a g f).length+1+(s.i+1)<=a.i:=q;have e:=M0a (.nd 7 g f) (!(isM L a.i [[124]]));have c:brkQ (.nd 7 g f) (!(isM L a.i [[124]]))=false:=by simp[brkQ,Tr.k]
   have u:(tks (.nd 7 g f)).length=(A4a g f).length+2:=by simp[tks]
   refine⟨.nd 7 g f,Wf.obj g f D (by simpa using K) E G,⟨z, ?_, ?_⟩, ?_, ?_⟩
   · rw[A,Y8a _ _ _ _ (by decide),kZ];rfl
   · rw[H,nTy];show ((s.T.length+M3 f:Nat):Int)=_;omega
   · rw[c]at e;simp only[Bool.toNat_false]at e;omega
   · rw[c,dTy,yY (by decide)];simpa using B
 split at h
 · obtain⟨b,y,m,n⟩:=B8 h;obtain⟨P,_,v,w⟩:=B8 n;obtain⟨_,rfl⟩:=M4 v;obtain⟨rfl,rfl⟩:=S2a w;obtain⟨t,w1,l,j,p,N⟩:=i.typ _ _ _ _ m;have l:Yft s t b y:=l;have j:(tks t).length+(s.i+1)<=b.i:=j;have e:=M0a (.nd 8 [] [t]) (!(isM L (b.i+1) [[124]]));have c:brkQ (.nd 8 [] [t]) (!(isM L (b.i+1) [[124]]))=false:=by simp[brkQ,Tr.k]
   have u:(tks (.nd 8 [] [t])).length=(tks t).length+2:=by simp[tks,U9c]
   have M:YftL s [t] b.nx [y]:=l.cons' (YftL.nil b);refine⟨.nd 8 [] [t],Wf.arr t w1,M.row 8 [] (by decide) _ rfl, ?_, ?_⟩
   · show (one (.nd 8 [] [t]) (!(isM L (b.i+1) [[124]]))).length+s.i<=b.i+1;rw[c]at e;simp only[Bool.toNat_false]at e;omega
   · show dTy (.nd 8 [] [t])+(brkQ (.nd 8 [] [t]) (!(isM L (b.i+1) [[124]]))).toNat<=_;rw[c,dTy,yY (by decide),D4a,D4a];simp only[Bool.toNat_false];omega
 split at h
 · obtain⟨t,w1,l,j,p⟩:=i.fob _ _ _ _ h;have j:(one t (!(isM L a.i [[124]]))).length+(s.i+1)<=a.i+1:=j;exact⟨t,w1,l,by omega,p⟩
 split at h
 · rename_i C;obtain⟨rfl,rfl⟩:=S2a h;have o:=X0a _ C.2;generalize H7 (tk L s.i).text=k at o;have e:=M0a (.nd k [] []) (!(isM L (s.i+1) [[124]]));have c:brkQ (.nd k [] []) (!(isM L (s.i+1) [[124]]))=false:=by
    have m:¬k=10:=by omega
    have n:¬k=9:=by omega
    simp[brkQ,Tr.k,m,n]
   have u:(tks (.nd k [] [])).length=1:=by
    rw[tks,yY (by omega),yY (by omega),yY (by omega),yY (by omega)];rfl
   have F:(⟨k,[],[],0⟩:Ty)=G0a k [] []:=by rw[G0a,yY (by omega),yY (by omega),yY (by omega)]
   refine⟨.nd k [] [],Wf.plain k o.1 o.2,(YftL.nil s).row k [] (by omega) _ F, ?_, ?_⟩
   · show (one (.nd k [] []) (!(isM L (s.i+1) [[124]]))).length+s.i<=s.i+1;rw[c]at e;simp only[Bool.toNat_false]at e;omega
   · show dTy (.nd k [] [])+(brkQ (.nd k [] []) (!(isM L (s.i+1) [[124]]))).toNat<=_;rw[c,dTy,yY (by omega),D4a];simp
 · simp[fltQ]at h
theorem M3d(G:NmL L)(i:YF L r):∀d s e g x,(e.map (·.1)).Nodup->(step L r).objL d s e=some (.ok g x)->∃f c,f.length=c.length/\(e.map (·.1)++f).Nodup/\(∀n∈f,S4 n)/\(∀x∈c,Wf x)/\g.N=s.N/\
 g.T=s.T++M9 s.T.length c++[⟨7,e++f.zip (ixT s.T.length c),[],0⟩]/\x=((s.T.length+M3 c:Nat):Int)/\(A4a f c).length+1+s.i<=g.i/\D4a c<=20 - d:=by
 intro d s e g x A h;have h:(if isM L s.i [[125]] then addTQ s.nx ⟨7,e,[],0⟩
  else A3 (newNameQ L s (e.map (·.1))) λs l=>A3 (needQ L s [58]) λs _=>A3 (r.typ d s) λs x=>A3 (needQ L s [59]) λs _=>r.objL d s (e++[(l,x)]))=some (.ok g x):=h
 split at h
 · obtain⟨rfl,rfl⟩:=S2a h;refine⟨[],[],rfl,by simpa using A,by simp,by simp,rfl,by simp[M9,St.nx],by simp[M3,St.nx], ?_,by simp[D4a]⟩;show (A4a [] []).length+1+s.i<=s.i+1;simp[A4a];omega
 · obtain⟨Z,l,C,h⟩:=B8 h;obtain⟨K,S,R,rfl⟩:=newName_okQ C;obtain⟨s2,_,D,h⟩:=B8 h;obtain⟨_,rfl⟩:=M4 D;obtain⟨j,y,E,h⟩:=B8 h;obtain⟨s4,_,F,h⟩:=B8 h;obtain⟨_,rfl⟩:=M4 F;obtain⟨t,w1,k,B,W,X⟩:=i.typ _ _ _ _ E;have k:Yft s t j y:=k;have B:(tks t).length+(s.i+1+1)<=j.i:=B;have P:((e++[(l,y)]).map (·.1)).Nodup:=by
    rw[wY,List.nodup_append];exact⟨A,by simp,λa H b v=>by simp at v;subst v;rintro rfl;exact R H⟩
   obtain⟨f,c,M,V,N,T,m,o,q,w,Y⟩:=i.objL _ _ _ _ _ P h;have w:(A4a f c).length+1+(j.i+1)<=g.i:=w;have m:g.N=j.N:=m;have o:g.T=j.T++M9 j.T.length c++[⟨7,e++[(l,y)]++f.zip (ixT j.T.length c),[],0⟩]:=o;have q:x=((j.T.length+M3 c:Nat):Int):=q;refine⟨l::f,t::c,by simp[M],by simpa using V,λn p=> ?_,λz u=> ?_,m.trans k.1, ?_, ?_, ?_, ?_⟩
   · rcases jW.1 p with rfl|p
     · rw[S];exact G _ K
     · exact N n p
   · rcases jW.1 u with rfl|u
     · exact w1
     · exact T z u
   · rw[o,k.len,k.2.1,k.2.2,M9,ixT];simp
   · rw[q,k.len,M3,Nat.add_assoc]
   · simp only[A4a,jQ,qQ];simp only[List.tail_cons];omega
   · rw[D4a];omega
theorem Y7d(i:YF L r):∀d s g x,(step L r).fob d s=some (.ok g x)->∃t,Wf t/\Yft s t g x/\(one t (!(isM L g.i [[124]]))).length+s.i<=g.i+1/\dTy t+(brkQ t (!(isM L g.i [[124]]))).toNat<=20 - d:=by
 intro d s g x h;obtain⟨c,l,z,h⟩:=B8 h;obtain⟨b,m,p,w1,a,n,w⟩:=i.list _ _ _ _ _ _ z;rw[lY]at p;rw[p]at h;split at h
 · obtain⟨f,y,A,h⟩:=B8 h;obtain⟨rfl,rfl⟩:=S2a h;obtain⟨t,w2,j,v,B,k⟩:=i.typ _ _ _ _ A;have j:Yft c t f y:=j;have v:(tks t).length+(c.i+1)<=f.i:=v;have k:isM L f.i [[124]]=false:=k;have o:brkQ (.nd 9 [] (t::b)) true=false:=by simp[brkQ,Tr.k]
   have q:=M0a (.nd 9 [] (t::b)) true;have D:(tks (.nd 9 [] (t::b))).length=(N8 true b).length+(tks t).length+3:=by simp[tks,N3c];omega
   have n:(N8 true b).length+1+s.i<=c.i:=n;refine⟨.nd 9 [] (t::b),Wf.fn t b w2 w1,⟨j.1.trans a.1, ?_, ?_⟩, ?_, ?_⟩
   · show f.T++[_]=_;have e:emT s.T.length (.nd 9 [] (t::b))=emB s.T.length (t::b):=by rw[emT,rY rfl]
     rw[e,emB,j.2.1,j.2.2,a.len,a.2.1,a.2.2];simp
   · rw[j.len,a.len,nTy,M3];omega
   · show (one _ (!(isM L f.i [[124]]))).length+s.i<=f.i+1;rw[k,Bool.not_false,q,o];simp only[Bool.toNat_false];omega
   · show _+(brkQ _ (!(isM L f.i [[124]]))).toNat<=_;rw[k,Bool.not_false,o,dTy,yY (by decide),D4a];simp only[Bool.toNat_false];omega
 · match b,m,a,h with
   |[],m,a,h=>rw[a.2.2]at h;simp[ixT,fltQ]at h
   |[t],m,a,h=>
    rw[a.2.2,ixT,ixT]at h;obtain⟨rfl,rfl⟩:=K8 h;have q:=M0a t (!(isM L c.i [[124]]));have o:(brkQ t (!(isM L c.i [[124]]))).toNat<=1:=by cases brkQ t (!(isM L c.i [[124]]))<;>simp
    have n:(N8 true [t]).length+1+s.i<=c.i:=n;have C:(N8 true [t]).length=(tks t).length:=by simp[N8]
    rw[D4a]at w;refine⟨t,w1 t (by simp),⟨a.1, ?_,rfl⟩,by omega,by omega⟩;rw[a.2.1,M9,M9,zY]
   |t::u::b,m,a,h=>rw[a.2.2]at h;simp[ixT,fltQ]at h
theorem M4d(i:YF L r):∀d s q e j l,(step L r).list .typ [41] d s q e=some (.ok j l)->∃g k,l=e++k/\(∀x∈g,Wf x)/\YftL s g j k/\(N8 (decide (e.length=0)) g).length+1+s.i<=j.i/\D4a g<=20 - d:=by
 intro d s q e j l h;have h:(if isM L s.i [[41]] then some (.ok s.nx e)
  else A3 (if e.length=0 then some (.ok s ()) else needQ L s [44]) λs _=>A3 (part L r d s q .typ) λs x=>r.list .typ [41] d s x.2 (e++[x.1]))=some (.ok j l):=h
 split at h
 · obtain⟨rfl,rfl⟩:=K8 h;refine⟨[],[],by simp,by simp,YftL.nil s, ?_,by simp[D4a]⟩;show (N8 _ []).length+1+s.i<=s.i+1;simp[N8];omega
 · obtain⟨u,_,n,h⟩:=B8 h;have m:u.N=s.N/\u.T=s.T/\u.i=s.i+(if e.length=0 then 0 else 1):=by
    split at n
    · rename_i f;obtain⟨rfl,_⟩:=K8 n;exact⟨rfl,rfl,by rw[rY f];rfl⟩
    · rename_i f;obtain⟨_,rfl⟩:=M4 n;exact⟨rfl,rfl,by rw[yY f];rfl⟩
   obtain⟨H,x,w,h⟩:=B8 h;obtain⟨D,y,z,A⟩:=B8 w;obtain⟨rfl,rfl⟩:=K8 A;obtain⟨t,w1,v,p,F,_⟩:=i.typ _ _ _ _ z;have v:Yft s t D y:=by
    obtain⟨a,b,c⟩:=v;rw[m.1]at a;rw[m.2.1]at b c;exact⟨a,b,c⟩
   obtain⟨g,k,rfl,w2,E,C,G⟩:=i.list _ _ _ _ _ _ h;refine⟨t::g,y::k,by simp,λx o=> ?_,v.cons' E, ?_, ?_⟩
   · rcases jW.1 o with rfl|o
     · exact w1
     · exact w2 x o
   · have B:decide ((e++[y]).length=0)=false:=by simp
     rw[B]at C;simp only[N8,qQ];rw[m.2.2]at p;by_cases f:e.length=0
     · rw[rY f]at p;rw[decide_eq_true f,rY rfl];simp only[xQ];omega
     · rw[yY f]at p;rw[decide_eq_false f];simp only[rZ,if_false,jQ,xQ];omega
   · rw[D4a];omega
end
theorem J0a{L:List Tk}(a:NmL L):∀f,YF L (sp' L f)
 |0=>by constructor<;>(intros;contradiction)
 |f+1=>⟨Y6d (J0a a f),S8c (J0a a f),M3c (J0a a f),M4c (J0a a f),M3d a (J0a a f),Y7d (J0a a f),M4d (J0a a f)⟩
structure Pt where
 b:Nat
 k:Int
 ts:List TT
 d:Nat
def pt0:Pt:=⟨5,0,[],0⟩
def p0(a:List Pt):Pt:=a.getD 0 pt0
def p1(a:List Pt):Pt:=a.getD 1 pt0
def p2(a:List Pt):Pt:=a.getD 2 pt0
def wt(a:Nat)(c:Pt):List TT:=if a<=c.b then c.ts else sgQ [40]::(c.ts++[sgQ [41]])
def wd(a:Nat)(c:Pt):Nat:=if a<=c.b then c.d else c.d+1
def H0a(c:Pt):List TT:=if c.k= -1 then [] else sgQ [58]::c.ts
def L9:Bool->List Pt->List TT
 |_,[]=>[]
 |a,c::r=>(if a then [] else [sgQ [44]])++c.ts++L9 false r
def flT:List Pt->List TT
 |[]=>[]
 |c::r=>c.ts++flT r
def mx(a:Nat):List Pt->Nat
 |[]=>0
 |c::r=>max (c.d+a) (mx a r)
def sgw(a:bZ):TT:=if a=[116,121,112,101,111,102] then (2,a) else sgQ a
def lv(a:bZ):Nat:=if bnK 12 a=1 then 2 else bnK 12 a
def tkK(k:Int)(b:bZ)(n:Int)(a:List Pt):List TT:=
 if k=1 then [(3,Lib.itoa n)]
 else if k=2 then [(4,b)]
 else if k=3 then [(2,if n=1 then [116,114,117,101] else [102,97,108,115,101])]
 else if k=4 then [(2,[110,117,108,108])]
 else if k=5 then [(1,b)]
 else if k=6 then (2,[102,110])::sgQ [40]::(L9 true a.dropLast.dropLast++sgQ [41]::(H0a (a.dropLast.getLastD pt0)++(a.getLastD pt0).ts))
 else if k=7 then wt 5 (p0 a)++sgQ [40]::(L9 true a.tail++[sgQ [41]])
 else if k=8 then wt 5 (p0 a)++[sgQ [46],(1,b)]
 else if k=9 then wt 5 (p0 a)++sgQ [91]::((p1 a).ts++[sgQ [93]])
 else if k=10 then sgQ [123]::(L9 true a++[sgQ [125]])
 else if k=11 then sgQ [91]::(L9 true a++[sgQ [93]])
 else if k=12 then wt (lv b) (p0 a)++sgQ b::wt (bnK 12 b+1) (p1 a)
 else if k=13 then sgw b::wt 4 (p0 a)
 else if k=14 then wt 5 (p0 a)++(2,[97,115])::(p1 a).ts
 else if k=15 then (1,b)::sgQ [58]::(p0 a).ts
 else if k=16 then (1,b)::H0a (p0 a)
 else if k=17 then (2,[108,101,116])::(1,b)::(H0a (p0 a)++sgQ [61]::((p1 a).ts++[sgQ [59]]))
 else if k=18 then (1,b)::sgQ [61]::((p0 a).ts++[sgQ [59]])
 else if k=19 then wt 5 (p0 a)++sgQ [46]::(1,b)::sgQ [61]::((p1 a).ts++[sgQ [59]])
 else if k=20 then wt 5 (p0 a)++sgQ [91]::((p1 a).ts++sgQ [93]::sgQ [61]::((p2 a).ts++[sgQ [59]]))
 else if k=21 then (2,[112,114,105,110,116])::((p0 a).ts++[sgQ [59]])
 else if k=22 then (2,[105,102])::sgQ [40]::((p0 a).ts++sgQ [41]::((p1 a).ts++(if (p2 a).k= -1 then [] else (2,[101,108,115,101])::(p2 a).ts)))
 else if k=23 then (2,[119,104,105,108,101])::sgQ [40]::((p0 a).ts++sgQ [41]::(p1 a).ts)
 else if k=24 then (2,[114,101,116,117,114,110])::((p0 a).ts++[sgQ [59]])
 else if k=25 then (p0 a).ts++[sgQ [59]]
 else sgQ [123]::(flT a++[sgQ [125]])
def dK(k:Int)(b:bZ)(a:List Pt):Nat:=
 if k=6\/k=10\/k=16 then mx 0 a
 else if k=7 then max (wd 5 (p0 a)) (mx 1 a.tail)
 else if k=8 then wd 5 (p0 a)
 else if k=9 then max (wd 5 (p0 a)) ((p1 a).d+1)
 else if k=12 then max (wd (lv b) (p0 a)) (wd (bnK 12 b+1) (p1 a))
 else if k=13 then wd 4 (p0 a)+1
 else if k=14 then max (wd 5 (p0 a)) (p1 a).d
 else if k=17 then max (p0 a).d ((p1 a).d+1)
 else if k=19 then max (wd 5 (p0 a)+1) ((p1 a).d+1)
 else if k=20 then max (wd 5 (p0 a)+1) (max ((p1 a).d+2) ((p2 a).d+1))
 else if k=22 then max ((p0 a).d+1) (max (p1 a).d (p2 a).d)
 else if k=23 then max ((p0 a).d+1) (p1 a).d
 else mx 1 a
mutual
def me:Nt->List TT×Nat
 | .ty none=>([],0)
 | .ty (some t)=>(tks t,dTy t+1)
 | .nd k b n a=>(tkK k b n (meL a),dK k b (meL a))
def meL:List Nt->List Pt
 |[]=>[]
 |p::r=>⟨bnd p,p.k,(me p).1,(me p).2⟩::meL r
end
def pt(t:Nt):Pt:=⟨bnd t,t.k,(me t).1,(me t).2⟩
theorem J1c:∀a,meL a=a.map pt
 |[]=>rfl
 |p::r=>by rw[meL,J1c r];rfl
theorem J6(p:Nt)(r:List Nt):meL (p::r)=pt p::meL r:=rfl
def Nt.tx:Nt->bZ
 | .nd _ a _ _=>a
 | .ty _=>[]
def own(k:Int)(a:bZ)(n:Int)(b:List Nt):Prop:=
 if k=1 then a=[]/\0<=n/\n<=999999999
 else if k=2 then (a.length<=30/\∀c∈a,txt c.toNat=true)/\n=0
 else if k=3 then a=[]/\(n=0\/n=1)
 else if k=5\/k=8\/k=15\/k=16\/k=17\/k=18\/k=19 then S4 a/\n=0
 else if k=12 then a∈[[61,61],[60],[43],[45],[42]]/\n=0
 else if k=13 then a∈[[33],[45],[116,121,112,101,111,102]]/\n=0
 else a=[]/\n=0/\(k=6->(b.dropLast.dropLast.map Nt.tx).Nodup)/\(k=10->(b.map Nt.tx).Nodup)
mutual
def Wn:Nt->Prop
 | .ty none=>True
 | .ty (some t)=>Wf t
 | .nd k b n a=>shp k (a.map Nt.k)/\own k b n a/\WnL a
def WnL:List Nt->Prop
 |[]=>True
 |p::r=>Wn p/\WnL r
end
theorem E8a:∀a,WnL a ↔∀p∈a,Wn p
 |[]=>by simp[WnL]
 |p::r=>by simp[WnL,E8a r]
/-! ### What has come Z9 what was there -/
def Nft(s:St)(t:Nt)(a:St)(x:Int):Prop:=a.N.map Nd.fl=s.N.map Nd.fl++emN s.N.length s.T.length t/\a.T=s.T++emY s.T.length t/\x=ixN s.N.length s.T.length t
def NftL(s:St)(a:List Nt)(b:St)(l:uZ):Prop:=b.N.map Nd.fl=s.N.map Nd.fl++R9 s.N.length s.T.length a/\b.T=s.T++W9 s.T.length a/\l=ixL s.N.length s.T.length a
theorem Nft.lenN{s a:St}{t:Nt}{x:Int}(h:Nft s t a x):a.N.length=s.N.length+nN t:=by
 have:=congrArg List.length h.1;simpa[Z8]using this
theorem Nft.lenT{s a:St}{t:Nt}{x:Int}(h:Nft s t a x):a.T.length=s.T.length+nT t:=by
 have:=congrArg List.length h.2.1;simpa[I4a]using this
theorem NftL.lenN{s b:St}{a:List Nt}{l:uZ}(h:NftL s a b l):b.N.length=s.N.length+nNL a:=by
 have:=congrArg List.length h.1;simpa[S7]using this
theorem NftL.lenT{s b:St}{a:List Nt}{l:uZ}(h:NftL s a b l):b.T.length=s.T.length+nTL a:=by
 have:=congrArg List.length h.2.1;simpa[L0a]using this
theorem NftL.nil(s:St):NftL s [] s []:=⟨by simp[R9],by simp[W9],rfl⟩
theorem Nft.cons{s b c:St}{t:Nt}{x:Int}{a:List Nt}{l:uZ}(h:Nft s t b x)(k:NftL b a c l):NftL s (t::a) c (x::l):=by
 refine⟨?_, ?_, ?_⟩
 · rw[k.1,h.lenN,h.lenT,h.1,R9,kZ]
 · rw[k.2.1,h.lenT,h.2.1,W9,kZ]
 · rw[k.2.2,h.lenN,h.lenT,h.2.2,ixL]
theorem C8b:∀(c d:List Nt) (b a:Nat),R9 b a (c++d)=R9 b a c++R9 (b+nNL c) (a+nTL c) d
 |[],d,b,a=>by simp[R9,nNL,nTL]
 |p::r,d,b,a=>by rw[vZ,R9,R9,C8b r,nNL,nTL,kZ,Nat.add_assoc,Nat.add_assoc]
theorem V6b:∀(c b:List Nt) (a:Nat),W9 a (c++b)=W9 a c++W9 (a+nTL c) b
 |[],b,a=>by simp[W9,nTL]
 |p::r,b,a=>by rw[vZ,W9,W9,V6b r,nTL,kZ,Nat.add_assoc]
theorem Y1a:∀(c d:List Nt) (b a:Nat),ixL b a (c++d)=ixL b a c++ixL (b+nNL c) (a+nTL c) d
 |[],d,b,a=>by simp[ixL,nNL,nTL]
 |p::r,d,b,a=>by rw[vZ,ixL,ixL,Y1a r,nNL,nTL,vZ,Nat.add_assoc,Nat.add_assoc]
theorem NftL.app{s d e:St}{b c:List Nt}{l a:uZ}(h:NftL s b d l)(k:NftL d c e a):NftL s (b++c) e (l++a):=by
 refine⟨?_, ?_, ?_⟩
 · rw[k.1,h.lenN,h.lenT,h.1,C8b,kZ]
 · rw[k.2.1,h.lenT,h.2.1,V6b,kZ]
 · rw[k.2.2,h.lenN,h.lenT,h.2.2,Y1a]
theorem Nft.l{s a:St}{t:Nt}{x:Int}(h:Nft s t a x):NftL s [t] a [x]:=h.cons (NftL.nil a)
theorem NftL.node{s s':St}{a:List Nt}{l:uZ}(h:NftL s a s' l)(i:Nat)(k:Int)(b:bZ)(m:Int)(n:Nd)(c:n.fl=mkN k b m l):Nft s (.nd k b m a) ⟨i,s'.N++[n],s'.T⟩ s'.N.length:=by
 refine⟨?_, ?_, ?_⟩
 · show (s'.N++[n]).map Nd.fl=_;rw[wY,h.1,emN,<-h.2.2,uY,List.map_nil,c,kZ]
 · show s'.T=_;rw[h.2.1,emY]
 · rw[h.lenN,ixN,nN];omega
theorem Nft.none(s:St):Nft s (.ty none) s (-1):=⟨by simp[emN],by simp[emY],rfl⟩
theorem Yft.n{s a:St}{t:Tr}{x:Int}(h:Yft s t a x):Nft s (.ty (some t)) a x:=⟨by simp[emN,h.1],by rw[h.2.1,emY],h.2.2⟩
theorem I2{s a:St}{n:Nd}{x:Int}(h:addN s n=some (.ok a x)):a=⟨s.i,s.N++[n],s.T⟩/\x=s.N.length:=by
 simp only[addN,zQ,Out.ok.injEq]at h;exact⟨h.1.symm,h.2.symm⟩
theorem dl2{c:Type}(l:List c)(a b:c):(l++[a,b]).dropLast=l++[a]:=by
 rw[show l++[a,b]=(l++[a])++[b] by simp,List.dropLast_concat]
theorem dl3{c:Type}(l:List c)(a b:c):(l++[a,b]).dropLast.dropLast=l:=by rw[dl2,List.dropLast_concat]
theorem dl4{c:Type}(l:List c)(a b x:c):(l++[a,b]).dropLast.getLastD x=a:=by rw[dl2];simp[List.getLastD_eq_getLast?]
theorem dl5{c:Type}(l:List c)(a b x:c):(l++[a,b]).getLastD x=b:=by simp[List.getLastD_eq_getLast?]
theorem F9c(a b:Nat)(c:Pt)(h:a<=b):(wt a c).length<=(wt b c).length:=by
 unfold wt;split<;>split<;>simp<;>omega
theorem wd_low(a:Nat)(c:Pt):c.d<=wd a c:=by
 unfold wd;split<;>omega
theorem G5c(a b:Nat)(c:Pt)(h:a<=b):wd a c<=wd b c:=by
 unfold wd;split<;>split<;>omega
theorem C5a(a:Nat)(c:Pt)(h:a<=c.b):wt a c=c.ts:=by rw[wt,rY h]
theorem C6a(a:Nat)(c:Pt)(h:a<=c.b):wd a c=c.d:=by rw[wd,rY h]
theorem G3e(a:Nat)(c:Pt):(wt a c).length<=c.ts.length+2:=by
 unfold wt;split<;>simp
theorem G5e(a:Nat)(c:Pt):wd a c<=c.d+1:=by
 unfold wd;split<;>omega
theorem me5(a:bZ)(n:Int):me (.nd 5 a n [])=([(1,a)],0):=rfl
theorem A9d(a:Nat):∀c b:List Pt,mx a (c++b)=max (mx a c) (mx a b)
 |[],b=>by simp[mx]
 |x::c,b=>by rw[vZ,mx,A9d a c b,mx];omega
theorem me6(d:bZ)(n:Int)(c:List Nt)(a b:Nt):me (.nd 6 d n (c++[a,b]))=((2,[102,110])::sgQ [40]::(L9 true (meL c)++sgQ [41]::(H0a (pt a)++(me b).1)),max (mx 0 (meL c)) (max (me a).2 (me b).2)):=by
 have e:meL (c++[a,b])=meL c++[pt a,pt b]:=by simp[J1c]
 rw[me,e];show ((2,[102,110])::sgQ [40]::(L9 true (meL c++[pt a,pt b]).dropLast.dropLast++sgQ [41]::(H0a ((meL c++[pt a,pt b]).dropLast.getLastD pt0)++((meL c++[pt a,pt b]).getLastD pt0).ts)),mx 0 (meL c++[pt a,pt b]))=_;rw[dl3,dl4,dl5,A9d,mx,mx,mx];simp[pt]
theorem me7(c:bZ)(n:Int)(a:Nt)(b:List Nt):me (.nd 7 c n (a::b))=(wt 5 (pt a)++sgQ [40]::(L9 true (meL b)++[sgQ [41]]),max (wd 5 (pt a)) (mx 1 (meL b))):=rfl
theorem me8(b:bZ)(n:Int)(a:Nt):me (.nd 8 b n [a])=(wt 5 (pt a)++[sgQ [46],(1,b)],wd 5 (pt a)):=rfl
theorem me9(c:bZ)(n:Int)(a b:Nt):me (.nd 9 c n [a,b])=(wt 5 (pt a)++sgQ [91]::((me b).1++[sgQ [93]]),max (wd 5 (pt a)) ((me b).2+1)):=rfl
theorem C7d(b:bZ)(n:Int)(a:List Nt):me (.nd 10 b n a)=(sgQ [123]::(L9 true (meL a)++[sgQ [125]]),mx 0 (meL a)):=rfl
theorem C6d(b:bZ)(n:Int)(a:List Nt):me (.nd 11 b n a)=(sgQ [91]::(L9 true (meL a)++[sgQ [93]]),mx 1 (meL a)):=rfl
theorem F2b(c:bZ)(n:Int)(a b:Nt):me (.nd 12 c n [a,b])=(wt (lv c) (pt a)++sgQ c::wt (bnK 12 c+1) (pt b),max (wd (lv c) (pt a)) (wd (bnK 12 c+1) (pt b))):=rfl
theorem P5c(b:bZ)(n:Int)(a:Nt):me (.nd 13 b n [a])=(sgw b::wt 4 (pt a),wd 4 (pt a)+1):=rfl
theorem C5d(c:bZ)(n:Int)(a b:Nt):me (.nd 14 c n [a,b])=(wt 5 (pt a)++(2,[97,115])::(me b).1,max (wd 5 (pt a)) (me b).2):=rfl
theorem C4d(b:bZ)(n:Int)(a:Nt):me (.nd 15 b n [a])=((1,b)::sgQ [58]::(me a).1,(me a).2+1):=by rw[me];show (_,max ((me a).2+1) 0)=_;simp;rfl
theorem C3d(b:bZ)(n:Int)(a:Nt):me (.nd 16 b n [a])=((1,b)::H0a (pt a),(me a).2):=by rw[me];show (_,max (me a).2 0)=_;simp;rfl
theorem C2d(c:bZ)(n:Int)(a b:Nt):me (.nd 17 c n [a,b])=((2,[108,101,116])::(1,c)::(H0a (pt a)++sgQ [61]::((me b).1++[sgQ [59]])),max (me a).2 ((me b).2+1)):=rfl
theorem C1d(b:bZ)(n:Int)(a:Nt):me (.nd 18 b n [a])=((1,b)::sgQ [61]::((me a).1++[sgQ [59]]),(me a).2+1):=by rw[me];show (_,max ((me a).2+1) 0)=_;simp;rfl
theorem C0d(c:bZ)(n:Int)(a b:Nt):me (.nd 19 c n [a,b])=(wt 5 (pt a)++sgQ [46]::(1,c)::sgQ [61]::((me b).1++[sgQ [59]]),max (wd 5 (pt a)+1) ((me b).2+1)):=rfl
theorem B9d(d:bZ)(n:Int)(a b c:Nt):me (.nd 20 d n [a,b,c])=(wt 5 (pt a)++sgQ [91]::((me b).1++sgQ [93]::sgQ [61]::((me c).1++[sgQ [59]])),max (wd 5 (pt a)+1) (max ((me b).2+2) ((me c).2+1))):=rfl
theorem B8d(b:bZ)(n:Int)(a:Nt):me (.nd 21 b n [a])=((2,[112,114,105,110,116])::((me a).1++[sgQ [59]]),(me a).2+1):=by rw[me];show (_,max ((me a).2+1) 0)=_;simp;rfl
theorem B7d(d:bZ)(n:Int)(a b c:Nt):me (.nd 22 d n [a,b,c])=((2,[105,102])::sgQ [40]::((me a).1++sgQ [41]::((me b).1++(if c.k= -1 then [] else (2,[101,108,115,101])::(me c).1))),max ((me a).2+1) (max (me b).2 (me c).2)):=rfl
theorem B6d(c:bZ)(n:Int)(a b:Nt):me (.nd 23 c n [a,b])=((2,[119,104,105,108,101])::sgQ [40]::((me a).1++sgQ [41]::(me b).1),max ((me a).2+1) (me b).2):=rfl
theorem B5d(b:bZ)(n:Int)(a:Nt):me (.nd 24 b n [a])=((2,[114,101,116,117,114,110])::((me a).1++[sgQ [59]]),(me a).2+1):=by rw[me];show (_,max ((me a).2+1) 0)=_;simp;rfl
theorem B4d(b:bZ)(n:Int)(a:Nt):me (.nd 25 b n [a])=((me a).1++[sgQ [59]],(me a).2+1):=by rw[me];show (_,max ((me a).2+1) 0)=_;simp;rfl
theorem R6d(b:bZ)(n:Int)(a:List Nt):me (.nd 26 b n a)=(sgQ [123]::(flT (meL a)++[sgQ [125]]),mx 1 (meL a)):=rfl
theorem w1{n:Int}(h:0<=n/\n<=999999999):Wn (.nd 1 [] n []):=by simp[Wn,WnL,shp,own];omega
theorem w2{a:bZ}(h:a.length<=30/\∀c∈a,txt c.toNat=true):Wn (.nd 2 a 0 []):=by simp[Wn,WnL,shp,own];exact h
theorem w3{n:Int}(h:n=0\/n=1):Wn (.nd 3 [] n []):=by simp[Wn,WnL,shp,own];exact h
theorem w4:Wn (.nd 4 [] 0 []):=by simp[Wn,WnL,shp,own]
theorem w5{a:bZ}(h:S4 a):Wn (.nd 5 a 0 []):=by simp[Wn,WnL,shp,own];exact h
theorem w6{d:List Nt}{a b:Nt}(h:∀p∈d,Wn p/\p.k=16)(i:(d.map Nt.tx).Nodup)(f:Wn a)(k:isT a.k)(g:Wn b)(l:b.k=26):Wn (.nd 6 [] 0 (d++[a,b])):=by
 rw[Wn];refine⟨?_, ?_, ?_⟩
 · have:∃e r,(d++[a,b]).map Nt.k=e++[r,26]/\(∀x∈e,x=16)/\isT r:=⟨d.map Nt.k,a.k,by simp[l],λx j=>by obtain⟨p,c,rfl⟩:=jZ.1 j;exact(h p c).2,k⟩;simpa[shp]using this
 · have:((d++[a,b]).dropLast.dropLast.map Nt.tx).Nodup:=by rw[dl3];exact i
   simpa[own]using this
 · rw[E8a];intro p c;simp only[qW,jW,qZ,or_false]at c;rcases c with c|rfl|rfl
   · exact(h p c).1
   · exact f
   · exact g
theorem w7{a:Nt}{c:List Nt}(e:Wn a)(g:isE a.k)(h:∀p∈c,Wn p/\isE p.k):Wn (.nd 7 [] 0 (a::c)):=by
 rw[Wn];refine⟨?_,by simp[own], ?_⟩
 · have:∃x d,(a::c).map Nt.k=x::d/\isE x/\∀y∈d,isE y:=⟨a.k,c.map Nt.k,rfl,g,λx f=>by obtain⟨p,b,rfl⟩:=jZ.1 f;exact(h p b).2⟩;simpa[shp]using this
 · rw[E8a];intro p b;rcases jW.1 b with rfl|b
   · exact e
   · exact(h p b).1
theorem w8{b:bZ}{a:Nt}(h:S4 b)(c:Wn a)(d:isE a.k):Wn (.nd 8 b 0 [a]):=by simp[Wn,WnL,shp,own];exact⟨d,h,c⟩
theorem w9{a b:Nt}(c:Wn a)(e:isE a.k)(d:Wn b)(f:isE b.k):Wn (.nd 9 [] 0 [a,b]):=by simp[Wn,WnL,shp,own];exact⟨⟨_,_,⟨rfl,rfl⟩,e,f⟩,c,d⟩
theorem w10{a:List Nt}(h:∀p∈a,Wn p/\p.k=15)(c:(a.map Nt.tx).Nodup):Wn (.nd 10 [] 0 a):=by
 rw[Wn];refine⟨?_,by simpa[own]using c,(E8a a).2 λp b=>(h p b).1⟩;have:∀x∈a.map Nt.k,x=15:=λx d=>by obtain⟨p,b,rfl⟩:=jZ.1 d;exact(h p b).2
 simpa[shp]using this
theorem w11{a:List Nt}(h:∀p∈a,Wn p/\isE p.k):Wn (.nd 11 [] 0 a):=by
 rw[Wn];refine⟨?_,by simp[own],(E8a a).2 λp b=>(h p b).1⟩;have:∀x∈a.map Nt.k,isE x:=λx c=>by obtain⟨p,b,rfl⟩:=jZ.1 c;exact(h p b).2
 simpa[shp]using this
theorem w12{c:bZ}{a b:Nt}(h:c∈[[61,61],[60],[43],[45],[42]])(d:Wn a)(f:isE a.k)(e:Wn b)(g:isE b.k):Wn (.nd 12 c 0 [a,b]):=by
 rw[Wn];refine⟨?_,⟨h,rfl⟩,d,e,trivial⟩;have:∃x y,[a,b].map Nt.k=[x,y]/\isE x/\isE y:=⟨_,_,rfl,f,g⟩;simpa[shp]using this
theorem w13{b:bZ}{a:Nt}(h:b∈[[33],[45],[116,121,112,101,111,102]])(c:Wn a)(d:isE a.k):Wn (.nd 13 b 0 [a]):=by
 rw[Wn];refine⟨?_,⟨h,rfl⟩,c,trivial⟩;have:∃x,[a].map Nt.k=[x]/\isE x:=⟨_,rfl,d⟩;simpa[shp]using this
theorem w14{a:Nt}{t:Tr}(b:Wn a)(d:isE a.k)(c:Wf t):Wn (.nd 14 [] 0 [a,.ty (some t)]):=by simp[Wn,WnL,shp,own,Nt.k];exact⟨d,b,c⟩
theorem w15{b:bZ}{a:Nt}(h:S4 b)(c:Wn a)(d:isE a.k):Wn (.nd 15 b 0 [a]):=by simp[Wn,WnL,shp,own];exact⟨d,h,c⟩
theorem w16{b:bZ}{a:Nt}(h:S4 b)(c:Wn a)(d:isT a.k):Wn (.nd 16 b 0 [a]):=by simp[Wn,WnL,shp,own];exact⟨d,h,c⟩
theorem w17{c:bZ}{a b:Nt}(h:S4 c)(d:Wn a)(f:isT a.k)(e:Wn b)(g:isE b.k):Wn (.nd 17 c 0 [a,b]):=by simp[Wn,WnL,shp,own];exact⟨⟨_,_,⟨rfl,rfl⟩,f,g⟩,h,d,e⟩
theorem w18{b:bZ}{a:Nt}(h:S4 b)(c:Wn a)(d:isE a.k):Wn (.nd 18 b 0 [a]):=by simp[Wn,WnL,shp,own];exact⟨d,h,c⟩
theorem w19{c:bZ}{a b:Nt}(h:S4 c)(d:Wn a)(f:isE a.k)(e:Wn b)(g:isE b.k):Wn (.nd 19 c 0 [a,b]):=by simp[Wn,WnL,shp,own];exact⟨⟨_,_,⟨rfl,rfl⟩,f,g⟩,h,d,e⟩
theorem w20{a b c:Nt}(d:Wn a)(g:isE a.k)(e:Wn b)(h:isE b.k)(f:Wn c)(i:isE c.k):Wn (.nd 20 [] 0 [a,b,c]):=by simp[Wn,WnL,shp,own];exact⟨⟨_,_,_,⟨rfl,rfl,rfl⟩,g,h,i⟩,d,e,f⟩
theorem w21{a:Nt}(b:Wn a)(c:isE a.k):Wn (.nd 21 [] 0 [a]):=by simp[Wn,WnL,shp,own];exact⟨c,b⟩
theorem w22{a b c:Nt}(d:Wn a)(g:isE a.k)(e:Wn b)(h:b.k=26)(f:Wn c)(i:c.k=26\/c.k= -1):Wn (.nd 22 [] 0 [a,b,c]):=by simp[Wn,WnL,shp,own];exact⟨⟨_,_,⟨rfl,h,rfl⟩,g,i⟩,d,e,f⟩
theorem w23{a b:Nt}(c:Wn a)(e:isE a.k)(d:Wn b)(f:b.k=26):Wn (.nd 23 [] 0 [a,b]):=by simp[Wn,WnL,shp,own];exact⟨⟨_,⟨rfl,f⟩,e⟩,c,d⟩
theorem w24{a:Nt}(b:Wn a)(c:isE a.k):Wn (.nd 24 [] 0 [a]):=by simp[Wn,WnL,shp,own];exact⟨c,b⟩
theorem w25{a:Nt}(b:Wn a)(c:isE a.k):Wn (.nd 25 [] 0 [a]):=by simp[Wn,WnL,shp,own];exact⟨c,b⟩
theorem w26{a:List Nt}(h:∀p∈a,Wn p/\17<=p.k/\p.k<=25):Wn (.nd 26 [] 0 a):=by
 rw[Wn];refine⟨?_,by simp[own],(E8a a).2 λp b=>(h p b).1⟩;have:∀x∈a.map Nt.k,17<=x/\x<=25:=λx c=>by obtain⟨p,b,rfl⟩:=jZ.1 c;exact(h p b).2
 simpa[shp]using this
def Lv(l d:Nat)(s a:St)(x:Int):Prop:=∃t,Wn t/\isE t.k/\Nft s t a x/\(wt l (pt t)).length+s.i<=a.i/\wd l (pt t)<=20 - d
def Gw(l d:Nat)(s:St)(x:Int)(b:St)(y:Int):Prop:=∀c a,Wn a->isE a.k->Nft c a s x->wd l (pt a)<=20 - d->
 ∃t,Wn t/\isE t.k/\Nft c t b y/\(wt l (pt t)).length+s.i<=(wt l (pt a)).length+b.i/\wd l (pt t)<=20 - d
def Li(f a d:Nat)(Q:Nt->Prop)(s g:St)(c l:uZ):Prop:=∃b e,l=c++e/\(∀p∈b,Wn p/\Q p)/\NftL s b g e/\(L9 (decide (c.length=0)) (meL b)).length+f+s.i<=g.i/\mx a (meL b)<=20 - d
def Fl(f d:Nat)(s c:St)(e l:uZ):Prop:=∃a b,l=e++b/\(∀p∈a,Wn p/\17<=p.k/\p.k<=25)/\NftL s a c b/\(flT (meL a)).length+f+s.i<=c.i/\mx 1 (meL a)<=20 - d
def lvb(b:Bool):Nat:=if b then 2 else 3
structure NF(L:List Tk)(r:Sp):Prop where
 expr:∀d s s' x,r.expr d s=some (.ok s' x)->d<20/\Lv 1 (d+1) s s' x
 comp:∀d s s' x,r.comp d s=some (.ok s' x)->Lv 1 d s s' x
 sum:∀d s s' x,r.sum d s=some (.ok s' x)->Lv 2 d s s' x
 prod:∀d s s' x,r.prod d s=some (.ok s' x)->Lv 3 d s s' x
 row:∀b d s x s' y,r.row b d s x=some (.ok s' y)->Gw (lvb b) d s x s' y
 oper:∀d s s' x,r.oper d s=some (.ok s' x)->Lv 4 d s s' x
 tail:∀d s x s' y,r.tail d s x=some (.ok s' y)->Gw 5 d s x s' y
 simple:∀d s s' x,r.simple d s=some (.ok s' x)->Lv 5 d s s' x
 listE:∀e d s nm acc s' l,r.list .expr e d s nm acc=some (.ok s' l)->Li 1 1 d (λp=>isE p.k) s s' acc l
 listO:∀e d s nm acc s' l,nm.Nodup->r.list .obj e d s nm acc=some (.ok s' l)->∃ps l',l=acc++l'/\(nm++ps.map Nt.tx).Nodup/\(∀p∈ps,Wn p/\p.k=15)/\NftL s ps s' l'/\(L9 (decide (acc.length=0)) (meL ps)).length+1+s.i<=s'.i/\mx 0 (meL ps)<=20 - d
 listP:∀e d s nm acc s' l,nm.Nodup->r.list .par e d s nm acc=some (.ok s' l)->∃ps l',l=acc++l'/\(nm++ps.map Nt.tx).Nodup/\(∀p∈ps,Wn p/\p.k=16)/\NftL s ps s' l'/\(L9 (decide (acc.length=0)) (meL ps)).length+1+s.i<=s'.i/\mx 0 (meL ps)<=20 - d
 block:∀d s s' x,r.block d s=some (.ok s' x)->∃t,Wn t/\t.k=26/\Nft s t s' x/\(me t).1.length+s.i<=s'.i/\(me t).2<=20 - d
 blockL:∀d s acc s' l,r.blockL d s acc=some (.ok s' l)->Fl 1 d s s' acc l
 stmt:∀d s s' x,r.stmt d s=some (.ok s' x)->∃t,Wn t/\(17<=t.k/\t.k<=25)/\Nft s t s' x/\(me t).1.length+s.i<=s'.i/\(me t).2+1<=20 - d
 any:∀d s s' x,r.any d s=some (.ok s' x)->∃t,Wn t/\(17<=t.k/\t.k<=25)/\Nft s t s' x/\(me t).1.length+s.i<=s'.i/\(me t).2<=20 - d
 progL:∀d s acc s' l,r.progL d s acc=some (.ok s' l)->Fl 0 d s s' acc l
theorem M3b{L:List Tk}{i:Nat}{a:List bZ}(h:isM L i a=true):(tk L i).text∈a:=by
 simp only[isM,has,Bool.and_eq_true,List.contains_iff_mem]at h;exact h.2
theorem Z3(t:Nt):(pt t).ts=(me t).1:=rfl
theorem J9a(t:Nt):(pt t).d=(me t).2:=rfl
theorem wt1(t:Nt)(h:isE t.k):wt 1 (pt t)=(me t).1:=by
 refine C5a _ _ ?_;show 1<=bnd t;cases t with
 |ty o=>simp[bnd]
 |nd k b n a=>
  rw[bnd,bnK];repeat' split
  all_goals omega
theorem wd1(t:Nt)(h:isE t.k):wd 1 (pt t)=(me t).2:=by
 refine C6a _ _ ?_;show 1<=bnd t;cases t with
 |ty o=>simp[bnd]
 |nd k b n a=>
  rw[bnd,bnK];repeat' split
  all_goals omega
section
variable{L:List Tk}{r:Sp}
theorem Gw.one{l d:Nat}{s i:St}{x y:Int}{g:St}{t:Nt}(h:Gw l d g x i y)(n:Wn t)(k:isE t.k)(m:Nft s t g x)(p:(wt l (pt t)).length+s.i<=g.i)(j:wd l (pt t)<=20 - d):Lv l d s i y:=by
 obtain⟨o,a,b,c,e,f⟩:=h s t n k m j;exact⟨o,a,b,c,by omega,f⟩
theorem Q9d(i:NF L r):∀d s a x,(step L r).expr d s=some (.ok a x)->d<20/\Lv 1 (d+1) s a x:=by
 intro d s a x h;obtain⟨_,b,h⟩:=M4a h;exact⟨b,i.comp _ _ _ _ h⟩
theorem U7c{s g i:St}{x y:Int}{part:St->Option (Out Int)}(h:twoQ L g x part=some (.ok i y)){j d:Nat}(p:∀s i x,part s=some (.ok i x)->Lv j d s i x){t:Nt}(v:Wn t)(n:isE t.k)(o:Nft s t g x)
 (q:(tk L g.i).text∈[[61,61],[60],[43],[45],[42]]):∃u,Wn u/\isE u.k/\Nft s (.nd 12 (tk L g.i).text 0 [t,u]) i y/\(wt j (pt u)).length+g.i+1<=i.i/\wd j (pt u)<=20 - d/\Wn (.nd 12 (tk L g.i).text 0 [t,u]):=by
 obtain⟨k,z,l,m⟩:=B8 h;obtain⟨rfl,rfl⟩:=I2 m;obtain⟨u,a,b,c,e,f⟩:=p _ _ _ l;have c:Nft g u k z:=c;have e:(wt j (pt u)).length+(g.i+1)<=k.i:=e;refine⟨u,a,b,(o.cons c.l).node _ 12 _ 0 _ rfl, ?_,f,w12 q v n a b⟩;show _<=k.i;omega
theorem R0d(i:NF L r):∀d s l x,(step L r).comp d s=some (.ok l x)->Lv 1 d s l x:=by
 intro d s l x h;obtain⟨m,y,n,j⟩:=B8 h;obtain⟨t,a,b,c,e,f⟩:=i.sum _ _ _ _ n;split at j
 · rename_i g;have g:=M3b g;have p:(tk L m.i).text∈[[61,61],[60],[43],[45],[42]]:=by
    simp only[jW,qZ,or_false]at g;rcases g with h|h<;>rw[h]<;>decide
   obtain⟨u,q,v,c2,w,f2,w2⟩:=U7c j (i.sum d) a b c p;have k:bnK 12 (tk L m.i).text=1:=by
    simp only[jW,qZ,or_false]at g;rcases g with h|h<;>rw[h]<;>rfl
   have o:lv (tk L m.i).text=2:=by rw[lv,k];rfl
   refine⟨_,w2,by simp[isE,Nt.k],c2, ?_, ?_⟩
   · rw[wt1 _ (by simp[isE,Nt.k]),F2b,o,k];simp only[qQ,jQ,Nat.reduceAdd];omega
   · rw[wd1 _ (by simp[isE,Nt.k]),F2b,o,k];simp only[Nat.reduceAdd];omega
 · obtain⟨rfl,rfl⟩:=K8 j;have n:=F9c 1 2 (pt t) (by decide);have j:=G5c 1 2 (pt t) (by decide);exact⟨t,a,b,c,by omega,by omega⟩
theorem B4e(i:NF L r):∀d s g x,(step L r).sum d s=some (.ok g x)->Lv 2 d s g x:=by
 intro d s g x h;obtain⟨n,y,j,k⟩:=B8 h;obtain⟨t,a,b,c,e,f⟩:=i.prod _ _ _ _ j;have l:=F9c 2 3 (pt t) (by decide);have m:=G5c 2 3 (pt t) (by decide);exact Gw.one (i.row _ _ _ _ _ _ k) a b c (by show (wt 2 (pt t)).length+_<=_;omega) (by show wd 2 (pt t)<=_;omega)
theorem Q7d(i:NF L r):∀d s g x,(step L r).prod d s=some (.ok g x)->Lv 3 d s g x:=by
 intro d s g x h;obtain⟨n,y,j,k⟩:=B8 h;obtain⟨t,a,b,c,e,f⟩:=i.oper _ _ _ _ j;have l:=F9c 3 4 (pt t) (by decide);have m:=G5c 3 4 (pt t) (by decide);exact Gw.one (i.row _ _ _ _ _ _ k) a b c (by show (wt 3 (pt t)).length+_<=_;omega) (by show wd 3 (pt t)<=_;omega)
theorem B6e(i:NF L r):∀b d s x c y,(step L r).row b d s x=some (.ok c y)->Gw (lvb b) d s x c y:=by
 intro b d s x c y h C e n l m w;have h:(if isM L s.i (I4 b) then A3 (twoQ L s x (if b then r.prod d else r.oper d)) λs y=>r.row b d s y else some (.ok s x))=some (.ok c y):=h;split at h
 · rename_i a;have a:=M3b a;have B:(tk L s.i).text∈[[61,61],[60],[43],[45],[42]]:=by
    cases b
    · simp only[I4,jW,qZ,or_false]at a;rw[a];decide
    · simp only[I4,jW,qZ,or_false]at a;rcases a with h|h<;>rw[h]<;>decide
   obtain⟨H,z,t,v⟩:=B8 h;have A:∀s c x,(if b then r.prod d else r.oper d) s=some (.ok c x)->Lv (lvb b+1) d s c x:=by
    cases b
    · exact i.oper d
    · exact i.prod d
   obtain⟨u,E,F,c2,G,f2,w2⟩:=U7c t A n l m B;have k:bnK 12 (tk L s.i).text=lvb b/\lv (tk L s.i).text=lvb b:=by
    cases b
    · simp only[I4,jW,qZ,or_false]at a;rw[a];exact⟨rfl,rfl⟩
    · simp only[I4,jW,qZ,or_false]at a;rcases a with h|h<;>rw[h]<;>exact⟨rfl,rfl⟩
   have f:wt (lvb b) (pt (.nd 12 (tk L s.i).text 0 [e,u]))=(me (.nd 12 (tk L s.i).text 0 [e,u])).1:=C5a _ _ (by show lvb b<=bnK 12 _;omega);have g:wd (lvb b) (pt (.nd 12 (tk L s.i).text 0 [e,u]))=(me (.nd 12 (tk L s.i).text 0 [e,u])).2:=C6a _ _ (by show lvb b<=bnK 12 _;omega);rw[F2b,k.1,k.2]at f g;simp only at f g;obtain⟨D,o,p,q,j,f3⟩:=i.row _ _ _ _ _ _ v C _ w2 (by simp[isE,Nt.k]) c2 (by rw[g];omega);refine⟨D,o,p,q, ?_,f3⟩;rw[f]at j;simp only[qQ,jQ]at j;omega
 · obtain⟨rfl,rfl⟩:=K8 h;exact⟨e,n,l,m,by omega,w⟩
theorem Q8d(i:NF L r):∀d s g x,(step L r).oper d s=some (.ok g x)->Lv 4 d s g x:=by
 intro d s g x h;have h:(if isM L s.i [[33],[45],[116,121,112,101,111,102]] then A3 (insideQ L (I8a L (s.i+1)) d s.nx r.oper) λg x=>addN g ⟨13,x,0,0,[],(tk L s.i).text,0,-1,(tk L s.i).at'⟩
  else A3 (r.simple d s) λs x=>r.tail d s x)=some (.ok g x):=h
 split at h
 · rename_i l;have l:=M3b l;obtain⟨m,y,j,k⟩:=B8 h;obtain⟨_,q,j⟩:=M4a j;obtain⟨rfl,rfl⟩:=I2 k;obtain⟨t,a,b,c,e,f⟩:=i.oper _ _ _ _ j;have c:Nft s t m y:=c;have e:(wt 4 (pt t)).length+(s.i+1)<=m.i:=e;refine⟨.nd 13 (tk L s.i).text 0 [t],w13 l a b,by simp[isE,Nt.k],c.l.node _ 13 _ 0 _ rfl, ?_, ?_⟩
   · rw[C5a _ _ (by show 4<=bnK 13 (tk L s.i).text;exact vQ _),Z3,P5c];simp only[jQ];omega
   · rw[C6a _ _ (by show 4<=bnK 13 (tk L s.i).text;exact vQ _),J9a,P5c];simp only;omega
 · obtain⟨m,y,j,k⟩:=B8 h;obtain⟨t,a,b,c,e,f⟩:=i.simple _ _ _ _ j;obtain⟨n,a,b,c,e,f⟩:=Gw.one (i.tail _ _ _ _ _ k) a b c e f;have o:=F9c 4 5 (pt n) (by decide);have p:=G5c 4 5 (pt n) (by decide);exact⟨n,a,b,c,by omega,by omega⟩
theorem Q5d(N:NmL L)(y:YF L r)(i:NF L r):∀d s x n y,(step L r).tail d s x=some (.ok n y)->Gw 5 d s x n y:=by
 intro d s x n z h G g F D E P;have h:(if isM L s.i [[40]] then A3 (r.list .expr [41] d s.nx [] []) λn l=>A3 (addN n ⟨7,x,0,0,l,[],0,-1,atN s x⟩) λs x=>r.tail d s x
  else if isM L s.i [[46]] then
   if (tk L (s.i+1)).kind=1 then A3 (addN s.nx.nx ⟨8,x,0,0,[],(tk L (s.i+1)).text,0,-1,atN s x⟩) λs x=>r.tail d s x else fltQ L (s.i+1) 1
  else if isM L s.i [[91]] then A3 (r.expr d s.nx) λn y=>A3 (needQ L n [93]) λn _=>A3 (addN n ⟨9,x,y,0,[],[],0,-1,atN s x⟩) λs x=>r.tail d s x
  else if isM L s.i [[97,115]] then A3 (r.typ d s.nx) λn t=>A3 (addN n ⟨14,x,0,0,[],[],0,t,atN s x⟩) λs x=>r.tail d s x
  else some (.ok s x))=some (.ok n z):=h
 split at h
 · obtain⟨o,l,B,h⟩:=B8 h;obtain⟨M,u,C,h⟩:=B8 h;obtain⟨rfl,rfl⟩:=I2 C;obtain⟨A,V,rfl,a,c,e,f⟩:=i.listE _ _ _ _ _ _ _ B;have c:NftL s A o l:=c;have e:(L9 true (meL A)).length+1+(s.i+1)<=o.i:=e;have k:wt 5 (pt (.nd 7 [] 0 (g::A)))=(me (.nd 7 [] 0 (g::A))).1:=C5a _ _ (by show 5<=bnK 7 [];exact vQ _);have m:wd 5 (pt (.nd 7 [] 0 (g::A)))=(me (.nd 7 [] 0 (g::A))).2:=C6a _ _ (by show 5<=bnK 7 [];exact vQ _);rw[me7]at k m;simp only at k m;obtain⟨w,p,q,v,j,f3⟩:=i.tail _ _ _ _ _ h G _ (w7 F D a) (by simp[isE,Nt.k]) ((E.cons c).node _ 7 [] 0 _ rfl) (by rw[m];omega);refine⟨w,p,q,v, ?_,f3⟩;rw[k]at j;simp only[qQ,jQ,xQ]at j;omega
 split at h
 · split at h
   · rename_i R;obtain⟨M,u,C,h⟩:=B8 h;obtain⟨rfl,rfl⟩:=I2 C;have k:wt 5 (pt (.nd 8 (tk L (s.i+1)).text 0 [g]))=(me (.nd 8 (tk L (s.i+1)).text 0 [g])).1:=C5a _ _ (by show 5<=bnK 8 (tk L (s.i+1)).text;exact vQ _);have m:wd 5 (pt (.nd 8 (tk L (s.i+1)).text 0 [g]))=(me (.nd 8 (tk L (s.i+1)).text 0 [g])).2:=C6a _ _ (by show 5<=bnK 8 (tk L (s.i+1)).text;exact vQ _);rw[me8]at k m;simp only at k m;obtain⟨w,p,q,v,j,f3⟩:=i.tail _ _ _ _ _ h G _ (w8 (N _ R) F D) (by simp[isE,Nt.k]) (NftL.node (s':=s.nx.nx) E.l _ 8 _ 0 _ rfl) (by rw[m];omega);refine⟨w,p,q,v, ?_,f3⟩;rw[k]at j;have j:_+(s.i+1+1)<=_:=j;simp only[qQ,jQ,xQ]at j;omega
   · simp[fltQ]at h
 split at h
 · obtain⟨o,K,B,h⟩:=B8 h;obtain⟨M,_,C,h⟩:=B8 h;obtain⟨_,rfl⟩:=M4 C;obtain⟨S,u,H,h⟩:=B8 h;obtain⟨rfl,rfl⟩:=I2 H;obtain⟨T,t,a,b,c,e,f⟩:=i.expr _ _ _ _ B;rw[wt1 _ b]at e;rw[wd1 _ b]at f;have c:Nft s t o.nx K:=c;have e:(me t).1.length+(s.i+1)<=o.i:=e;have k:wt 5 (pt (.nd 9 [] 0 [g,t]))=(me (.nd 9 [] 0 [g,t])).1:=C5a _ _ (by show 5<=bnK 9 [];exact vQ _);have m:wd 5 (pt (.nd 9 [] 0 [g,t]))=(me (.nd 9 [] 0 [g,t])).2:=C6a _ _ (by show 5<=bnK 9 [];exact vQ _);rw[me9]at k m;simp only at k m;obtain⟨w,p,q,v,j,f3⟩:=i.tail _ _ _ _ _ h G _ (w9 F D a b) (by simp[isE,Nt.k]) ((E.cons c.l).node _ 9 [] 0 _ rfl) (by rw[m];omega);refine⟨w,p,q,v, ?_,f3⟩;rw[k]at j;have j:_+(o.i+1)<=_:=j;simp only[qQ,jQ,xQ]at j;omega
 split at h
 · obtain⟨o,K,B,h⟩:=B8 h;obtain⟨S,u,H,h⟩:=B8 h;obtain⟨rfl,rfl⟩:=I2 H;obtain⟨t,a,c,e,f,_⟩:=y.typ _ _ _ _ B;have c:Nft s (.ty (some t)) o K:=Yft.n c;have e:(tks t).length+(s.i+1)<=o.i:=e;have k:wt 5 (pt (.nd 14 [] 0 [g,.ty (some t)]))=(me (.nd 14 [] 0 [g,.ty (some t)])).1:=C5a _ _ (by show 5<=bnK 14 [];exact vQ _);have m:wd 5 (pt (.nd 14 [] 0 [g,.ty (some t)]))=(me (.nd 14 [] 0 [g,.ty (some t)])).2:=C6a _ _ (by show 5<=bnK 14 [];exact vQ _);rw[C5d,me]at k m;simp only at k m;obtain⟨w,p,q,v,j,f3⟩:=i.tail _ _ _ _ _ h G _ (w14 F D a) (by simp[isE,Nt.k]) ((E.cons c.l).node _ 14 [] 0 _ rfl) (by rw[m];omega);refine⟨w,p,q,v, ?_,f3⟩;rw[k]at j;simp only[qQ,jQ]at j;omega
 · obtain⟨rfl,rfl⟩:=K8 h;exact⟨g,F,D,E,by omega,P⟩
def VaL(L:List Tk):Prop:=∀i,(tk L i).kind=3->0<=C7a (tk L i).text/\C7a (tk L i).text<=999999999
def TxL(L:List Tk):Prop:=∀i,(tk L i).kind=4->(tk L i).text.length<=30/\∀c∈(tk L i).text,txt c.toNat=true
theorem S7a(y:YF L r){d:Nat}{s b:St}{x:Int}(h:typeIfQ L r d s=some (.ok b x)):∃t,Wn t/\isT t.k/\Nft s t b x/\(H0a (pt t)).length+s.i<=b.i/\(me t).2<=20 - d:=by
 unfold typeIfQ at h;split at h
 · obtain⟨t,a,c,e,f,_⟩:=y.typ _ _ _ _ h;have c:Nft s (.ty (some t)) b x:=Yft.n c;have e:(tks t).length+(s.i+1)<=b.i:=e;refine⟨.ty (some t),a,.inr rfl,c, ?_,f⟩;have:H0a (pt (.ty (some t)))=sgQ [58]::tks t:=rfl;rw[this];simp only[jQ];omega
 · obtain⟨rfl,rfl⟩:=K8 h;exact⟨.ty none,trivial,.inl rfl,Nft.none s,by simp[H0a,pt,Nt.k],wQ _⟩
theorem P9c{d:Nat}{s:St}(k:Int)(a:bZ)(n:Int)(c:Int)(g:Wn (.nd k a n []))(e:isE k)(h:bnK k a=5)(b:(me (.nd k a n [])).1.length=1/\(me (.nd k a n [])).2=0)(f:mkN k a n []=⟨k,0,0,0,[],a,n,-1,0⟩):
 Lv 5 d s ⟨s.nx.i,s.nx.N++[⟨k,0,0,0,[],a,n,-1,c⟩],s.nx.T⟩ s.nx.N.length:=by
 refine⟨_,g,e,NftL.node (s':=s.nx) (NftL.nil s) _ k a n _ (by rw[f];rfl), ?_, ?_⟩
 · rw[C5a _ _ (by show 5<=bnK k a;omega),Z3,b.1];show 1+s.i<=s.i+1;omega
 · rw[C6a _ _ (by show 5<=bnK k a;omega),J9a,b.2];omega
theorem P0c(K:NmL L)(M:VaL L)(N:TxL L)(y:YF L r)(i:NF L r):∀d s m x,(step L r).simple d s=some (.ok m x)->Lv 5 d s m x:=by
 intro d s m x h;have h:(if (tk L s.i).kind=3 then addN s.nx ⟨1,0,0,0,[],[],C7a (tk L s.i).text,-1,(tk L s.i).at'⟩
  else if (tk L s.i).kind=4 then addN s.nx ⟨2,0,0,0,[],(tk L s.i).text,0,-1,(tk L s.i).at'⟩
  else if (tk L s.i).kind=1 then addN s.nx ⟨5,0,0,0,[],(tk L s.i).text,0,-1,(tk L s.i).at'⟩
  else if isM L s.i [[116,114,117,101]] then addN s.nx ⟨3,0,0,0,[],[],1,-1,(tk L s.i).at'⟩
  else if isM L s.i [[102,97,108,115,101]] then addN s.nx ⟨3,0,0,0,[],[],0,-1,(tk L s.i).at'⟩
  else if isM L s.i [[110,117,108,108]] then addN s.nx ⟨4,0,0,0,[],[],0,-1,(tk L s.i).at'⟩
  else if isM L s.i [[102,110]] then A3 (needQ L s.nx [40]) λj _=>A3 (r.list .par [41] d j [] []) λn l=>A3 (typeIfQ L r d n) λw t=>A3 (r.block d w) λq x=>
   addN q ⟨6,x,0,0,l,[],0,t,(tk L s.i).at'⟩
  else if isM L s.i [[91]] then A3 (r.list .expr [93] d s.nx [] []) λm l=>addN m ⟨11,0,0,0,l,[],0,-1,(tk L s.i).at'⟩
  else if isM L s.i [[123]] then A3 (r.list .obj [125] d s.nx [] []) λm l=>addN m ⟨10,0,0,0,l,[],0,-1,(tk L s.i).at'⟩
  else A3 (needQ L s [40]) λs _=>A3 (r.expr d s) λs x=>A3 (needQ L s [41]) λs _=>some (.ok s x))=some (.ok m x):=h
 split at h
 · rename_i p;obtain⟨rfl,rfl⟩:=I2 h;exact P9c 1 [] _ _ (w1 (M _ p)) (by simp[isE]) rfl ⟨rfl,rfl⟩ rfl
 split at h
 · rename_i p;obtain⟨rfl,rfl⟩:=I2 h;exact P9c 2 _ 0 _ (w2 (N _ p)) (by simp[isE]) rfl ⟨rfl,rfl⟩ rfl
 split at h
 · rename_i p;obtain⟨rfl,rfl⟩:=I2 h;exact P9c 5 _ 0 _ (w5 (K _ p)) (by simp[isE]) rfl ⟨rfl,rfl⟩ rfl
 split at h
 · obtain⟨rfl,rfl⟩:=I2 h;exact P9c 3 [] 1 _ (w3 (.inr rfl)) (by simp[isE]) rfl ⟨rfl,rfl⟩ rfl
 split at h
 · obtain⟨rfl,rfl⟩:=I2 h;exact P9c 3 [] 0 _ (w3 (.inl rfl)) (by simp[isE]) rfl ⟨rfl,rfl⟩ rfl
 split at h
 · obtain⟨rfl,rfl⟩:=I2 h;exact P9c 4 [] 0 _ w4 (by simp[isE]) rfl ⟨rfl,rfl⟩ rfl
 split at h
 · obtain⟨j,_,k,h⟩:=B8 h;obtain⟨_,rfl⟩:=M4 k;obtain⟨n,l,o,h⟩:=B8 h;obtain⟨w,t,u,h⟩:=B8 h;obtain⟨q,b,H,h⟩:=B8 h;obtain⟨rfl,rfl⟩:=I2 h;obtain⟨g,B,rfl,v,a1,c1,A,f1⟩:=i.listP _ _ _ _ _ _ _ (by simp) o;obtain⟨C,E,R,c2,T,f2⟩:=S7a y u;obtain⟨D,F,S,G,V,f3⟩:=i.block _ _ _ _ H;have c1:NftL s g n l:=c1;have A:(L9 true (meL g)).length+1+(s.i+1+1)<=n.i:=A;have P:NftL s (g++[C,D]) q (l++[t,b]):=c1.app (c2.cons G.l);refine⟨.nd 6 [] 0 (g++[C,D]),w6 a1 (by simpa using v) E R F S,by simp[isE,Nt.k],P.node _ 6 [] 0 _ ?_, ?_, ?_⟩
   · show _=(⟨6,(l++[t,b]).getLastD 0,0,0,(l++[t,b]).dropLast.dropLast,[],0,(l++[t,b]).dropLast.getLastD 0,0⟩:Nd);rw[dl3,dl4,dl5];rfl
   · rw[C5a _ _ (by show 5<=bnK 6 [];exact vQ _),Z3,me6];simp only[qQ,jQ];show _<=q.i;omega
   · rw[C6a _ _ (by show 5<=bnK 6 [];exact vQ _),J9a,me6];simp only;omega
 split at h
 · obtain⟨j,l,k,h⟩:=B8 h;obtain⟨rfl,rfl⟩:=I2 h;obtain⟨g,B,rfl,a,c,e,f⟩:=i.listE _ _ _ _ _ _ _ k;have c:NftL s g j l:=c;have e:(L9 true (meL g)).length+1+(s.i+1)<=j.i:=e;refine⟨.nd 11 [] 0 g,w11 a,by simp[isE,Nt.k],c.node _ 11 [] 0 _ rfl, ?_, ?_⟩
   · rw[C5a _ _ (by show 5<=bnK 11 [];exact vQ _),Z3,C6d];simp only[qQ,jQ,xQ];show _<=j.i;omega
   · rw[C6a _ _ (by show 5<=bnK 11 [];exact vQ _),J9a,C6d];exact f
 split at h
 · obtain⟨j,l,k,h⟩:=B8 h;obtain⟨rfl,rfl⟩:=I2 h;obtain⟨g,B,rfl,v,a,c,e,f⟩:=i.listO _ _ _ _ _ _ _ (by simp) k;have c:NftL s g j l:=c;have e:(L9 true (meL g)).length+1+(s.i+1)<=j.i:=e;refine⟨.nd 10 [] 0 g,w10 a (by simpa using v),by simp[isE,Nt.k],c.node _ 10 [] 0 _ rfl, ?_, ?_⟩
   · rw[C5a _ _ (by show 5<=bnK 10 [];exact vQ _),Z3,C7d];simp only[qQ,jQ,xQ];show _<=j.i;omega
   · rw[C6a _ _ (by show 5<=bnK 10 [];exact vQ _),J9a,C7d];exact f
 · obtain⟨j,_,k,h⟩:=B8 h;obtain⟨_,rfl⟩:=M4 k;obtain⟨n,z,o,h⟩:=B8 h;obtain⟨w,_,u,h⟩:=B8 h;obtain⟨_,rfl⟩:=M4 u;obtain⟨rfl,rfl⟩:=K8 h;obtain⟨W,t,a,b,c,e,f⟩:=i.expr _ _ _ _ o;rw[wt1 _ b]at e;rw[wd1 _ b]at f;have c:Nft s t n.nx z:=c;have e:(me t).1.length+(s.i+1)<=n.i:=e;have k:=G3e 5 (pt t);have o:=G5e 5 (pt t);rw[Z3]at k;rw[J9a]at o;refine⟨t,a,b,c, ?_,by omega⟩;show _<=n.i+1;omega
theorem A2c{s a:St}{c:uZ}{u:Unit}(h:(if c.length=0 then some (.ok s ()) else needQ L s [44])=some (.ok a u)):a.N=s.N/\a.T=s.T/\a.i=s.i+(if c.length=0 then 0 else 1):=by
 split at h
 · rename_i b;obtain⟨rfl,_⟩:=K8 h;exact⟨rfl,rfl,by rw[rY b];rfl⟩
 · rename_i b;obtain⟨_,rfl⟩:=M4 h;exact⟨rfl,rfl,by rw[yY b];rfl⟩
theorem Nft.base{s s1 d:St}{t:Nt}{x:Int}(h:Nft s1 t d x)(e:s1.N=s.N)(f:s1.T=s.T):Nft s t d x:=by
 obtain⟨a,b,c⟩:=h;rw[e,f]at *;exact⟨a,b,c⟩
theorem M1b(a:uZ)(y:Int)(t:Nt)(f:List Nt){i d e j:Nat}(c:d=i+(if a.length=0 then 0 else 1))(k:(me t).1.length+d<=e)(g:(L9 (decide ((a++[y]).length=0)) (meL f)).length+1+e<=j):(L9 (decide (a.length=0)) (meL (t::f))).length+1+i<=j:=by
 have h:decide ((a++[y]).length=0)=false:=by simp
 rw[h]at g;simp only[J6,L9,qQ,Z3];by_cases b:a.length=0
 · rw[rY b]at c;rw[decide_eq_true b,rY rfl];simp only[xQ];omega
 · rw[yY b]at c;rw[decide_eq_false b];simp only[rZ,if_false,jQ,xQ];omega
theorem A4d(i:NF L r):∀e d s n g j l,(step L r).list .expr e d s n g=some (.ok j l)->Li 1 1 d (λp=>isE p.k) s j g l:=by
 intro e d s n g j l h;have h:(if isM L s.i [e] then some (.ok s.nx g)
  else A3 (if g.length=0 then some (.ok s ()) else needQ L s [44]) λs _=>A3 (part L r d s n .expr) λs x=>r.list .expr e d s x.2 (g++[x.1]))=some (.ok j l):=h
 split at h
 · obtain⟨rfl,rfl⟩:=K8 h;refine⟨[],[],by simp,by simp,NftL.nil s, ?_,by simp[mx,meL]⟩;show (L9 _ []).length+1+s.i<=s.i+1;simp[L9];omega
 · obtain⟨E,_,q,h⟩:=B8 h;have k:=A2c q;obtain⟨F,x,u,h⟩:=B8 h;obtain⟨G,y,v,w⟩:=B8 u;obtain⟨rfl,rfl⟩:=K8 w;obtain⟨D,t,a,b,c,e,f⟩:=i.expr _ _ _ _ v;rw[wt1 _ b]at e;rw[wd1 _ b]at f;have c:=c.base k.1 k.2.1;obtain⟨o,z,rfl,w2,B,A,C⟩:=i.listE _ _ _ _ _ _ _ h;refine⟨t::o,y::z,by simp,λp m=> ?_,c.cons B,M1b g y t o k.2.2 e A, ?_⟩
   · rcases jW.1 m with rfl|m
     · exact⟨a,b⟩
     · exact w2 p m
   · rw[J6,mx,J9a];omega
theorem J0c{c:List bZ}{x:bZ}(h:c.Nodup)(f:x ∉ c):(c++[x]).Nodup:=by
 rw[List.nodup_append];exact⟨h,by simp,λa e b d=>by simp at d;subst d;rintro rfl;exact f e⟩
theorem A3d(H:NmL L)(i:NF L r):∀e d s m j o l,m.Nodup->(step L r).list .obj e d s m j=some (.ok o l)->∃k q,l=j++q/\(m++k.map Nt.tx).Nodup/\(∀p∈k,Wn p/\p.k=15)/\NftL s k o q/\(L9 (decide (j.length=0)) (meL k)).length+1+s.i<=o.i/\mx 0 (meL k)<=20 - d:=by
 intro e d s m j o l A h;have h:(if isM L s.i [e] then some (.ok s.nx j)
  else A3 (if j.length=0 then some (.ok s ()) else needQ L s [44]) λs _=>A3 (part L r d s m .obj) λs x=>r.list .obj e d s x.2 (j++[x.1]))=some (.ok o l):=h
 split at h
 · obtain⟨rfl,rfl⟩:=K8 h;refine⟨[],[],by simp,by simpa using A,by simp,NftL.nil s, ?_,by simp[mx,meL]⟩;show (L9 _ []).length+1+s.i<=s.i+1;simp[L9];omega
 · obtain⟨z,_,C,h⟩:=B8 h;have v:=A2c C;obtain⟨W,x,g,h⟩:=B8 h;obtain⟨X,n,D,g⟩:=B8 g;obtain⟨K,M,N,rfl⟩:=newName_okQ D;obtain⟨Y,_,E,g⟩:=B8 g;obtain⟨_,rfl⟩:=M4 E;obtain⟨u,y,F,g⟩:=B8 g;obtain⟨Z,a2,G,g⟩:=B8 g;obtain⟨rfl,rfl⟩:=I2 G;obtain⟨rfl,rfl⟩:=K8 g;obtain⟨V,t,a,b,c,e,f⟩:=i.expr _ _ _ _ F;rw[wt1 _ b]at e;rw[wd1 _ b]at f;have c:Nft s t u y:=Nft.base (s1:=z) c v.1 v.2.1;have e:(me t).1.length+(z.i+1+1)<=u.i:=e;obtain⟨k,q,rfl,R,w2,S,P,T⟩:=i.listO _ _ _ _ _ _ _ (J0c A N) h;have B:=c.l.node u.i 15 n 0 ⟨15,y,0,0,[],n,0,-1,(tk L z.i).at'⟩ rfl;refine⟨.nd 15 n 0 [t]::k,_::q,by simp,by simpa[Nt.tx]using R,λp w=> ?_,B.cons S,M1b j _ _ k v.2.2 ?_ P, ?_⟩
   · rcases jW.1 w with rfl|w
     · exact⟨w15 (by rw[M];exact H _ K) a b,rfl⟩
     · exact w2 p w
   · rw[C4d];simp only[jQ];show _<=u.i;omega
   · rw[J6,mx,J9a,C4d];simp only;omega
theorem A2d(K:NmL L)(y:YF L r)(i:NF L r):∀e d s m g o l,m.Nodup->(step L r).list .par e d s m g=some (.ok o l)->∃j q,l=g++q/\(m++j.map Nt.tx).Nodup/\(∀p∈j,Wn p/\p.k=16)/\NftL s j o q/\(L9 (decide (g.length=0)) (meL j)).length+1+s.i<=o.i/\mx 0 (meL j)<=20 - d:=by
 intro e d s m g o l C h;have h:(if isM L s.i [e] then some (.ok s.nx g)
  else A3 (if g.length=0 then some (.ok s ()) else needQ L s [44]) λs _=>A3 (part L r d s m .par) λs x=>r.list .par e d s x.2 (g++[x.1]))=some (.ok o l):=h
 split at h
 · obtain⟨rfl,rfl⟩:=K8 h;refine⟨[],[],by simp,by simpa using C,by simp,NftL.nil s, ?_,by simp[mx,meL]⟩;show (L9 _ []).length+1+s.i<=s.i+1;simp[L9];omega
 · obtain⟨B,_,E,h⟩:=B8 h;have w:=A2c E;obtain⟨W,x,k,h⟩:=B8 h;obtain⟨X,n,F,k⟩:=B8 k;obtain⟨M,N,P,rfl⟩:=newName_okQ F;obtain⟨v,z,G,k⟩:=B8 k;obtain⟨Y,u,H,k⟩:=B8 k;obtain⟨rfl,rfl⟩:=I2 H;obtain⟨rfl,rfl⟩:=K8 k;obtain⟨t,a,b,c,e,f⟩:=S7a y G;have c:Nft s t v z:=Nft.base (s1:=B) c w.1 w.2.1;have e:(H0a (pt t)).length+(B.i+1)<=v.i:=e;obtain⟨j,q,rfl,S,w2,T,R,V⟩:=i.listP _ _ _ _ _ _ _ (J0c C P) h;have D:=c.l.node v.i 16 n 0 ⟨16,0,0,0,[],n,0,z,(tk L B.i).at'⟩ rfl;refine⟨.nd 16 n 0 [t]::j,_::q,by simp,by simpa[Nt.tx]using S,λp A=> ?_,D.cons T,M1b g _ _ j w.2.2 ?_ R, ?_⟩
   · rcases jW.1 A with rfl|A
     · exact⟨w16 (by rw[N];exact K _ M) a b,rfl⟩
     · exact w2 p A
   · rw[C3d];simp only[jQ];show _<=v.i;omega
   · rw[J6,mx,J9a,C3d];simp only;omega
theorem A5d(i:NF L r):∀d s b x,(step L r).block d s=some (.ok b x)->∃t,Wn t/\t.k=26/\Nft s t b x/\(me t).1.length+s.i<=b.i/\(me t).2<=20 - d:=by
 intro d s b x h;obtain⟨o,_,k,h⟩:=B8 h;obtain⟨_,rfl⟩:=M4 k;obtain⟨j,l,m,h⟩:=B8 h;obtain⟨rfl,rfl⟩:=I2 h;obtain⟨g,n,rfl,a,c,e,f⟩:=i.blockL _ _ _ _ _ m;have c:NftL s g j l:=c;have e:(flT (meL g)).length+1+(s.i+1)<=j.i:=e;refine⟨.nd 26 [] 0 g,w26 a,rfl,c.node _ 26 [] 0 _ rfl, ?_, ?_⟩
 · rw[R6d];simp only[qQ,jQ,xQ];show _<=j.i;omega
 · rw[R6d];exact f
theorem P1c(i:NF L r):∀d s g j l,(step L r).blockL d s g=some (.ok j l)->Fl 1 d s j g l:=by
 intro d s g j l h;have h:(if isM L s.i [[125]] then some (.ok s.nx g) else A3 (r.stmt d s) λs x=>r.blockL d s (g++[x]))=some (.ok j l):=h;split at h
 · obtain⟨rfl,rfl⟩:=K8 h;refine⟨[],[],by simp,by simp,NftL.nil s, ?_,by simp[mx,meL]⟩;show (flT []).length+1+s.i<=s.i+1;simp[flT];omega
 · obtain⟨w,x,m,h⟩:=B8 h;obtain⟨t,a,b,c,e,f⟩:=i.stmt _ _ _ _ m;obtain⟨o,n,rfl,w2,q,v,u⟩:=i.blockL _ _ _ _ _ h;refine⟨t::o,x::n,by simp,λp k=> ?_,c.cons q, ?_, ?_⟩
   · rcases jW.1 k with rfl|k
     · exact⟨a,b⟩
     · exact w2 p k
   · rw[J6,flT,qQ,Z3];omega
   · rw[J6,mx,J9a];omega
theorem A0d(i:NF L r):∀d s g j l,(step L r).progL d s g=some (.ok j l)->Fl 0 d s j g l:=by
 intro d s g j l h;have h:(if (tk L s.i).kind=6 then some (.ok s g) else A3 (r.stmt d s) λs x=>r.progL d s (g++[x]))=some (.ok j l):=h;split at h
 · obtain⟨rfl,rfl⟩:=K8 h;refine⟨[],[],by simp,by simp,NftL.nil s, ?_,by simp[mx,meL]⟩;simp[flT,meL]
 · obtain⟨w,x,m,h⟩:=B8 h;obtain⟨t,a,b,c,e,f⟩:=i.stmt _ _ _ _ m;obtain⟨o,n,rfl,w2,q,v,u⟩:=i.progL _ _ _ _ _ h;refine⟨t::o,x::n,by simp,λp k=> ?_,c.cons q, ?_, ?_⟩
   · rcases jW.1 k with rfl|k
     · exact⟨a,b⟩
     · exact w2 p k
   · rw[J6,flT,qQ,Z3];omega
   · rw[J6,mx,J9a];omega
theorem Q6d(i:NF L r):∀d s g x,(step L r).stmt d s=some (.ok g x)->∃t,Wn t/\(17<=t.k/\t.k<=25)/\Nft s t g x/\(me t).1.length+s.i<=g.i/\(me t).2+1<=20 - d:=by
 intro d s g x h;obtain⟨_,j,h⟩:=M4a h;obtain⟨t,a,b,c,e,f⟩:=i.any _ _ _ _ h;exact⟨t,a,b,c,e,by omega⟩
end
theorem B7a(k:Int)(a:bZ)(n:Int)(l:uZ):(mkN k a n l).kind=k:=by
 unfold mkN;repeat' split
 all_goals (first|rfl|(simp only;omega))
theorem Nft.split{s a:St}{k:Int}{c:bZ}{n:Int}{b:List Nt}{x:Int}(h:Nft s (.nd k c n b) a x)(i:Nat):
 ∃l,(a.N.getD x.toNat nd0).fl=mkN k c n l/\NftL s b ⟨i,a.N.take x.toNat,a.T⟩ l:=by
 have o:=h.lenN;obtain⟨d,j,m⟩:=h;rw[ixN,nN]at m;rw[nN]at o;have p:x.toNat=s.N.length+nNL b:=by omega
 have f:x.toNat<a.N.length:=by omega
 have e:a.N=a.N.take x.toNat++[a.N.getD x.toNat nd0]:=by
  have:a.N.getD x.toNat nd0=a.N[x.toNat]:=by simp[f]
  rw[this,<-nQ f,List.take_of_length_le (by omega)]
 rw[e,emN,wY,uY,List.map_nil,<-List.append_assoc]at d;have g:(a.N.take x.toNat).map Nd.fl=s.N.map Nd.fl++R9 s.N.length s.T.length b/\[(a.N.getD x.toNat nd0).fl]=[mkN k c n (ixL s.N.length s.T.length b)]:=by
  refine List.append_inj d ?_;rw[iZ,List.length_take,qQ,iZ,S7];omega
 exact⟨_,by simpa using g.2,g.1,j,rfl⟩
theorem C4e{t:Nt}(h:isE t.k):∃k b n a,t= .nd k b n a:=by
 cases t with
 |nd k b n a=>exact⟨k,b,n,a,rfl⟩
 |ty o=>cases o<;>simp[isE,Nt.k]at h
section
variable{L:List Tk}{r:Sp}
theorem B5e(i:NF L r){d:Nat}{s j T:St}{x a3:Int}(h1:r.expr d s=some (.ok j x))(y:M7a (j.N.getD x.toNat nd0).kind≠0)
 (h:(A3 (r.expr d ⟨j.i+1,j.N.take x.toNat,j.T⟩) λg v=>A3 (needQ L g [59]) λs3 _=>addN s3 (F7a (j.N.getD x.toNat nd0) v))=some (.ok T a3)):
 ∃t,Wn t/\(17<=t.k/\t.k<=25)/\Nft s t T a3/\(me t).1.length+s.i<=T.i/\(me t).2<=20 - d:=by
 obtain⟨hd,t,a,b,a4,e,f⟩:=i.expr _ _ _ _ h1;rw[wt1 _ b]at e;rw[wd1 _ b]at f;obtain⟨g,v,h2,h⟩:=B8 h;obtain⟨s3,_,h3,h⟩:=B8 h;obtain⟨_,rfl⟩:=M4 h3;obtain⟨rfl,rfl⟩:=I2 h;obtain⟨k,W,n,G,rfl⟩:=C4e b;obtain⟨l,o,E⟩:=a4.split (j.i+1);obtain⟨_,u,H,z,c2,K,f2⟩:=i.expr _ _ _ _ h2;rw[wt1 _ z]at K;rw[wd1 _ z]at f2;have K:(me u).1.length+(j.i+1)<=g.i:=K;have A:=E.app c2.l;generalize j.N.getD x.toNat nd0=m at o y;have a6:m.kind=k:=by
  have:=congrArg Nd.kind o;rw[B7a]at this;exact this
 rw[a6]at y;rw[Wn]at a;obtain⟨V,c,X⟩:=a;have a5:k=5\/k=8\/k=9:=by
  unfold M7a at y;split at y
  · exact .inl (by assumption)
  split at y
  · exact .inr (.inl (by assumption))
  split at y
  · exact .inr (.inr (by assumption))
  · exact absurd rfl y
 have A:NftL s (G++[u]) g.nx (l++[v]):=A;rcases a5 with rfl|rfl|rfl
 · have a7:G=[]:=by simpa[shp]using V
   subst a7;have B:l=[]:=E.2.2;subst B;have c:S4 W/\n=0:=c;obtain⟨mk,P,R,Y,Z,w,F,my,D⟩:=m;simp[Nd.fl,mkN]at o;obtain⟨rfl,rfl,rfl,rfl,rfl,rfl,rfl,rfl⟩:=o;rw[me5]at e f;have C:=A.node g.nx.i 18 w 0 (F7a ⟨5,0,0,0,[],w,F,-1,D⟩ v) (by rw[c.2];rfl);refine⟨.nd 18 w 0 [u],w18 c.1 H z,by simp[Nt.k],C, ?_, ?_⟩
   · rw[C1d];simp only[qQ,jQ,xQ]at e⊢;show _<=g.i+1;omega
   · rw[C1d];simp only;omega
 · obtain⟨q,M,N⟩:∃q,G.map Nt.k=[q]/\isE q:=by simpa[shp]using V
   obtain⟨p,rfl,rfl⟩:=k1 M;have c:S4 W/\n=0:=c;have B:l=[ixN s.N.length s.T.length p]:=E.2.2;subst B;obtain⟨mk,P,R,Y,Z,w,F,my,D⟩:=m;simp[Nd.fl,mkN]at o;obtain⟨rfl,rfl,rfl,rfl,rfl,rfl,rfl,rfl⟩:=o;rw[me8]at e f;have C:=A.node g.nx.i 19 w 0 (F7a ⟨8,ixN s.N.length s.T.length p,0,0,[],w,F,-1,D⟩ v) (by rw[c.2];rfl);refine⟨.nd 19 w 0 [p,u],w19 c.1 X.1 N H z,by simp[Nt.k],C, ?_, ?_⟩
   · rw[C0d];simp only[qQ,jQ,xQ]at e⊢;show _<=g.i+1;omega
   · rw[C0d];simp only at f⊢;omega
 · obtain⟨q,S,M,N,a8⟩:∃q S,G.map Nt.k=[q,S]/\isE q/\isE S:=by simpa[shp]using V
   obtain⟨p,p2,rfl,rfl,rfl⟩:=k2 M;have c:W=[]/\n=0:=by simpa[own]using c
   obtain⟨rfl,rfl⟩:=c;obtain⟨p',a9,B⟩:∃a b,l=[a,b]:=⟨_,_,E.2.2⟩;subst B;obtain⟨mk,P,R,Y,Z,w,F,my,D⟩:=m;simp[Nd.fl,mkN]at o;obtain⟨rfl,rfl,rfl,rfl,rfl,rfl,rfl,rfl⟩:=o;rw[me9]at e f;have C:=A.node g.nx.i 20 [] 0 (F7a ⟨9,P,R,0,[],[],0,-1,D⟩ v) rfl;refine⟨.nd 20 [] 0 [p,p2,u],w20 X.1 N X.2.1 a8 H z,by simp[Nt.k],C, ?_, ?_⟩
   · rw[B9d];simp only[qQ,jQ,xQ]at e⊢;show _<=g.i+1;omega
   · rw[B9d];simp only at f⊢;omega
theorem A1d(i:NF L r)(k:Int)(p:k=21\/k=24){d:Nat}{s j:St}{x:Int}{m:Int}(h:(A3 (r.expr d s.nx) λg x=>A3 (needQ L g [59]) λl _=>addN l ⟨k,x,0,0,[],[],0,-1,m⟩)=some (.ok j x)):
 ∃t,Wn t/\(17<=t.k/\t.k<=25)/\Nft s t j x/\(me t).1.length+s.i<=j.i/\(me t).2<=20 - d:=by
 obtain⟨g,y,n,h⟩:=B8 h;obtain⟨l,_,o,h⟩:=B8 h;obtain⟨_,rfl⟩:=M4 o;obtain⟨rfl,rfl⟩:=I2 h;obtain⟨q,t,a,b,c,e,f⟩:=i.expr _ _ _ _ n;rw[wt1 _ b]at e;rw[wd1 _ b]at f;have c:Nft s t g.nx y:=c;have e:(me t).1.length+(s.i+1)<=g.i:=e;rcases p with rfl|rfl
 · refine⟨.nd 21 [] 0 [t],w21 a b,by simp[Nt.k],c.l.node _ 21 [] 0 _ rfl, ?_, ?_⟩
   · rw[B8d];simp only[qQ,jQ,xQ];show _<=g.i+1;omega
   · rw[B8d];simp only;omega
 · refine⟨.nd 24 [] 0 [t],w24 a b,by simp[Nt.k],c.l.node _ 24 [] 0 _ rfl, ?_, ?_⟩
   · rw[B5d];simp only[qQ,jQ,xQ];show _<=g.i+1;omega
   · rw[B5d];simp only;omega
theorem B7e(W:NmL L)(y:YF L r)(i:NF L r):∀d s E x,(step L r).any d s=some (.ok E x)->∃t,Wn t/\(17<=t.k/\t.k<=25)/\Nft s t E x/\(me t).1.length+s.i<=E.i/\(me t).2<=20 - d:=by
 intro d s E x h;have h:(if isM L s.i [[108,101,116]] then
  if (tk L (s.i+1)).kind=1 then A3 (typeIfQ L r d s.nx.nx) λg t=>A3 (needQ L g [61]) λj _=>A3 (r.expr d j) λo x=>A3 (needQ L o [59]) λl _=>
   addN l ⟨17,x,0,0,[],(tk L (s.i+1)).text,0,t,(tk L s.i).at'⟩
  else fltQ L (s.i+1) 1
  else if isM L s.i [[112,114,105,110,116]] then A3 (r.expr d s.nx) λg x=>A3 (needQ L g [59]) λj _=>addN j ⟨21,x,0,0,[],[],0,-1,(tk L s.i).at'⟩
  else if isM L s.i [[114,101,116,117,114,110]] then A3 (r.expr d s.nx) λg x=>A3 (needQ L g [59]) λj _=>addN j ⟨24,x,0,0,[],[],0,-1,(tk L s.i).at'⟩
  else if isM L s.i [[105,102]] then A3 (needQ L s.nx [40]) λg _=>A3 (r.expr d g) λj x=>A3 (needQ L j [41]) λo _=>A3 (r.block d o) λl y=>
   A3 (if isM L l.i [[101,108,115,101]] then r.block d l.nx else some (.ok l (-1))) λA z=>addN A ⟨22,x,y,z,[],[],0,-1,(tk L s.i).at'⟩
  else if isM L s.i [[119,104,105,108,101]] then A3 (needQ L s.nx [40]) λg _=>A3 (r.expr d g) λj x=>A3 (needQ L j [41]) λo _=>A3 (r.block d o) λl y=>
   addN l ⟨23,x,y,0,[],[],0,-1,(tk L s.i).at'⟩
  else A3 (r.expr d s) λg x=>
   if isM L g.i [[61]] then
    if M7a (g.N.getD x.toNat nd0).kind=0 then fltQ L g.i 1
    else A3 (r.expr d ⟨g.i+1,g.N.take x.toNat,g.T⟩) λj v=>A3 (needQ L j [59]) λo _=>addN o (F7a (g.N.getD x.toNat nd0) v)
   else A3 (needQ L g [59]) λj _=>addN j ⟨25,x,0,0,[],[],0,-1,atN g x⟩)=some (.ok E x):=h
 split at h
 · split at h
   · rename_i Y;obtain⟨g,z,p,h⟩:=B8 h;obtain⟨j,_,w,h⟩:=B8 h;obtain⟨_,rfl⟩:=M4 w;obtain⟨o,v,C,h⟩:=B8 h;obtain⟨l,_,D,h⟩:=B8 h;obtain⟨_,rfl⟩:=M4 D;obtain⟨rfl,rfl⟩:=I2 h;obtain⟨P,a1,T,c1,R,f1⟩:=S7a y p;obtain⟨M,u,q,m,c2,n,f2⟩:=i.expr _ _ _ _ C;rw[wt1 _ m]at n;rw[wd1 _ m]at f2;have c1:Nft s P g.nx z:=c1;have c2:Nft g.nx u o.nx v:=c2;have R:(H0a (pt P)).length+(s.i+1+1)<=g.i:=R;have n:(me u).1.length+(g.i+1)<=o.i:=n;refine⟨.nd 17 (tk L (s.i+1)).text 0 [P,u],w17 (W _ Y) a1 T q m,by simp[Nt.k],(c1.cons c2.l).node _ 17 _ 0 _ rfl, ?_, ?_⟩
     · rw[C2d];simp only[qQ,jQ,xQ];show _<=o.i+1;omega
     · rw[C2d];simp only;omega
   · simp[fltQ]at h
 split at h
 · exact A1d i 21 (.inl rfl) h
 split at h
 · exact A1d i 24 (.inr rfl) h
 split at h
 · obtain⟨g,_,p,h⟩:=B8 h;obtain⟨_,rfl⟩:=M4 p;obtain⟨j,v,w,h⟩:=B8 h;obtain⟨o,_,C,h⟩:=B8 h;obtain⟨_,rfl⟩:=M4 C;obtain⟨l,b,D,h⟩:=B8 h;obtain⟨A,z,K,h⟩:=B8 h;obtain⟨rfl,rfl⟩:=I2 h;obtain⟨M,u,q,m,c2,n,f2⟩:=i.expr _ _ _ _ w;rw[wt1 _ m]at n;rw[wd1 _ m]at f2;obtain⟨F,G,N,H,B,f3⟩:=i.block _ _ _ _ D;have c2:Nft s u j.nx v:=c2;have n:(me u).1.length+(s.i+1+1)<=j.i:=n;have B:(me F).1.length+(j.i+1)<=l.i:=B;obtain⟨te,S,Z,V,e4,f4⟩:∃t,Wn t/\(t.k=26\/t.k= -1)/\Nft l t A z/\(if t.k= -1 then [] else (2,[101,108,115,101])::(me t).1).length+l.i<=A.i/\(me t).2<=20 - d:=by
    split at K
    · obtain⟨t,a,k,c,e,f⟩:=i.block _ _ _ _ K;have e:(me t).1.length+(l.i+1)<=A.i:=e;refine⟨t,a,.inl k,c, ?_,f⟩;rw[yY (by omega),jQ];omega
    · obtain⟨rfl,rfl⟩:=K8 K;exact⟨.ty none,trivial,.inr rfl,Nft.none _,by simp[Nt.k],wQ _⟩
   refine⟨.nd 22 [] 0 [u,F,te],w22 q m G N S Z,by simp[Nt.k],(c2.cons (H.cons V.l)).node _ 22 [] 0 _ rfl, ?_, ?_⟩
   · rw[B7d];simp only[qQ,jQ];show _<=A.i;omega
   · rw[B7d];simp only;omega
 split at h
 · obtain⟨g,_,p,h⟩:=B8 h;obtain⟨_,rfl⟩:=M4 p;obtain⟨j,v,w,h⟩:=B8 h;obtain⟨o,_,C,h⟩:=B8 h;obtain⟨_,rfl⟩:=M4 C;obtain⟨l,b,D,h⟩:=B8 h;obtain⟨rfl,rfl⟩:=I2 h;obtain⟨M,u,q,m,c2,n,f2⟩:=i.expr _ _ _ _ w;rw[wt1 _ m]at n;rw[wd1 _ m]at f2;obtain⟨F,G,N,H,B,f3⟩:=i.block _ _ _ _ D;have c2:Nft s u j.nx v:=c2;have n:(me u).1.length+(s.i+1+1)<=j.i:=n;have B:(me F).1.length+(j.i+1)<=l.i:=B;refine⟨.nd 23 [] 0 [u,F],w23 q m G N,by simp[Nt.k],(c2.cons H.l).node _ 23 [] 0 _ rfl, ?_, ?_⟩
   · rw[B6d];simp only[qQ,jQ];show _<=l.i;omega
   · rw[B6d];simp only;omega
 · obtain⟨g,v,p,h⟩:=B8 h;split at h
   · split at h
     · simp[fltQ]at h
     · rename_i X;exact B5e i p X h
   · obtain⟨j,_,w,h⟩:=B8 h;obtain⟨_,rfl⟩:=M4 w;obtain⟨rfl,rfl⟩:=I2 h;obtain⟨M,u,q,m,c2,n,f2⟩:=i.expr _ _ _ _ p;rw[wt1 _ m]at n;rw[wd1 _ m]at f2;have c2:Nft s u g.nx v:=c2;refine⟨.nd 25 [] 0 [u],w25 q m,by simp[Nt.k],c2.l.node _ 25 [] 0 _ rfl, ?_, ?_⟩
     · rw[B4d];simp only[qQ,jQ,xQ];show _<=g.i+1;omega
     · rw[B4d];simp only;omega
end
theorem A6d{L:List Tk}(a:NmL L)(b:VaL L)(c:TxL L):∀f,NF L (sp' L f)
 |0=>by constructor<;>(intros;contradiction)
 |f+1=>
  have i:=A6d a b c f;have y:=J0a a f
  ⟨Q9d i,R0d i,B4e i,Q7d i,B6e i,Q8d i,Q5d a y i,P0c a b c y i,A4d i,A3d a i,A2d a y i,A5d i,P1c i,Q6d i,B7e a y i,A0d i⟩
theorem O3c{L:List Tk}(k:NmL L)(m:VaL L)(n:TxL L){d:St}{x:Int}(h:Ev L (G5a 0 ⟨0,[],[]⟩) (.ok d x)):
 ∃b,(∀p∈b,Wn p/\17<=p.k/\p.k<=25)/\d.N.map Nd.fl=emN 0 0 (.nd 26 [] 0 b)/\d.T=W9 0 b/\(flT (meL b)).length<=d.i/\mx 1 (meL b)<=20:=by
 obtain⟨f,o⟩:=h;have h:=o f (vQ _);obtain⟨q,l,j,h⟩:=B8 h;obtain⟨rfl,rfl⟩:=I2 h;obtain⟨b,r,g,a,c,e,f⟩:=(A6d k m n f).progL _ _ _ _ _ j;rw[lY]at g;subst g;have i:=c.node q.i 26 [] 0 ⟨26,0,0,0,l,[],0,-1,0⟩ rfl;refine⟨b,a,by simpa using i.1,by simpa[emY]using i.2.1,by simpa using e,by simpa using f⟩
def Eo(t:Tr):Prop:=∀a,TsOk a->TsOk (a++emT a.length t)/\tr (a++emT a.length t) (a.length+nTy t - 1)=t
theorem M6a:∀(b:List Tr),(∀x∈b,Eo x)->∀a,TsOk a->TsOk (a++M9 a.length b)/\(∀x∈ixT a.length b,0<=x/\x<((a++M9 a.length b).length:Int))/\(ixT a.length b).map (λx=>tr (a++M9 a.length b) x.toNat)=b
 |[],_,a,h=>by simp[M9,ixT,h]
 |t::r,k,a,h=>by
  obtain⟨f,l⟩:=k t (by simp) a h;have d:(a++emT a.length t).length=a.length+nTy t:=by rw[qQ,D3a]
  obtain⟨g,i,j⟩:=M6a r (λx c=>k x (by simp[c])) (a++emT a.length t) f;rw[d]at g i j;have e:a++M9 a.length (t::r)=a++emT a.length t++M9 (a.length+nTy t) r:=by rw[M9,kZ]
  rw[e,ixT];have m:=M2a t;refine⟨g,λx c=> ?_, ?_⟩
  · rcases jW.1 c with rfl|c
    · refine⟨by omega, ?_⟩;rw[qQ,d];omega
    · exact i x c
  · rw[uY,j];have:(((a.length+nTy t:Nat):Int) - 1).toNat=a.length+nTy t - 1:=by omega
    rw[this,H3a _ f (by rw[d];omega),l]
theorem J8b{c d:Type}:∀(a:List c) (b:List d),a.length=b.length->(a.zip b).map (·.1)=a
 |[],_,_=>rfl
 |x::a,[],h=>by simp at h
 |x::a,y::b,h=>by simp only[List.zip_cons_cons,uY];rw[J8b a b (by simpa using h)]
theorem F6c{d c e:Type}(f:c->e):∀(a:List d) (b:List c),a.length=b.length->(a.zip b).map (λp=>f p.2)=b.map f
 |[],[],_=>rfl
 |[],_::_,h=>by simp at h
 |x::a,[],h=>by simp at h
 |x::a,y::b,h=>by simp only[List.zip_cons_cons,uY];rw[F6c f a b (by simpa using h)]
theorem N0b{a:List Ty}{b:List Tr}{k:Int}{c:List bZ}(h:k≠9)(d:TsOk (a++M9 a.length b))(f:TyOk (G0a k c (ixT a.length b)) (a++M9 a.length b).length)
 (g:Tr.nd (G0a k c (ixT a.length b)).kind ((G0a k c (ixT a.length b)).fields.map (·.1)) ((if (G0a k c (ixT a.length b)).kind=8\/(G0a k c (ixT a.length b)).kind=9 then [tr (a++M9 a.length b) (G0a k c (ixT a.length b)).of'.toNat] else [])++((G0a k c (ixT a.length b)).fields.map λp=>tr (a++M9 a.length b) p.2.toNat)++(G0a k c (ixT a.length b)).list.map λx=>tr (a++M9 a.length b) x.toNat)= .nd k c b):
 TsOk (a++emT a.length (.nd k c b))/\tr (a++emT a.length (.nd k c b)) (a.length+nTy (.nd k c b) - 1)= .nd k c b:=by
 rw[Y8a _ _ _ _ h,<-List.append_assoc];refine⟨d.snoc f, ?_⟩;have e:a.length+nTy (.nd k c b) - 1=(a++M9 a.length b).length:=by rw[qQ,G9a,nTy];omega
 rw[e,N5a d f,g]
theorem K5c(t:Tr)(h:Wf t):Eo t:=by
 induction h with
 |plain k C q=>
  intro d i;obtain⟨a,b,c⟩:=M6a [] (by simp) d i;have g:G0a k [] (ixT d.length [])=⟨k,[],[],0⟩:=by rw[G0a,yY (by omega),yY (by omega),yY (by omega)]
  refine N0b (by omega) a ?_ ?_
  · rw[g];exact .inl ⟨C,q,rfl,rfl⟩
  · rw[g];simp only;rw[yY (by omega)];rfl
 |obj n j l nd D u m=>
  intro d i;obtain⟨a,b,c⟩:=M6a j m d i;have g:G0a 7 n (ixT d.length j)=⟨7,n.zip (ixT d.length j),[],0⟩:=rfl;have s:n.length=(ixT d.length j).length:=by rw[R2a,l]
  refine N0b (by omega) a ?_ ?_
  · rw[g];refine .inr (.inl ⟨rfl,rfl, ?_,λp w=> ?_⟩)
    · show ((n.zip _).map (·.1)).Nodup;rw[J8b _ _ s];exact nd
    · have:=List.of_mem_zip w;exact⟨D _ this.1,b _ this.2⟩
  · rw[g];simp only[List.map_nil,zY];rw[J8b _ _ s,F6c (λx:Int=>tr (d++M9 d.length j) x.toNat) _ _ s,c,yY (by decide)];rfl
 |arr t u m=>
  intro d i;obtain⟨a,b,c⟩:=M6a [t] (by simpa using m) d i;have g:G0a 8 [] (ixT d.length [t])=⟨8,[],[],(ixT d.length [t]).headD 0⟩:=rfl;rw[ixT,ixT]at b c;simp only[uY,List.map_nil,List.cons.injEq,and_true]at c;refine N0b (by omega) a ?_ ?_
  · rw[g,ixT];exact .inr (.inr (.inl ⟨rfl,rfl,rfl,b _ (by simp)⟩))
  · rw[g,ixT];simp only[List.map_nil,zY];show Tr.nd 8 [] ((if True\/_ then [tr (d++M9 d.length [t]) (((d.length+nTy t:Nat):Int) - 1).toNat] else []))=_;rw[c,rY (.inl trivial)]
 |uni j q u m=>
  intro d i;obtain⟨a,b,c⟩:=M6a j m d i;have g:G0a 10 [] (ixT d.length j)=⟨10,[],ixT d.length j,0⟩:=rfl;refine N0b (by omega) a ?_ ?_
  · rw[g];exact .inr (.inr (.inr (.inr ⟨rfl,rfl,by show 2<=(ixT _ _).length;rw[R2a];exact q,b⟩)))
  · rw[g];simp only[List.map_nil];rw[c,yY (by decide)];rfl
 |fn t f u w F E=>
  intro d i;obtain⟨a,b,c⟩:=M6a f E d i;have l:(d++M9 d.length f).length=d.length+M3 f:=by rw[qQ,G9a]
  obtain⟨o,c2⟩:=F _ a;rw[l]at o c2;have r:(d++M9 d.length f++emT (d.length+M3 f) t).length=d.length+M3 f+nTy t:=by rw[qQ,l,D3a]
  have G:=M2a t;have e:d++emT d.length (.nd 9 [] (t::f))=d++M9 d.length f++emT (d.length+M3 f) t++[⟨9,[],ixT d.length f,((d.length+M3 f+nTy t:Nat):Int) - 1⟩]:=by
   rw[emT,rY rfl,emB];simp
  rw[e];have y:TyOk ⟨9,[],ixT d.length f,((d.length+M3 f+nTy t:Nat):Int) - 1⟩ (d++M9 d.length f++emT (d.length+M3 f) t).length:=by
   refine .inr (.inr (.inr (.inl ⟨rfl,rfl, ?_, ?_,λx v=> ?_⟩)))
   · show 0<=((d.length+M3 f+nTy t:Nat):Int) - 1;omega
   · show ((d.length+M3 f+nTy t:Nat):Int) - 1<_;rw[r];omega
   · have:=b x v;rw[l]at this;rw[r];omega
  refine⟨o.snoc y, ?_⟩;have z:d.length+nTy (.nd 9 [] (t::f)) - 1=(d++M9 d.length f++emT (d.length+M3 f) t).length:=by rw[r,nTy,M3];omega
  rw[z,N5a o y];simp only[List.map_nil,zY];rw[rY (.inr trivial)];have A:(((d.length+M3 f+nTy t:Nat):Int) - 1).toNat=d.length+M3 f+nTy t - 1:=by omega
  rw[A,c2];have B:(ixT d.length f).map (λx=>tr (d++M9 d.length f++emT (d.length+M3 f) t) x.toNat)=f:=by
   refine Eq.trans (List.map_congr_left λx v=> ?_) c;exact H3a _ a (by have:=b x v;omega)
  rw[B];rfl
mutual
theorem Y5c:∀(t:Nt),Wn t->∀a,TsOk a->TsOk (a++emY a.length t)
 | .ty none,_,a,h=>by simpa[emY]using h
 | .ty (some t),b,a,h=>by rw[emY];exact(K5c t b a h).1
 | .nd k f n c,b,a,h=>by rw[emY];rw[Wn]at b;exact B2c c b.2.2 a h
theorem B2c:∀(c:List Nt),WnL c->∀a,TsOk a->TsOk (a++W9 a.length c)
 |[],_,a,h=>by simpa[W9]using h
 |p::r,b,a,h=>by
  rw[WnL]at b;have e:=Y5c p b.1 a h;have d:=B2c r b.2 _ e;rw[qQ,I4a]at d;rw[W9,<-List.append_assoc];exact d
end
theorem G6a(k:Int)(a:bZ)(n:Int)(l:uZ):(mkN k a n l).text=a/\(mkN k a n l).n=n:=by
 unfold mkN;repeat' split
 all_goals exact⟨rfl,rfl⟩
theorem M2b:∀(a:List Nt) (b c:Nat),(ixL b c a).length=a.length
 |[],_,_=>rfl
 |p::r,b,c=>by rw[ixL,jQ,jQ,M2b r]
mutual
theorem X8d:∀(t:Nt),Wn t->∀(N:List Nd) (T:List Ty) (b d:List Nd) (a e:List Ty),N.map Nd.fl=b++emN b.length a.length t++d->T=a++emY a.length t++e->TsOk a->At N T t (ixN b.length a.length t)
 | .ty none,_,N,T,b,d,a,e,_,_,_=>by rw[At];rfl
 | .ty (some t),g,N,T,b,d,a,e,_,f,i=>by
  rw[At,ixN];obtain⟨l,s⟩:=K5c t g a i;have y:=M2a t;have q:(a++emT a.length t).length=a.length+nTy t:=by rw[qQ,D3a]
  rw[emY]at f;refine⟨a.length+nTy t - 1,by omega, ?_, ?_⟩
  · rw[f,qQ,q];omega
  · rw[f,H3a _ l (by rw[q];omega),s]
 | .nd k m n c,g,N,T,b,d,a,e,h,f,i=>by
  rw[Wn]at g;rw[At,ixN];rw[emY]at f;rw[emN]at h;have v:=congrArg List.length h;simp only[iZ,qQ,S7,jQ,xQ]at v;have o:b.length+nNL c<N.length:=by omega
  have j:(N[b.length+nNL c]).fl=mkN k m n (ixL b.length a.length c):=by
   have l:(N.map Nd.fl)[b.length+nNL c]'(by simpa using o)=(N[b.length+nNL c]).fl:=by simp
   rw[<-l];simp only[h];rw[List.getElem_append_left (by simp only[qQ,S7,jQ,xQ];omega),List.getElem_append_right (by omega)];rw[List.getElem_append_right (by rw[S7];omega)];simp[S7]
  have u:(N[b.length+nNL c]).kind=k:=(congrArg Nd.kind j).trans (B7a _ _ _ _);have x:(N[b.length+nNL c]).text=m:=(congrArg Nd.text j).trans (G6a _ _ _ _).1;have w:(N[b.length+nNL c]).n=n:=(congrArg Nd.n j).trans (G6a _ _ _ _).2;refine⟨b.length+nNL c,by rw[nN];omega,o,u,x,w,ixL b.length a.length c, ?_, ?_⟩
  · rw[<-T1d,j];exact T0d g.1 (by rw[iZ,M2b])
  · exact L0d c g.2.2 N T b ([mkN k m n (ixL b.length a.length c)]++d) a e (by rw[h];simp) f i
theorem L0d:∀(c:List Nt),WnL c->∀(N:List Nd) (T:List Ty) (b d:List Nd) (a e:List Ty),N.map Nd.fl=b++R9 b.length a.length c++d->T=a++W9 a.length c++e->TsOk a->AtL N T c (ixL b.length a.length c)
 |[],_,_,_,_,_,_,_,_,_,_=>by rw[AtL];rfl
 |p::r,g,N,T,b,d,a,e,h,f,i=>by
  rw[WnL]at g;rw[R9]at h;rw[W9]at f;rw[AtL,ixL];refine⟨_,_,rfl,X8d p g.1 N T b (R9 (b.length+nN p) (a.length+nT p) r++d) a (W9 (a.length+nT p) r++e) (by rw[h];simp) (by rw[f];simp) i, ?_⟩;have:=L0d r g.2 N T (b++emN b.length a.length p) d (a++emY a.length p) e (by rw[qQ,qQ,Z8,I4a,h];simp) (by rw[qQ,I4a,f];simp) (Y5c p g.1 a i);rw[qQ,qQ,Z8,I4a]at this;exact this
end
/-! ### How much it is -/
mutual
theorem R5a:∀t:Nt,Wn t->Gd t
 | .ty _,_=>by simp[Gd]
 | .nd k b n a,h=>by rw[Wn]at h;rw[Gd];exact⟨h.1,D1c a h.2.2⟩
theorem D1c:∀a:List Nt,WnL a->GdL a
 |[],_=>trivial
 |p::r,h=>⟨R5a p h.1,D1c r h.2⟩
end
mutual
theorem I3e:∀(t:Nt),Wn t->∀b c,∀m∈emN b c t,0<=m.n/\m.n<=999999999
 | .ty _,_,b,c,m,a=>by simp[emN]at a
 | .nd k e n d,h,b,c,m,a=>by
  rw[Wn]at h;rw[emN,qW,zW]at a;rcases a with a|rfl
  · exact X6d d h.2.2 b c m a
  · rw[(G6a _ _ _ _).2];have:=h.2.1;unfold own at this;split at this
    · omega
    split at this
    · have:=this.2;omega
    split at this
    · have:=this.2;omega
    split at this
    · have:=this.2;omega
    split at this
    · have:=this.2;omega
    split at this
    · have:=this.2;omega
    · have:=this.2.1;omega
theorem X6d:∀(d:List Nt),WnL d->∀b c,∀m∈R9 b c d,0<=m.n/\m.n<=999999999
 |[],_,b,c,m,a=>by simp[R9]at a
 |p::r,h,b,c,m,a=>by
  rw[R9,qW]at a;rcases a with a|a
  · exact I3e p h.1 b c m a
  · exact X6d r h.2 _ _ m a
end
def cTy:List Nt->Nat
 |[]=>0
 | .ty _::r=>cTy r+1
 | .nd _ _ _ _::r=>cTy r
theorem O0b:∀b a,cTy (b++a)=cTy b+cTy a
 |[],a=>by simp[cTy]
 | .ty _::r,a=>by rw[vZ,cTy,cTy,O0b r];omega
 | .nd _ _ _ _::r,a=>by rw[vZ,cTy,cTy,O0b r]
theorem W4b:∀a:List Nt,(∀p∈a,1<=p.k)->cTy a=0
 |[],_=>rfl
 | .ty o::r,h=>by
  have:=h (.ty o) (by simp);cases o<;>simp[Nt.k]at this
 | .nd _ _ _ _::r,h=>by rw[cTy];exact W4b r λp b=>h p (by simp[b])
theorem D5a{a:List Nt}{l:uZ}(h:a.map Nt.k=l)(b:∀x∈l,1<=x):cTy a=0:=by
 refine W4b a λp c=>b _ ?_;rw[<-h];exact List.mem_map_of_mem c
theorem P1a:∀a:List Nt,cTy a<=a.length
 |[]=>vQ _
 | .ty o::r=>by have:=P1a r;rw[cTy,jQ];omega
 | .nd _ _ _ _::r=>by have:=P1a r;rw[cTy,jQ];omega
theorem D5b{p:Nt}(h:1<=p.k)(r:List Nt):cTy (p::r)=cTy r:=by
 cases p with
 |nd k b n a=>rfl
 |ty o=>cases o<;>simp[Nt.k]at h
theorem I0{c A B:Prop}[Decidable c](h:if c then A else B):(c/\A)\/(¬c/\B):=by
 by_cases a:c
 · rw[rY a]at h;exact .inl ⟨a,h⟩
 · rw[yY a]at h;exact .inr ⟨a,h⟩
theorem L0b{k:Int}{g:List Nt}(h:shp k (g.map Nt.k)):cTy g<=1:=by
 unfold shp at h;rcases I0 h with ⟨_,h⟩|⟨_,h⟩
 · rw[D5a h (by simp)];omega
 rcases I0 h with ⟨_,h⟩|⟨_,h⟩
 · obtain⟨j,r,h,p,C⟩:=h;have B:g.length=j.length+2:=by have:=congrArg List.length h;simpa using this
   have e:g=g.take j.length++g.drop j.length:=(List.take_append_drop _ _).symm;have m:(g.take j.length).map Nt.k=j:=by rw[List.map_take,h];simp
   have q:(g.drop j.length).map Nt.k=[r,26]:=by rw[List.map_drop,h];simp
   obtain⟨a,b,s,v,w⟩:=k2 q;rw[e,O0b,D5a m (λx f=>by rw[p x f];omega),s];have:cTy [b]=0:=D5b (by omega) [];cases a<;>(simp only[cTy]at this⊢;omega)
 rcases I0 h with ⟨_,h⟩|⟨_,h⟩
 · obtain⟨x,j,h,f,t⟩:=h;rw[D5a h (λy d=>by rcases jW.1 d with rfl|d;exact f.1;exact(t y d).1)];omega
 rcases I0 h with ⟨_,h⟩|⟨_,h⟩
 · obtain⟨x,h,_⟩:=h;obtain⟨a,rfl,_⟩:=k1 h;exact P1a [a]
 rcases I0 h with ⟨_,h⟩|⟨_,h⟩
 · obtain⟨x,y,h,f,d⟩:=h;rw[D5a h (λz i=>by simp at i;rcases i with rfl|rfl;exact f.1;exact d.1)];omega
 rcases I0 h with ⟨_,h⟩|⟨_,h⟩
 · rw[D5a rfl (λy d=>by rw[h y d];omega)];omega
 rcases I0 h with ⟨_,h⟩|⟨_,h⟩
 · rw[D5a rfl (λy d=>(h y d).1)];omega
 rcases I0 h with ⟨_,h⟩|⟨_,h⟩
 · obtain⟨x,h,f⟩:=h;obtain⟨a,b,rfl,l,n⟩:=k2 h;rw[D5b (by rw[l];exact f.1)];exact P1a [b]
 rcases I0 h with ⟨_,h⟩|⟨_,h⟩
 · obtain⟨x,h,_⟩:=h;obtain⟨a,rfl,_⟩:=k1 h;exact P1a [a]
 rcases I0 h with ⟨_,h⟩|⟨_,h⟩
 · obtain⟨x,y,h,f,d⟩:=h;obtain⟨a,b,rfl,l,n⟩:=k2 h;have m:cTy [b]=0:=D5b (by rw[n];exact d.1) [];cases a<;>(simp only[cTy]at m⊢;omega)
 rcases I0 h with ⟨_,h⟩|⟨_,h⟩
 · obtain⟨x,y,z,h,f,d,i⟩:=h;rw[D5a h (λu o=>by simp at o;rcases o with rfl|rfl|rfl;exact f.1;exact d.1;exact i.1)];omega
 rcases I0 h with ⟨_,h⟩|⟨_,h⟩
 · obtain⟨x,z,h,f,_⟩:=h;obtain⟨a,b,c,rfl,l,n,A⟩:=k3 h;rw[D5b (by rw[l];exact f.1),D5b (by omega)];exact P1a [c]
 rcases I0 h with ⟨_,h⟩|⟨_,h⟩
 · obtain⟨x,h,f⟩:=h;rw[D5a h (λz i=>by simp at i;rcases i with rfl|rfl;exact f.1;omega)];omega
 rcases I0 h with ⟨_,h⟩|⟨_,h⟩
 · rw[D5a rfl (λy d=>by have:=h y d;omega)];omega
 · exact h.elim
mutual
theorem Z4d:∀t:Nt,Gd t->szN t<=2 * nN t+1/\(1<=t.k->szN t<=2 * nN t)
 | .ty o,_=>⟨by simp[szN],λh=>by cases o<;>simp[Nt.k]at h⟩
 | .nd k e n a,h=>by
  rw[Gd]at h;have c:=P6a a h.2;have f:=L0b h.1;rw[szN,nN];exact⟨by omega,λ_=>by omega⟩
theorem P6a:∀a:List Nt,GdL a->D8 a<=2 * nNL a+cTy a
 |[],_=>by simp[D8]
 | .ty o::r,h=>by
  have c:=P6a r h.2;rw[D8,nNL,cTy,szN,nN];omega
 | .nd k e n d::r,h=>by
  have c:=P6a r h.2;have b:=h.1;rw[Gd]at b;have g:=P6a d b.2;have i:=L0b b.1;rw[D8,nNL,cTy,szN,nN];omega
end
/-! ### The F9a of types are short -/
theorem M2d{c d:Type}(a:List c)(b:List d):(a.zip b).length<=b.length:=by rw[List.length_zip];omega
theorem M0b:∀a:List Tr,a.length<=M3 a
 |[]=>vQ _
 |t::r=>by have:=M0b r;have:=M2a t;rw[M3,jQ];omega
mutual
theorem I9d:∀(t:Tr) (b:Nat),∀y∈emT b t,y.list.length<=nTy t/\y.fields.length<=nTy t
 | .nd k f c,b,y,a=>by
  rw[nTy];rw[emT]at a;split at a
  · exact D5e c b y a
  · rw[qW,zW]at a;rcases a with a|rfl
    · have:=E6c c b y a;omega
    · have d:=M0b c;have g:=M2d f (ixT b c);have e:=R2a c b;unfold G0a;repeat' split
      all_goals (simp only[xQ];omega)
theorem E6c:∀(c:List Tr) (b:Nat),∀y∈M9 b c,y.list.length<=M3 c/\y.fields.length<=M3 c
 |[],b,y,a=>by simp[M9]at a
 |t::r,b,y,a=>by
  rw[M9,qW]at a;rw[M3];rcases a with a|a
  · have:=I9d t b y a;omega
  · have:=E6c r _ y a;omega
theorem D5e:∀(c:List Tr) (b:Nat),∀y∈emB b c,y.list.length<=M3 c+1/\y.fields.length<=M3 c+1
 |[],b,y,a=>by
  rw[emB,zW]at a;subst a;simp
 |t::r,b,y,a=>by
  rw[emB,qW,qW,zW]at a;rw[M3];rcases a with (a|a)|rfl
  · have:=E6c r _ y a;omega
  · have:=I9d t _ y a;omega
  · have d:=M0b r;have e:=R2a r b;simp only[xQ];omega
end
mutual
theorem D3e:∀(t:Nt) (b:Nat),∀y∈emY b t,y.list.length<=nT t/\y.fields.length<=nT t
 | .ty none,b,y,a=>by simp[emY]at a
 | .ty (some t),b,y,a=>by rw[emY]at a;rw[nT];exact I9d t b y a
 | .nd k d n c,b,y,a=>by rw[emY]at a;rw[nT];exact N3b c b y a
theorem N3b:∀(c:List Nt) (b:Nat),∀y∈W9 b c,y.list.length<=nTL c/\y.fields.length<=nTL c
 |[],b,y,a=>by simp[W9]at a
 |p::r,b,y,a=>by
  rw[W9,qW]at a;rw[nTL];rcases a with a|a
  · have:=D3e p b y a;omega
  · have:=N3b r _ y a;omega
end
theorem X9b(l:bZ)(c:UInt8):C7a (l++[c])=10 * C7a l+(c.toNat:Int) - 48:=by simp[C7a,List.foldl_append]
theorem K9c(u:Nat):(∀c∈Lib.decDigits u,dig c.toNat=true)/\C7a (Lib.decDigits u)=u/\Lib.decDigits u≠[]/\(1<=u->(Lib.decDigits u).head? ≠some 48):=by
 induction u using Nat.strongRecOn with
 |ind u l=>
  have d:∀v,v<10->(UInt8.ofNat (48+v)).toNat=48+v:=λv m=>by simp;omega
  by_cases h:u<10
  · rw[Lib.decDigits,dif_pos h];refine⟨λc b=> ?_, ?_,by simp,λf=> ?_⟩
    · rw[zW]at b;subst b;rw[d u h];simp[dig];omega
    · rw[show C7a [UInt8.ofNat (48+u)]=10 * 0+((UInt8.ofNat (48+u)).toNat:Int) - 48 from rfl,d u h];omega
    · simp only[List.head?_cons,ne_eq,zQ];intro e;have:=congrArg UInt8.toNat e;rw[d u h]at this;simp at this;omega
  · rw[Lib.decDigits,dif_neg h];obtain⟨f,i,j,k⟩:=l (u / 10) (by omega);refine⟨λc b=> ?_, ?_,by simp,λ_=> ?_⟩
    · rw[qW,zW]at b;rcases b with b|rfl
      · exact f c b
      · rw[d _ (by omega)];simp[dig];omega
    · rw[X9b,i,d _ (by omega)];omega
    · have:=k (by omega);cases g:Lib.decDigits (u / 10) with
      |nil=>exact absurd g j
      |cons a r=>rw[g]at this;simpa using this
theorem K8c(u:Nat)(h:u<1000000000):(Lib.decDigits u).length<=9:=by
 rw[Lib.decDigits_length];by_cases c:Lib.nDigits u<=9
 · exact c
 · exfalso;have d:∀k v,v<10 ^ (k+1)->Lib.nDigits v<=k+1:=by
    intro k;induction k with
    |zero=>intro v a;rw[Lib.nDigits_small (by simpa using a)];exact vQ _
    |succ k e=>
     intro v a;by_cases b:v<10
     · rw[Lib.nDigits_small b];omega
     · rw[Lib.nDigits_big b];have:=e (v / 10) (by rw[Nat.pow_succ]at a;omega);omega
   have:=d 8 u (by simpa using h);omega
theorem R3a{n:Int}(h:0<=n):Lib.itoa n=Lib.decDigits n.toNat:=by rw[Lib.itoa,yY (by omega)]
/-! ### The lengths -/
def SL:List Tr->Nat
 |[]=>0
 |t::r=>(txt' t).length+30+SL r
theorem W5d:∀(b:List Tr) (a:List bZ),(∀n∈a,n.length<=20)->(N4a a b).length<=SL b
 |[],a,_=>by simp[N4a]
 |t::r,a,h=>by
  have d:=W5d r a.tail (λn c=>h n (List.mem_of_mem_tail c));have e:(a.headD []).length<=20:=by
   cases a with
   |nil=>simp
   |cons n a=>exact h n (by simp)
  rw[N4a,SL];simp only[qQ,jQ,xQ];omega
theorem W6d:∀(b:List Tr) (a:Bool),(D1a a b).length<=SL b
 |[],_=>by simp[D1a]
 |t::r,a=>by
  have c:=W6d r false;rw[D1a,SL];cases a<;>simp only[qQ,jQ,xQ,rZ,if_false,if_true]<;>omega
theorem W4d:∀(b:List Tr) (a:Bool),(C2a a b).length<=SL b
 |[],_=>by simp[C2a]
 |t::r,a=>by
  have c:=W4d r false;have d:(if t.k=10\/t.k=9/\r.length≠0 then [40]++txt' t++[41] else txt' t).length<=(txt' t).length+2:=by split<;>simp
  have e:(if a=true then ([]:bZ) else [32,124,32]).length<=3:=by split<;>simp
  rw[C2a,SL,qQ,qQ];omega
theorem M0c:∀a:List Tr,(∀x∈a,(txt' x).length+30<=40 * nTy x)->SL a<=40 * M3 a
 |[],_=>by simp[SL]
 |t::r,h=>by
  have c:=M0c r λx b=>h x (by simp[b]);have d:=h t (by simp);rw[SL,M3];omega
theorem S1d(t:Tr)(h:Wf t):(txt' t).length+30<=40 * nTy t:=by
 induction h with
 |plain k f g=>
  have i:txt' (.nd k [] [])=U2 k:=by rw[txt',yY (by omega),yY (by omega),yY (by omega),yY (by omega)]
  have j:k=1\/k=2\/k=3\/k=4\/k=5\/k=6:=by omega
  rw[i,nTy,M3];rcases j with rfl|rfl|rfl|rfl|rfl|rfl<;>decide
 |obj c a p _ l _ b=>
  have f:=M0c a b;have g:=W5d a c λn m=>(l n m).2.1;have e:txt' (.nd 7 c a)=[123]++N4a c a++(if c.length=0 then [] else [32])++[125]:=by simp[txt']
  rw[e,nTy];split<;>simp only[qQ,jQ,xQ]<;>omega
 |arr t _ b=>
  have e:txt' (.nd 8 [] [t])=[91]++txt' t++[93]:=by simp[txt',N0c]
  rw[e,nTy,M3,M3];simp only[qQ,jQ,xQ];omega
 |fn t d _ _ q o=>
  have f:=M0c d o;have g:=W6d d true;have e:txt' (.nd 9 [] (t::d))=[40]++D1a true d++[41,32,61,62,32]++txt' t:=by simp[txt',Y1b]
  rw[e,nTy,M3];simp only[qQ,jQ,xQ];omega
 |uni a _ _ b=>
  have f:=M0c a b;have g:=W4d a true;have e:txt' (.nd 10 [] a)=C2a true a:=by simp[txt']
  rw[e,nTy];omega
def SP(M:Nat):List Pc->Nat
 |[]=>0
 |c::r=>c.s.length+4+2 * M+SP M r
theorem L5d(M:Nat):∀a b:List Pc,SP M (a++b)=SP M a+SP M b
 |[],b=>by simp[SP]
 |c::r,b=>by rw[vZ,SP,SP,L5d M r];omega
theorem R0a(M:Nat):∀a:List Pc,(U6 [44,32] a).length<=SP M a
 |[]=>by simp[U6]
 |[c]=>by simp only[U6,SP];omega
 |c::x::r=>by
  have b:=R0a M (x::r);rw[U6,SP]
  · simp only[qQ,jQ,xQ];omega
  · simp
theorem B4b(l:Nat)(c:Pc):(wi l c).length<=c.s.length+2:=by
 unfold wi;split<;>simp
theorem U4a(c:Pc):(E6a c).length<=c.s.length+2:=by
 unfold E6a;split<;>simp
theorem E2d(d:Nat):(mg d).length=2 * d:=by
 induction d with
 |zero=>rfl
 |succ d a=>
  rw[mg,List.replicate_succ,List.flatten_cons,qQ];rw[mg]at a;rw[a];simp only[jQ,xQ];omega
theorem U3a(M:Nat)(d:Nat)(e:d<=M):∀a:List Pc,(I1 d a).length<=SP M a
 |[]=>by simp[I1]
 |c::r=>by
  have b:=U3a M d e r;rw[I1]at b⊢;rw[List.flatMap_cons,SP];simp only[qQ,jQ,xQ,E2d];omega
theorem E5d(M:Nat)(d:List Pc):(c0 d).s.length+(c1 d).s.length+(c2 d).s.length<=SP M d:=by
 rcases d with _|⟨a,_|⟨b,_|⟨c,r⟩⟩⟩
 · simp[c0,c1,c2,pc0]
 · simp[c0,c1,c2,pc0,SP];omega
 · simp[c0,c1,c2,pc0,SP];omega
 · simp[c0,c1,c2,SP];omega
theorem E3d(M:Nat)(c:List Pc):(U6 [44,32] c.dropLast.dropLast).length+(c.dropLast.getLastD pc0).s.length+(c.getLastD pc0).s.length<=SP M c:=by
 have e:c=[]\/(∃a,c=[a])\/∃d a b,c=d++[a,b]:=by
  rcases List.eq_nil_or_concat c with rfl|⟨d,b,rfl⟩
  · exact .inl rfl
  · rcases List.eq_nil_or_concat d with rfl|⟨ys,a,rfl⟩
    · exact .inr (.inl ⟨b,by simp⟩)
    · exact .inr (.inr ⟨ys,a,b,by simp⟩)
 rcases e with rfl|⟨a,rfl⟩|⟨d,a,b,rfl⟩
 · simp[U6,pc0]
 · simp[U6,pc0,SP];omega
 · have f:=R0a M d;rw[dl3,dl4,dl5,L5d,SP,SP,SP];omega
theorem E1d(M:Nat)(b:List Pc):(c0 b).s.length+(U6 [44,32] b.tail).length<=SP M b:=by
 cases b with
 |nil=>simp[c0,pc0,U6]
 |cons a r=>
  have c:=R0a M r;simp only[c0,List.getD_cons_zero,List.tail_cons,SP];omega
theorem E6d(b:Bool):(Lib.formatBool b).length<=5:=by cases b<;>decide+kernel
theorem E4d(n:Int)(h:0<=n/\n<=999999999):(Lib.itoa n).length<=9:=by
 rw[R3a h.1];exact K8c _ (by omega)
theorem L9b{c:Prop}[Decidable c]{a b:bZ}{n:Nat}(e:a.length<=n)(f:b.length<=n):(if c then a else b).length<=n:=by
 by_cases d:c
 · rw[rY d];exact e
 · rw[yY d];exact f
theorem S2d(M:Nat)(k:Int)(b:bZ)(n:Int)(a:List Pc)(s:b.length<=30)(e:0<=n/\n<=999999999):(prE k b n a).length<=SP M a+60:=by
 have o:=E5d M a;have p:=E3d M a;have q:=E1d M a;have r:=R0a M a;have c:=E6d (n==1);have d:=E4d n e;have a1:=B4b 5 (c0 a);have g:=B4b 4 (c0 a);have h:=B4b (if bnK k b=1 then 2 else bnK k b) (c0 a);have i:=B4b (bnK k b+1) (c1 a);have j:=U4a (c0 a);have l:=U4a (a.dropLast.getLastD pc0);have m:(if b=[116,121,112,101,111,102] then [32] else ([]:bZ)).length<=1:=by split<;>decide
 unfold prE;generalize Lib.itoa n=f at d⊢;generalize Lib.formatBool (n==1)=B at c⊢;repeat' (refine L9b ?_ ?_)
 all_goals (first|omega|(simp only[qQ,jQ,xQ];omega))
theorem J5c(M d:Nat)(c:d+1<=M)(k:Int)(b:bZ)(a:List Pc)(j:b.length<=30):(prS d k b a).length<=SP M a+60+2 * M:=by
 have i:=E5d M a;have a1:=B4b 5 (c0 a);have e:=U4a (c0 a);have f:=U3a M (d+1) c a;have g:=E2d d;have h:(if (c2 a).k= -1 then [] else [32,101,108,115,101,32]++(c2 a).s).length<=(c2 a).s.length+6:=L9b (by simp) (by simp);unfold prS;repeat' (refine L9b ?_ ?_)
 all_goals (first|omega|(simp only[qQ,jQ,xQ];omega))
theorem Y4c{k:Int}{a:bZ}{n:Int}{b:List Nt}(h:own k a n b):a.length<=30/\0<=n/\n<=999999999:=by
 unfold own at h;rcases I0 h with ⟨_,h⟩|⟨_,h⟩
 · rw[h.1];exact⟨by simp,h.2⟩
 rcases I0 h with ⟨_,h⟩|⟨_,h⟩
 · exact⟨h.1.1,by omega⟩
 rcases I0 h with ⟨_,h⟩|⟨_,h⟩
 · rw[h.1];exact⟨by simp,by omega⟩
 rcases I0 h with ⟨_,h⟩|⟨_,h⟩
 · have:=h.1.2.1;exact⟨by omega,by omega⟩
 rcases I0 h with ⟨_,h⟩|⟨_,h⟩
 · refine⟨?_,by omega⟩;have:=h.1;simp only[jW,qZ,or_false]at this;rcases this with rfl|rfl|rfl|rfl|rfl<;>decide
 rcases I0 h with ⟨_,h⟩|⟨_,h⟩
 · refine⟨?_,by omega⟩;have:=h.1;simp only[jW,qZ,or_false]at this;rcases this with rfl|rfl|rfl<;>decide
 · rw[h.1];exact⟨by simp,by omega⟩
mutual
theorem C1e(M K:Nat)(c:200+4 * M<=K):∀(t:Nt) (d:Nat),Wn t->d+szN t<=M->(pr d t).length+4+2 * M<=K * (szN t+nT t)
 | .ty none,d,_,_=>by
  simp only[pr,szN,nT,xQ];omega
 | .ty (some t),d,b,_=>by
  have g:=S1d t b;have h:K * nTy t≥40 * nTy t:=Nat.mul_le_mul_right _ (by omega);simp only[pr,szN,nT];rw[Nat.mul_add,Nat.mul_one];omega
 | .nd k f n a,d,b,j=>by
  rw[Wn]at b;rw[szN]at j;have i:=Y4c b.2.1;have e:K * (szN (.nd k f n a)+nT (.nd k f n a))=K * (D8 a+nTL a)+K:=by
   rw[szN,nT,show D8 a+1+nTL a=D8 a+nTL a+1 by omega,Nat.mul_add,Nat.mul_one]
  rw[e,pr];split
  · have g:=Q9a M K c a (d+1) b.2.2 (by omega);have h:=J5c M d (by omega) k f (prL (d+1) a) i.1;omega
  split
  · have g:=Q9a M K c a d b.2.2 (by omega);have h:=S2d M k f n (prL d a) i.1 i.2;omega
  · have g:=Q9a M K c a d b.2.2 (by omega);have h:=J5c M d (by omega) k f (prL d a) i.1;omega
theorem Q9a(M K:Nat)(c:200+4 * M<=K):∀(a:List Nt) (d:Nat),WnL a->d+D8 a<=M->SP M (prL d a)<=K * (D8 a+nTL a)
 |[],d,_,_=>by simp[prL,SP]
 |p::r,d,b,j=>by
  rw[D8]at j;have g:=C1e M K c p d b.1 (by omega);have h:=Q9a M K c r d b.2 (by omega);rw[prL,SP,D8,nTL,show szN p+D8 r+(nT p+nTL r)=(szN p+nT p)+(D8 r+nTL r) by omega,Nat.mul_add];simp only;omega
end
inductive Sh:Nt->Prop
 |ty0:Sh (.ty none)
 |ty1 (t:Tr):Wf t->Sh (.ty (some t))
 |n1 (n:Int):0<=n/\n<=999999999->Sh (.nd 1 [] n [])
 |n2 (tx:bZ):(tx.length<=30/\∀c∈tx,txt c.toNat=true)->Sh (.nd 2 tx 0 [])
 |n3 (n:Int):n=0\/n=1->Sh (.nd 3 [] n [])
 |n4:Sh (.nd 4 [] 0 [])
 |n5 (tx:bZ):S4 tx->Sh (.nd 5 tx 0 [])
 |n6 (ps:List Nt) (a b:Nt):(∀p∈ps,Wn p/\p.k=16)->(ps.map Nt.tx).Nodup->Wn a->isT a.k->Wn b->b.k=26->Sh (.nd 6 [] 0 (ps++[a,b]))
 |n7 (a:Nt) (ps:List Nt):Wn a->isE a.k->(∀p∈ps,Wn p/\isE p.k)->Sh (.nd 7 [] 0 (a::ps))
 |n8 (tx:bZ) (a:Nt):S4 tx->Wn a->isE a.k->Sh (.nd 8 tx 0 [a])
 |n9 (a b:Nt):Wn a->isE a.k->Wn b->isE b.k->Sh (.nd 9 [] 0 [a,b])
 |n10 (ps:List Nt):(∀p∈ps,Wn p/\p.k=15)->(ps.map Nt.tx).Nodup->Sh (.nd 10 [] 0 ps)
 |n11 (ps:List Nt):(∀p∈ps,Wn p/\isE p.k)->Sh (.nd 11 [] 0 ps)
 |n12 (tx:bZ) (a b:Nt):tx∈[[61,61],[60],[43],[45],[42]]->Wn a->isE a.k->Wn b->isE b.k->Sh (.nd 12 tx 0 [a,b])
 |n13 (tx:bZ) (a:Nt):tx∈[[33],[45],[116,121,112,101,111,102]]->Wn a->isE a.k->Sh (.nd 13 tx 0 [a])
 |n14 (a:Nt) (t:Tr):Wn a->isE a.k->Wf t->Sh (.nd 14 [] 0 [a,.ty (some t)])
 |n15 (tx:bZ) (a:Nt):S4 tx->Wn a->isE a.k->Sh (.nd 15 tx 0 [a])
 |n16 (tx:bZ) (a:Nt):S4 tx->Wn a->isT a.k->Sh (.nd 16 tx 0 [a])
 |n17 (tx:bZ) (a b:Nt):S4 tx->Wn a->isT a.k->Wn b->isE b.k->Sh (.nd 17 tx 0 [a,b])
 |n18 (tx:bZ) (a:Nt):S4 tx->Wn a->isE a.k->Sh (.nd 18 tx 0 [a])
 |n19 (tx:bZ) (a b:Nt):S4 tx->Wn a->isE a.k->Wn b->isE b.k->Sh (.nd 19 tx 0 [a,b])
 |n20 (a b c:Nt):Wn a->isE a.k->Wn b->isE b.k->Wn c->isE c.k->Sh (.nd 20 [] 0 [a,b,c])
 |n21 (a:Nt):Wn a->isE a.k->Sh (.nd 21 [] 0 [a])
 |n22 (a b c:Nt):Wn a->isE a.k->Wn b->b.k=26->Wn c->c.k=26\/c.k= -1->Sh (.nd 22 [] 0 [a,b,c])
 |n23 (a b:Nt):Wn a->isE a.k->Wn b->b.k=26->Sh (.nd 23 [] 0 [a,b])
 |n24 (a:Nt):Wn a->isE a.k->Sh (.nd 24 [] 0 [a])
 |n25 (a:Nt):Wn a->isE a.k->Sh (.nd 25 [] 0 [a])
 |n26 (ps:List Nt):(∀p∈ps,Wn p/\17<=p.k/\p.k<=25)->Sh (.nd 26 [] 0 ps)
theorem K6a{a:Nt}(b:Wn a)(h:isT a.k):∃t,a= .ty t:=E5a (R5a a b) h
theorem H8e{a:Nt}(b:Wn a)(h:a.k=0):∃t,a= .ty (some t)/\Wf t:=by
 obtain⟨t,rfl⟩:=K6a b (.inr h);cases t with
 |none=>simp[Nt.k]at h
 |some t=>exact⟨t,rfl,b⟩
theorem W5{t:Nt}(h:Wn t):Sh t:=by
 cases t with
 |ty o=>
  cases o with
  |none=>exact .ty0
  |some t=>exact .ty1 t h
 |nd a9 f n m=>
  rw[Wn]at h;obtain⟨d,i,k⟩:=h;rw[E8a]at k;have B:∀p∈m,p.k∈m.map Nt.k:=λp l=>List.mem_map_of_mem l;unfold shp at d;rcases I0 d with ⟨g,d⟩|⟨S,d⟩
  · have M:m=[]:=by simpa using d
    subst M;rcases g with rfl|rfl|rfl|rfl|rfl
    · obtain⟨rfl,h⟩:f=[]/\0<=n/\n<=999999999:=i;exact .n1 n h
    · obtain⟨h,rfl⟩:(f.length<=30/\∀c∈f,txt c.toNat=true)/\n=0:=i;exact .n2 f h
    · obtain⟨rfl,h⟩:f=[]/\(n=0\/n=1):=i;exact .n3 n h
    · obtain⟨rfl,rfl⟩:f=[]/\n=0:=by simpa[own]using i
      exact .n4
    · obtain⟨h,rfl⟩:S4 f/\n=0:=i;exact .n5 f h
  rcases I0 d with ⟨g,d⟩|⟨Z,d⟩
  · subst g;obtain⟨rfl,rfl,w⟩:f=[]/\n=0/\(m.dropLast.dropLast.map Nt.tx).Nodup:=by simpa[own]using i
    obtain⟨v,r,h,F,N⟩:=d;have e:m=m.take v.length++m.drop v.length:=(List.take_append_drop _ _).symm;have E:(m.take v.length).map Nt.k=v:=by rw[List.map_take,h];simp
    have G:(m.drop v.length).map Nt.k=[r,26]:=by rw[List.map_drop,h];simp
    obtain⟨a,b,H,K,L⟩:=k2 G;rw[H]at e;generalize m.take v.length=D at e E;subst e;rw[dl3]at w;refine .n6 D a b (λp l=>⟨k p (by simp[l]),F _ ?_⟩) w (k a (by simp)) (by rw[K];exact N) (k b (by simp)) L;rw[<-E];exact List.mem_map_of_mem l
  rcases I0 d with ⟨g,d⟩|⟨a2,d⟩
  · subst g;obtain⟨rfl,rfl⟩:f=[]/\n=0:=by simpa[own]using i
    obtain⟨x,v,h,j,R⟩:=d;cases m with
    |nil=>simp at h
    |cons a D=>
     simp only[uY,List.cons.injEq]at h;refine .n7 a D (k a (by simp)) (by rw[h.1];exact j) λp l=>⟨k p (by simp[l]),R _ ?_⟩;rw[<-h.2];exact List.mem_map_of_mem l
  rcases I0 d with ⟨g,d⟩|⟨a3,d⟩
  · obtain⟨x,h,j⟩:=d;obtain⟨a,rfl,rfl⟩:=k1 h;have q:=k a (by simp);rcases g with rfl|rfl|rfl|rfl|rfl|rfl|rfl
    · obtain⟨h,rfl⟩:S4 f/\n=0:=i;exact .n8 f a h q j
    · obtain⟨h,rfl⟩:f∈[[33],[45],[116,121,112,101,111,102]]/\n=0:=i;exact .n13 f a h q j
    · obtain⟨h,rfl⟩:S4 f/\n=0:=i;exact .n15 f a h q j
    · obtain⟨h,rfl⟩:S4 f/\n=0:=i;exact .n18 f a h q j
    · obtain⟨rfl,rfl⟩:f=[]/\n=0:=by simpa[own]using i
      exact .n21 a q j
    · obtain⟨rfl,rfl⟩:f=[]/\n=0:=by simpa[own]using i
      exact .n24 a q j
    · obtain⟨rfl,rfl⟩:f=[]/\n=0:=by simpa[own]using i
      exact .n25 a q j
  rcases I0 d with ⟨g,d⟩|⟨a4,d⟩
  · obtain⟨x,y,h,j,u⟩:=d;obtain⟨a,b,rfl,rfl,rfl⟩:=k2 h;have q:=k a (by simp);have s:=k b (by simp);rcases g with rfl|rfl|rfl
    · obtain⟨rfl,rfl⟩:f=[]/\n=0:=by simpa[own]using i
      exact .n9 a b q j s u
    · obtain⟨h,rfl⟩:f∈[[61,61],[60],[43],[45],[42]]/\n=0:=i;exact .n12 f a b h q j s u
    · obtain⟨h,rfl⟩:S4 f/\n=0:=i;exact .n19 f a b h q j s u
  rcases I0 d with ⟨g,d⟩|⟨a5,d⟩
  · subst g;obtain⟨rfl,rfl,w⟩:f=[]/\n=0/\(m.map Nt.tx).Nodup:=by simpa[own]using i
    exact .n10 m (λp l=>⟨k p l,d _ (B p l)⟩) w
  rcases I0 d with ⟨g,d⟩|⟨a6,d⟩
  · subst g;obtain⟨rfl,rfl⟩:f=[]/\n=0:=by simpa[own]using i
    exact .n11 m λp l=>⟨k p l,d _ (B p l)⟩
  rcases I0 d with ⟨g,d⟩|⟨a7,d⟩
  · subst g;obtain⟨rfl,rfl⟩:f=[]/\n=0:=by simpa[own]using i
    obtain⟨x,h,j⟩:=d;obtain⟨a,b,rfl,rfl,s⟩:=k2 h;obtain⟨t,rfl,P⟩:=H8e (k b (by simp)) s;exact .n14 a t (k a (by simp)) j P
  rcases I0 d with ⟨g,d⟩|⟨a8,d⟩
  · subst g;obtain⟨A,rfl⟩:S4 f/\n=0:=i;obtain⟨x,h,j⟩:=d;obtain⟨a,rfl,rfl⟩:=k1 h;exact .n16 f a A (k a (by simp)) j
  rcases I0 d with ⟨g,d⟩|⟨T,d⟩
  · subst g;obtain⟨A,rfl⟩:S4 f/\n=0:=i;obtain⟨x,y,h,j,u⟩:=d;obtain⟨a,b,rfl,rfl,rfl⟩:=k2 h;exact .n17 f a b A (k a (by simp)) j (k b (by simp)) u
  rcases I0 d with ⟨g,d⟩|⟨V,d⟩
  · subst g;obtain⟨rfl,rfl⟩:f=[]/\n=0:=by simpa[own]using i
    obtain⟨x,y,z,h,j,u,C⟩:=d;obtain⟨a,b,c,rfl,rfl,rfl,rfl⟩:=k3 h;exact .n20 a b c (k a (by simp)) j (k b (by simp)) u (k c (by simp)) C
  rcases I0 d with ⟨g,d⟩|⟨W,d⟩
  · subst g;obtain⟨rfl,rfl⟩:f=[]/\n=0:=by simpa[own]using i
    obtain⟨x,z,h,j,C⟩:=d;obtain⟨a,b,c,rfl,rfl,s,rfl⟩:=k3 h;exact .n22 a b c (k a (by simp)) j (k b (by simp)) s (k c (by simp)) C
  rcases I0 d with ⟨g,d⟩|⟨X,d⟩
  · subst g;obtain⟨rfl,rfl⟩:f=[]/\n=0:=by simpa[own]using i
    obtain⟨x,h,j⟩:=d;obtain⟨a,b,rfl,rfl,s⟩:=k2 h;exact .n23 a b (k a (by simp)) j (k b (by simp)) s
  rcases I0 d with ⟨g,d⟩|⟨Y,d⟩
  · subst g;obtain⟨rfl,rfl⟩:f=[]/\n=0:=by simpa[own]using i
    exact .n26 m λp l=>⟨k p l,d _ (B p l)⟩
  · exact d.elim
def X0c:List bZ:=[[61,61],[61,62],[40],[41],[123],[125],[91],[93],[44],[59],[58],[46],[60],[43],[45],[42],[33],[124]]
theorem T9{m r:bZ}{b:List TT}(a:m∈X0c)(h:Lex r b):Lex (m++r) (sgQ m::b):=by
 refine Lex.tok m r b 5 m ?_ ?_ h
 · simp only[X0c,jW,qZ,or_false]at a;rcases a with rfl|rfl|rfl|rfl|rfl|rfl|rfl|rfl|rfl|rfl|rfl|rfl|rfl|rfl|rfl|rfl|rfl|rfl<;>simp[firstQ,T3a,I7,A1a,dig,let']
 · rintro rfl;exact absurd a (by decide)
theorem J4c{r:bZ}{a:List TT}(h:Lex (32::r) a):Lex ([61]++32::r) (sgQ [61]::a):=by
 refine Lex.tok [61] (32::r) a 5 [61] ?_ (by simp) h;simp[firstQ,T3a,I7,A1a,dig,let']
theorem T1c:∀w∈G0c,w≠[]/\w.length<=20/\(∀c∈w,nam c.toNat=true)/\(w.head?.all λc=>let' c.toNat)=true/\X9 w=true:=by decide
theorem X1a{w r:bZ}{a:List TT}(k:w∈G0c)(j:Del r)(h:Lex r a):Lex (w++r) ((2,w)::a):=by
 obtain⟨b,e,f,d,g⟩:=T1c w k;refine Lex.tok w r a 2 w ?_ b h;rw[O9a w r b e f (λc i=>by rw[i]at d;simpa using d) j,g];simp
theorem lexT{a r:bZ}{b:List TT}(g:a.length<=30/\∀c∈a,txt c.toNat=true)(h:Lex r b):Lex ([34]++a++[34]++r) ((4,a)::b):=by
 refine Lex.tok ([34]++a++[34]) r b 4 a ?_ (by simp) h;have e:[34]++a++[34]++r=34::(a++34::r):=by simp
 have f:sp txt (a++34::r)=a.length:=K8b txt a (34::r) g.2 (λc d=>by simp at d;subst d;decide);rw[e];simp only[firstQ,List.head?_cons];rw[yY (by decide),yY (by decide),rY (by decide)];show (if 30<sp txt (a++34::r)\/((a++34::r).drop (sp txt (a++34::r))).head? ≠some 34 then ((0:Int),([]:bZ),0) else (4,(a++34::r).take (sp txt (a++34::r)),sp txt (a++34::r)+2))=_;rw[yY (by rw[f];simp;omega),f];simp
theorem lexU{n:Int}{r:bZ}{d:List TT}(l:0<=n/\n<=999999999)(m:Del r)(h:Lex r d):Lex (Lib.itoa n++r) ((3,Lib.itoa n)::d):=by
 rw[R3a l.1];have k:=K8c n.toNat (by omega);obtain⟨a,_,b,i⟩:=K9c n.toNat;have e:(Lib.decDigits n.toNat).head? =some 48->(Lib.decDigits n.toNat).length=1:=by
  intro j;by_cases p:1<=n.toNat
  · exact absurd j (i p)
  · rw[show n.toNat=0 by omega,Lib.decDigits,dif_pos (by omega)];rfl
 generalize Lib.decDigits n.toNat=w at a b k e;refine Lex.tok w r d 3 w ?_ b h;cases w with
 |nil=>exact absurd rfl b
 |cons c w=>
  have g:sp dig (c::w++r)=(c::w).length:=K8b dig (c::w) r a (λx o=>by
   have:=m x o;simp only[nam,Bool.or_eq_false_iff]at this;exact this.2)
  rw[vZ]at g⊢;simp only[firstQ,List.head?_cons];rw[rY (a c (by simp))];unfold C4a;rw[g,yY ?_]
  · rw[<-List.cons_append,List.take_left]
  · rintro(f|⟨f,q⟩)
    · omega
    · have:=e (by simpa using f);omega
theorem S8{c:UInt8}{r:bZ}(h:nam c.toNat=false):Del (c::r):=by
 intro x a;simp at a;subst a;exact h
theorem Y7{r:bZ}{a:List TT}(h:Lex r a):Lex (32::r) a:=Lex.blank _ _ h
theorem D9d(d:Nat){r:bZ}{a:List TT}(h:Lex r a):Lex (mg d++r) a:=by
 induction d with
 |zero=>exact h
 |succ d b=>
  have e:mg (d+1)=32::32::mg d:=by simp[mg,List.replicate_succ]
  rw[e];exact Y7 (Y7 b)
def LxN(t:Nt):Prop:=∀d r a,Del r->Lex r a->Lex (pr d t++r) ((me t).1++a)
def pc(d:Nat)(t:Nt):Pc:=⟨bnd t,t.k,pr d t⟩
theorem H8a{t:Nt}(h:LxN t)(l d:Nat){r:bZ}{e:List TT}(g:Del r)(f:Lex r e):Lex (wi l (pc d t)++r) (wt l (pt t)++e):=by
 unfold wi wt;by_cases a:l<=bnd t
 · have b:l<=(pc d t).b:=a;have c:l<=(pt t).b:=a;rw[rY b,rY c];exact h d r e g f
 · have b:¬l<=(pc d t).b:=a;have c:¬l<=(pt t).b:=a;rw[yY b,yY c];have:=T9 (m:=[40]) (by decide) (h d _ _ (S8 (by decide)) (T9 (m:=[41]) (by decide) f));simpa[pc,pt]using this
theorem U2a{a:Nt}(h:LxN a)(d:Nat){r:bZ}{f:List TT}(i:Del r)(g:Lex r f):Lex (E6a (pc d a)++r) (H0a (pt a)++f)/\Del (E6a (pc d a)++r):=by
 unfold E6a H0a;by_cases b:a.k= -1
 · have c:(pc d a).k= -1:=b;have e:(pt a).k= -1:=b;rw[rY c,rY e];exact⟨g,i⟩
 · have c:¬(pc d a).k= -1:=b;have e:¬(pt a).k= -1:=b;rw[yY c,yY e];have:=T9 (m:=[58]) (by decide) (Y7 (h d r f i g));refine⟨by simpa[pc,pt]using this, ?_⟩;rw[kZ];exact S8 (by decide)
theorem X4c(d:Nat)(a:List Nt):prL d a=a.map (pc d):=X7 d a
theorem K3a(d:Nat):∀(a:List Nt) {r:bZ} {b:List TT},(∀p∈a,LxN p)->Del r->Lex r b->Lex (U6 [44,32] (prL d a)++r) (L9 true (meL a)++b)
 |[],r,b,_,_,h=>by simpa[prL,U6,meL,L9]using h
 |[p],r,b,c,e,h=>by
  have:=c p (by simp) d r b e h;simpa[prL,U6,meL,L9]using this
 |p::q::a,r,b,c,e,h=>by
  have i:=K3a d (q::a) (λx k=>c x (List.mem_cons_of_mem _ k)) e h;have j:=c p (by simp) d _ _ (S8 (by decide)) (T9 (m:=[44]) (by decide) (Y7 i));have f:U6 [44,32] (prL d (p::q::a))=pr d p++[44,32]++U6 [44,32] (prL d (q::a)):=rfl;have g:L9 true (meL (p::q::a))=(me p).1++sgQ [44]::L9 true (meL (q::a)):=by simp[meL,L9]
  rw[f,g];simpa using j
theorem U1a(d:Nat):∀(a:List Nt) {r:bZ} {ts:List TT},(∀p∈a,LxN p)->Lex r ts->Lex (I1 d (prL d a)++r) (flT (meL a)++ts)
 |[],r,ts,_,h=>by simpa[prL,I1,meL,flT]using h
 |p::a,r,ts,b,h=>by
  have f:=U1a d a (λx i=>b x (List.mem_cons_of_mem _ i)) h;have g:=D9d d (b p (by simp) d _ _ (S8 (by decide)) (Lex.line _ _ f));have c:I1 d (prL d (p::a))=mg d++pr d p++[10]++I1 d (prL d a):=rfl;have e:flT (meL (p::a))=(me p).1++flT (meL a):=rfl;rw[c,e];simpa using g
theorem D8d:∀(m:Nat) (t:Nt),szN t<=m->Wn t->LxN t
 |0,t,o,_=>by cases t<;>simp[szN]at o
 |m+1,t,o,T=>by
  have j:=D8d m;intro d r A w k;cases W5 T with
  |ty0=>simpa[pr,me]using k
  |ty1 t H=>exact J3c t H r A w k
  |n1 n D=>exact lexU D w k
  |n2 f s=>exact lexT s k
  |n3 n D=>
   rcases D with rfl|rfl
   · exact X1a (w:=[102,97,108,115,101]) (by decide) w k
   · exact X1a (w:=[116,114,117,101]) (by decide) w k
  |n4=>exact X1a (w:=[110,117,108,108]) (by decide) w k
  |n5 f s=>exact B8a f r A s w k
  |n6 l a b B D i v y C=>
   have S:D8 (l++[a,b])=D8 l+szN a+szN b:=by
    have N:∀E K,D8 (E++K)=D8 E+D8 K:=by
     intro E K;induction E with
     |nil=>simp[D8]
     |cons x E j=>rw[vZ,D8,D8,j];omega
    rw[N,D8,D8,D8];omega
   rw[szN,S]at o;have e:pr d (.nd 6 [] 0 (l++[a,b]))=[102,110,40]++U6 [44,32] (prL d l)++[41]++E6a (pc d a)++[32]++pr d b:=by
    rw[pr,yY (by decide),rY (by decide),X4c,X4c,wY];show [102,110,40]++U6 [44,32] (l.map (pc d)++[pc d a,pc d b]).dropLast.dropLast++[41]++E6a ((l.map (pc d)++[pc d a,pc d b]).dropLast.getLastD pc0)++[32]++((l.map (pc d)++[pc d a,pc d b]).getLastD pc0).s=_;rw[dl3,dl4,dl5];rfl
   rw[e,me6];have g:=j b (by omega) y d r A w k;have h:=(U2a (j a (by omega) i) d (r:=[32]++(pr d b++r)) (S8 (by decide)) (Y7 g)).1;have u:=T9 (m:=[41]) (by decide) h;have P:=K3a d l (λp z=>j p (by have:=I3 z;omega) (B p z).1) (S8 (by decide)) u;have R:=X1a (w:=[102,110]) (by decide) (S8 (by decide)) (T9 (m:=[40]) (by decide) P);simpa using R
  |n7 a l i v B=>
   rw[szN,D8]at o;have e:pr d (.nd 7 [] 0 (a::l))=wi 5 (pc d a)++([40]++U6 [44,32] (prL d l)++[41]):=rfl;rw[e,me7];have g:=K3a d l (λp z=>j p (by have:=I3 z;omega) (B p z).1) (S8 (by decide)) (T9 (m:=[41]) (by decide) k);have h:=H8a (j a (by omega) i) 5 d (S8 (by decide)) (T9 (m:=[40]) (by decide) g);simpa using h
  |n8 f a s i v=>
   rw[szN,D8,D8]at o;have e:pr d (.nd 8 f 0 [a])=wi 5 (pc d a)++([46]++f):=rfl;rw[e,me8];have h:=H8a (j a (by omega) i) 5 d (S8 (by decide)) (T9 (m:=[46]) (by decide) (B8a f r A s w k));simpa using h
  |n9 a b i v y C=>
   rw[szN,D8,D8,D8]at o;have e:pr d (.nd 9 [] 0 [a,b])=wi 5 (pc d a)++[91]++pr d b++[93]:=rfl;rw[e,me9];have g:=j b (by omega) y d _ _ (S8 (by decide)) (T9 (m:=[93]) (by decide) k);have h:=H8a (j a (by omega) i) 5 d (S8 (by decide)) (T9 (m:=[91]) (by decide) g);simpa using h
  |n10 l B D=>
   rw[szN]at o;rw[C7d];cases l with
   |nil=>
    have e:pr d (.nd 10 [] 0 [])=[123,125]:=rfl;rw[e];have:=T9 (m:=[123]) (by decide) (T9 (m:=[125]) (by decide) k);simpa[meL,L9]using this
   |cons p l=>
    have e:pr d (.nd 10 [] 0 (p::l))=[123,32]++U6 [44,32] (prL d (p::l))++[32,125]:=rfl;rw[e];have g:=K3a d (p::l) (r:=[32,125]++r) (λq M=>j q (by have:=I3 M;omega) (B q M).1) (S8 (by decide)) (Y7 (T9 (m:=[125]) (by decide) k));have h:=T9 (m:=[123]) (by decide) (Y7 g);simpa using h
  |n11 l B=>
   rw[szN]at o;have e:pr d (.nd 11 [] 0 l)=[91]++U6 [44,32] (prL d l)++[93]:=rfl;rw[e,C6d];have g:=K3a d l (λp z=>j p (by have:=I3 z;omega) (B p z).1) (S8 (by decide)) (T9 (m:=[93]) (by decide) k);have h:=T9 (m:=[91]) (by decide) g;simpa using h
  |n12 f a b s i v y C=>
   rw[szN,D8,D8,D8]at o;have e:pr d (.nd 12 f 0 [a,b])=wi (lv f) (pc d a)++([32]++f++[32])++wi (bnK 12 f+1) (pc d b):=rfl;rw[e,F2b];have g:=H8a (j b (by omega) y) (bnK 12 f+1) d w k;have h:Lex (f++32::(wi (bnK 12 f+1) (pc d b)++r)) (sgQ f::(wt (bnK 12 f+1) (pt b)++A)):=by
    refine T9 ?_ (Y7 g);simp only[jW,qZ,or_false]at s;rcases s with rfl|rfl|rfl|rfl|rfl<;>decide
   have u:=H8a (j a (by omega) i) (lv f) d (r:=32::(f++32::(wi (bnK 12 f+1) (pc d b)++r))) (S8 (by decide)) (Y7 h);simpa using u
  |n13 f a s i v=>
   rw[szN,D8,D8]at o;have e:pr d (.nd 13 f 0 [a])=f++(if f=[116,121,112,101,111,102] then [32] else [])++wi 4 (pc d a):=rfl;rw[e,P5c];have g:=H8a (j a (by omega) i) 4 d w k;simp only[jW,qZ,or_false]at s;rcases s with rfl|rfl|rfl
   · have:=T9 (m:=[33]) (by decide) g;simpa[sgw]using this
   · have:=T9 (m:=[45]) (by decide) g;simpa[sgw]using this
   · have:=X1a (w:=[116,121,112,101,111,102]) (by decide) (S8 (by decide)) (Y7 g);simpa[sgw]using this
  |n14 a t i v H=>
   rw[szN,D8,D8,D8]at o;have e:pr d (.nd 14 [] 0 [a,.ty (some t)])=wi 5 (pc d a)++[32,97,115,32]++txt' t:=rfl;rw[e,C5d,me];have g:=J3c t H r A w k;have h:=X1a (w:=[97,115]) (by decide) (S8 (by decide)) (Y7 g);have u:=H8a (j a (by omega) i) 5 d (r:=32::([97,115]++32::(txt' t++r))) (S8 (by decide)) (Y7 h);simpa using u
  |n15 f a s i v=>
   rw[szN,D8,D8]at o;have e:pr d (.nd 15 f 0 [a])=(f++[58,32])++pr d a:=rfl;rw[e,C4d];have g:=T9 (m:=[58]) (by decide) (Y7 (j a (by omega) i d r A w k));have h:=B8a f _ _ s (S8 (by decide)) g;simpa using h
  |n16 f a s i v=>
   rw[szN,D8,D8]at o;have e:pr d (.nd 16 f 0 [a])=f++E6a (pc d a):=rfl;rw[e,C3d];have g:=U2a (j a (by omega) i) d w k;have h:=B8a f _ _ s g.2 g.1;simpa using h
  |n17 f a b s i v y C=>
   rw[szN,D8,D8,D8]at o;have e:pr d (.nd 17 f 0 [a,b])=([108,101,116,32]++f)++E6a (pc d a)++[32,61,32]++pr d b++[59]:=rfl;rw[e,C2d];have g:=j b (by omega) y d _ _ (S8 (by decide)) (T9 (m:=[59]) (by decide) k);have h:=U2a (j a (by omega) i) d (r:=32::([61]++32::(pr d b++([59]++r)))) (S8 (by decide)) (Y7 (J4c (Y7 g)));have u:=X1a (w:=[108,101,116]) (by decide) (S8 (by decide)) (Y7 (B8a f _ _ s h.2 h.1));simpa using u
  |n18 f a s i v=>
   rw[szN,D8,D8]at o;have e:pr d (.nd 18 f 0 [a])=(f++[32,61,32])++pr d a++[59]:=rfl;rw[e,C1d];have g:=j a (by omega) i d _ _ (S8 (by decide)) (T9 (m:=[59]) (by decide) k);have h:=B8a f _ _ s (S8 (by decide)) (Y7 (J4c (Y7 g)));simpa using h
  |n19 f a b s i v y C=>
   rw[szN,D8,D8,D8]at o;have e:pr d (.nd 19 f 0 [a,b])=wi 5 (pc d a)++([46]++f)++[32,61,32]++pr d b++[59]:=rfl;rw[e,C0d];have g:=j b (by omega) y d _ _ (S8 (by decide)) (T9 (m:=[59]) (by decide) k);have h:=B8a f _ _ s (S8 (by decide)) (Y7 (J4c (Y7 g)));have u:=H8a (j a (by omega) i) 5 d (S8 (by decide)) (T9 (m:=[46]) (by decide) h);simpa using u
  |n20 a b c i v y C G V=>
   rw[szN,D8,D8,D8,D8]at o;have e:pr d (.nd 20 [] 0 [a,b,c])=wi 5 (pc d a)++[91]++pr d b++[93]++[32,61,32]++pr d c++[59]:=rfl;rw[e,B9d];have g:=j c (by omega) G d _ _ (S8 (by decide)) (T9 (m:=[59]) (by decide) k);have h:=j b (by omega) y d _ _ (S8 (by decide)) (T9 (m:=[93]) (by decide) (Y7 (J4c (Y7 g))));have u:=H8a (j a (by omega) i) 5 d (S8 (by decide)) (T9 (m:=[91]) (by decide) h);simpa using u
  |n21 a i v=>
   rw[szN,D8,D8]at o;have e:pr d (.nd 21 [] 0 [a])=[112,114,105,110,116,32]++pr d a++[59]:=rfl;rw[e,B8d];have g:=j a (by omega) i d _ _ (S8 (by decide)) (T9 (m:=[59]) (by decide) k);have h:=X1a (w:=[112,114,105,110,116]) (by decide) (S8 (by decide)) (Y7 g);simpa using h
  |n22 a b c i v y C G V=>
   rw[szN,D8,D8,D8,D8]at o;have e:pr d (.nd 22 [] 0 [a,b,c])=[105,102,32,40]++pr d a++[41,32]++pr d b++(if c.k= -1 then [] else [32,101,108,115,101,32]++pr d c):=rfl;rw[e,B7d];have L:Lex ((if c.k= -1 then [] else [32,101,108,115,101,32]++pr d c)++r) ((if c.k= -1 then [] else (2,[101,108,115,101])::(me c).1)++A)/\Del ((if c.k= -1 then [] else [32,101,108,115,101,32]++pr d c)++r):=by
    by_cases F:c.k= -1
    · rw[rY F,rY F];exact⟨k,w⟩
    · rw[yY F,yY F];have:=Y7 (X1a (w:=[101,108,115,101]) (by decide) (S8 (by decide)) (Y7 (j c (by omega) G d r A w k)));exact⟨by simpa using this,by rw[kZ];exact S8 (by decide)⟩
   have g:=j b (by omega) y d _ _ L.2 L.1;have h:=j a (by omega) i d _ _ (S8 (by decide)) (T9 (m:=[41]) (by decide) (Y7 g));have u:=X1a (w:=[105,102]) (by decide) (S8 (by decide)) (Y7 (T9 (m:=[40]) (by decide) h));simpa using u
  |n23 a b i v y C=>
   rw[szN,D8,D8,D8]at o;have e:pr d (.nd 23 [] 0 [a,b])=[119,104,105,108,101,32,40]++pr d a++[41,32]++pr d b:=rfl;rw[e,B6d];have g:=j b (by omega) y d r A w k;have h:=j a (by omega) i d _ _ (S8 (by decide)) (T9 (m:=[41]) (by decide) (Y7 g));have u:=X1a (w:=[119,104,105,108,101]) (by decide) (S8 (by decide)) (Y7 (T9 (m:=[40]) (by decide) h));simpa using u
  |n24 a i v=>
   rw[szN,D8,D8]at o;have e:pr d (.nd 24 [] 0 [a])=[114,101,116,117,114,110,32]++pr d a++[59]:=rfl;rw[e,B5d];have g:=j a (by omega) i d _ _ (S8 (by decide)) (T9 (m:=[59]) (by decide) k);have h:=X1a (w:=[114,101,116,117,114,110]) (by decide) (S8 (by decide)) (Y7 g);simpa using h
  |n25 a i v=>
   rw[szN,D8,D8]at o;have e:pr d (.nd 25 [] 0 [a])=pr d a++[59]:=rfl;rw[e,B4d];have g:=j a (by omega) i d _ _ (S8 (by decide)) (T9 (m:=[59]) (by decide) k);simpa using g
  |n26 l B=>
   rw[szN]at o;have e:pr d (.nd 26 [] 0 l)=[123,10]++I1 (d+1) (prL (d+1) l)++mg d++[125]:=rfl;rw[e,R6d];have g:=D9d d (T9 (m:=[125]) (by decide) k);have h:=U1a (d+1) l (λp z=>j p (by have:=I3 z;omega) (B p z).1) g;have u:=T9 (m:=[123]) (by decide) (Lex.line _ _ h);simpa using u
/-! ### The scanner has no fault there -/
theorem R9d{l:bZ}{m:List TT}(h:Lex l m):∀(f:Nat) (L:bZ) (a:Nat) (b:List Tk),L.drop a=l->L.length - a<f->b.length+m.length<=1000->(J5 f L a b).2.1=0:=by
 induction h with
 |nil=>
  intro f L a b c n d;obtain⟨f,rfl⟩:∃g,f=g+1:=⟨f - 1,by omega⟩;have p:L.length<=a:=by
   have:=congrArg List.length c;simp at this;omega
  simp only[J5,c,sp,Nat.add_zero,rY p]
 |blank l m _ j=>
  intro f L a b c n d;obtain⟨f,rfl⟩:∃g,f=g+1:=⟨f - 1,by omega⟩;have i:L.drop (a+1)=l:=by
   rw[<-List.drop_drop,c];rfl
  have e:J5 (f+1) L a b=J5 (f+1) L (a+1) b:=by
   rw[Q9 f L a b,Q9 f L (a+1) b,c,i];have:sp blank (32::l)=sp blank l+1:=by
    show (if blank (32:UInt8).toNat then sp blank l+1 else 0)=_;rw[rY (by decide)]
   rw[this];congr 1
   omega
  rw[e];exact j (f+1) L (a+1) b i (by omega) d
 |line l m _ j=>
  intro f L a b c n d;obtain⟨f,rfl⟩:∃g,f=g+1:=⟨f - 1,by omega⟩;have i:L.drop (a+1)=l:=by
   rw[<-List.drop_drop,c];rfl
  have e:J5 (f+1) L a b=J5 (f+1) L (a+1) b:=by
   rw[Q9 f L a b,Q9 f L (a+1) b,c,i];have:sp blank (10::l)=sp blank l+1:=by
    show (if blank (10:UInt8).toNat then sp blank l+1 else 0)=_;rw[rY (by decide)]
   rw[this];congr 1
   omega
  rw[e];exact j (f+1) L (a+1) b i (by omega) d
 |tok t l m k x o q _ j=>
  intro f L a b c n d;obtain⟨f,rfl⟩:∃g,f=g+1:=⟨f - 1,by omega⟩;have p:t.length+l.length=L.length - a:=by
   have:=congrArg List.length c;simp at this;omega
  have u:0<t.length:=List.length_pos_iff.2 q;have r:sp blank (L.drop a)=0:=by rw[c];exact W1c o q
  rw[jQ]at d;rw[P9a f L a b r,c,o];simp only;rw[yY (by omega),yY (by omega),yY (by omega)];have s:L.drop (a+t.length)=l:=by rw[<-List.drop_drop,c,List.drop_left]
  exact j f L (a+t.length) _ s (by omega) (by rw[qQ];simp only[jQ,xQ];omega)
theorem C0e{l:bZ}{a:List TT}(h:Lex l a)(c:l.length<=4000)(b:a.length<=1000):(F4 l).2.1=0:=by
 unfold F4;rw[yY (by omega)];exact R9d h (l.length+1) l 0 [] rfl (by omega) (by simpa using b)
def Gt{b:Type}(L:List Tk)(c:Sp->Option (Out b))(Q:St->b->Prop):Prop:=∃a x,Ev L c (.ok a x)/\Q a x
theorem Gt.bind{a b:Type}{L:List Tk}{c:Sp->Option (Out a)}{k:Sp->St->a->Option (Out b)}{Q:St->a->Prop}{R:St->b->Prop}(h:Gt L c Q)(i:∀s x,Q s x->Gt L (λr=>k r s x) R):Gt L (λr=>A3 (c r) (k r)) R:=by
 obtain⟨s,x,d,e⟩:=h;obtain⟨j,y,f,g⟩:=i s x e;exact⟨j,y,d.bind f,g⟩
theorem Gt.step{a:Type}{L:List Tk}{φ:Sp->Option (Out a)}{Q:St->a->Prop}(h:Gt L (λr=>φ (step L r)) Q):Gt L φ Q:=by
 obtain⟨s,x,b,c⟩:=h;exact⟨s,x,b.step,c⟩
theorem Gt.pure{a:Type}{L:List Tk}{s:St}{x:a}{Q:St->a->Prop}(h:Q s x):Gt L (λ_=>some (.ok s x)) Q:=⟨s,x,Ev.pure,h⟩
theorem Gt.eq{a:Type}{L:List Tk}{φ ψ:Sp->Option (Out a)}{Q:St->a->Prop}(h:Gt L φ Q)(e:∀r,ψ r=φ r):Gt L ψ Q:=by
 obtain⟨s,x,b,c⟩:=h;exact⟨s,x,b.eq e,c⟩
theorem Gt.mono{a:Type}{L:List Tk}{b:Sp->Option (Out a)}{Q R:St->a->Prop}(h:Gt L b Q)(e:∀s x,Q s x->R s x):Gt L b R:=by
 obtain⟨s,x,c,d⟩:=h;exact⟨s,x,c,e s x d⟩
theorem Gt.addT{L:List Tk}{s:St}{t:Ty}{Q:St->Int->Prop}(h:Q ⟨s.i,s.N,s.T++[t]⟩ s.T.length):Gt L (λ_=>addTQ s t) Q:=Gt.pure h
theorem Gt.addN{L:List Tk}{s:St}{t:Nd}{Q:St->Int->Prop}(h:Q ⟨s.i,s.N++[t],s.T⟩ s.N.length):Gt L (λ_=>addN s t) Q:=Gt.pure h
theorem Gt.pos{a:Type}{L:List Tk}{c:Prop}[Decidable c]{b e:Sp->Option (Out a)}{Q:St->a->Prop}(d:c)(h:Gt L b Q):Gt L (λr=>if c then b r else e r) Q:=h.eq λ_=>rY d
theorem Gt.neg{a:Type}{L:List Tk}{c:Prop}[Decidable c]{e b:Sp->Option (Out a)}{Q:St->a->Prop}(d:¬c)(h:Gt L b Q):Gt L (λr=>if c then e r else b r) Q:=h.eq λ_=>yY d
theorem E7{L:List Tk}{i:Nat}{k:Int}{x:bZ}{r:List TT}(h:tt L i=(k,x)::r):(tk L i).kind=k/\(tk L i).text=x/\tt L (i+1)=r:=by
 have a:=F5d L i;have b:=C5e L i;have c:=N5d L i;rw[h]at a b c;exact⟨a.symm,b.symm,c.symm⟩
theorem D4{L:List Tk}{i:Nat}{k:Int}{x:bZ}{r:List TT}(h:tt L i=(k,x)::r)(a:List bZ):isM L i a=((k==5||k==2) && has a x):=by
 obtain⟨b,c,_⟩:=E7 h;rw[isM,b,c]
theorem Gt.need{L:List Tk}{s:St}{m:bZ}{r:List TT}{Q:St->Unit->Prop}(h:tt L s.i=sgQ m::r)(a:Q s.nx ()):Gt L (λ_=>needQ L s m) Q:=by
 refine⟨s.nx,(),Ev.pure.eq λ_=> ?_,a⟩;unfold needQ;rw[D4 h,rY (by simp[has])]
theorem Gt.inside{L:List Tk}{b:Bool}{d:Nat}{s:St}{p:Sp->Nat->St->Option (Out Int)}{Q:St->Int->Prop}(a:b=true)(c:d<20)(h:Gt L (λr=>p r (d+1) s) Q):Gt L (λr=>insideQ L b d s (p r)) Q:=by
 refine h.eq λr=> ?_;unfold insideQ;rw[rY a,yY (by omega)]
theorem Gt.newName{L:List Tk}{s:St}{a:List bZ}{x:bZ}{r:List TT}{Q:St->bZ->Prop}(h:tt L s.i=(1,x)::r)(e:x ∉ a)(d:Q s.nx x):Gt L (λ_=>newNameQ L s a) Q:=by
 obtain⟨b,c,_⟩:=E7 h;refine⟨s.nx,x,Ev.pure.eq λ_=> ?_,d⟩;unfold newNameQ;rw[rY b,c,yY (by simp[has,e])]
section
variable(L:List Tk)
def Qt(r:List TT)(s:St)(t:Tr)(a:St)(x:Int):Prop:=tt L a.i=r/\Yft s t a x
def QtL(r:List TT)(s:St)(d:List Tr)(c:uZ)(b:St)(l:uZ):Prop:=tt L b.i=r/\∃a,l=c++a/\YftL s d b a
def DtQ(t:Tr):Prop:=∀d s r,tt L s.i=tks t++r->Fol r->dTy t+1<=20 - d->Gt L (λq=>q.typ d s) (Qt L r s t)
def Dm(t:Tr)(a:Bool):Prop:=∀d s r,tt L s.i=tks t++r->isS r [61,62]=false->(a=false->isS r [124]=false)->dTy t<=20 - d->Gt L (λq=>q.member d s) (Qt L r s t)
end
section
variable{L:List Tk}
theorem Yft.base{s s1 d:St}{t:Tr}{x:Int}(h:Yft s1 t d x)(e:s1.N=s.N)(f:s1.T=s.T):Yft s t d x:=by
 obtain⟨a,b,c⟩:=h;rw[e]at a;rw[f]at b c;exact⟨a,b,c⟩
theorem H1c(t:Tr)(h:Wf t):∃k x r,tks t=(k,x)::r/\((k==5||k==2) && has A3a x)=true/\x≠[41]:=by
 induction h with
 |plain k f b=>
  have e:tks (.nd k [] [])=[(2,U2 k)]:=by
   rw[tks,yY (by omega),yY (by omega),yY (by omega),yY (by omega)]
  have c:k=1\/k=2\/k=3\/k=4\/k=5\/k=6:=by omega
  refine⟨2,U2 k,[],e, ?_, ?_⟩
  · rcases c with rfl|rfl|rfl|rfl|rfl|rfl<;>decide
  · rcases c with rfl|rfl|rfl|rfl|rfl|rfl<;>decide
 |obj g a _ _ _ _ _=>exact⟨5,[123],_,rfl,by decide,by decide⟩
 |arr t _ _=>exact⟨5,[91],_,rfl,by decide,by decide⟩
 |fn t i _ _ _ _=>exact⟨5,[40],_,rfl,by decide,by decide⟩
 |uni a b _ d=>
  cases a with
  |nil=>simp at b
  |cons t a=>
   simp only[tks,M6];simp only[show¬((10:Int)=7) from by decide,show¬((10:Int)=8) from by decide,show¬((10:Int)=9) from by decide,if_false,if_true,lY];split
   · exact⟨5,[40],_,rfl,by decide,by decide⟩
   · obtain⟨k,x,r,e,h⟩:=d t (by simp);exact⟨k,x,_,by rw[e];rfl,h⟩
theorem U4c(t:Tr)(f:Wf t){d:Nat}{s:St}{r:List TT}(h:tt L s.i=tks t++r)(c:d<20)(a:Gt L (λq=>q.union (d+1) s) (Qt L r s t)):Gt L (λq=>q.typ d s) (Qt L r s t):=by
 refine Gt.step ?_;obtain⟨k,x,g,e,b,_⟩:=H1c t f;rw[e]at h;refine Gt.inside (p:=λq=>q.union) ?_ c a;rw[D4 h];exact b
theorem R8a{t:Tr}{b:Bool}(f:Wf t)(h:Dm L t b):DtQ L t:=by
 intro d s r e a g;refine U4c t f e (by omega) (Gt.step ?_);refine Gt.bind (h (d+1) s r e a.2 (λ_=>a.1) (by omega)) λi x c=> ?_;refine Gt.neg ?_ (Gt.pure c);rw[<-Y2a,c.1,a.1];simp
theorem J3d(k:Int)(f:1<=k)(g:k<=6):Dm L (.nd k [] []) true:=by
 intro d s r a _ _ _;have e:tks (.nd k [] [])=[(2,U2 k)]:=by
  rw[tks,yY (by omega),yY (by omega),yY (by omega),yY (by omega)]
 have j:k=1\/k=2\/k=3\/k=4\/k=5\/k=6:=by omega
 rw[e]at a;have a:tt L s.i=(2,U2 k)::r:=a;obtain⟨a1,c,i⟩:=E7 a;have b:∀m∈[[123],[91],[40]],isM L s.i [m]=false:=by
  intro m h;rw[D4 a];simp only[jW,qZ,or_false]at h;rcases h with rfl|rfl|rfl<;>rcases j with rfl|rfl|rfl|rfl|rfl|rfl<;>rfl
 refine Gt.step ?_;refine Gt.neg (by rw[b _ (by simp)];simp) (Gt.neg (by rw[b _ (by simp)];simp) (Gt.neg (by rw[b _ (by simp)];simp) (Gt.pos ?_ (Gt.addT ⟨i, ?_⟩))))
 · rw[a1,c,S4a k f g];exact⟨rfl,by omega⟩
 · rw[c,S4a k f g];exact(YftL.nil s).row k [] (by omega) _ (by rw[G0a,yY (by omega),yY (by omega),yY (by omega)])
theorem I3b:∀(f:List Tr) (g:List bZ) (d:Nat) (s:St) (k:List (bZ×Int)) (r:List TT),g.length=f.length->(k.map (·.1)++g).Nodup->(∀x∈f,DtQ L x)->tt L s.i=A4a g f++sgQ [125]::r->D4a f<=20 - d->
 Gt L (λq=>q.objL d s k) (λl x=>tt L l.i=r/\l.N=s.N/\l.T=s.T++M9 s.T.length f++[⟨7,k++g.zip (ixT s.T.length f),[],0⟩]/\x=((s.T.length+M3 f:Nat):Int))
 |[],g,d,s,k,r,m,_,_,h,_=>by
  have:g=[]:=iY (by simpa using m);subst this;have h:tt L s.i=sgQ [125]::r:=by simpa[A4a]using h
  refine Gt.step (Gt.pos (by rw[D4 h];rfl) (Gt.addT ⟨(E7 h).2.2,rfl,by simp[M9,St.nx],by simp[M3,St.nx]⟩))
 |t::f,[],_,_,_,_,m,_,_,_,_=>by simp at m
 |t::f,n::g,d,s,k,r,m,o,v,h,G=>by
  have h:tt L s.i=(1,n)::sgQ [58]::(tks t++sgQ [59]::(A4a g f++sgQ [125]::r)):=by simpa[A4a]using h
  rw[D4a]at G;have D:=E7 h;refine Gt.step (Gt.neg (by rw[D4 h];simp) ?_);have K:n ∉ k.map (·.1):=by
   intro H;rw[List.nodup_append]at o;exact o.2.2 n H n (by simp) rfl
  refine Gt.bind (Gt.newName (Q:=λA x=>A=s.nx/\x=n) h K ⟨rfl,rfl⟩) ?_;rintro A w ⟨rfl,rfl⟩;have p:tt L s.nx.i=sgQ [58]::(tks t++sgQ [59]::(A4a g f++sgQ [125]::r)):=D.2.2;refine Gt.bind (Gt.need (Q:=λB _=>B=s.nx.nx) p rfl) ?_;rintro B _ rfl;have E:tt L s.nx.nx.i=tks t++sgQ [59]::(A4a g f++sgQ [125]::r):=(E7 p).2.2;refine Gt.bind (v t (by simp) d _ _ E ⟨by simp[isS,sgQ,has],by simp[isS,sgQ,has]⟩ (by omega)) ?_;rintro j x ⟨u,i⟩;have i:Yft s t j x:=i;refine Gt.bind (Gt.need (Q:=λC _=>C=j.nx) u rfl) ?_;rintro C _ rfl;have F:tt L j.nx.i=A4a g f++sgQ [125]::r:=(E7 u).2.2;refine(I3b f g d j.nx (k++[(w,x)]) r (by simpa using m) (by simpa using o) (λy i=>v y (by simp[i])) F (by omega)).mono ?_;rintro l z ⟨a,b,c,e⟩;have b:l.N=j.N:=b;have c:l.T=j.T++M9 j.T.length f++[⟨7,k++[(w,x)]++g.zip (ixT j.T.length f),[],0⟩]:=c;have e:z=((j.T.length+M3 f:Nat):Int):=e;refine⟨a,b.trans i.1, ?_, ?_⟩
  · rw[c,i.len,i.2.1,i.2.2,M9,ixT];simp
  · rw[e,i.len,M3,Nat.add_assoc]
theorem D8e(g:List bZ)(f:List Tr)(k:g.length=f.length)(l:g.Nodup)(j:∀x∈f,DtQ L x):Dm L (.nd 7 g f) true:=by
 intro d s r h _ _ i;have h:tt L s.i=sgQ [123]::(A4a g f++sgQ [125]::r):=by simpa[tks]using h
 rw[dTy,yY (by decide)]at i;refine Gt.step (Gt.pos (by rw[D4 h];rfl) ?_);refine(I3b f g d s.nx [] r k (by simpa using l) j (E7 h).2.2 i).mono ?_;rintro m x ⟨a,b,c,e⟩;refine⟨a,b, ?_, ?_⟩
 · rw[c,Y8a _ _ _ _ (by decide),kZ];rfl
 · rw[e,nTy];show ((s.T.length+M3 f:Nat):Int)=_;omega
theorem D9e(t:Tr)(g:DtQ L t):Dm L (.nd 8 [] [t]) true:=by
 intro d s r a _ _ f;have a:tt L s.i=sgQ [91]::(tks t++sgQ [93]::r):=by simpa[tks,U9c]using a
 rw[dTy,yY (by decide),D4a,D4a]at f;refine Gt.step (Gt.neg (by rw[D4 a];simp[has]) (Gt.pos (by rw[D4 a];rfl) ?_));refine Gt.bind (g d s.nx (sgQ [93]::r) (E7 a).2.2 ⟨by simp[isS,sgQ,has],by simp[isS,sgQ,has]⟩ (by omega)) ?_;rintro b x ⟨c,h⟩;refine Gt.bind (Gt.need (Q:=λe _=>e=b.nx) c rfl) ?_;rintro e _ rfl;have i:YftL s [t] b.nx [x]:=Yft.cons' h (YftL.nil b);exact Gt.addT ⟨(E7 c).2.2,i.row 8 [] (by decide) _ rfl⟩
theorem U0a:∀(b:List Tr) (d:Nat) (s:St) (k:List bZ) (c:uZ) (r:List TT),(∀x∈b,DtQ L x/\Wf x)->tt L s.i=N8 (decide (c.length=0)) b++sgQ [41]::r->D4a b<=20 - d->
 Gt L (λq=>q.list .typ [41] d s k c) (QtL L r s b c)
 |[],d,s,k,c,r,_,a,_=>by
  have a:tt L s.i=sgQ [41]::r:=by simpa[N8]using a
  exact Gt.step (Gt.pos (by rw[D4 a];rfl) (Gt.pure ⟨(E7 a).2.2,[],by simp,YftL.nil s⟩))
 |t::b,d,s,k,c,r,j,a,z=>by
  rw[D4a]at z;obtain⟨D,H,G,m,_,B⟩:=H1c t (j t (by simp)).2;have A:Fol (N8 false b++sgQ [41]::r):=by
   cases b with
   |nil=>exact⟨by simp[N8,isS,sgQ,has],by simp[N8,isS,sgQ,has]⟩
   |cons u M=>exact⟨by simp[N8,isS,sgQ,has],by simp[N8,isS,sgQ,has]⟩
  refine Gt.step (Gt.neg ?_ ?_)
  · by_cases e:c.length=0
    · have a:tt L s.i=(D,H)::(G++(N8 false b++sgQ [41]::r)):=by simpa[e,N8,m]using a
      rw[D4 a];simp[has,B]
    · have a:tt L s.i=sgQ [44]::(tks t++(N8 false b++sgQ [41]::r)):=by simpa[e,N8]using a
      rw[D4 a];simp[has]
  · refine Gt.bind (Q:=λg _=>g.N=s.N/\g.T=s.T/\tt L g.i=tks t++(N8 false b++sgQ [41]::r)) ?_ ?_
    · by_cases e:c.length=0
      · exact Gt.pos e (Gt.pure ⟨rfl,rfl,by simpa[e,N8]using a⟩)
      · have a:tt L s.i=sgQ [44]::(tks t++(N8 false b++sgQ [41]::r)):=by simpa[e,N8]using a
        exact Gt.neg e (Gt.need a ⟨rfl,rfl,(E7 a).2.2⟩)
    · rintro g _ ⟨v,w,n⟩;refine Gt.bind (Q:=λh p=>tt L h.i=N8 false b++sgQ [41]::r/\Yft s t h p.1) ?_ ?_
      · refine Gt.bind ((j t (by simp)).1 d g _ n A (by omega)) ?_;rintro h x ⟨i,f⟩;exact Gt.pure ⟨i,f.base v w⟩
      · rintro h ⟨x,F⟩ ⟨i,f⟩;refine(U0a b d h F (c++[x]) r (λy f=>j y (by simp[f])) (by simpa using i) (by omega)).mono ?_;rintro K l ⟨o,E,rfl,C⟩;exact⟨o,x::E,by simp,f.cons' C⟩
theorem I4e(t:Tr)(a:List Tr)(q:DtQ L t)(p:∀x∈a,DtQ L x/\Wf x):Dm L (.nd 9 [] (t::a)) false:=by
 intro d s r c k m o;have c:tt L s.i=sgQ [40]::(N8 true a++sgQ [41]::sgQ [61,62]::(tks t++r)):=by simpa[tks,N3c]using c
 rw[dTy,yY (by decide),D4a]at o;refine Gt.step (Gt.neg (by rw[D4 c];simp[has]) (Gt.neg (by rw[D4 c];simp[has]) (Gt.pos (by rw[D4 c];rfl) (Gt.step ?_))));refine Gt.bind (U0a a d s.nx [] [] (sgQ [61,62]::(tks t++r)) p (E7 c).2.2 (by omega)) ?_;rintro g l ⟨i,u,h,b⟩;rw[lY]at h;subst h;have b:YftL s a g l:=b;refine Gt.pos (by rw[D4 i];rfl) ?_;refine Gt.bind (q d g.nx r (E7 i).2.2 ⟨m rfl,k⟩ (by omega)) ?_;rintro j y ⟨n,f⟩;have f:Yft g t j y:=f;refine Gt.addT ⟨n,f.1.trans b.1, ?_, ?_⟩
 · show j.T++[_]=_;have e:emT s.T.length (.nd 9 [] (t::a))=emB s.T.length (t::a):=by rw[emT,rY rfl]
   rw[e,emB,f.2.1,f.2.2,b.len,b.2.1,b.2.2];simp
 · rw[f.len,b.len,nTy,M3];omega
theorem W5a(t:Tr)(j:DtQ L t)(k:Wf t){d:Nat}{s:St}{r:List TT}(a:tt L s.i=sgQ [40]::(tks t++sgQ [41]::r))(i:isS r [61,62]=false)(m:dTy t+1<=20 - d):Gt L (λq=>q.member d s) (Qt L r s t):=by
 refine Gt.step (Gt.neg (by rw[D4 a];simp[has]) (Gt.neg (by rw[D4 a];simp[has]) (Gt.pos (by rw[D4 a];rfl) (Gt.step ?_))));have h:tt L s.nx.i=tks t++sgQ [41]::r:=(E7 a).2.2;refine Gt.bind (U0a [t] d s.nx [] [] r (λx g=>by simp at g;subst g;exact⟨j,k⟩) (by simpa[N8]using h) (by rw[D4a,D4a];omega)) ?_;rintro o l ⟨f,n,c,b⟩;rw[lY]at c;subst c;refine Gt.neg (by rw[<-Y2a,f,i];simp) ?_;have e:l=[((s.T.length+nTy t:Nat):Int) - 1]:=b.2.2;rw[e];exact Gt.pure ⟨f,b.1,by rw[b.2.1,M9,M9,zY];rfl,rfl⟩
theorem J4d(t:Tr)(m:Wf t)(l:DtQ L t)(k:t.k≠10->Dm L t (decide (t.k≠9)))(b:Bool){d:Nat}{s:St}{r:List TT}(c:tt L s.i=one t b++r)(e:isS r [61,62]=false)(g:b=true->isS r [124]=false)
 (f:dTy t+(brkQ t b).toNat<=20 - d):Gt L (λq=>q.member d s) (Qt L r s t):=by
 unfold one at c;split at c
 · rename_i a;have j:brkQ t b=true:=by
    rcases a with a|⟨a,hl⟩
    · simp[brkQ,a]
    · simp[brkQ,a,hl]
   rw[j]at f;exact W5a t l m (by simpa using c) e f
 · rename_i h;rw[not_or]at h;refine k h.1 d s r c e (λa=> ?_) (by omega);have i:t.k=9:=by simpa using a
   cases b
   · exact absurd ⟨i,rfl⟩ h.2
   · exact g rfl
theorem J2a:∀(a:List Tr) (d:Nat) (s:St) (c:uZ) (r:List TT),Fol r->(∀x∈a,Wf x/\DtQ L x/\(x.k≠10->Dm L x (decide (x.k≠9))))->tt L s.i=M6 false a++r->F7b a<=20 - d->
 Gt L (λq=>q.unionL d s c) (QtL L r s a c)
 |[],d,s,c,r,f,_,b,_=>by
  have b:tt L s.i=r:=by simpa[M6]using b
  exact Gt.step (Gt.neg (by rw[<-Y2a,b,f.1];simp) (Gt.pure ⟨b,[],by simp,YftL.nil s⟩))
 |t::a,d,s,c,r,f,h,b,n=>by
  rw[F7b]at n;have m:isS (M6 false a++r) [61,62]=false:=by
   cases a with
   |nil=>simpa[M6]using f.2
   |cons u z=>simp[M6,isS,sgQ,has]
  have e:M6 false (t::a)++r=sgQ [124]::(one t (decide (a.length=0))++(M6 false a++r)):=by
   simp[M6,one]
  rw[e]at b;refine Gt.step (Gt.pos (by rw[D4 b];rfl) ?_);refine Gt.bind (J4d t (h t (by simp)).1 (h t (by simp)).2.1 (h t (by simp)).2.2 (decide (a.length=0)) (s:=s.nx) (E7 b).2.2 m (λo=>by
   have:a=[]:=iY (by simpa using o);subst this;simpa[M6]using f.1) (by omega)) ?_
  rintro i x ⟨j,g⟩;have g:Yft s t i x:=g;refine(J2a a d i (c++[x]) r f (λy g=>h y (by simp[g])) j (by omega)).mono ?_;rintro w l ⟨k,v,rfl,p⟩;exact⟨k,x::v,by simp,g.cons' p⟩
theorem D6e(c:List Tr)(k:2<=c.length)(a:∀x∈c,Wf x/\DtQ L x/\(x.k≠10->Dm L x (decide (x.k≠9)))):DtQ L (.nd 10 [] c):=by
 intro d s r g n i;match c,k,a with
 |t::u::f,_,a=>
  have e:tks (.nd 10 [] (t::u::f))++r=one t false++(M6 false (u::f)++r):=by
   simp[tks,M6,one]
  rw[dTy,rY rfl,F7b]at i;have j:decide ((u::f).length=0)=false:=rfl;rw[j]at i;refine U4c _ (Wf.uni _ (by simp) λx o=>(a x o).1) g (by omega) (Gt.step ?_);rw[e]at g;refine Gt.bind (J4d t (a t (by simp)).1 (a t (by simp)).2.1 (a t (by simp)).2.2 false g (by simp[M6,isS,sgQ,has]) (by simp) (by omega)) ?_;rintro q x ⟨h,b⟩;refine Gt.pos (by rw[<-Y2a,h];simp[M6,isS,sgQ,has]) ?_;refine Gt.bind (J2a (u::f) (d+1) q [x] r n (λy b=>a y (by simp at b⊢;exact .inr b)) h (by omega)) ?_;rintro w l ⟨m,v,rfl,p⟩;exact Gt.addT ⟨m,(b.cons' p).row 10 [] (by decide) _ rfl⟩
theorem C9b(t:Tr)(h:Wf t):DtQ L t/\(t.k≠10->Dm L t (decide (t.k≠9))):=by
 have d:=h;induction h with
 |plain k l f=>
  have h:=J3d (L:=L) k l f;have e:decide ((Tr.nd k [] []).k≠9)=true:=decide_eq_true (by show k≠9;omega);rw[e];exact⟨R8a d h,λ_=>h⟩
 |obj p i m nd _ c b=>
  have h:=D8e (L:=L) p i m nd (λx a=>(b x a (c x a)).1);exact⟨R8a d h,λ_=>h⟩
 |arr t g b=>
  have h:=D9e (L:=L) t (b g).1;exact⟨R8a d h,λ_=>h⟩
 |fn t q g j o n=>
  have h:=I4e (L:=L) t q (o g).1 (λx a=>⟨(n x a (j x a)).1,j x a⟩);exact⟨R8a d h,λ_=>h⟩
 |uni i f c b=>
  exact⟨D6e i f (λx a=>⟨c x a,b x a (c x a)⟩),λh=>absurd rfl h⟩
end
def T5(r:List TT)(a:List bZ):Bool:=
 match r with
 |[]=>false
 |(k,x)::_=>(k==5||k==2) && has a x
theorem B9a(L:List Tk)(i:Nat)(a:List bZ):isM L i a=T5 (tt L i) a:=by
 cases h:tt L i with
 |nil=>
  have:=F5d L i;rw[h]at this;have b:(tk L i).kind=6:=this.symm;simp[isM,b,T5]
 |cons p r=>
  obtain⟨k,x⟩:=p;rw[D4 h];rfl
theorem U7{r:List TT}{a b:List bZ}(h:T5 r a=false)(d:∀m∈b,m∈a):T5 r b=false:=by
 cases r with
 |nil=>rfl
 |cons p r=>
  obtain⟨k,x⟩:=p;simp only[T5,has,Bool.and_eq_false_iff,List.contains_eq_mem,decide_eq_false_iff_not]at h⊢;rcases h with h|h
  · exact .inl h
  · exact .inr λc=>h (d x c)
theorem R4a(r:List TT)(m:bZ):isS r m=T5 r [m]:=by
 cases r with
 |nil=>rfl
 |cons p r=>rfl
def fo:List bZ:=[[124],[61,62]]
def f5:List bZ:=[[40],[46],[91],[97,115],[124],[61,62]]
def f3:List bZ:=[[40],[46],[91],[97,115],[124],[61,62],[42]]
def f2:List bZ:=[[40],[46],[91],[97,115],[124],[61,62],[42],[43],[45]]
def f1:List bZ:=[[40],[46],[91],[97,115],[124],[61,62],[42],[43],[45],[61,61],[60]]
theorem f12:∀m∈f2,m∈f1:=by decide
theorem f23:∀m∈f3,m∈f2:=by decide
theorem f35:∀m∈f5,m∈f3:=by decide
section
variable(L:List Tk)
def Qn(r:List TT)(s:St)(t:Nt)(a:St)(x:Int):Prop:=tt L a.i=r/\Nft s t a x
def QnL(r:List TT)(s:St)(d:List Nt)(c:uZ)(b:St)(l:uZ):Prop:=tt L b.i=r/\∃a,l=c++a/\NftL s d b a
def Cp(b:Sp->Option (Out Int))(k:Sp->St->Int->Option (Out Int))(r:List TT)(s:St)(t:Nt):Prop:=
 ∃a x,Qn L r s t a x/\∀R,Gt L (λq=>k q a x) R->Gt L (λq=>A3 (b q) (k q)) R
def P5(t:Nt):Prop:=∀d s r,tt L s.i=wt 5 (pt t)++r->T5 r fo=false->wd 5 (pt t)<=20 - d->Cp L (λq=>q.simple d s) (λq s x=>q.tail d s x) r s t
def P4(t:Nt):Prop:=∀d s r,tt L s.i=wt 4 (pt t)++r->T5 r f5=false->wd 4 (pt t)<=20 - d->Gt L (λq=>q.oper d s) (Qn L r s t)
def P3(t:Nt):Prop:=∀d s r,tt L s.i=wt 3 (pt t)++r->T5 r f5=false->wd 3 (pt t)<=20 - d->Cp L (λq=>q.oper d s) (λq s x=>q.row false d s x) r s t
def P2(t:Nt):Prop:=∀d s r,tt L s.i=wt 2 (pt t)++r->T5 r f3=false->wd 2 (pt t)<=20 - d->Cp L (λq=>q.prod d s) (λq s x=>q.row true d s x) r s t
def P1(t:Nt):Prop:=∀d s r,tt L s.i=(me t).1++r->T5 r f1=false->(me t).2<=20 - d->Gt L (λq=>q.comp d s) (Qn L r s t)
def PEQ(t:Nt):Prop:=∀d s r,tt L s.i=(me t).1++r->T5 r f1=false->(me t).2+1<=20 - d->Gt L (λq=>q.expr d s) (Qn L r s t)
structure Px(t:Nt):Prop where
 p5:P5 L t
 p4:P4 L t
 p3:P3 L t
 p2:P2 L t
 p1:P1 L t
 pe:PEQ L t
end
/-! ### How it begins -/
def Fb(l:List TT):Prop:=∃k x r,l=(k,x)::r/\(k=1\/k=3\/k=4\/((k=5\/k=2)/\x∈O0))
def Fz(l:List TT):Prop:=∃k x r,l=(k,x)::r/\(k=1\/k=3\/k=4\/((k=5\/k=2)/\x∈O0/\x ∉ [[33],[45],[116,121,112,101,111,102]]))
theorem Fz.b{l:List TT}(h:Fz l):Fb l:=by
 obtain⟨k,x,r,e,h⟩:=h;refine⟨k,x,r,e, ?_⟩;rcases h with h|h|h|h
 · exact .inl h
 · exact .inr (.inl h)
 · exact .inr (.inr (.inl h))
 · exact .inr (.inr (.inr ⟨h.1,h.2.1⟩))
theorem Fb.app{l:List TT}(h:Fb l)(r:List TT):Fb (l++r):=by
 obtain⟨k,x,a,rfl,h⟩:=h;exact⟨k,x,a++r,rfl,h⟩
theorem Fz.app{l:List TT}(h:Fz l)(r:List TT):Fz (l++r):=by
 obtain⟨k,x,a,rfl,h⟩:=h;exact⟨k,x,a++r,rfl,h⟩
theorem Fz.sg{m:bZ}(r:List TT)(h:m∈O0/\m ∉ [[33],[45],[116,121,112,101,111,102]]):Fz (sgQ m::r):=⟨5,m,r,rfl,.inr (.inr (.inr ⟨.inl rfl,h⟩))⟩
theorem Fz.wd{m:bZ}(r:List TT)(h:m∈O0/\m ∉ [[33],[45],[116,121,112,101,111,102]]):Fz ((2,m)::r):=⟨2,m,r,rfl,.inr (.inr (.inr ⟨.inr rfl,h⟩))⟩
theorem W0d{a:Nt}(h:Fb (me a).1/\(bnd a=5->Fz (me a).1))(l:Nat):Fb (wt l (pt a)):=by
 unfold wt;split
 · exact h.1
 · exact(Fz.sg _ (by decide)).b
theorem Z0a{a:Nt}(h:Fb (me a).1/\(bnd a=5->Fz (me a).1)):Fz (wt 5 (pt a)):=by
 unfold wt;split
 · rename_i b;have b:5<=bnd a:=b;refine h.2 ?_;have:bnd a<=5:=by
    cases a with
    |ty o=>exact vQ _
    |nd k d n c=>
     rw[bnd,bnK];repeat' split
     all_goals omega
   omega
 · exact Fz.sg _ (by decide)
theorem G1d:∀(m:Nat) (t:Nt),szN t<=m->Wn t->isE t.k->Fb (me t).1/\(bnd t=5->Fz (me t).1)
 |0,t,o,_,_=>by cases t<;>simp[szN]at o
 |m+1,t,o,y,f=>by
  have r:=G1d m;have g:∀{l:List TT},Fz l->Fb l/\(bnd t=5->Fz l):=λh=>⟨h.b,λ_=>h⟩;cases W5 y with
  |ty0=>simp[isE,Nt.k]at f
  |ty1 t x=>simp[isE,Nt.k]at f
  |n1 n s=>exact g ⟨3,_,_,rfl,.inr (.inl rfl)⟩
  |n2 j i=>exact g ⟨4,_,_,rfl,.inr (.inr (.inl rfl))⟩
  |n3 n s=>
   rcases s with rfl|rfl
   · exact g (Fz.wd _ (by decide))
   · exact g (Fz.wd _ (by decide))
  |n4=>exact g (Fz.wd _ (by decide))
  |n5 j i=>exact g ⟨1,_,_,rfl,.inl rfl⟩
  |n6 v a b u s d e k p=>rw[me6];exact g (Fz.wd _ (by decide))
  |n7 a v d e u=>
   rw[szN,D8]at o;rw[me7];exact g ((Z0a (r a (by omega) d e)).app _)
  |n8 j a i d e=>
   rw[szN,D8]at o;rw[me8];exact g ((Z0a (r a (by omega) d e)).app _)
  |n9 a b d e k p=>
   rw[szN,D8]at o;rw[me9];exact g ((Z0a (r a (by omega) d e)).app _)
  |n10 v u s=>rw[C7d];exact g (Fz.sg _ (by decide))
  |n11 v u=>rw[C6d];exact g (Fz.sg _ (by decide))
  |n12 j a b i d e k p=>
   rw[szN,D8]at o;rw[F2b];refine⟨(W0d (r a (by omega) d e) _).app _,λq=> ?_⟩;exfalso;simp only[jW,qZ,or_false]at i;have q:bnK 12 j=5:=q;rcases i with rfl|rfl|rfl|rfl|rfl<;>exact absurd q (by decide)
  |n13 j a i d e=>
   rw[P5c];refine⟨?_,λq=>by simp[bnd,bnK]at q⟩;simp only[jW,qZ,or_false]at i;rcases i with rfl|rfl|rfl
   · exact⟨5,_,_,rfl,.inr (.inr (.inr ⟨.inl rfl,by decide⟩))⟩
   · exact⟨5,_,_,rfl,.inr (.inr (.inr ⟨.inl rfl,by decide⟩))⟩
   · exact⟨2,_,_,rfl,.inr (.inr (.inr ⟨.inr rfl,by decide⟩))⟩
  |n14 a t d e x=>
   rw[szN,D8]at o;rw[C5d];exact g ((Z0a (r a (by omega) d e)).app _)
  |n15 j a i d e=>simp[isE,Nt.k]at f
  |n16 j a i d e=>simp[isE,Nt.k]at f
  |n17 j a b i d e k p=>simp[isE,Nt.k]at f
  |n18 j a i d e=>simp[isE,Nt.k]at f
  |n19 j a b i d e k p=>simp[isE,Nt.k]at f
  |n20 a b c d e k p w z=>simp[isE,Nt.k]at f
  |n21 a d e=>simp[isE,Nt.k]at f
  |n22 a b c d e k p w z=>simp[isE,Nt.k]at f
  |n23 a b d e k p=>simp[isE,Nt.k]at f
  |n24 a d e=>simp[isE,Nt.k]at f
  |n25 a d e=>simp[isE,Nt.k]at f
  |n26 v u=>simp[isE,Nt.k]at f
theorem R6a{t:Nt}(b:Wn t)(a:isE t.k):Fb (me t).1/\(bnd t=5->Fz (me t).1):=G1d _ t (vQ _) b a
section
variable{L:List Tk}
theorem Fb.beg{i:Nat}{l:List TT}(h:Fb l)(a:tt L i=l):I8a L i=true:=by
 obtain⟨k,x,r,rfl,h⟩:=h;obtain⟨b,_,_⟩:=E7 a;rw[I8a,b,D4 a];rcases h with rfl|rfl|rfl|⟨rfl|rfl,h⟩
 · simp
 · simp
 · simp
 · simp[has,h]
 · simp[has,h]
theorem Fz.not{i:Nat}{l:List TT}(h:Fz l)(a:tt L i=l):isM L i [[33],[45],[116,121,112,101,111,102]]=false:=by
 obtain⟨k,x,r,rfl,h⟩:=h;rw[D4 a];rcases h with rfl|rfl|rfl|⟨_,_,h⟩
 · simp
 · simp
 · simp
 · rw[has,List.contains_eq_mem,decide_eq_false h,Bool.and_false]
theorem Cp.of{a:Sp->Option (Out Int)}{k:Sp->St->Int->Option (Out Int)}{r:List TT}{s:St}{t:Nt}(h:Gt L a (Qn L r s t)):Cp L a k r s t:=by
 obtain⟨f,x,b,c⟩:=h;refine⟨f,x,c,λR h=> ?_⟩;obtain⟨g,y,d,e⟩:=h;exact⟨g,y,b.bind d,e⟩
theorem T0c{a b:Nat}{c:Pt}(h:b<=c.b\/c.b<a)(d:a<=b):wt a c=wt b c/\wd a c=wd b c:=by
 unfold wt wd;rcases h with h|h
 · rw[rY (by omega),rY h,rY (by omega),rY h];exact⟨rfl,rfl⟩
 · rw[yY (by omega),yY (by omega),yY (by omega),yY (by omega)];exact⟨rfl,rfl⟩
theorem I4c{t:Nt}(o:Wn t)(l:isE t.k)(q:bnd t≠4)(h:P5 L t):P4 L t:=by
 intro d s r b f c;obtain⟨i,j⟩:=T0c (a:=4) (b:=5) (c:=pt t) (by show 5<=bnd t\/bnd t<4;omega) (by decide);rw[i]at b;rw[j]at c;obtain⟨p,x,e,k⟩:=h d s r b (U7 f (by decide)) c;refine Gt.step (Gt.neg ?_ (k _ (Gt.step ?_)))
 · rw[((Z0a (R6a o l)).app r).not b];simp
 · have a:∀m∈f5,isM L p.i [m]=false:=λm n=>by
    rw[B9a,e.1];exact U7 f λx g=>by simp at g;subst g;exact n
   refine Gt.neg (by rw[a [40] (by decide)];simp) (Gt.neg (by rw[a [46] (by decide)];simp) (Gt.neg (by rw[a [91] (by decide)];simp) (Gt.neg (by rw[a [97,115] (by decide)];simp) (Gt.pure e))))
theorem I5c{t:Nt}(g:bnd t≠3)(h:P4 L t):P3 L t:=by
 intro d s r b f a;obtain⟨c,e⟩:=T0c (a:=3) (b:=4) (c:=pt t) (by show 4<=bnd t\/bnd t<3;omega) (by decide);rw[c]at b;rw[e]at a;exact Cp.of (h d s r b f a)
theorem H7c{b:Bool}{d:Nat}{s:St}{x:Int}{Q:St->Int->Prop}(c:T5 (tt L s.i) (I4 b)=false)(a:Q s x):Gt L (λq=>q.row b d s x) Q:=
 Gt.step (Gt.neg (by rw[B9a,c];simp) (Gt.pure a))
theorem I0c{t:Nt}(h:P3 L t):∀d s r,tt L s.i=wt 3 (pt t)++r->T5 r f3=false->wd 3 (pt t)<=20 - d->Gt L (λq=>q.prod d s) (Qn L r s t):=by
 intro d s r f b e;obtain⟨g,x,a,c⟩:=h d s r f (U7 b f35) e;exact Gt.step (c _ (H7c (by rw[a.1];exact U7 b (by decide)) a))
theorem I6c{t:Nt}(g:bnd t≠2)(h:P3 L t):P2 L t:=by
 intro d s r b f a;obtain⟨c,e⟩:=T0c (a:=2) (b:=3) (c:=pt t) (by show 3<=bnd t\/bnd t<2;omega) (by decide);rw[c]at b;rw[e]at a;exact Cp.of (I0c h d s r b f a)
theorem Y7b{t:Nt}(h:P2 L t):∀d s r,tt L s.i=wt 2 (pt t)++r->T5 r f2=false->wd 2 (pt t)<=20 - d->Gt L (λq=>q.sum d s) (Qn L r s t):=by
 intro d s r f b e;obtain⟨g,x,a,c⟩:=h d s r f (U7 b f23) e;exact Gt.step (c _ (H7c (by rw[a.1];exact U7 b (by decide)) a))
theorem I7c{t:Nt}(a:2<=bnd t)(h:P2 L t):P1 L t:=by
 intro d s r i c g;have e:wt 2 (pt t)=(me t).1:=C5a 2 (pt t) a;have f:wd 2 (pt t)=(me t).2:=C6a 2 (pt t) a;refine Gt.step (Gt.bind (Y7b h d s r (by rw[e];exact i) (U7 c f12) (by rw[f];exact g)) λj x b=>Gt.neg ?_ (Gt.pure b));rw[B9a,b.1,U7 c (by decide)];simp
theorem S0b{t:Nt}(e:Wn t)(b:isE t.k)(h:P1 L t):PEQ L t:=by
 intro d s r a c f;exact Gt.step (Gt.inside (p:=λq=>q.comp) (((R6a e b).1.app r).beg a) (by omega) (h (d+1) s r a c (by omega)))
theorem I3c{t:Nt}(o:bnd t<5)(h:PEQ L t):P5 L t:=by
 intro d s r b _ g;have i:wt 5 (pt t)=sgQ [40]::((me t).1++[sgQ [41]]):=by
  rw[wt,yY (by show¬5<=bnd t;omega)];rfl
 have j:wd 5 (pt t)=(me t).2+1:=by
  rw[wd,yY (by show¬5<=bnd t;omega)];rfl
 have b:tt L s.i=sgQ [40]::((me t).1++sgQ [41]::r):=by rw[b,i];simp
 rw[j]at g;have e:=E7 b;have a:∀m,m≠[40]->isM L s.i [m]=false:=λm k=>by
  rw[D4 b];simp[has,Ne.symm k]
 refine Cp.of (Gt.step ?_);refine Gt.neg (by rw[e.1];decide) (Gt.neg (by rw[e.1];decide) (Gt.neg (by rw[e.1];decide) ?_));refine Gt.neg (by rw[a _ (by decide)];simp) (Gt.neg (by rw[a _ (by decide)];simp) (Gt.neg (by rw[a _ (by decide)];simp) (Gt.neg (by rw[a _ (by decide)];simp) (Gt.neg (by rw[a _ (by decide)];simp) (Gt.neg (by rw[a _ (by decide)];simp) ?_)))));refine Gt.bind (Gt.need (Q:=λc _=>c=s.nx) b rfl) ?_;rintro c _ rfl;refine Gt.bind (h d s.nx (sgQ [41]::r) e.2.2 rfl g) ?_;rintro n x ⟨f,l⟩;refine Gt.bind (Gt.need (Q:=λc _=>c=n.nx) f rfl) ?_;rintro c _ rfl;exact Gt.pure ⟨(E7 f).2.2,l⟩
theorem px5{t:Nt}(f:Wn t)(e:isE t.k)(g:bnd t=5)(h:P5 L t):Px L t:=
 have d:=I4c f e (by omega) h;have c:=I5c (by omega) d;have b:=I6c (by omega) c;have a:=I7c (by omega) b
 ⟨h,d,c,b,a,S0b f e a⟩
theorem px4{t:Nt}(f:Wn t)(e:isE t.k)(g:bnd t=4)(h:P4 L t):Px L t:=
 have c:=I5c (by omega) h;have b:=I6c (by omega) c;have a:=I7c (by omega) b;have d:=S0b f e a
 ⟨I3c (by omega) d,h,c,b,a,d⟩
theorem px3{t:Nt}(f:Wn t)(e:isE t.k)(g:bnd t=3)(h:P3 L t):Px L t:=
 have b:=I6c (by omega) h;have a:=I7c (by omega) b;have d:=S0b f e a;have c:=I3c (by omega) d
 ⟨c,I4c f e (by omega) c,h,b,a,d⟩
theorem px2{t:Nt}(f:Wn t)(e:isE t.k)(g:bnd t=2)(h:P2 L t):Px L t:=
 have a:=I7c (by omega) h;have d:=S0b f e a;have c:=I3c (by omega) d;have b:=I4c f e (by omega) c
 ⟨c,b,I5c (by omega) b,h,a,d⟩
theorem px1{t:Nt}(f:Wn t)(e:isE t.k)(g:bnd t=1)(h:P1 L t):Px L t:=
 have d:=S0b f e h;have c:=I3c (by omega) d;have b:=I4c f e (by omega) c;have a:=I5c (by omega) b
 ⟨c,b,a,I6c (by omega) a,h,d⟩
end
def fw:List bZ:=[[41],[93],[125],[44]]
def FwQ(r:List TT):Prop:=∃m a,r=sgQ m::a/\m∈fw
theorem FwQ.no{r:List TT}(h:FwQ r){a:List bZ}(b:∀m∈fw,m ∉ a):T5 r a=false:=by
 obtain⟨m,c,rfl,h⟩:=h;have:=b m h;simp[T5,sgQ,has,this]
theorem FwQ.fol{r:List TT}(h:FwQ r):Fol r:=⟨by rw[R4a];exact h.no (by decide),by rw[R4a];exact h.no (by decide)⟩
section
variable{L:List Tk}
theorem Q7a(pk:V4a)(e:bZ)(i:e∈[[41],[93],[125]])(c:Nat)(k:List bZ->List Nt->Prop)
 (t:∀g p b,k g (p::b)->∃o,k o b/\(∀r,T5 ((me p).1++r) [e]=false)/\∀d s r,tt L s.i=(me p).1++r->FwQ r->(me p).2+c<=20 - d->
  Gt L (λq=>part L q d s g pk) (λm y=>tt L m.i=r/\Nft s p m y.1/\y.2=o)):
 ∀(b:List Nt) (d:Nat) (s:St) (g:List bZ) (f:uZ) (r:List TT),k g b->tt L s.i=L9 (decide (f.length=0)) (meL b)++sgQ e::r->mx c (meL b)<=20 - d->
  Gt L (λq=>q.list pk e d s g f) (QnL L r s b f)
 |[],d,s,g,f,r,_,a,_=>by
  have a:tt L s.i=sgQ e::r:=by simpa[meL,L9]using a
  exact Gt.step (Gt.pos (by rw[D4 a];simp[has]) (Gt.pure ⟨(E7 a).2.2,[],by simp,NftL.nil s⟩))
 |p::b,d,s,g,f,r,F,a,C=>by
  rw[J6,mx,J9a]at C;obtain⟨o,G,H,E⟩:=t g p b F;have D:FwQ (L9 false (meL b)++sgQ e::r):=by
   cases b with
   |nil=>
    refine⟨e,r,rfl, ?_⟩;simp only[jW,qZ,or_false]at i;rcases i with rfl|rfl|rfl<;>decide
   |cons u R=>exact⟨[44],_,rfl,by decide⟩
  refine Gt.step (Gt.neg ?_ ?_)
  · by_cases h:f.length=0
    · have a:tt L s.i=(me p).1++(L9 false (meL b)++sgQ e::r):=by simpa[h,J6,L9,Z3]using a
      rw[B9a,a,H];simp
    · have a:tt L s.i=sgQ [44]::((me p).1++(L9 false (meL b)++sgQ e::r)):=by simpa[h,J6,L9,Z3]using a
      rw[D4 a];simp only[jW,qZ,or_false]at i;rcases i with rfl|rfl|rfl<;>decide
  · refine Gt.bind (Q:=λj _=>j.N=s.N/\j.T=s.T/\tt L j.i=(me p).1++(L9 false (meL b)++sgQ e::r)) ?_ ?_
    · by_cases h:f.length=0
      · exact Gt.pos h (Gt.pure ⟨rfl,rfl,by simpa[h,J6,L9,Z3]using a⟩)
      · have a:tt L s.i=sgQ [44]::((me p).1++(L9 false (meL b)++sgQ e::r)):=by simpa[h,J6,L9,Z3]using a
        exact Gt.neg h (Gt.need a ⟨rfl,rfl,(E7 a).2.2⟩)
    · rintro j _ ⟨A,B,v⟩;refine Gt.bind (E d j _ v D (by omega)) ?_;rintro m ⟨x,N⟩ ⟨w,n,rfl⟩;have n:=n.base A B;refine(Q7a pk e i c k t b d m N (f++[x]) r G (by simpa using w) (by omega)).mono ?_;rintro P l ⟨z,M,rfl,K⟩;exact⟨z,x::M,by simp,n.cons K⟩
theorem Fb.no{l:List TT}(h:Fb l){a:List bZ}(b:∀m∈O0,m ∉ a):T5 l a=false:=by
 obtain⟨k,x,r,rfl,h⟩:=h;rcases h with rfl|rfl|rfl|⟨_,h⟩
 · simp[T5]
 · simp[T5]
 · simp[T5]
 · have:=b x h;simp[T5,has,this]
theorem B1b(e:bZ)(i:e∈[[41],[93],[125]])(c:List Nt)(d:Nat)(s:St)(g:List bZ)(f:uZ)(r:List TT)(o:∀p∈c,Wn p/\isE p.k/\PEQ L p)
 (j:tt L s.i=L9 (decide (f.length=0)) (meL c)++sgQ e::r) (h:mx 1 (meL c)<=20 - d):Gt L (λq=>q.list .expr e d s g f) (QnL L r s c f):=by
 refine Q7a .expr e i 1 (λ_ c=>∀p∈c,Wn p/\isE p.k/\PEQ L p) ?_ c d s g f r o j h;intro g p c k;obtain⟨l,m,n⟩:=k p (by simp);refine⟨g,λq t=>k q (by simp[t]),λr=> ?_,λd s r j u h=> ?_⟩
 · refine((R6a l m).1.app r).no ?_;simp only[jW,qZ,or_false]at i;rcases i with rfl|rfl|rfl<;>decide
 · refine Gt.bind (n d s r j (u.no (by decide)) h) ?_;rintro v x ⟨a,b⟩;exact Gt.pure ⟨a,b,rfl⟩
theorem C1c(b:List Nt)(d:Nat)(s:St)(r:List TT)(w:(b.map Nt.tx).Nodup)(A:∀p∈b,∃c a,p= .nd 15 c 0 [a]/\Wn a/\isE a.k/\PEQ L a)
 (e:tt L s.i=L9 true (meL b)++sgQ [125]::r) (f:mx 0 (meL b)<=20 - d):Gt L (λq=>q.list .obj [125] d s [] []) (QnL L r s b []):=by
 refine Q7a .obj [125] (by decide) 0 (λg b=>(g++b.map Nt.tx).Nodup/\∀p∈b,∃c a,p= .nd 15 c 0 [a]/\Wn a/\isE a.k/\PEQ L a) ?_ b d s [] [] r ⟨by simpa using w,A⟩ e f;rintro g p b ⟨h,l⟩;obtain⟨c,a,rfl,G,F,u⟩:=l p (by simp);refine⟨g++[c],⟨by simpa[Nt.tx]using h,λq B=>l q (by simp[B])⟩,λr=>by rw[C4d];simp[T5],λd s r e C f=> ?_⟩;rw[C4d]at e f;have e:tt L s.i=(1,c)::sgQ [58]::((me a).1++r):=e;have z:c ∉ g:=by
  intro v;rw[List.nodup_append]at h;exact h.2.2 c v c (by simp[Nt.tx]) rfl
 refine Gt.bind (Gt.newName (Q:=λm x=>m=s.nx/\x=c) e z ⟨rfl,rfl⟩) ?_;rintro m _ ⟨rfl,rfl⟩;have k:tt L s.nx.i=sgQ [58]::((me a).1++r):=(E7 e).2.2;refine Gt.bind (Gt.need (Q:=λn _=>n=s.nx.nx) k rfl) ?_;rintro n _ rfl;refine Gt.bind (u d s.nx.nx r (E7 k).2.2 (C.no (by decide)) f) ?_;rintro E x ⟨o,i⟩;have i:Nft s a E x:=i;refine Gt.bind (Gt.addN (Q:=λj y=>tt L j.i=r/\Nft s (.nd 15 _ 0 [a]) j y) ⟨o,i.l.node _ 15 _ 0 _ rfl⟩) ?_;rintro j y ⟨t,D⟩;exact Gt.pure ⟨t,D,rfl⟩
theorem J3a{o:Option Tr}(h:Wn (.ty o)){d:Nat}{s:St}{r:List TT}(c:tt L s.i=H0a (pt (.ty o))++r)(e:T5 r [[58]]=false)(f:Fol r)(g:(me (.ty o)).2<=20 - d):Gt L (λq=>typeIfQ L q d s) (Qn L r s (.ty o)):=by
 cases o with
 |none=>
  have c:tt L s.i=r:=by simpa[H0a,pt,Nt.k]using c
  exact Gt.neg (by rw[B9a,c,e];simp) (Gt.pure ⟨c,Nft.none s⟩)
 |some t=>
  have c:tt L s.i=sgQ [58]::(tks t++r):=c;refine Gt.pos (by rw[D4 c];rfl) (((C9b t h).1 d s.nx r (E7 c).2.2 f g).mono ?_);rintro i x ⟨a,b⟩;exact⟨a,Yft.n b⟩
theorem C0c(a:List Nt)(d:Nat)(s:St)(r:List TT)(u:(a.map Nt.tx).Nodup)(w:∀p∈a,∃b o,p= .nd 16 b 0 [.ty o]/\Wn (.ty o))
 (c:tt L s.i=L9 true (meL a)++sgQ [41]::r) (e:mx 0 (meL a)<=20 - d):Gt L (λq=>q.list .par [41] d s [] []) (QnL L r s a []):=by
 refine Q7a .par [41] (by decide) 0 (λf a=>(f++a.map Nt.tx).Nodup/\∀p∈a,∃b o,p= .nd 16 b 0 [.ty o]/\Wn (.ty o)) ?_ a d s [] [] r ⟨by simpa using u,w⟩ c e;rintro f p a ⟨g,j⟩;obtain⟨b,o,rfl,A⟩:=j p (by simp);refine⟨f++[b],⟨by simpa[Nt.tx]using g,λq z=>j q (by simp[z])⟩,λr=>by rw[C3d];simp[T5],λd s r c k e=> ?_⟩;rw[C3d]at c e;have c:tt L s.i=(1,b)::(H0a (pt (.ty o))++r):=c;have v:b ∉ f:=by
  intro t;rw[List.nodup_append]at g;exact g.2.2 b t b (by simp[Nt.tx]) rfl
 refine Gt.bind (Gt.newName (Q:=λl x=>l=s.nx/\x=b) c v ⟨rfl,rfl⟩) ?_;rintro l _ ⟨rfl,rfl⟩;refine Gt.bind (J3a A (s:=s.nx) (E7 c).2.2 (k.no (by decide)) k.fol e) ?_;rintro C x ⟨m,h⟩;have h:Nft s (.ty o) C x:=h;refine Gt.bind (Gt.addN (Q:=λi y=>tt L i.i=r/\Nft s (.nd 16 _ 0 [.ty o]) i y) ⟨m,h.l.node _ 16 _ 0 _ rfl⟩) ?_;rintro i y ⟨n,B⟩;exact Gt.pure ⟨n,B,rfl⟩
/-! ### Each kind of an expression -/
theorem R5d(t:Nt)(h:bnd t=5):wt 5 (pt t)=(me t).1/\wd 5 (pt t)=(me t).2:=⟨C5a 5 (pt t) (by show 5<=bnd t;omega),C6a 5 (pt t) (by show 5<=bnd t;omega)⟩
theorem Y2{t:Nt}(a:bnd t=5)(h:∀d s r,tt L s.i=(me t).1++r->(me t).2<=20 - d->Gt L (λq=>q.simple d s) (Qn L r s t)):P5 L t:=by
 intro d s r c _ b;rw[(R5d t a).1]at c;rw[(R5d t a).2]at b;exact Cp.of (h d s r c b)
theorem cp1(n:Int)(b:0<=n/\n<=999999999):Px L (.nd 1 [] n []):=by
 refine px5 (w1 b) (by simp[isE,Nt.k]) rfl (Y2 rfl λd s r a _=> ?_);have a:tt L s.i=(3,Lib.itoa n)::r:=a;obtain⟨a1,c,e⟩:=E7 a;refine Gt.step (Gt.pos a1 (Gt.addN ⟨e,NftL.node (s':=s.nx) (NftL.nil s) _ 1 [] n _ ?_⟩));rw[c,R3a b.1,(K9c n.toNat).2.1,show ((n.toNat:Nat):Int)=n by omega];rfl
theorem cp2(a:bZ)(g:a.length<=30/\∀c∈a,txt c.toNat=true):Px L (.nd 2 a 0 []):=by
 refine px5 (w2 g) (by simp[isE,Nt.k]) rfl (Y2 rfl λd s r b _=> ?_);have b:tt L s.i=(4,a)::r:=b;obtain⟨a1,e,f⟩:=E7 b;refine Gt.step (Gt.neg (by rw[a1];decide) (Gt.pos a1 (Gt.addN ⟨f,NftL.node (s':=s.nx) (NftL.nil s) _ 2 a 0 _ ?_⟩)));rw[e];rfl
theorem cp5(a:bZ)(f:S4 a):Px L (.nd 5 a 0 []):=by
 refine px5 (w5 f) (by simp[isE,Nt.k]) rfl (Y2 rfl λd s r b _=> ?_);have b:tt L s.i=(1,a)::r:=b;obtain⟨a1,c,e⟩:=E7 b;refine Gt.step (Gt.neg (by rw[a1];decide) (Gt.neg (by rw[a1];decide) (Gt.pos a1 (Gt.addN ⟨e,NftL.node (s':=s.nx) (NftL.nil s) _ 5 a 0 _ ?_⟩))));rw[c];rfl
theorem cp3(n:Int)(c:n=0\/n=1):Px L (.nd 3 [] n []):=by
 refine px5 (w3 c) (by simp[isE,Nt.k]) rfl (Y2 rfl λd s r a _=> ?_);rcases c with rfl|rfl
 · have a:tt L s.i=(2,[102,97,108,115,101])::r:=a;obtain⟨a1,e,b⟩:=E7 a;exact Gt.step (Gt.neg (by rw[a1];decide) (Gt.neg (by rw[a1];decide) (Gt.neg (by rw[a1];decide) (Gt.neg (by rw[D4 a];decide) (Gt.pos (by rw[D4 a];rfl) (Gt.addN ⟨b,NftL.node (s':=s.nx) (NftL.nil s) _ 3 [] 0 _ rfl⟩))))))
 · have a:tt L s.i=(2,[116,114,117,101])::r:=a;obtain⟨a1,e,b⟩:=E7 a;exact Gt.step (Gt.neg (by rw[a1];decide) (Gt.neg (by rw[a1];decide) (Gt.neg (by rw[a1];decide) (Gt.pos (by rw[D4 a];rfl) (Gt.addN ⟨b,NftL.node (s':=s.nx) (NftL.nil s) _ 3 [] 1 _ rfl⟩)))))
theorem cp4:Px L (.nd 4 [] 0 []):=by
 refine px5 w4 (by simp[isE,Nt.k]) rfl (Y2 rfl λd s r a _=> ?_);have a:tt L s.i=(2,[110,117,108,108])::r:=a;obtain⟨a1,c,b⟩:=E7 a;exact Gt.step (Gt.neg (by rw[a1];decide) (Gt.neg (by rw[a1];decide) (Gt.neg (by rw[a1];decide) (Gt.neg (by rw[D4 a];decide) (Gt.neg (by rw[D4 a];decide) (Gt.pos (by rw[D4 a];rfl) (Gt.addN ⟨b,NftL.node (s':=s.nx) (NftL.nil s) _ 4 [] 0 _ rfl⟩)))))))
end
section
variable(L:List Tk)
def Pb(t:Nt):Prop:=∀d s r,tt L s.i=(me t).1++r->(me t).2<=20 - d->Gt L (λq=>q.block d s) (Qn L r s t)
def Ps(t:Nt):Prop:=∀d s r,tt L s.i=(me t).1++r->T5 r [[101,108,115,101]]=false->(me t).2<=20 - d->Gt L (λq=>q.any d s) (Qn L r s t)
end
section
variable{L:List Tk}
theorem cp6(a:List Nt)(o:Option Tr)(b:Nt)(B:Wn (.nd 6 [] 0 (a++[.ty o,b])))(A:∀p∈a,∃K o,p= .nd 16 K 0 [.ty o]/\Wn (.ty o))(w:(a.map Nt.tx).Nodup)(z:Wn (.ty o))(u:∃E,(me b).1=sgQ [123]::E)(t:Pb L b):Px L (.nd 6 [] 0 (a++[.ty o,b])):=by
 refine px5 B (by simp[isE,Nt.k]) rfl (Y2 rfl λd s r c i=> ?_);rw[me6]at c i;simp only at i;have c:tt L s.i=(2,[102,110])::sgQ [40]::(L9 true (meL a)++sgQ [41]::(H0a (pt (.ty o))++((me b).1++r))):=by rw[c];simp
 obtain⟨a1,M,f⟩:=E7 c;refine Gt.step (Gt.neg (by rw[a1];decide) (Gt.neg (by rw[a1];decide) (Gt.neg (by rw[a1];decide) (Gt.neg (by rw[D4 c];decide) (Gt.neg (by rw[D4 c];decide) (Gt.neg (by rw[D4 c];decide) (Gt.pos (by rw[D4 c];rfl) ?_)))))));refine Gt.bind (Gt.need (Q:=λj _=>j=s.nx.nx) (s:=s.nx) f rfl) ?_;rintro j _ rfl;have k:tt L s.nx.nx.i=L9 true (meL a)++sgQ [41]::(H0a (pt (.ty o))++((me b).1++r)):=(E7 f).2.2;refine Gt.bind (C0c a d s.nx.nx _ w A k (by omega)) ?_;rintro F l ⟨m,N,g,e⟩;rw[lY]at g;subst g;have e:NftL s a F l:=e;obtain⟨P,h⟩:=u;refine Gt.bind (J3a z m (by rw[h];rfl) (by rw[h];exact⟨rfl,rfl⟩) (by omega)) ?_;rintro G x ⟨n,C⟩;refine Gt.bind (t d G r n (by omega)) ?_;rintro H y ⟨q,D⟩;have v:NftL s (a++[.ty o,b]) H (l++[x,y]):=e.app (C.cons D.l);refine Gt.addN ⟨q,v.node _ 6 [] 0 _ ?_⟩;show _=(⟨6,(l++[x,y]).getLastD 0,0,0,(l++[x,y]).dropLast.dropLast,[],0,(l++[x,y]).dropLast.getLastD 0,0⟩:Nd);rw[dl3,dl4,dl5];rfl
theorem cp10(c:List Nt)(m:Wn (.nd 10 [] 0 c))(j:(c.map Nt.tx).Nodup)(k:∀p∈c,∃o a,p= .nd 15 o 0 [a]/\Wn a/\isE a.k/\PEQ L a):Px L (.nd 10 [] 0 c):=by
 refine px5 m (by simp[isE,Nt.k]) rfl (Y2 rfl λd s r b g=> ?_);rw[C7d]at b g;have b:tt L s.i=sgQ [123]::(L9 true (meL c)++sgQ [125]::r):=by rw[b];simp
 obtain⟨a1,q,h⟩:=E7 b;refine Gt.step (Gt.neg (by rw[a1];decide) (Gt.neg (by rw[a1];decide) (Gt.neg (by rw[a1];decide) (Gt.neg (by rw[D4 b];decide) (Gt.neg (by rw[D4 b];decide) (Gt.neg (by rw[D4 b];decide) (Gt.neg (by rw[D4 b];decide) (Gt.neg (by rw[D4 b];decide) (Gt.pos (by rw[D4 b];rfl) ?_)))))))));refine Gt.bind (C1c c d s.nx r j k h g) ?_;rintro n l ⟨i,t,f,e⟩;rw[lY]at f;subst f;have e:NftL s c n l:=e;exact Gt.addN ⟨i,e.node _ 10 [] 0 _ rfl⟩
theorem cp11(b:List Nt)(j:Wn (.nd 11 [] 0 b))(i:∀p∈b,Wn p/\isE p.k/\PEQ L p):Px L (.nd 11 [] 0 b):=by
 refine px5 j (by simp[isE,Nt.k]) rfl (Y2 rfl λd s r a f=> ?_);rw[C6d]at a f;have a:tt L s.i=sgQ [91]::(L9 true (meL b)++sgQ [93]::r):=by rw[a];simp
 obtain⟨a1,m,g⟩:=E7 a;refine Gt.step (Gt.neg (by rw[a1];decide) (Gt.neg (by rw[a1];decide) (Gt.neg (by rw[a1];decide) (Gt.neg (by rw[D4 a];decide) (Gt.neg (by rw[D4 a];decide) (Gt.neg (by rw[D4 a];decide) (Gt.neg (by rw[D4 a];decide) (Gt.pos (by rw[D4 a];rfl) ?_))))))));refine Gt.bind (B1b [93] (by decide) b d s.nx [] [] r i g f) ?_;rintro k l ⟨h,n,e,c⟩;rw[lY]at e;subst e;have c:NftL s b k l:=c;exact Gt.addN ⟨h,c.node _ 11 [] 0 _ rfl⟩
theorem Cp.tail{g:Sp->Option (Out Int)}{k:Sp->St->Int->Option (Out Int)}{r e:List TT}{s:St}{t f:Nt}(h:Cp L g k r s t)(n:∀a c,Qn L r s t a c->∃b d,Qn L e s f b d/\∀R,Gt L (λq=>k q b d) R->Gt L (λq=>k q a c) R):Cp L g k e s f:=by
 obtain⟨a,c,l,i⟩:=h;obtain⟨b,d,m,j⟩:=n a c l;exact⟨b,d,m,λR h=>i R (j R h)⟩
theorem X9a{t a:Nt}{tl:List TT}{dd:Nat}(e:bnd t=5)(j:(me t).1=wt 5 (pt a)++tl)(k:(me t).2=max (wd 5 (pt a)) dd)(u:∀r,T5 (tl++r) fo=false)(l:P5 L a)
 (h:∀d s b c r,tt L b.i=tl++r->T5 r fo=false->Nft s a b c->dd<=20 - d->∃g i,Qn L r s t g i/\∀R,Gt L (λq=>q.tail d g i) R->Gt L (λq=>q.tail d b c) R):P5 L t:=by
 intro d s r f p m;rw[(R5d t e).1,j,kZ]at f;rw[(R5d t e).2,k]at m;refine(l d s (tl++r) f (u r) (by omega)).tail ?_;rintro b c ⟨o,n⟩;exact h d s b c r o p n (by omega)
theorem cp7(a:Nt)(c:List Nt)(x:Wn (.nd 7 [] 0 (a::c)))(q:P5 L a)(w:∀p∈c,Wn p/\isE p.k/\PEQ L p):Px L (.nd 7 [] 0 (a::c)):=by
 refine px5 x (by simp[isE,Nt.k]) rfl (X9a rfl (by rw[me7]) (by rw[me7]) (λ_=>rfl) q λd s f m r e A v t=> ?_);have e:tt L f.i=sgQ [40]::(L9 true (meL c)++sgQ [41]::r):=by rw[e];simp
 obtain⟨a1,z,n⟩:=E7 e;obtain⟨b,l,u,o,k,j,g⟩:=B1b [41] (by decide) c d f.nx [] [] r w n t;rw[lY]at j;subst j;have g:NftL f c b l:=g;refine⟨⟨b.i,b.N++[⟨7,m,0,0,l,[],0,-1,atN f m⟩],b.T⟩,b.N.length,⟨o,(v.cons g).node _ 7 [] 0 _ rfl⟩,λR h=> ?_⟩;refine Gt.step (Gt.pos (by rw[D4 e];rfl) (Gt.bind (Q:=λi k=>i=b/\k=l) ⟨b,l,u,rfl,rfl⟩ ?_));rintro _ _ ⟨rfl,rfl⟩;refine Gt.bind (Q:=λi y=>i=_/\y=_) (Gt.addN ⟨rfl,rfl⟩) ?_;rintro _ _ ⟨rfl,rfl⟩;exact h
theorem cp8(e:bZ)(a:Nt)(n:Wn (.nd 8 e 0 [a]))(l:P5 L a):Px L (.nd 8 e 0 [a]):=by
 refine px5 n (by simp[isE,Nt.k]) rfl (X9a (dd:=0) rfl (by rw[me8]) (by rw[me8];simp) (λ_=>rfl) l λd s b f r c u m t=> ?_);have c:tt L b.i=sgQ [46]::(1,e)::r:=c;obtain⟨a1,q,g⟩:=E7 c;obtain⟨i,j,k⟩:=E7 g;refine⟨⟨b.i+1+1,b.N++[⟨8,f,0,0,[],e,0,-1,atN b f⟩],b.T⟩,b.N.length,⟨k,m.l.node _ 8 e 0 _ rfl⟩,λR h=> ?_⟩;refine Gt.step (Gt.neg (by rw[D4 c];decide) (Gt.pos (by rw[D4 c];rfl) (Gt.pos i ?_)));refine Gt.bind (Q:=λo p=>o=_/\p=_) (Gt.addN ⟨rfl,rfl⟩) ?_;rintro _ _ ⟨rfl,rfl⟩;rw[j];exact h
theorem cp9(a b:Nt)(t:Wn (.nd 9 [] 0 [a,b]))(m:P5 L a)(n:PEQ L b):Px L (.nd 9 [] 0 [a,b]):=by
 refine px5 t (by simp[isE,Nt.k]) rfl (X9a rfl (by rw[me9]) (by rw[me9]) (λ_=>rfl) m λd s g k r e x q o=> ?_);have e:tt L g.i=sgQ [91]::((me b).1++sgQ [93]::r):=by rw[e];simp
 obtain⟨a1,w,l⟩:=E7 e;obtain⟨c,y,p,j,i⟩:=n d g.nx (sgQ [93]::r) l rfl o;have i:Nft g b c.nx y:=i;refine⟨⟨c.i+1,c.N++[⟨9,k,y,0,[],[],0,-1,atN g k⟩],c.T⟩,c.N.length,⟨(E7 j).2.2,(q.cons i.l).node _ 9 [] 0 _ rfl⟩,λR h=> ?_⟩;refine Gt.step (Gt.neg (by rw[D4 e];decide) (Gt.neg (by rw[D4 e];decide) (Gt.pos (by rw[D4 e];rfl) (Gt.bind (Q:=λf u=>f=c/\u=y) ⟨c,y,p,rfl,rfl⟩ ?_))));rintro _ _ ⟨rfl,rfl⟩;refine Gt.bind (Gt.need (Q:=λf _=>f=_) j rfl) ?_;rintro _ _ rfl;refine Gt.bind (Q:=λf v=>f=_/\v=_) (Gt.addN ⟨rfl,rfl⟩) ?_;rintro _ _ ⟨rfl,rfl⟩;exact h
theorem cp14(a:Nt)(t:Tr)(q:Wn (.nd 14 [] 0 [a,.ty (some t)]))(u:Wf t)(m:P5 L a):Px L (.nd 14 [] 0 [a,.ty (some t)]):=by
 refine px5 q (by simp[isE,Nt.k]) rfl (X9a rfl (by rw[C5d]) (by rw[C5d]) (λ_=>rfl) m λd s e j r b i p n=> ?_);have b:tt L e.i=(2,[97,115])::(tks t++r):=b;obtain⟨a1,x,k⟩:=E7 b;obtain⟨c,y,o,l,f⟩:=(C9b t u).1 d e.nx r k ⟨by rw[R4a];exact U7 i (by decide),by rw[R4a];exact U7 i (by decide)⟩ n;have f:Nft e (.ty (some t)) c y:=Yft.n f;refine⟨⟨c.i,c.N++[⟨14,j,0,0,[],[],0,y,atN e j⟩],c.T⟩,c.N.length,⟨l,(p.cons f.l).node _ 14 [] 0 _ rfl⟩,λR h=> ?_⟩;refine Gt.step (Gt.neg (by rw[D4 b];decide) (Gt.neg (by rw[D4 b];decide) (Gt.neg (by rw[D4 b];decide) (Gt.pos (by rw[D4 b];rfl) (Gt.bind (Q:=λg v=>g=c/\v=y) ⟨c,y,o,rfl,rfl⟩ ?_)))));rintro _ _ ⟨rfl,rfl⟩;refine Gt.bind (Q:=λg w=>g=_/\w=_) (Gt.addN ⟨rfl,rfl⟩) ?_;rintro _ _ ⟨rfl,rfl⟩;exact h
theorem cp13(c:bZ)(a:Nt)(p:Wn (.nd 13 c 0 [a]))(f:c∈[[33],[45],[116,121,112,101,111,102]])(t:Wn a)(m:isE a.k)(l:P4 L a):Px L (.nd 13 c 0 [a]):=by
 refine px4 p (by simp[isE,Nt.k]) rfl λd s r b o h=> ?_;rw[C5a 4 _ (by show 4<=bnK 13 c;exact vQ _),Z3,P5c]at b;rw[C6a 4 _ (by show 4<=bnK 13 c;exact vQ _),J9a,P5c]at h;simp only at h;have b:tt L s.i=sgw c::(wt 4 (pt a)++r):=b;obtain⟨k,b,n⟩:∃k,tt L s.i=(k,c)::(wt 4 (pt a)++r)/\(k==5||k==2)=true:=by
  simp only[jW,qZ,or_false]at f;rcases f with rfl|rfl|rfl
  · exact⟨5,b,rfl⟩
  · exact⟨5,b,rfl⟩
  · exact⟨2,b,rfl⟩
 obtain⟨a1,i,g⟩:=E7 b;refine Gt.step (Gt.pos (by rw[D4 b,n,Y3a f];rfl) ?_);refine Gt.bind (Gt.inside (p:=λq=>q.oper) (((W0d (R6a t m) 4).app r).beg g) (by omega) (l (d+1) s.nx r g o (by omega))) ?_;rintro u x ⟨j,e⟩;have e:Nft s a u x:=e;rw[i];exact Gt.addN ⟨j,e.l.node _ 13 c 0 _ rfl⟩
theorem H6c{b:Bool}{i:bZ}(v:i∈I4 b){a c:Nt}{d:Nat}{s f:St}{g:Int}{r x:List TT}(l:tt L f.i=sgQ i::x)(u:Nft s a f g)(p:Gt L (λq=>(if b then q.prod d else q.oper d) f.nx) (Qn L r f.nx c)):
 ∃e m,Qn L r s (.nd 12 i 0 [a,c]) e m/\∀R,Gt L (λq=>q.row b d e m) R->Gt L (λq=>q.row b d f g) R:=by
 obtain⟨e,y,t,o,j⟩:=p;have j:Nft f c e y:=j;refine⟨⟨e.i,e.N++[⟨12,g,y,0,[],i,0,-1,atN e g⟩],e.T⟩,e.N.length,⟨o,(u.cons j.l).node _ 12 i 0 _ rfl⟩,λR h=> ?_⟩;have n:=(E7 l).2.1;refine Gt.step (Gt.pos (by rw[D4 l,Y3a v];rfl) ?_);refine Gt.bind (Q:=λk z=>k=⟨e.i,e.N++[⟨12,g,y,0,[],(tk L f.i).text,0,-1,atN e g⟩],e.T⟩/\z=(e.N.length:Int)) ?_ ?_
 · refine Gt.bind (Q:=λk w=>k=e/\w=y) ⟨e,y,t,rfl,rfl⟩ ?_;rintro _ _ ⟨rfl,rfl⟩;exact Gt.addN ⟨rfl,rfl⟩
 · rintro _ _ ⟨rfl,rfl⟩;rw[n];exact h
theorem cp12(c:bZ)(a b:Nt)(p:Wn (.nd 12 c 0 [a,b]))(u:c∈[[61,61],[60],[43],[45],[42]])(n:Px L a)(o:Px L b):Px L (.nd 12 c 0 [a,b]):=by
 have A:c=[42]->Px L (.nd 12 c 0 [a,b]):=by
  rintro rfl;refine px3 p (by simp[isE,Nt.k]) rfl λd s r e m g=> ?_;rw[C5a 3 _ (by show 3<=bnK 12 [42];decide),Z3,F2b]at e;rw[C6a 3 _ (by show 3<=bnK 12 [42];decide),J9a,F2b]at g;have e:tt L s.i=wt 3 (pt a)++sgQ [42]::(wt 4 (pt b)++r):=by rw[e,kZ];rfl
  have g:max (wd 3 (pt a)) (wd 4 (pt b))<=20 - d:=g;refine(n.p3 d s _ e rfl (by omega)).tail ?_;rintro k w ⟨i,l⟩;exact H6c (b:=false) (by decide) i l (o.p4 d k.nx r (E7 i).2.2 m (by omega))
 have v:c∈I4 true->Px L (.nd 12 c 0 [a,b]):=by
  intro j;have f:bnK 12 c=2/\lv c=2/\T5 [sgQ c] f3=false:=by
   simp only[I4,jW,qZ,or_false]at j;rcases j with rfl|rfl<;>decide
  refine px2 p (by simp[isE,Nt.k]) f.1 λd s r e m g=> ?_;rw[C5a 2 _ (by show 2<=bnK 12 c;omega),Z3,F2b,f.1,f.2.1]at e;rw[C6a 2 _ (by show 2<=bnK 12 c;omega),J9a,F2b,f.1,f.2.1]at g;have e:tt L s.i=wt 2 (pt a)++sgQ c::(wt 3 (pt b)++r):=by rw[e,kZ];rfl
  have g:max (wd 2 (pt a)) (wd 3 (pt b))<=20 - d:=g;refine(n.p2 d s _ e f.2.2 (by omega)).tail ?_;rintro k w ⟨i,l⟩;exact H6c (b:=true) j i l (I0c o.p3 d k.nx r (E7 i).2.2 m (by omega))
 have t:c∈[[61,61],[60]]->Px L (.nd 12 c 0 [a,b]):=by
  intro j;have f:bnK 12 c=1/\lv c=2/\T5 [sgQ c] f2=false:=by
   simp only[jW,qZ,or_false]at j;rcases j with rfl|rfl<;>decide
  refine px1 p (by simp[isE,Nt.k]) f.1 λd s r e m g=> ?_;rw[F2b,f.1,f.2.1]at e g;have e:tt L s.i=wt 2 (pt a)++sgQ c::(wt 2 (pt b)++r):=by rw[e,kZ];rfl
  have g:max (wd 2 (pt a)) (wd 2 (pt b))<=20 - d:=g;refine Gt.step (Gt.bind (Y7b n.p2 d s _ e f.2.2 (by omega)) ?_);rintro k w ⟨i,l⟩;refine Gt.pos (by rw[D4 i,Y3a j];rfl) ?_;refine Gt.bind (Y7b o.p2 d k.nx r (E7 i).2.2 (U7 m f12) (by omega)) ?_;rintro z y ⟨x,q⟩;have q:Nft k b z y:=q;rw[(E7 i).2.1];exact Gt.addN ⟨x,(l.cons q.l).node _ 12 c 0 _ rfl⟩
 simp only[jW,qZ,or_false]at u;rcases u with h|h|h|h|h
 · exact t (by rw[h];decide)
 · exact t (by rw[h];decide)
 · exact v (by rw[h];decide)
 · exact v (by rw[h];decide)
 · exact A h
/-! ### Statements -/
def FS(l:List TT):Prop:=∃k x r,l=(k,x)::r/\(k=1\/k=3\/k=4\/((k=5\/k=2)/\x∈O0++A7a))
theorem FS.app{l:List TT}(h:FS l)(r:List TT):FS (l++r):=by
 obtain⟨k,x,a,rfl,h⟩:=h;exact⟨k,x,a++r,rfl,h⟩
theorem Fb.s{l:List TT}(h:Fb l):FS l:=by
 obtain⟨k,x,r,e,h⟩:=h;refine⟨k,x,r,e, ?_⟩;rcases h with h|h|h|h
 · exact .inl h
 · exact .inr (.inl h)
 · exact .inr (.inr (.inl h))
 · exact .inr (.inr (.inr ⟨h.1,List.mem_append_left _ h.2⟩))
theorem FS.w{m:bZ}(r:List TT)(h:m∈A7a):FS ((2,m)::r):=⟨2,m,r,rfl,.inr (.inr (.inr ⟨.inr rfl,List.mem_append_right _ h⟩))⟩
theorem FS.no{l:List TT}(h:FS l){a:List bZ}(b:∀m∈O0++A7a,m ∉ a):T5 l a=false:=by
 obtain⟨k,x,r,rfl,h⟩:=h;rcases h with rfl|rfl|rfl|⟨_,h⟩
 · simp[T5]
 · simp[T5]
 · simp[T5]
 · have:=b x h;simp[T5,has,this]
theorem FS.beg{i:Nat}{l:List TT}(h:FS l)(a:tt L i=l):K8d L i=true/\(tk L i).kind≠6:=by
 obtain⟨k,x,r,rfl,h⟩:=h;obtain⟨b,_,_⟩:=E7 a;rw[K8d,I8a,b,D4 a,D4 a];rcases h with rfl|rfl|rfl|⟨hk,h⟩
 · simp
 · simp
 · simp
 · rw[qW]at h;rcases hk with rfl|rfl<;>rcases h with h|h<;>simp[has,h]
theorem J9c{t:Nt}(l:Wn t)(k:17<=t.k/\t.k<=25):FS (me t).1:=by
 cases W5 l with
 |n17 i a b h d e f g=>rw[C2d];exact FS.w _ (by decide)
 |n18 i a h d e=>rw[C1d];exact⟨1,_,_,rfl,.inl rfl⟩
 |n19 i a b h d e f g=>rw[C0d];exact((Z0a (R6a d e)).b.s).app _
 |n20 a b c d e f g j m=>rw[B9d];exact((Z0a (R6a d e)).b.s).app _
 |n21 a d e=>rw[B8d];exact FS.w _ (by decide)
 |n22 a b c d e f g j m=>rw[B7d];exact FS.w _ (by decide)
 |n23 a b d e f g=>rw[B6d];exact FS.w _ (by decide)
 |n24 a d e=>rw[B5d];exact FS.w _ (by decide)
 |n25 a d e=>rw[B4d];exact((R6a d e).1.s).app _
 |_=>simp[Nt.k]at k
theorem H3c{t:Nt}(e:Wn t)(b:17<=t.k/\t.k<=25)(h:Ps L t){d:Nat}{s:St}{r:List TT}(a:tt L s.i=(me t).1++r)(c:T5 r [[101,108,115,101]]=false)(f:(me t).2+1<=20 - d):Gt L (λq=>q.stmt d s) (Qn L r s t):=
 Gt.step (Gt.inside (p:=λq=>q.any) (((J9c e b).app r).beg a).1 (by omega) (h (d+1) s r a c (by omega)))
theorem K2c{a:List Nt}(b:∀p∈a,Wn p/\(17<=p.k/\p.k<=25)/\Ps L p){r:List TT}(c:T5 r [[101,108,115,101]]=false):T5 (flT (meL a)++r) [[101,108,115,101]]=false:=by
 cases a with
 |nil=>exact c
 |cons p a=>
  have:=b p (by simp);rw[J6,flT,Z3,kZ];exact((J9c this.1 this.2.1).app _).no (by decide)
theorem W7a:∀(b:List Nt) (d:Nat) (s:St) (c:uZ) (r:List TT),(∀p∈b,Wn p/\(17<=p.k/\p.k<=25)/\Ps L p)->tt L s.i=flT (meL b)++sgQ [125]::r->mx 1 (meL b)<=20 - d->Gt L (λq=>q.blockL d s c) (QnL L r s b c)
 |[],d,s,c,r,_,a,_=>by
  have a:tt L s.i=sgQ [125]::r:=a;exact Gt.step (Gt.pos (by rw[D4 a];rfl) (Gt.pure ⟨(E7 a).2.2,[],by simp,NftL.nil s⟩))
 |p::b,d,s,c,r,e,a,m=>by
  rw[J6,mx,J9a]at m;have a:tt L s.i=(me p).1++(flT (meL b)++sgQ [125]::r):=by rw[a,J6,flT,Z3,kZ]
  obtain⟨g,h,i⟩:=e p (by simp);refine Gt.step (Gt.neg (by rw[B9a,a,((J9c g h).app _).no (by decide)];simp) ?_);refine Gt.bind (H3c g h i a (K2c (λq f=>e q (by simp[f])) rfl) (by omega)) ?_;rintro u x ⟨j,n⟩;refine(W7a b d u (c++[x]) r (λq f=>e q (by simp[f])) j (by omega)).mono ?_;rintro v l ⟨k,t,rfl,o⟩;exact⟨k,x::t,by simp,n.cons o⟩
theorem A3b:∀(b:List Nt) (d:Nat) (s:St) (c:uZ),(∀p∈b,Wn p/\(17<=p.k/\p.k<=25)/\Ps L p)->tt L s.i=flT (meL b)++[(6,[])]->mx 1 (meL b)<=20 - d->Gt L (λq=>q.progL d s c) (QnL L [(6,[])] s b c)
 |[],d,s,c,_,a,_=>by
  have a:tt L s.i=[(6,[])]:=a;exact Gt.step (Gt.pos (E7 a).1 (Gt.pure ⟨a,[],by simp,NftL.nil s⟩))
 |p::b,d,s,c,e,a,m=>by
  rw[J6,mx,J9a]at m;have a:tt L s.i=(me p).1++(flT (meL b)++[(6,[])]):=by rw[a,J6,flT,Z3,kZ]
  obtain⟨g,h,i⟩:=e p (by simp);refine Gt.step (Gt.neg (((J9c g h).app _).beg a).2 ?_);refine Gt.bind (H3c g h i a (K2c (λq f=>e q (by simp[f])) rfl) (by omega)) ?_;rintro t x ⟨j,n⟩;refine(A3b b d t (c++[x]) (λq f=>e q (by simp[f])) j (by omega)).mono ?_;rintro u l ⟨k,r,rfl,o⟩;exact⟨k,x::r,by simp,n.cons o⟩
theorem cp26(b:List Nt)(h:∀p∈b,Wn p/\(17<=p.k/\p.k<=25)/\Ps L p):Pb L (.nd 26 [] 0 b):=by
 intro d s r a f;rw[R6d]at a f;have a:tt L s.i=sgQ [123]::(flT (meL b)++sgQ [125]::r):=by rw[a];simp
 refine Gt.step (Gt.bind (Gt.need (Q:=λi _=>i=s.nx) a rfl) ?_);rintro _ _ rfl;refine Gt.bind (W7a b d s.nx [] r h (E7 a).2.2 f) ?_;rintro j l ⟨g,k,e,c⟩;rw[lY]at e;subst e;have c:NftL s b j l:=c;exact Gt.addN ⟨g,c.node _ 26 [] 0 _ rfl⟩
theorem J7b{s:St}{l:List TT}(h:Fb l)(b:tt L s.i=l):∀m∈A7a,¬isM L s.i [m]=true:=by
 intro m a;rw[B9a,b,h.no ?_]
 · simp
 · simp only[A7a,jW,qZ,or_false]at a;rcases a with rfl|rfl|rfl|rfl|rfl<;>decide
theorem cp17(h:bZ)(o:Option Tr)(b:Nt)(u:Wn (.ty o))(t:PEQ L b):Ps L (.nd 17 h 0 [.ty o,b]):=by
 intro d s r a _ k;rw[C2d]at a k;simp only at k;have a:tt L s.i=(2,[108,101,116])::(1,h)::(H0a (pt (.ty o))++sgQ [61]::((me b).1++sgQ [59]::r)):=by rw[a];simp
 obtain⟨a1,v,m⟩:=E7 a;obtain⟨n,p,q⟩:=E7 m;refine Gt.step (Gt.pos (by rw[D4 a];rfl) (Gt.pos n ?_));refine Gt.bind (J3a u (s:=s.nx.nx) q rfl ⟨rfl,rfl⟩ (by omega)) ?_;rintro c x ⟨i,e⟩;have e:Nft s (.ty o) c.nx x:=e;refine Gt.bind (Gt.need (Q:=λg _=>g=c.nx) i rfl) ?_;rintro _ _ rfl;refine Gt.bind (t d c.nx (sgQ [59]::r) (E7 i).2.2 rfl (by omega)) ?_;rintro l y ⟨j,f⟩;have f:Nft c.nx b l.nx y:=f;refine Gt.bind (Gt.need (Q:=λg _=>g=l.nx) j rfl) ?_;rintro _ _ rfl;rw[p];exact Gt.addN ⟨(E7 j).2.2,(e.cons f.l).node _ 17 h 0 _ rfl⟩
theorem cp21(a:Nt)(h:PEQ L a):Ps L (.nd 21 [] 0 [a]):=by
 intro d s r b _ f;rw[B8d]at b f;have b:tt L s.i=(2,[112,114,105,110,116])::((me a).1++sgQ [59]::r):=by rw[b];simp
 refine Gt.step (Gt.neg (by rw[D4 b];decide) (Gt.pos (by rw[D4 b];rfl) ?_));refine Gt.bind (h d s.nx (sgQ [59]::r) (E7 b).2.2 rfl f) ?_;rintro g y ⟨e,c⟩;have c:Nft s a g.nx y:=c;refine Gt.bind (Gt.need (Q:=λi _=>i=g.nx) e rfl) ?_;rintro _ _ rfl;exact Gt.addN ⟨(E7 e).2.2,c.l.node _ 21 [] 0 _ rfl⟩
theorem cp24(a:Nt)(h:PEQ L a):Ps L (.nd 24 [] 0 [a]):=by
 intro d s r b _ f;rw[B5d]at b f;have b:tt L s.i=(2,[114,101,116,117,114,110])::((me a).1++sgQ [59]::r):=by rw[b];simp
 refine Gt.step (Gt.neg (by rw[D4 b];decide) (Gt.neg (by rw[D4 b];decide) (Gt.pos (by rw[D4 b];rfl) ?_)));refine Gt.bind (h d s.nx (sgQ [59]::r) (E7 b).2.2 rfl f) ?_;rintro g y ⟨e,c⟩;have c:Nft s a g.nx y:=c;refine Gt.bind (Gt.need (Q:=λi _=>i=g.nx) e rfl) ?_;rintro _ _ rfl;exact Gt.addN ⟨(E7 e).2.2,c.l.node _ 24 [] 0 _ rfl⟩
theorem cp25(a:Nt)(k:Wn a)(j:isE a.k)(i:PEQ L a):Ps L (.nd 25 [] 0 [a]):=by
 intro d s r c _ g;rw[B4d]at c g;have c:tt L s.i=(me a).1++sgQ [59]::r:=by rw[c];simp
 have b:=J7b ((R6a k j).1.app _) c;refine Gt.step (Gt.neg (b _ (by decide)) (Gt.neg (b _ (by decide)) (Gt.neg (b _ (by decide)) (Gt.neg (b _ (by decide)) (Gt.neg (b _ (by decide)) ?_)))));refine Gt.bind (i d s (sgQ [59]::r) c rfl g) ?_;rintro h y ⟨e,f⟩;have f:Nft s a h.nx y:=f;refine Gt.neg (by rw[D4 e];decide) ?_;refine Gt.bind (Gt.need (Q:=λl _=>l=h.nx) e rfl) ?_;rintro _ _ rfl;exact Gt.addN ⟨(E7 e).2.2,f.l.node _ 25 [] 0 _ rfl⟩
theorem cp23(a b:Nt)(l:PEQ L a)(m:Pb L b):Ps L (.nd 23 [] 0 [a,b]):=by
 intro d s r c _ j;rw[B6d]at c j;simp only at j;have c:tt L s.i=(2,[119,104,105,108,101])::sgQ [40]::((me a).1++sgQ [41]::((me b).1++r)):=by rw[c];simp
 obtain⟨a1,o,h⟩:=E7 c;refine Gt.step (Gt.neg (by rw[D4 c];decide) (Gt.neg (by rw[D4 c];decide) (Gt.neg (by rw[D4 c];decide) (Gt.neg (by rw[D4 c];decide) (Gt.pos (by rw[D4 c];rfl) ?_)))));refine Gt.bind (Gt.need (Q:=λf _=>f=s.nx.nx) (s:=s.nx) h rfl) ?_;rintro _ _ rfl;refine Gt.bind (l d s.nx.nx _ (E7 h).2.2 rfl (by omega)) ?_;rintro g x ⟨i,e⟩;have e:Nft s a g.nx x:=e;refine Gt.bind (Gt.need (Q:=λf _=>f=g.nx) i rfl) ?_;rintro _ _ rfl;refine Gt.bind (m d g.nx r (E7 i).2.2 (by omega)) ?_;rintro p y ⟨k,n⟩;exact Gt.addN ⟨k,(e.cons n.l).node _ 23 [] 0 _ rfl⟩
theorem cp22(a b c:Nt)(p:PEQ L a)(q:Pb L b)(h:c= .ty none\/c.k=26/\Pb L c):Ps L (.nd 22 [] 0 [a,b,c]):=by
 intro d s r f t n;rw[B7d]at f n;simp only at n;have f:tt L s.i=(2,[105,102])::sgQ [40]::((me a).1++sgQ [41]::((me b).1++((if c.k= -1 then [] else (2,[101,108,115,101])::(me c).1)++r))):=by rw[f];simp
 obtain⟨a1,w,l⟩:=E7 f;refine Gt.step (Gt.neg (by rw[D4 f];decide) (Gt.neg (by rw[D4 f];decide) (Gt.neg (by rw[D4 f];decide) (Gt.pos (by rw[D4 f];rfl) ?_))));refine Gt.bind (Gt.need (Q:=λj _=>j=s.nx.nx) (s:=s.nx) l rfl) ?_;rintro _ _ rfl;refine Gt.bind (p d s.nx.nx _ (E7 l).2.2 rfl (by omega)) ?_;rintro k x ⟨m,i⟩;have i:Nft s a k.nx x:=i;refine Gt.bind (Gt.need (Q:=λj _=>j=k.nx) m rfl) ?_;rintro _ _ rfl;refine Gt.bind (q d k.nx _ (E7 m).2.2 (by omega)) ?_;rintro g y ⟨e,u⟩;refine Gt.bind (Q:=Qn L r g c) ?_ ?_
 · rcases h with rfl|⟨hk,h⟩
   · have e:tt L g.i=r:=e;exact Gt.neg (by rw[B9a,e,t];simp) (Gt.pure ⟨e,Nft.none g⟩)
   · rw[yY (by omega)]at e;have e:tt L g.i=(2,[101,108,115,101])::((me c).1++r):=e;exact Gt.pos (by rw[D4 e];rfl) (h d g.nx r (E7 e).2.2 (by omega))
 · rintro A z ⟨o,v⟩;exact Gt.addN ⟨o,(i.cons (u.cons v.l)).node _ 22 [] 0 _ rfl⟩
theorem A0b{k:Int}{tx:bZ}{n:Int}{ps:List Nt}{u:Nt}(h:k=5\/k=8\/k=9)(D:Wn (.nd k tx n ps))(A:PEQ L (.nd k tx n ps))(B:PEQ L u){d:Nat}{s:St}{r:List TT}
 (o:tt L s.i=(me (.nd k tx n ps)).1++sgQ [61]::((me u).1++sgQ [59]::r)) (p:(me (.nd k tx n ps)).2+1<=20 - d) (t:(me u).2+1<=20 - d):
 Gt L (λq=>q.any d s) (λe y=>∃a m l v,e=⟨a.i,a.N++[F7a m v],a.T⟩/\y=a.N.length/\tt L a.i=r/\m.fl=mkN k tx n l/\l=ixL s.N.length s.T.length ps/\NftL s (ps++[u]) a (l++[v])):=by
 have w:isE (Nt.nd k tx n ps).k:=by rcases h with rfl|rfl|rfl<;>simp[isE,Nt.k]
 have b:=J7b ((R6a D w).1.app _) o;refine Gt.step (Gt.neg (b _ (by decide)) (Gt.neg (b _ (by decide)) (Gt.neg (b _ (by decide)) (Gt.neg (b _ (by decide)) (Gt.neg (b _ (by decide)) ?_)))));refine Gt.bind (A d s _ o rfl p) ?_;rintro c x ⟨f,E⟩;obtain⟨l,j,i⟩:=E.split (c.i+1);have z:(c.N.getD x.toNat nd0).kind=k:=by
  have:=congrArg Nd.kind j;rw[B7a]at this;exact this
 refine Gt.pos (by rw[D4 f];rfl) (Gt.neg (by rw[z];rcases h with rfl|rfl|rfl<;>decide) ?_);refine Gt.bind (B d ⟨c.i+1,c.N.take x.toNat,c.T⟩ (sgQ [59]::r) (E7 f).2.2 rfl t) ?_;rintro a v ⟨g,C⟩;refine Gt.bind (Gt.need (Q:=λe _=>e=a.nx) g rfl) ?_;rintro _ _ rfl;exact Gt.addN ⟨a.nx,_,l,v,rfl,rfl,(E7 g).2.2,j,i.2.2,i.app (Nft.l C)⟩
theorem cp18(a:bZ)(u:Nt)(g:S4 a)(j:PEQ L u):Ps L (.nd 18 a 0 [u]):=by
 intro d s r f _ b;rw[C1d]at f b;simp only at b;refine(A0b (k:=5) (tx:=a) (n:=0) (ps:=[]) (.inl rfl) (w5 g) (cp5 a g).pe j (r:=r) (by rw[f,me5];simp) (by rw[me5];simp only;omega) b).mono ?_;rintro A y ⟨n,m,l,v,rfl,rfl,h,e,c,i⟩;have c:l=[]:=c;subst c;refine⟨h, ?_⟩;obtain⟨mk,o,q,t,w,k,x,z,p⟩:=m;simp[Nd.fl,mkN]at e;obtain⟨rfl,rfl,rfl,rfl,rfl,rfl,rfl,rfl⟩:=e;exact i.node n.i 18 k 0 _ rfl
theorem cp19(b:bZ)(a u:Nt)(o:Wn (.nd 8 b 0 [a]))(i:PEQ L (.nd 8 b 0 [a]))(n:PEQ L u):Ps L (.nd 19 b 0 [a,u]):=by
 intro d s r f _ c;rw[C0d]at f c;simp only at c;refine(A0b (k:=8) (tx:=b) (n:=0) (ps:=[a]) (.inr (.inl rfl)) o i n (r:=r) (by rw[f,me8];simp) (by rw[me8];simp only;omega) (by omega)).mono ?_;rintro D y ⟨q,m,l,v,rfl,rfl,h,e,k,j⟩;obtain⟨g,rfl⟩:∃g,l=[g]:=⟨_,k⟩;refine⟨h, ?_⟩;obtain⟨mk,t,x,z,A,p,B,C,w⟩:=m;simp[Nd.fl,mkN]at e;obtain⟨rfl,rfl,rfl,rfl,rfl,rfl,rfl,rfl⟩:=e;exact j.node q.i 19 p 0 _ rfl
theorem cp20(a b u:Nt)(p:Wn (.nd 9 [] 0 [a,b]))(j:PEQ L (.nd 9 [] 0 [a,b]))(o:PEQ L u):Ps L (.nd 20 [] 0 [a,b,u]):=by
 intro d s r f _ c;rw[B9d]at f c;simp only at c;refine(A0b (k:=9) (tx:=[]) (n:=0) (ps:=[a,b]) (.inr (.inr rfl)) p j o (r:=r) (by rw[f,me9];simp) (by rw[me9];simp only;omega) (by omega)).mono ?_;rintro E y ⟨q,m,l,v,rfl,rfl,i,e,n,k⟩;obtain⟨g,h,rfl⟩:∃g h,l=[g,h]:=⟨_,_,n⟩;refine⟨i, ?_⟩;obtain⟨mk,t,x,z,A,C,B,D,w⟩:=m;simp[Nd.fl,mkN]at e;obtain⟨rfl,rfl,rfl,rfl,rfl,rfl,rfl,rfl⟩:=e;exact k.node q.i 20 [] 0 _ rfl
structure All(t:Nt):Prop where
 ex:isE t.k->Px L t
 bl:t.k=26->Pb L t
 st:17<=t.k/\t.k<=25->Ps L t
theorem All.e{t:Nt}(a:isE t.k)(h:Px L t):All (L:=L) t:=⟨λ_=>h,λc=>by have:=a.2;omega,λb=>by have:=a.2;omega⟩
theorem All.s{t:Nt}(c:17<=t.k/\t.k<=25)(h:Ps L t):All (L:=L) t:=⟨λa=>by have:=a.2;omega,λb=>by omega,λ_=>h⟩
theorem All.b{t:Nt}(c:t.k=26)(h:Pb L t):All (L:=L) t:=⟨λa=>by have:=a.2;omega,λ_=>h,λb=>by omega⟩
theorem All.no{t:Nt}(b:¬isE t.k/\t.k<17):All (L:=L) t:=⟨λa=>absurd a b.1,λh=>by omega,λh=>by omega⟩
theorem V6c(a b:List Nt):D8 (a++b)=D8 a+D8 b:=by
 induction a with
 |nil=>simp[D8]
 |cons x a c=>rw[vZ,D8,D8,c];omega
theorem X3b:∀(m:Nat) (t:Nt),szN t<=m->Wn t->All (L:=L) t
 |0,t,j,_=>by have:=E9a t;omega
 |m+1,t,j,w=>by
  have z:=X3b m;have g:∀a,szN a<=m->Wn a->isE a.k->Px L a:=λa d P N=>(z a d P).ex N;have s:∀{k:Int} {f:bZ} {n:Int} {v:List Nt},1<=k/\k<=14->isE (Nt.nd k f n v).k:=λh=>h;cases W5 w with
  |ty0=>exact All.no ⟨by simp[isE,Nt.k],by simp[Nt.k]⟩
  |ty1 t G=>exact All.no ⟨by simp[isE,Nt.k],by simp[Nt.k]⟩
  |n1 n y=>exact All.e (s (by omega)) (cp1 n y)
  |n2 f q=>exact All.e (s (by omega)) (cp2 f q)
  |n3 n y=>exact All.e (s (by omega)) (cp3 n y)
  |n4=>exact All.e (s (by omega)) cp4
  |n5 f q=>exact All.e (s (by omega)) (cp5 f q)
  |n6 v a b l y d e r u=>
   rw[szN,V6c,D8,D8,D8]at j;obtain⟨o,rfl⟩:=K6a d e;refine All.e (s (by omega)) (cp6 v o b w (λp i=> ?_) y d ?_ ((z b (by omega) r).bl u))
   · have A:=l p i;have B:=W5 A.1;cases B with
     |n16 f F q C E=>
      obtain⟨R,rfl⟩:=K6a C E;exact⟨f,R,rfl,C⟩
     |_=>have:=A.2;simp[Nt.k]at this
   · have B:=W5 r;cases B with
     |n26 T S=>exact⟨_,rfl⟩
     |_=>simp[Nt.k]at u
  |n7 a v d e l=>
   rw[szN,D8]at j;exact All.e (s (by omega)) (cp7 a v w (g a (by omega) d e).p5 λp i=>⟨(l p i).1,(l p i).2,(g p (by have:=I3 i;omega) (l p i).1 (l p i).2).pe⟩)
  |n8 f a q d e=>
   rw[szN,D8]at j;exact All.e (s (by omega)) (cp8 f a w (g a (by omega) d e).p5)
  |n9 a b d e r u=>
   rw[szN,D8,D8]at j;exact All.e (s (by omega)) (cp9 a b w (g a (by omega) d e).p5 (g b (by omega) r u).pe)
  |n10 v l y=>
   rw[szN]at j;refine All.e (s (by omega)) (cp10 v w y λp i=> ?_);have M:=I3 i;have A:=l p i;have B:=W5 A.1;cases B with
   |n15 f F q C E=>
    rw[szN,D8]at M;exact⟨f,F,rfl,C,E,(g F (by omega) C E).pe⟩
   |_=>have:=A.2;simp[Nt.k]at this
  |n11 v l=>
   rw[szN]at j;exact All.e (s (by omega)) (cp11 v w λp i=>⟨(l p i).1,(l p i).2,(g p (by have:=I3 i;omega) (l p i).1 (l p i).2).pe⟩)
  |n12 f a b q d e r u=>
   rw[szN,D8,D8]at j;exact All.e (s (by omega)) (cp12 f a b w q (g a (by omega) d e) (g b (by omega) r u))
  |n13 f a q d e=>
   rw[szN,D8]at j;exact All.e (s (by omega)) (cp13 f a w q d e (g a (by omega) d e).p4)
  |n14 a t d e G=>
   rw[szN,D8]at j;exact All.e (s (by omega)) (cp14 a t w G (g a (by omega) d e).p5)
  |n15 f a q d e=>exact All.no ⟨by simp[isE,Nt.k],by simp[Nt.k]⟩
  |n16 f a q d e=>exact All.no ⟨by simp[isE,Nt.k],by simp[Nt.k]⟩
  |n17 f a b q d e r u=>
   rw[szN,D8,D8]at j;obtain⟨o,rfl⟩:=K6a d e;exact All.s (by simp[Nt.k]) (cp17 f o b d (g b (by omega) r u).pe)
  |n18 f a q d e=>
   rw[szN,D8]at j;exact All.s (by simp[Nt.k]) (cp18 f a q (g a (by omega) d e).pe)
  |n19 f a b q d e r u=>
   rw[szN,D8,D8,D8]at j;have l:=E9a b;have H:Wn (.nd 8 f 0 [a]):=w8 q d e;exact All.s (by simp[Nt.k]) (cp19 f a b H (g _ (by rw[szN,D8,D8];omega) H (s (by omega))).pe (g b (by omega) r u).pe)
  |n20 a b c d e r u D x=>
   rw[szN,D8,D8,D8,D8]at j;have l:=E9a c;have K:Wn (.nd 9 [] 0 [a,b]):=w9 d e r u;exact All.s (by simp[Nt.k]) (cp20 a b c K (g _ (by rw[szN,D8,D8,D8];omega) K (s (by omega))).pe (g c (by omega) D x).pe)
  |n21 a d e=>
   rw[szN,D8]at j;exact All.s (by simp[Nt.k]) (cp21 a (g a (by omega) d e).pe)
  |n22 a b c d e r u D x=>
   rw[szN,D8,D8,D8]at j;refine All.s (by simp[Nt.k]) (cp22 a b c (g a (by omega) d e).pe ((z b (by omega) r).bl u) ?_);rcases x with x|x
   · exact .inr ⟨x,(z c (by omega) D).bl x⟩
   · left;obtain⟨o,rfl⟩:=K6a D (.inl x);cases o with
     |none=>rfl
     |some t=>simp[Nt.k]at x
  |n23 a b d e r u=>
   rw[szN,D8,D8]at j;exact All.s (by simp[Nt.k]) (cp23 a b (g a (by omega) d e).pe ((z b (by omega) r).bl u))
  |n24 a d e=>
   rw[szN,D8]at j;exact All.s (by simp[Nt.k]) (cp24 a (g a (by omega) d e).pe)
  |n25 a d e=>
   rw[szN,D8]at j;exact All.s (by simp[Nt.k]) (cp25 a d e (g a (by omega) d e).pe)
  |n26 v l=>
   rw[szN]at j;exact All.b rfl (cp26 v λp i=>⟨(l p i).1,(l p i).2,(z p (by have:=I3 i;omega) (l p i).1).st (l p i).2⟩)
theorem R8b{a:List Nt}(c:∀p∈a,Wn p/\17<=p.k/\p.k<=25)(j:tt L 0=flT (meL a)++[(6,[])])(n:mx 1 (meL a)<=20):
 ∃b x,Ev L (G5a 0 ⟨0,[],[]⟩) (.ok b x)/\b.N.map Nd.fl=emN 0 0 (.nd 26 [] 0 a)/\b.T=W9 0 a:=by
 have h:Gt L (G5a 0 ⟨0,[],[]⟩) (λb x=>Nft ⟨0,[],[]⟩ (.nd 26 [] 0 a) b x):=by
  refine Gt.bind (A3b a 0 ⟨0,[],[]⟩ [] (λp d=>⟨(c p d).1,(c p d).2,(X3b _ p (vQ _) (c p d).1).st (c p d).2⟩) j (by omega)) ?_;rintro k l ⟨m,o,e,i⟩;rw[lY]at e;subst e;exact Gt.addN (i.node k.i 26 [] 0 ⟨26,0,0,0,l,[],0,-1,0⟩ rfl)
 obtain⟨b,x,g,f⟩:=h;exact⟨b,x,g,by simpa using f.1,by simpa[emY]using f.2.1⟩
end
def Bd{c:Type}(Z:Nat)(x:Option (Out c)):Prop:=∀b a,x=some (.ok b a)->b.i<=Z
theorem Bd.bind{c j:Type}{Z:Nat}{x:Option (Out c)}{k:St->c->Option (Out j)}(h:Bd Z x)(g:∀s a,s.i<=Z->Bd Z (k s a)):Bd Z (A3 x k):=by
 intro l b e;obtain⟨i,a,d,f⟩:=B8 e;exact g i a (h _ _ d) _ _ f
theorem Bd.ok{c:Type}{Z:Nat}{s:St}{a:c}(h:s.i<=Z):Bd Z (some (.ok s a)):=by
 intro d b e;simp only[zQ,Out.ok.injEq]at e;rw[<-e.1];exact h
theorem Bd.flt{a:Type}{Z:Nat}{L:List Tk}{i:Nat}{e:Int}:Bd Z (fltQ L i e:Option (Out a)):=by
 intro c b h;simp[fltQ]at h
theorem Bd.addN{Z:Nat}{s:St}{n:Nd}(h:s.i<=Z):Bd Z (addN s n):=Bd.ok (s:=⟨s.i,s.N++[n],s.T⟩) h
theorem Bd.addT{Z:Nat}{s:St}{n:Ty}(h:s.i<=Z):Bd Z (addTQ s n):=Bd.ok (s:=⟨s.i,s.N,s.T++[n]⟩) h
theorem Bd.ite{d:Type}{Z:Nat}{c:Prop}[Decidable c]{x y:Option (Out d)}(a:c->Bd Z x)(b:¬c->Bd Z y):Bd Z (if c then x else y):=by
 by_cases h:c
 · rw[rY h];exact a h
 · rw[yY h];exact b h
theorem Bd.inside{Z:Nat}{L:List Tk}{b:Bool}{d:Nat}{s:St}{p:Nat->St->Option (Out Int)}(h:∀d,Bd Z (p d s)):Bd Z (insideQ L b d s p):=
 Bd.ite (λ_=>Bd.ite (λ_=>Bd.flt) λ_=>h _) λ_=>Bd.flt
def End(L:List Tk)(Z:Nat):Prop:=∀i,(tk L i).kind≠6->i+1<=Z
theorem End.m{L:List Tk}{Z:Nat}(h:End L Z){i:Nat}{c:List bZ}(b:isM L i c=true):i+1<=Z:=by
 refine h i λa=> ?_;simp[isM,a]at b
theorem Bd.need{Z:Nat}{L:List Tk}(a:End L Z){s:St}{m:bZ}:Bd Z (needQ L s m):=Bd.ite (λb=>Bd.ok (a.m b)) λ_=>Bd.flt
structure BF(Z:Nat)(r:Sp):Prop where
 typ:∀d s,s.i<=Z->Bd Z (r.typ d s)
 union:∀d s,s.i<=Z->Bd Z (r.union d s)
 unionL:∀d s l,s.i<=Z->Bd Z (r.unionL d s l)
 member:∀d s,s.i<=Z->Bd Z (r.member d s)
 objL:∀d s l,s.i<=Z->Bd Z (r.objL d s l)
 fob:∀d s,s.i<=Z->Bd Z (r.fob d s)
 list:∀p e d s nm l,s.i<=Z->Bd Z (r.list p e d s nm l)
 expr:∀d s,s.i<=Z->Bd Z (r.expr d s)
 comp:∀d s,s.i<=Z->Bd Z (r.comp d s)
 sum:∀d s,s.i<=Z->Bd Z (r.sum d s)
 prod:∀d s,s.i<=Z->Bd Z (r.prod d s)
 row:∀b d s x,s.i<=Z->Bd Z (r.row b d s x)
 oper:∀d s,s.i<=Z->Bd Z (r.oper d s)
 tail:∀d s x,s.i<=Z->Bd Z (r.tail d s x)
 simple:∀d s,s.i<=Z->Bd Z (r.simple d s)
 block:∀d s,s.i<=Z->Bd Z (r.block d s)
 blockL:∀d s l,s.i<=Z->Bd Z (r.blockL d s l)
 stmt:∀d s,s.i<=Z->Bd Z (r.stmt d s)
 any:∀d s,s.i<=Z->Bd Z (r.any d s)
 progL:∀d s l,s.i<=Z->Bd Z (r.progL d s l)
section
variable{L:List Tk}{Z:Nat}{r:Sp}
theorem Bd.two{s:St}{x:Int}{p:St->Option (Out Int)}(b:s.i+1<=Z)(h:∀s,s.i<=Z->Bd Z (p s)):Bd Z (twoQ L s x p):=Bd.bind (h s.nx b) λ_ _ a=>Bd.addN a
theorem Bd.typeIf(a:End L Z)(i:BF Z r){d:Nat}{s:St}(h:s.i<=Z):Bd Z (typeIfQ L r d s):=Bd.ite (λb=>i.typ d s.nx (a.m b)) λ_=>Bd.ok h
theorem Bd.newName(a:End L Z){s:St}{b:List bZ}:Bd Z (newNameQ L s b):=
 Bd.ite (λc=>Bd.ite (λ_=>Bd.flt) λ_=>Bd.ok (a s.i (by omega))) λ_=>Bd.flt
theorem Bd.part(a:End L Z)(i:BF Z r){d:Nat}{s:St}{g:List bZ}(h:s.i<=Z):∀p,Bd Z (part L r d s g p)
 | .typ=>Bd.bind (i.typ d s h) λ_ _ h=>Bd.ok h
 | .expr=>Bd.bind (i.expr d s h) λ_ _ h=>Bd.ok h
 | .obj=>Bd.bind (Bd.newName a) λ_ _ _=>Bd.bind (Bd.need a) λ_ _ b=>Bd.bind (i.expr d _ b) λ_ _ c=>Bd.bind (Bd.addN c) λ_ _ f=>Bd.ok f
 | .par=>Bd.bind (Bd.newName a) λ_ _ e=>Bd.bind (Bd.typeIf a i e) λ_ _ b=>Bd.bind (Bd.addN b) λ_ _ c=>Bd.ok c
theorem V2d(a:End L Z)(i:BF Z r):BF Z (step L r) where
 typ d s h:=Bd.inside λd=>i.union d s h
 union d s h:=Bd.bind (i.member d s h) λ_ _ f=>Bd.ite (λ_=>Bd.bind (i.unionL d _ _ f) λ_ _ g=>Bd.addT g) λ_=>Bd.ok f
 unionL d s l h:=Bd.ite (λc=>Bd.bind (i.member d s.nx (a.m c)) λ_ _ f=>i.unionL d _ _ f) λ_=>Bd.ok h
 member d s h:=Bd.ite (λc=>i.objL d s.nx [] (a.m c)) λ_=>Bd.ite (λc=>Bd.bind (i.typ d s.nx (a.m c)) λ_ _ _=>Bd.bind (Bd.need a) λ_ _ g=>Bd.addT g) λ_=>
  Bd.ite (λc=>i.fob d s.nx (a.m c)) λ_=>Bd.ite (λm=>Bd.addT (s:=s.nx) (a s.i (by omega))) λ_=>Bd.flt
 objL d s l h:=Bd.ite (λc=>Bd.addT (s:=s.nx) (a.m c)) λ_=>Bd.bind (Bd.newName a) λ_ _ _=>Bd.bind (Bd.need a) λ_ _ g=>Bd.bind (i.typ d _ g) λ_ _ _=>Bd.bind (Bd.need a) λ_ _ k=>i.objL d _ _ k
 fob d s h:=Bd.bind (i.list _ _ d s _ _ h) λn l f=>Bd.ite (λc=>Bd.bind (i.typ d n.nx (a.m c)) λ_ _ g=>Bd.addT g) λ_=>by
  split
  · exact Bd.ok f
  · exact Bd.flt
 list p e d s nm l h:=Bd.ite (λc=>Bd.ok (a.m c)) λ_=>Bd.bind (Bd.ite (λ_=>Bd.ok h) λ_=>Bd.need a) λ_ _ f=>Bd.bind (Bd.part a i f p) λ_ _ g=>i.list p e d _ _ _ g
 expr d s h:=Bd.inside λd=>i.comp d s h
 comp d s h:=Bd.bind (i.sum d s h) λ_ _ f=>Bd.ite (λc=>Bd.two (a.m c) λs h=>i.sum d s h) λ_=>Bd.ok f
 sum d s h:=Bd.bind (i.prod d s h) λ_ _ f=>i.row _ d _ _ f
 prod d s h:=Bd.bind (i.oper d s h) λ_ _ f=>i.row _ d _ _ f
 row b d s x h:=Bd.ite (λc=>Bd.bind (Bd.two (a.m c) (by cases b;exact λs h=>i.oper d s h;exact λs h=>i.prod d s h)) λ_ _ f=>i.row b d _ _ f) λ_=>Bd.ok h
 oper d s h:=Bd.ite (λc=>Bd.bind (Bd.inside λd=>i.oper d s.nx (a.m c)) λ_ _ f=>Bd.addN f) λ_=>Bd.bind (i.simple d s h) λ_ _ f=>i.tail d _ _ f
 tail d s x h:=Bd.ite (λc=>Bd.bind (i.list _ _ d s.nx _ _ (a.m c)) λ_ _ f=>Bd.bind (Bd.addN f) λ_ _ g=>i.tail d _ _ g) λ_=>
  Bd.ite (λ_=>Bd.ite (λm=>Bd.bind (Bd.addN (s:=s.nx.nx) (a (s.i+1) (by omega))) λ_ _ g=>i.tail d _ _ g) λ_=>Bd.flt) λ_=>
  Bd.ite (λc=>Bd.bind (i.expr d s.nx (a.m c)) λ_ _ _=>Bd.bind (Bd.need a) λ_ _ g=>Bd.bind (Bd.addN g) λ_ _ j=>i.tail d _ _ j) λ_=>
  Bd.ite (λc=>Bd.bind (i.typ d s.nx (a.m c)) λ_ _ f=>Bd.bind (Bd.addN f) λ_ _ g=>i.tail d _ _ g) λ_=>Bd.ok h
 simple d s h:=Bd.ite (λm=>Bd.addN (s:=s.nx) (a s.i (by omega))) λ_=>Bd.ite (λm=>Bd.addN (s:=s.nx) (a s.i (by omega))) λ_=>Bd.ite (λm=>Bd.addN (s:=s.nx) (a s.i (by omega))) λ_=>
  Bd.ite (λc=>Bd.addN (s:=s.nx) (a.m c)) λ_=>Bd.ite (λc=>Bd.addN (s:=s.nx) (a.m c)) λ_=>Bd.ite (λc=>Bd.addN (s:=s.nx) (a.m c)) λ_=>
  Bd.ite (λ_=>Bd.bind (Bd.need a) λ_ _ f=>Bd.bind (i.list _ _ d _ _ _ f) λ_ _ g=>Bd.bind (Bd.typeIf a i g) λ_ _ j=>Bd.bind (i.block d _ j) λ_ _ k=>Bd.addN k) λ_=>
  Bd.ite (λc=>Bd.bind (i.list _ _ d s.nx _ _ (a.m c)) λ_ _ f=>Bd.addN f) λ_=>Bd.ite (λc=>Bd.bind (i.list _ _ d s.nx _ _ (a.m c)) λ_ _ f=>Bd.addN f) λ_=>
  Bd.bind (Bd.need a) λ_ _ f=>Bd.bind (i.expr d _ f) λ_ _ _=>Bd.bind (Bd.need a) λ_ _ j=>Bd.ok j
 block d s h:=Bd.bind (Bd.need a) λ_ _ f=>Bd.bind (i.blockL d _ _ f) λ_ _ g=>Bd.addN g
 blockL d s l h:=Bd.ite (λc=>Bd.ok (a.m c)) λ_=>Bd.bind (i.stmt d s h) λ_ _ f=>i.blockL d _ _ f
 stmt d s h:=Bd.inside λd=>i.any d s h
 any d s h:=Bd.ite (λ_=>Bd.ite (λm=>Bd.bind (Bd.typeIf (s:=s.nx.nx) a i (a (s.i+1) (by omega))) λ_ _ _=>Bd.bind (Bd.need a) λ_ _ g=>Bd.bind (i.expr d _ g) λ_ _ _=>Bd.bind (Bd.need a) λ_ _ k=>Bd.addN k) λ_=>Bd.flt) λ_=>
  Bd.ite (λc=>Bd.bind (i.expr d s.nx (a.m c)) λ_ _ _=>Bd.bind (Bd.need a) λ_ _ g=>Bd.addN g) λ_=>
  Bd.ite (λc=>Bd.bind (i.expr d s.nx (a.m c)) λ_ _ _=>Bd.bind (Bd.need a) λ_ _ g=>Bd.addN g) λ_=>
  Bd.ite (λ_=>Bd.bind (Bd.need a) λ_ _ f=>Bd.bind (i.expr d _ f) λ_ _ _=>Bd.bind (Bd.need a) λ_ _ j=>Bd.bind (i.block d _ j) λq _ k=>Bd.bind (Bd.ite (λc=>i.block d q.nx (a.m c)) λ_=>Bd.ok k) λ_ _ o=>Bd.addN o) λ_=>
  Bd.ite (λ_=>Bd.bind (Bd.need a) λ_ _ f=>Bd.bind (i.expr d _ f) λ_ _ _=>Bd.bind (Bd.need a) λ_ _ j=>Bd.bind (i.block d _ j) λ_ _ k=>Bd.addN k) λ_=>
  Bd.bind (i.expr d s h) λn x f=>Bd.ite (λc=>Bd.ite (λ_=>Bd.flt) λ_=>Bd.bind (i.expr d ⟨n.i+1,n.N.take x.toNat,n.T⟩ (a.m c)) λ_ _ _=>Bd.bind (Bd.need a) λ_ _ j=>Bd.addN j) λ_=>
   Bd.bind (Bd.need a) λ_ _ g=>Bd.addN g
 progL d s l h:=Bd.ite (λ_=>Bd.ok h) λ_=>Bd.bind (i.stmt d s h) λ_ _ f=>i.progL d _ _ f
end
theorem K7d{L:List Tk}{Z:Nat}(a:End L Z):∀f,BF Z (sp' L f)
 |0=>by constructor<;>(intros;intro _ _ h;cases h)
 |f+1=>V2d a (K7d a f)
theorem A5e{L:List Tk}{Z:Nat}(c:End L Z){a:St}{x:Int}(h:Ev L (G5a 0 ⟨0,[],[]⟩) (.ok a x)):a.i<=Z:=by
 obtain⟨f,d⟩:=h;have h:=d f (vQ _);exact(Bd.bind ((K7d c f).progL 0 ⟨0,[],[]⟩ [] (wQ _)) λ_ _ b=>Bd.addN b) _ _ h
theorem T7c:∀(l:bZ) (a B:Int),0<=a->a<B->(∀c∈l,dig c.toNat=true)->0<=l.foldl (λn c=>10 * n+(c.toNat:Int) - 48) a/\l.foldl (λn c=>10 * n+(c.toNat:Int) - 48) a<B * 10 ^ l.length
 |[],a,B,b,d,_=>by simpa using ⟨b,d⟩
 |c::r,a,B,b,d,e=>by
  have f:=e c (by simp);simp only[dig,Bool.and_eq_true,decide_eq_true_eq]at f;have:=T7c r (10 * a+(c.toNat:Int) - 48) (B * 10) (by omega) (by omega) (λx g=>e x (by simp[g]));rw[List.foldl_cons,jQ,Int.pow_succ,Int.mul_comm (10 ^ r.length) 10,<-Int.mul_assoc];exact this
theorem T8c(l:bZ):VaL (F4 l).1:=by
 intro i c;obtain⟨_,a,b⟩:=T0b l i c;have h:=T7c _ 0 1 (by omega) (by omega) b;have d:∀n:Nat,n<=9->(1:Int) * 10 ^ n<=1000000000:=by
  intro n e;have:n=0\/n=1\/n=2\/n=3\/n=4\/n=5\/n=6\/n=7\/n=8\/n=9:=by omega
  rcases this with rfl|rfl|rfl|rfl|rfl|rfl|rfl|rfl|rfl|rfl<;>decide
 have:=d _ a;unfold C7a;omega
theorem H0d(l:bZ)(h:(firstQ l).1=4):(firstQ l).2.1.length<=30/\∀c∈(firstQ l).2.1,txt c.toNat=true:=by
 unfold firstQ at h⊢;cases b:l.head? with
 |none=>rw[b]at h;simp at h
 |some c=>
  rw[b]at h;simp only at h⊢;cases d:dig c.toNat with
  |true=>
   rw[d]at h;simp only[if_true]at h;unfold C4a at h;split at h<;>simp at h
  |false=>
   rw[d]at h;simp only[rZ,if_false]at h⊢;cases e:let' c.toNat with
   |true=>
    rw[e]at h;simp only[if_true]at h;unfold name at h;split at h
    · simp at h
    · split at h<;>simp at h
   |false=>
    rw[e]at h;simp only[rZ,if_false]at h⊢;by_cases a:c.toNat=34
    · rw[rY a]at h⊢;unfold text at h⊢;split at h
      · simp at h
      · rename_i f;rw[yY f];rw[not_or]at f;refine⟨?_,λx i=> ?_⟩
        · rw[List.length_take];omega
        · obtain⟨k,g,rfl⟩:=List.getElem_of_mem i;rw[List.getElem_take];rw[List.length_take]at g;exact K9b txt l.tail k (by omega) (by omega)
    · rw[yY a]at h;unfold T3a at h;split at h<;>simp at h
theorem Q8b:∀(f:Nat) (l:bZ) (a:Nat) (e:List Tk),(∀t∈e,t.kind=4->t.text.length<=30/\∀c∈t.text,txt c.toNat=true)->∀t∈(J5 f l a e).1,t.kind=4->t.text.length<=30/\∀c∈t.text,txt c.toNat=true
 |0,l,a,e,_=>by simp[J5]
 |f+1,l,a,e,h=>by
  simp only[J5];split
  · intro t b d;simp only[qW,zW]at b;rcases b with b|rfl
    · exact h t b d
    · simp at d
  split
  · simp
  split
  · simp
  refine Q8b f l _ _ λt b d=> ?_;simp only[qW,zW]at b;rcases b with b|rfl
  · exact h t b d
  · exact H0d _ d
theorem U6c(l:bZ):TxL (F4 l).1:=by
 intro i a;by_cases c:i<(F4 l).1.length
 · have e:tk (F4 l).1 i=(F4 l).1[i]:=by simp[tk,List.getD,c]
   rw[e]at a⊢;have b:=mQ c;revert a b;generalize (F4 l).1[i]=t;intro a b;unfold F4 at b;split at b
   · simp at b
   · exact Q8b _ _ _ _ (by simp) t b a
 · rw[N6a c]at a;simp at a
theorem H3b:∀(f:Nat) (l:bZ) (a:Nat) (c:List Tk),c.length<=1000->(J5 f l a c).1=[]\/∃b z,(J5 f l a c).1=b++[⟨6,[],z⟩]/\b.length<=1000
 |0,l,a,c,_=> .inl rfl
 |f+1,l,a,c,h=>by
  simp only[J5];split
  · exact .inr ⟨c,l.length,rfl,h⟩
  split
  · exact .inl rfl
  split
  · exact .inl rfl
  · refine H3b f l _ _ ?_;rw[qQ];simp only[jQ,xQ];omega
theorem I7d(l:bZ):End (F4 l).1 1000:=by
 intro i a;have d:(F4 l).1=[]\/∃b z,(F4 l).1=b++[⟨6,[],z⟩]/\b.length<=1000:=by
  unfold F4;split
  · exact .inl rfl
  · exact H3b _ _ _ _ (by simp)
 rcases d with h|⟨b,z,h,hb⟩
 · rw[h]at a;exact absurd rfl a
 · rw[h]at a;by_cases e:i<b.length
   · omega
   · exfalso;refine a ?_;by_cases c:i=b.length
     · subst c;simp[tk]
     · rw[N6a (by simp;omega)]
theorem V4b:∀a:List Nt,(∀p∈a,17<=p.k)->a.length<=nNL a
 |[],_=>vQ _
 | .ty o::r,h=>by
  have:=h (.ty o) (by simp);cases o<;>simp[Nt.k]at this
 | .nd k d n c::r,h=>by
  have:=V4b r λp b=>h p (by simp[b]);rw[nNL,nN,jQ];omega
theorem A8d:∀{a:List Nt} {p:Nt},p∈a->nN p<=nNL a
 |q::r,p,h=>by
  rw[jW]at h;rw[nNL];rcases h with rfl|h
  · omega
  · have:=A8d h;omega
structure Prgm(N:List Nd)(T:List Ty)(ps:List Nt):Prop where
 wn:∀p∈ps,Wn p/\17<=p.k/\p.k<=25
 nodes:N.map Nd.fl=emN 0 0 (.nd 26 [] 0 ps)
 types:T=W9 0 ps
 toks:(flT (meL ps)).length<=1000
 deep:mx 1 (meL ps)<=20
 lenN:N.length<=1200
 lenT:T.length<=300
theorem A5b{l:bZ}{N:List Nd}{T:List Ty}(h:PRes l (.inr (N,T))):∃f,Prgm N T f:=by
 obtain⟨_,m,x,g,i,j,rfl,rfl⟩:=h;obtain⟨f,a,b,c,d,e⟩:=O3c (Z8c l) (T8c l) (U6c l) g;have k:=A5e (I7d l) g;exact⟨f,a,b,c,by omega,e,i,j⟩
section
variable{N:List Nd}{T:List Ty}{a:List Nt}
theorem Prgm.n(h:Prgm N T a):N.length=nNL a+1:=by
 have:=congrArg List.length h.nodes;rw[iZ,Z8,nN]at this;exact this
theorem Prgm.t(h:Prgm N T a):T.length=nTL a:=by rw[h.types,L0a]
theorem Prgm.wl(h:Prgm N T a):WnL a:=(E8a a).2 λp b=>(h.wn p b).1
theorem P5a:TsOk []:=λi b=>by simp at b
theorem Prgm.ok(h:Prgm N T a):TsOk T:=by
 have:=B2c a h.wl [] P5a;rw[h.types];simpa using this
theorem Prgm.ls(h:Prgm N T a)(i:Nat)(c:i<T.length):T[i].list.length<=300/\T[i].fields.length<=300:=by
 have d:T[i]∈W9 0 a:=by
  have:=mQ c;rw[<-h.types];exact this
 have e:=N3b a 0 _ d;have b:=h.lenT;rw[h.t]at b;omega
theorem Prgm.num(h:Prgm N T a)(i:Nat)(b:i<N.length):0<=N[i].n/\N[i].n<=999999999:=by
 have c:N[i].fl∈emN 0 0 (.nd 26 [] 0 a):=by
  rw[<-h.nodes];exact List.mem_map_of_mem (mQ b)
 have:=I3e (.nd 26 [] 0 a) (w26 h.wn) 0 0 _ c;exact this
theorem Prgm.main(h:Prgm N T a):∃k:N.length - 1<N.length,AtL N T a N[N.length - 1].list:=by
 have l:=h.n;have c:=X8d (.nd 26 [] 0 a) (w26 h.wn) N T [] [] [] [] (by simpa using h.nodes) (by rw[h.types,emY];simp) P5a;rw[At]at c;obtain⟨j,d,g,_,_,_,i,b,f⟩:=c;have e:j=N.length - 1:=by
  rw[ixN,nN]at d;simp only[xQ]at d;omega
 subst e;have b:N[N.length - 1].list=i:=b;exact⟨g,by rw[b];exact f⟩
theorem Prgm.sz(h:Prgm N T a){p:Nt}(b:p∈a):szN p<=2401:=by
 have c:=(Z4d p (R5a p (h.wn p b).1)).1;have d:=A8d b;have e:=h.n;have f:=h.lenN;omega
theorem Prgm.few(h:Prgm N T a):a.length<=1200:=by
 have c:=V4b a λp b=>(h.wn p b).2.1;have d:=h.n;have e:=h.lenN;omega
theorem Prgm.len(h:Prgm N T a):(I1 0 (prL 0 a)).length<=1000000000000:=by
 have c:=P6a a (D1c a h.wl);have d:=P1a a;have e:=h.few;have f:=h.n;have g:=h.lenN;have b:=h.lenT;rw[h.t]at b;have i:=Q9a 4000 16200 (by decide) a 0 h.wl (by omega);have j:=U3a 4000 0 (by decide) (prL 0 a);have k:16200 * (D8 a+nTL a)<=16200 * 10000:=Nat.mul_le_mul_left _ (by omega);omega
theorem Prgm.back(h:Prgm N T a)(n:(I1 0 (prL 0 a)).length<=4000):∃c,PRes (I1 0 (prL 0 a)) (.inr (c,T))/\c.map Nd.fl=N.map Nd.fl/\Prgm c T a:=by
 have i:Lex (I1 0 (prL 0 a)) (flT (meL a)):=by
  have:=U1a 0 a (r:=[]) (ts:=[]) (λp o=>D8d _ p (vQ _) (h.wn p o).1) Lex.nil;simpa using this
 have g:=C0e i n h.toks;have q:=D7d i g;obtain⟨b,x,m,d,l⟩:=R8b h.wn q h.deep;have f:b.N.length=N.length:=by
  have j:=congrArg List.length d;have k:=congrArg List.length h.nodes;rw[iZ]at j k;omega
 have e:b.T=T:=by rw[l,h.types]
 refine⟨b.N,⟨g,b,x,m,by rw[f];exact h.lenN,by rw[e];exact h.lenT,rfl,e⟩,by rw[d,h.nodes], ?_⟩;exact⟨h.wn,d,h.types,h.toks,h.deep,by rw[f];exact h.lenN,h.lenT⟩
end
abbrev Fr:=bZ->Option Int
def Fr.no:Fr:=λ_=>none
def Fr.set(f:Fr)(x:bZ)(i:Int):Fr:=λy=>if y=x then some i else f y
def lookQ(x:bZ):List Fr->Option Int
 |[]=>none
 |f::r=>match lookQ x r with
  |some i=>some i
  |none=>f x
def H4a(a:List Fr):Fr:=a.getLastD Fr.no
def I8(a:List Fr)(x:bZ)(i:Int):List Fr:=a.dropLast++[(H4a a).set x i]
theorem Q5b(a:List Fr)(x:bZ)(j:Int)(i:Nat)(h:i+1=a.length):(I8 a x j)[i]? =some ((H4a a).set x j):=by
 have:a.dropLast.length=i:=by rw[List.length_dropLast];omega
 unfold I8;rw[List.getElem?_append_right (by omega),this];simp
theorem A1c(a:List Fr)(x:bZ)(j:Int)(i:Nat)(h:i+1<a.length):(I8 a x j)[i]? =a[i]? :=by
 have:a.dropLast.length=a.length - 1:=List.length_dropLast;unfold I8;rw[List.getElem?_append_left (by omega),List.getElem?_dropLast,rY (by omega)]
inductive Br where
 |ok (fs:List Fr) (to:List (Nat×Int))
 |bad (e:Int) (i:Nat)
def Br.and(r:Br)(k:List Fr->Br):Br:=
 match r with
 | .bad e i=> .bad e i
 | .ok a c=>match k a with
  | .bad e i=> .bad e i
  | .ok b d=> .ok b (c++d)
def Br.pop:Br->Br
 | .bad e i=> .bad e i
 | .ok a b=> .ok a.dropLast b
def Br.setF(r:Br)(x:bZ)(j:Int):Br:=
 match r with
 | .bad e i=> .bad e i
 | .ok a b=> .ok (I8 a x j) b
def F4d:List Nt->Bool
 |[_,.nd k _ _ _]=>k==6
 |_=>false
mutual
def bnT(a:List Fr)(b:Nat):Nt->Br
 | .ty _=> .ok a []
 | .nd k d _ c=>
  if k=5 then match lookQ d a with
   |none=> .bad 5 b
   |some j=> .ok a [(b,j)]
  else if k=18 then match lookQ d a with
   |none=> .bad 5 (b+nNL c)
   |some j=>(Br.ok a [(b+nNL c,j)]).and λa=>bnL false a b c
  else if k=17 then
   if (H4a a d).isSome then .bad 6 (b+nNL c)
   else (bnL false (if F4d c then I8 a d ((b+nNL c:Nat):Int) else a) b c).setF d ((b+nNL c:Nat):Int)
  else if k=16 then .ok (I8 a d ((b+nNL c:Nat):Int)) []
  else if k=6 then (bnL true (a++[Fr.no]) b c).pop
  else if k=26 then (bnL false (a++[Fr.no]) b c).pop
  else bnL false a b c
def bnL(e:Bool)(a:List Fr)(b:Nat):List Nt->Br
 |[]=> .ok a []
 | .ty _::r=>bnL e a b r
 | .nd k d n f::r=>(if e && k==26 then bnL false a b f else bnT a b (.nd k d n f)).and λa=>bnL e a (b+nN (.nd k d n f)) r
end
def Em(N:List Nd)(b a:Nat)(t:Nt):Prop:=∃A B,N.map Nd.fl=A++emN b a t++B/\A.length=b
def EmL(N:List Nd)(b c:Nat)(a:List Nt):Prop:=∃A B,N.map Nd.fl=A++R9 b c a++B/\A.length=b
section
variable{N:List Nd}{b a:Nat}
theorem EmL.head{p:Nt}{r:List Nt}(h:EmL N b a (p::r)):Em N b a p/\EmL N (b+nN p) (a+nT p) r:=by
 obtain⟨A,B,h,c⟩:=h;rw[R9]at h;refine⟨⟨A,R9 (b+nN p) (a+nT p) r++B,by rw[h];simp,c⟩,⟨A++emN b a p,B,by rw[h];simp, ?_⟩⟩;rw[qQ,Z8,c]
theorem Em.parts{k:Int}{d:bZ}{n:Int}{c:List Nt}(h:Em N b a (.nd k d n c)):EmL N b a c/\∃j:b+nNL c<N.length,(N[b+nNL c]).fl=mkN k d n (ixL b a c):=by
 obtain⟨A,B,h,e⟩:=h;rw[emN]at h;have i:=congrArg List.length h;simp only[iZ,qQ,S7,jQ,xQ]at i;refine⟨⟨A,[mkN k d n (ixL b a c)]++B,by rw[h];simp,e⟩,by omega, ?_⟩;have g:b+nNL c<N.length:=by omega
 have f:(N.map Nd.fl)[b+nNL c]'(by simpa using g)=(N[b+nNL c]).fl:=by simp
 rw[<-f];simp only[h];rw[List.getElem_append_left (by simp only[qQ,S7,jQ,xQ];omega),List.getElem_append_right (by omega)];rw[List.getElem_append_right (by rw[S7];omega)];simp[S7,e]
theorem Em.ix{k:Int}{d:bZ}{n:Int}{c:List Nt}:ixN b a (.nd k d n c)=((b+nNL c:Nat):Int):=by
 rw[ixN,nN];omega
end
def px(b:Nat):List Nt->uZ
 |[]=>[]
 | .ty _::r=>px b r
 | .nd k c n a::r=>((b+nNL a:Nat):Int)::px (b+nN (.nd k c n a)) r
theorem C9a(b d:Nat):∀a:List Nt,(∀p∈a,1<=p.k)->ixL b d a=px b a
 |[],_=>rfl
 | .ty o::r,h=>by
  have:=h (.ty o) (by simp);cases o<;>simp[Nt.k]at this
 | .nd k e n a::r,h=>by
  rw[ixL,px,Em.ix,C9a _ _ r λp c=>h p (by simp[c])]
theorem Br.and_ok(a:List Fr)(l:List (Nat×Int))(k:List Fr->Br):(Br.ok a l).and k=match k a with
 | .bad e i=> .bad e i
 | .ok b c=> .ok b (l++c):=rfl
theorem Br.and_assoc(r:Br)(k h:List Fr->Br):(r.and k).and h=r.and λf=>(k f).and h:=by
 cases r with
 |bad e i=>rfl
 |ok a l=>
  rw[Br.and_ok,Br.and_ok];cases k a with
  |bad e i=>rfl
  |ok b d=>
   simp only;rw[Br.and_ok,Br.and_ok];cases h b with
   |bad e i=>rfl
   |ok c g=>simp
theorem Br.and_nil(r:Br):(r.and λf=> .ok f [])=r:=by
 cases r with
 |bad e i=>rfl
 |ok a l=>rw[Br.and_ok];simp
theorem L3a(a:List Fr)(b:Nat)(p:Nt)(r:List Nt)(c:1<=p.k):bnL false a b (p::r)=(bnT a b p).and λf=>bnL false f (b+nN p) r:=by
 cases p with
 |ty o=>cases o<;>simp[Nt.k]at c
 |nd k e n d=>rw[bnL];rfl
theorem O2b:∀(c d:List Nt) (a:List Fr) (b:Nat),(∀p∈c,1<=p.k)->bnL false a b (c++d)=(bnL false a b c).and λf=>bnL false f (b+nNL c) d
 |[],d,a,b,_=>by
  rw[lY,bnL,Br.and_ok,nNL,Nat.add_zero];cases bnL false a b d<;>rfl
 |p::c,d,a,b,h=>by
  rw[vZ,L3a a b p _ (h p (by simp)),L3a a b p _ (h p (by simp)),Br.and_assoc];congr 1
  funext f
  rw[O2b c d f _ λq e=>h q (by simp[e]),nNL,Nat.add_assoc]
theorem K5d{a:List Nt}(h:∀p∈a,1<=p.k)(d:List Fr)(b j:Nat)(e:j<a.length):bnL false d b (a.take (j+1))=(bnL false d b (a.take j)).and λf=>bnT f (b+nNL (a.take j)) a[j]:=by
 rw[nQ e,O2b _ _ _ _ λp g=>h p (List.mem_of_mem_take g)];congr 1
 funext f
 rw[L3a _ _ _ _ (h _ (mQ e))];have:(λc=>bnL false c (b+nNL (a.take j)+nN a[j]) [])=λc=>Br.ok c []:=by funext c;rw[bnL]
 rw[this,Br.and_nil]
theorem V0d{a:List Nt}(h:∀p∈a,1<=p.k)(c:List Fr)(b j:Nat){e:Int}{i:Nat}(d:bnL false c b (a.take j)= .bad e i):bnL false c b a= .bad e i:=by
 have:=O2b (a.take j) (a.drop j) c b λp f=>h p (List.mem_of_mem_take f);rw[List.take_append_drop,d]at this;exact this
theorem EmL.at{N:List Nd}:∀{c:List Nt} {b d:Nat},EmL N b d c->∀j (a:j<c.length),Em N (b+nNL (c.take j)) (d+nTL (c.take j)) c[j]
 |[],_,_,_,j,a=>by simp at a
 |p::r,b,d,h,0,a=>by simpa[nNL,nTL]using h.head.1
 |p::r,b,d,h,j+1,a=>by
  have:=EmL.at h.head.2 j (by simpa using a);simpa[nNL,nTL,Nat.add_assoc]using this
theorem G1a:∀(a:List Nt) (b:Nat),(∀p∈a,1<=p.k)->(px b a).length=a.length
 |[],_,_=>rfl
 | .ty o::r,_,h=>by
  have:=h (.ty o) (by simp);cases o<;>simp[Nt.k]at this
 | .nd k e n d::r,b,h=>by rw[px,jQ,jQ,G1a r _ λp c=>h p (by simp[c])]
theorem W3d:∀(a:List Nt) (b d:Nat),(∀p∈a,1<=p.k)->∀j (c:j<a.length),(px b a)[j]? =some (ixN (b+nNL (a.take j)) (d+nTL (a.take j)) a[j])
 |[],_,_,_,j,c=>by simp at c
 | .ty o::r,_,_,h,_,_=>by
  have:=h (.ty o) (by simp);cases o<;>simp[Nt.k]at this
 | .nd k f n e::r,b,d,h,0,c=>by simp[px,nNL,nTL,Em.ix]
 | .nd k f n e::r,b,d,h,j+1,c=>by
  have:=W3d r (b+nN (.nd k f n e)) (d+nT (.nd k f n e)) (λp g=>h p (by simp[g])) j (by simpa using c);rw[px,List.getElem?_cons_succ,this];simp[nNL,nTL,Nat.add_assoc]
theorem U5(a:List Fr)(x:bZ)(j:Int)(h:a≠[]):(I8 a x j).length=a.length:=by
 have:=List.length_pos_iff.2 h;unfold I8;rw[qQ,List.length_dropLast];simp only[jQ,xQ];omega
theorem S6{a b:List Fr}(h:a≠[])(e:b.length=a.length):b≠[]:=by
 rintro rfl;exact h (List.length_eq_zero_iff.1 e.symm)
def Sl(b:List Fr)(r:Br):Prop:=∀a l,r= .ok a l->a.length=b.length
theorem Sl.and{a:List Fr}{r:Br}{k:List Fr->Br}(h:Sl a r)(d:∀f,f.length=a.length->Sl f (k f)):Sl a (r.and k):=by
 intro m l e;cases r with
 |bad e i=>simp[Br.and]at e
 |ok f1 c=>
  rw[Br.and_ok]at e;cases b:k f1 with
  |bad j n=>rw[b]at e;simp at e
  |ok f2 g=>
   rw[b]at e;simp only[Br.ok.injEq]at e;rw[<-e.1,d f1 (h f1 c rfl) f2 g b,h f1 c rfl]
theorem Sl.pop{a:List Fr}{f:Fr}{r:Br}(h:Sl (a++[f]) r):Sl a r.pop:=by
 intro c l e;cases r with
 |bad e i=>simp[Br.pop]at e
 |ok f1 b=>
  simp only[Br.pop,Br.ok.injEq]at e;have:=h f1 b rfl;rw[<-e.1,List.length_dropLast,this];simp
theorem Sl.setF{a:List Fr}{r:Br}(b:a≠[])(h:Sl a r)(x:bZ)(j:Int):Sl a (r.setF x j):=by
 intro d l e;cases r with
 |bad e i=>simp[Br.setF]at e
 |ok f1 c=>
  simp only[Br.setF,Br.ok.injEq]at e;have:=h f1 c rfl;rw[<-e.1,U5 _ _ _ (S6 b this),this]
theorem Sl.ok{a b:List Fr}{l:List (Nat×Int)}(h:b.length=a.length):Sl a (.ok b l):=by
 intro f1 c e;simp only[Br.ok.injEq]at e;rw[<-e.1];exact h
theorem Sl.bad{a:List Fr}{e:Int}{i:Nat}:Sl a (.bad e i):=by
 intro f1 b e;cases e
theorem Sl.of{d f:List Fr}{r:Br}(h:Sl f r)(e:f.length=d.length):Sl d r:=λa b c=>(h a b c).trans e
mutual
theorem L7c:∀(t:Nt) (a:List Fr) (b:Nat),a≠[]->Sl a (bnT a b t)
 | .ty _,a,b,_=>by rw[bnT];exact Sl.ok rfl
 | .nd k i n c,a,b,h=>by
  rw[bnT];split
  · split
    · exact Sl.bad
    · exact Sl.ok rfl
  split
  · split
    · exact Sl.bad
    · exact Sl.and (Sl.ok rfl) λf e=>W4 c false f b (S6 h e)
  split
  · split
    · exact Sl.bad
    · refine Sl.setF h ?_ _ _;split
      · exact(W4 c false _ b (S6 h (U5 _ _ _ h))).of (U5 _ _ _ h)
      · exact W4 c false a b h
  split
  · exact Sl.ok (U5 _ _ _ h)
  split
  · exact(W4 c true _ b (by simp)).pop
  split
  · exact(W4 c false _ b (by simp)).pop
  · exact W4 c false a b h
theorem W4:∀(c:List Nt) (d:Bool) (a:List Fr) (b:Nat),a≠[]->Sl a (bnL d a b c)
 |[],d,a,b,_=>by rw[bnL];exact Sl.ok rfl
 | .ty _::r,d,a,b,h=>by rw[bnL];exact W4 r d a b h
 | .nd k i n g::r,d,a,b,h=>by
  rw[bnL];refine Sl.and ?_ λf e=>W4 r d f _ (S6 h e);split
  · exact W4 g false a b h
  · exact L7c (.nd k i n g) a b h
end
theorem M3a:∀b a:List Nt,nNL (b++a)=nNL b+nNL a
 |[],a=>by simp[nNL]
 |p::r,a=>by rw[vZ,nNL,nNL,M3a r];omega
theorem U1b:∀a:List Nt,(∀p∈a,1<=p.k)->a.length<=nNL a
 |[],_=>vQ _
 | .ty o::r,h=>by
  have:=h (.ty o) (by simp);cases o<;>simp[Nt.k]at this
 | .nd k d n c::r,h=>by
  have:=U1b r λp b=>h p (by simp[b]);rw[nNL,nN,jQ];omega
def upd(a:uZ)(l:List (Nat×Int)):uZ:=l.foldl (λt p=>t.set p.1 p.2) a
theorem G6c(c:uZ)(a b:List (Nat×Int)):upd c (a++b)=upd (upd c a) b:=by simp[upd]
theorem P4a(a:uZ)(l:List (Nat×Int)):(upd a l).length=a.length:=by
 induction l generalizing a with
 |nil=>rfl
 |cons p r b=>show (upd (a.set p.1 p.2) r).length=_;rw[b];simp
theorem G6d{k:Int}{d f:uZ}{n:Nd}(h:J7 k d n)(c:J7 k f n):d=f:=by
 have w:∀{l:uZ},2<=l.length->l=l.dropLast.dropLast++[l.dropLast.getLastD 0,l.getLastD 0]:=by
  intro l v;rcases List.eq_nil_or_concat l with rfl|⟨z,b,rfl⟩
  · simp at v
  · rcases List.eq_nil_or_concat z with rfl|⟨g,a,rfl⟩
    · simp at v
    · have e:g.concat a++[b]=g++[a,b]:=by simp
      simp only[List.concat_eq_append]at *;rw[e]at *;rw[dl3,dl4,dl5]
 unfold J7 at h c;by_cases c1:k=6
 · rw[rY c1]at h c;rw[w h.2.2.2,w c.2.2.2,<-h.1,<-h.2.1,<-h.2.2.1,<-c.1,<-c.2.1,<-c.2.2.1]
 rw[yY c1]at h c;by_cases c2:k=7
 · rw[rY c2]at h c;obtain⟨a1,i,A⟩:=h;obtain⟨j,m,B⟩:=c;cases d with
   |nil=>simp at A
   |cons x z=>
    cases f with
    |nil=>simp at B
    |cons y g=>
     simp only[List.headD_cons,List.tail_cons]at a1 i j m;rw[<-a1,<-i,<-j,<-m]
 rw[yY c2]at h c;by_cases o:k=10\/k=11\/k=26
 · rw[rY o]at h c;exact h.symm.trans c
 rw[yY o]at h c;by_cases p:k=14
 · rw[rY p]at h c;exact h.trans c.symm
 rw[yY p]at h c;by_cases q:k=16
 · rw[rY q]at h c;exact h.trans c.symm
 rw[yY q]at h c;by_cases r:k=17
 · rw[rY r]at h c;exact h.trans c.symm
 rw[yY r]at h c;by_cases s:k=9\/k=12\/k=19\/k=23
 · rw[rY s]at h c;exact h.trans c.symm
 rw[yY s]at h c;by_cases t:k=20\/k=22
 · rw[rY t]at h c;exact h.trans c.symm
 rw[yY t]at h c;by_cases u:k=8\/k=13\/k=15\/k=18\/k=21\/k=24\/k=25
 · rw[rY u]at h c;exact h.trans c.symm
 rw[yY u]at h c;exact h.trans c.symm
def Cls:uZ->uZ->Prop
 |x::r,y::s=>(x=0->y<=0)/\(y=0->x<=0)/\Cls r s
 |_,_=>True
theorem F4a:∀(a b:uZ),(∀x∈a,1<=x)->(∀x∈b,1<=x)->Cls a b
 |[],_,_,_=>by simp[Cls]
 |_::_,[],_,_=>by simp[Cls]
 |x::r,y::s,d,e=>by
  have:=d x (by simp);have:=e y (by simp);exact⟨λh=>by omega,λh=>by omega,F4a r s (λz c=>d z (by simp[c])) (λz c=>e z (by simp[c]))⟩
theorem L2c:∀(a b c d:uZ),a.length=b.length->Cls a b->Cls c d->Cls (a++c) (b++d)
 |[],[],_,_,_,_,h=>h
 |[],_::_,_,_,h,_,_=>by simp at h
 |_::_,[],_,_,h,_,_=>by simp at h
 |x::r,y::s,c,d,g,e,f=>⟨e.1,e.2.1,L2c r s c d (by simpa using g) e.2.2 f⟩
theorem O0d{k:Int}{a b:uZ}(h:shp k a)(c:shp k b)(H:a.length=b.length):Cls a b:=by
 have one:∀{x y:Int},isE x->isE y->Cls [x] [y]:=λm d=>F4a _ _ (λz e=>by simp at e;subst e;exact m.1) (λz e=>by simp at e;subst e;exact d.1);have l:∀{x y:Int},isT x->isT y->(x=0->y<=0)/\(y=0->x<=0):=λm d=>⟨λ_=>by rcases d with h|h<;>omega,λ_=>by rcases m with h|h<;>omega⟩;have g:∀{x y:Int},isE x->isE y->(x=0->y<=0)/\(y=0->x<=0):=λm d=>⟨λh=>by have:=m.1;omega,λh=>by have:=d.1;omega⟩;unfold shp at h c;by_cases c1:k=1\/k=2\/k=3\/k=4\/k=5
 · rw[rY c1]at h;rw[h];simp[Cls]
 rw[yY c1]at h c;by_cases c2:k=6
 · rw[rY c2]at h c;obtain⟨K,r,rfl,d,i⟩:=h;obtain⟨L,N,rfl,f,j⟩:=c;refine L2c _ _ _ _ (by simpa using H) (F4a _ _ (λz e=>by rw[d z e];omega) (λz e=>by rw[f z e];omega)) ?_;exact⟨(l i j).1,(l i j).2,λh=>by omega,λh=>by omega,trivial⟩
 rw[yY c2]at h c;by_cases u:k=7
 · rw[rY u]at h c;obtain⟨x,K,rfl,d,i⟩:=h;obtain⟨y,L,rfl,f,j⟩:=c;exact F4a _ _ (λz e=>by rcases jW.1 e with rfl|e;exact d.1;exact(i z e).1) (λz e=>by rcases jW.1 e with rfl|e;exact f.1;exact(j z e).1)
 rw[yY u]at h c;by_cases v:k=8\/k=13\/k=15\/k=18\/k=21\/k=24\/k=25
 · rw[rY v]at h c;obtain⟨x,rfl,d⟩:=h;obtain⟨y,rfl,f⟩:=c;exact one d f
 rw[yY v]at h c;by_cases w:k=9\/k=12\/k=19
 · rw[rY w]at h c;obtain⟨x,y,rfl,d,i⟩:=h;obtain⟨n,E,rfl,f,j⟩:=c;exact⟨(g d f).1,(g d f).2,one i j⟩
 rw[yY w]at h c;by_cases A:k=10
 · rw[rY A]at h c;exact F4a _ _ (λz e=>by rw[h z e];omega) (λz e=>by rw[c z e];omega)
 rw[yY A]at h c;by_cases B:k=11
 · rw[rY B]at h c;exact F4a _ _ (λz e=>(h z e).1) (λz e=>(c z e).1)
 rw[yY B]at h c;by_cases C:k=14
 · rw[rY C]at h c;obtain⟨x,rfl,d⟩:=h;obtain⟨y,rfl,f⟩:=c;exact⟨(g d f).1,(g d f).2,λ_=>by omega,λ_=>by omega,trivial⟩
 rw[yY C]at h c;by_cases D:k=16
 · rw[rY D]at h c;obtain⟨x,rfl,d⟩:=h;obtain⟨y,rfl,f⟩:=c;exact⟨(l d f).1,(l d f).2,trivial⟩
 rw[yY D]at h c;by_cases o:k=17
 · rw[rY o]at h c;obtain⟨x,y,rfl,d,i⟩:=h;obtain⟨n,E,rfl,f,j⟩:=c;exact⟨(l d f).1,(l d f).2,one i j⟩
 rw[yY o]at h c;by_cases p:k=20
 · rw[rY p]at h c;obtain⟨x,y,z,rfl,d,i,F⟩:=h;obtain⟨n,E,M,rfl,f,j,G⟩:=c;exact⟨(g d f).1,(g d f).2,(g i j).1,(g i j).2,one F G⟩
 rw[yY p]at h c;by_cases q:k=22
 · rw[rY q]at h c;obtain⟨x,z,rfl,d,i⟩:=h;obtain⟨n,M,rfl,f,j⟩:=c;exact⟨(g d f).1,(g d f).2,λ_=>by omega,λ_=>by omega,λ_=>by omega,λ_=>by omega,trivial⟩
 rw[yY q]at h c;by_cases s:k=23
 · rw[rY s]at h c;obtain⟨x,rfl,d⟩:=h;obtain⟨y,rfl,f⟩:=c;exact⟨(g d f).1,(g d f).2,λ_=>by omega,λ_=>by omega,trivial⟩
 rw[yY s]at h c;by_cases t:k=26
 · rw[rY t]at h c;exact F4a _ _ (λz e=>by have:=h z e;omega) (λz e=>by have:=c z e;omega)
 rw[yY t]at h;exact h.elim
section
variable{N:List Nd}{T:List Ty}
mutual
theorem E7e:∀(t b:Nt) (i:Int),Gd t->Gd b->(t.k=0->b.k<=0)->(b.k=0->t.k<=0)->At N T t i->At N T b i->t=b
 | .ty none,b,i,_,f,_,_,h,a=>by
  rw[At]at h;subst h;cases b with
  |ty o=>
   cases o with
   |none=>rfl
   |some t=>rw[At]at a;obtain⟨j,s,_⟩:=a;omega
  |nd k w n g=>rw[At]at a;obtain⟨j,s,_⟩:=a;omega
 | .ty (some t),b,i,_,f,c,_,h,a=>by
  have c:b.k<=0:=c rfl;rw[At]at h;obtain⟨j,rfl,_,e⟩:=h;cases b with
  |ty o=>
   cases o with
   |none=>rw[At]at a;omega
   |some b=>
    rw[At]at a;obtain⟨u,s,_,C⟩:=a;have:u=j:=by omega
    subst this;rw[<-e,<-C]
  |nd k w n g=>
   rw[Gd]at f;exfalso;have l:=f.1;have S:k<=0:=c;unfold shp at l;rw[yY (by omega),yY (by omega),yY (by omega),yY (by omega),yY (by omega),yY (by omega),yY (by omega),yY (by omega),yY (by omega),yY (by omega),yY (by omega),yY (by omega),yY (by omega),yY (by omega)]at l;exact l
 | .nd k w n g,b,i,q,f,a3,c,h,a=>by
  rw[Gd]at q;rw[At]at h;obtain⟨j,rfl,s,D,F,H,m,P,y⟩:=h;cases b with
  |ty o=>
   cases o with
   |none=>rw[At]at a;omega
   |some b=>
    have S:k<=0:=c rfl;exfalso;have l:=q.1;unfold shp at l;rw[yY (by omega),yY (by omega),yY (by omega),yY (by omega),yY (by omega),yY (by omega),yY (by omega),yY (by omega),yY (by omega),yY (by omega),yY (by omega),yY (by omega),yY (by omega),yY (by omega)]at l;exact l
  |nd Y a2 Z d=>
   rw[Gd]at f;rw[At]at a;obtain⟨u,a4,a5,E,G,K,a6,R,z⟩:=a;have:u=j:=by omega
   subst this;obtain rfl:k=Y:=by rw[<-D,<-E]
   obtain rfl:w=a2:=by rw[<-F,<-G]
   obtain rfl:n=Z:=by rw[<-H,<-K]
   obtain rfl:=G6d P R;have V:(g.map Nt.k).length=(d.map Nt.k).length:=by rw[iZ,iZ,<-F5a y,<-F5a z]
   rw[O3b g d m q.2 f.2 (O0d q.1 f.1 V) y z]
theorem O3b:∀(g d:List Nt) (m:uZ),GdL g->GdL d->Cls (g.map Nt.k) (d.map Nt.k)->AtL N T g m->AtL N T d m->g=d
 |[],d,m,_,_,_,h,a=>by
  rw[AtL]at h;subst h;cases d with
  |nil=>rfl
  |cons p r=>rw[AtL]at a;obtain⟨i,A,e,_⟩:=a;cases e
 |p::r,d,m,f,x,c,h,a=>by
  rw[AtL]at h;obtain⟨i,A,rfl,L,W⟩:=h;cases d with
  |nil=>rw[AtL]at a;cases a
  |cons v B=>
   rw[AtL]at a;obtain⟨i',a7,e,M,X⟩:=a;simp only[List.cons.injEq]at e;obtain⟨rfl,rfl⟩:=e;have c:(p.k=0->v.k<=0)/\(v.k=0->p.k<=0)/\Cls (r.map Nt.k) (B.map Nt.k):=c;rw[E7e p v i f.1 x.1 c.1 c.2.1 L M,O3b r B A f.2 x.2 c.2.2 W X]
end
theorem H4c{b c:List Nt}{f:uZ}(i:∀p∈b,Gd p/\17<=p.k/\p.k<=25)(j:∀p∈c,Gd p/\17<=p.k/\p.k<=25)(k:AtL N T b f)(l:AtL N T c f):b=c:=by
 have g:∀d:List Nt,(∀p∈d,Gd p)->GdL d:=by
  intro d;induction d with
  |nil=>intro _;trivial
  |cons q r m=>intro h;exact⟨h q (by simp),m λp a=>h p (by simp[a])⟩
 refine O3b b c f (g b λp a=>(i p a).1) (g c λp a=>(j p a).1) (F4a _ _ (λx e=> ?_) (λx e=> ?_)) k l
 · obtain⟨p,a,rfl⟩:=jZ.1 e;have:=i p a;omega
 · obtain⟨p,a,rfl⟩:=jZ.1 e;have:=j p a;omega
end
theorem P1b{l:bZ}{T:List Ty}{o:(Int×Int) ⊕ List Ty}(h:V3a l (.inr T))(k:V3a l o):o= .inr T:=by
 obtain⟨b,n,x,a,c,j,m,rfl⟩:=h;rcases o with ⟨i,p⟩|g
 · exfalso;obtain⟨d,k⟩:=k;rcases k with ⟨k1,_⟩|⟨_,k⟩
   · exact d (k1.symm.trans b)
   · rcases k with k|⟨e,f,k,k2⟩
     · cases a.one k
     · have:=a.one k;simp only[Out.ok.injEq]at this;obtain⟨rfl,_⟩:=this;rw[rY c]at k2;omega
 · obtain⟨_,e,f,k,_,_,_,rfl⟩:=k;have:=a.one k;simp only[Out.ok.injEq]at this;obtain⟨rfl,_⟩:=this;rfl
theorem A4e{l:bZ}{a:List Nt}(j:(F4 l).2.1=0)(k:tt (F4 l).1 0=flT (meL a)++[(6,[])])(g:∀p∈a,Wn p/\17<=p.k/\p.k<=25)(f:mx 1 (meL a)<=20)(i:(flT (meL a)).length<=1000)(o:nNL a+1<=1200)(q:nTL a<=300):
 ∃N T,PRes l (.inr (N,T))/\Prgm N T a:=by
 obtain⟨b,x,h,d,e⟩:=R8b g k f;have m:b.N.length=nNL a+1:=by
  have c:=congrArg List.length d;rw[iZ,Z8,nN]at c;exact c
 have n:b.T.length=nTL a:=by rw[e,L0a]
 exact⟨b.N,b.T,⟨j,b,x,h,by omega,by omega,rfl,rfl⟩,g,d,e,i,f,by omega,by omega⟩
theorem G7a(n:Nat)(h:n<10):Lib.itoa (n:Int)=[UInt8.ofNat (48+n)]:=by
 rw[R3a (by omega),show (n:Int).toNat=n by omega,Lib.decDigits,dif_pos h]
def xN:bZ:=[120]
theorem F7c:S4 xN:=⟨by decide,by decide,by decide,by decide,λc a=>by simp[xN]at a;subst a;decide⟩
def bt1:List Nt:=[.nd 17 xN 0 [.ty none,.nd 1 [] 1 []],.nd 18 xN 0 [.nd 12 [43] 0 [.nd 5 xN 0 [],.nd 1 [] 2 []]]]
theorem bt1_ok:∀p∈bt1,Wn p/\17<=p.k/\p.k<=25:=by
 intro p a;simp only[bt1,jW,qZ,or_false]at a;rcases a with rfl|rfl
 · exact⟨w17 F7c trivial (.inl rfl) (w1 (by omega)) (by simp[isE,Nt.k]),by simp[Nt.k]⟩
 · exact⟨w18 F7c (w12 (by decide) (w5 F7c) (by simp[isE,Nt.k]) (w1 (by omega)) (by simp[isE,Nt.k])) (by simp[isE,Nt.k]),by simp[Nt.k]⟩
def bt2:List Nt:=[.nd 17 xN 0 [.ty none,.nd 12 [42] 0 [.nd 12 [43] 0 [.nd 1 [] 1 [],.nd 1 [] 2 []],.nd 1 [] 3 []]]]
theorem E5e:∀p∈bt2,Wn p/\17<=p.k/\p.k<=25:=by
 intro p a;simp only[bt2,jW,qZ,or_false]at a;subst a;exact⟨w17 F7c trivial (.inl rfl) (w12 (by decide) (w12 (by decide) (w1 (by omega)) (by simp[isE,Nt.k]) (w1 (by omega)) (by simp[isE,Nt.k])) (by simp[isE,Nt.k]) (w1 (by omega)) (by simp[isE,Nt.k])) (by simp[isE,Nt.k]),by simp[Nt.k]⟩
theorem K4d:flT (meL bt2)=[(2,[108,101,116]),(1,[120]),sgQ [61],sgQ [40],(3,[49]),sgQ [43],(3,[50]),sgQ [41],sgQ [42],(3,[51]),sgQ [59]]:=by
 have e:flT (meL bt2)=[(2,[108,101,116]),(1,[120]),sgQ [61],sgQ [40],(3,Lib.itoa ((1:Nat):Int)),sgQ [43],(3,Lib.itoa ((2:Nat):Int)),sgQ [41],sgQ [42],(3,Lib.itoa ((3:Nat):Int)),sgQ [59]]:=rfl;rw[e,G7a 1 (by decide),G7a 2 (by decide),G7a 3 (by decide)];rfl
theorem E6e:∃N T,PRes [108,101,116,32,120,61,40,49,43,50,41,42,51,59] (.inr (N,T))/\Prgm N T bt2:=by
 refine A4e (by decide+kernel) ?_ E5e (by decide) (by rw[K4d];decide) (by decide) (by decide);rw[K4d];decide+kernel
theorem L5c:I1 0 (prL 0 bt2)=[108,101,116,32,120,32,61,32,40,49,32,43,32,50,41,32,42,32,51,59]++[10]:=by
 have e:I1 0 (prL 0 bt2)=(mg 0++(([108,101,116,32]++xN)++E6a ⟨5,-1,[]⟩++[32,61,32]++(wi 3 ⟨2,12,wi 2 ⟨5,1,Lib.itoa ((1:Nat):Int)⟩++([32]++[43]++[32])++wi 3 ⟨5,1,Lib.itoa ((2:Nat):Int)⟩⟩++([32]++[42]++[32])++wi 4 ⟨5,1,Lib.itoa ((3:Nat):Int)⟩)++[59])++[10])++[]:=rfl;rw[e,G7a 1 (by decide),G7a 2 (by decide),G7a 3 (by decide)];rfl
def bty:Tr:= .nd 10 [] [.nd 1 [] [],.nd 3 [] []]
theorem E4e:Wf bty:=Wf.uni _ (by decide) λx a=>by
 simp only[jW,qZ,or_false]at a;rcases a with rfl|rfl
 · exact Wf.plain 1 (by decide) (by decide)
 · exact Wf.plain 3 (by decide) (by decide)
def btT:List Ty:=[⟨1,[],[],0⟩,⟨3,[],[],0⟩,⟨10,[],[0,1],0⟩]
theorem K3d:TsOk btT/\tr btT 2=bty:=by
 have:=K5c bty E4e [] P5a;exact this
theorem U8d:V3a [40,110,117,109,41,124,116,101,120,116] (.inr btT):=by
 have h:∀s:St,tt (F4 [40,110,117,109,41,124,116,101,120,116]).1 s.i=sgQ [40]::(tks (.nd 1 [] [])++sgQ [41]::(sgQ [124]::(tks (.nd 3 [] [])++[(6,[])])))->Gt (F4 [40,110,117,109,41,124,116,101,120,116]).1 (λq=>q.typ 0 s) (Qt (F4 [40,110,117,109,41,124,116,101,120,116]).1 [(6,[])] s bty):=by
  intro s c;have w1:Wf (.nd 1 [] []):=Wf.plain 1 (by decide) (by decide);have w3:Wf (.nd 3 [] []):=Wf.plain 3 (by decide) (by decide);refine Gt.step (Gt.inside (p:=λq=>q.union) (by rw[D4 c];rfl) (by decide) (Gt.step ?_));refine Gt.bind (W5a (.nd 1 [] []) (C9b _ w1).1 w1 c rfl (by decide)) ?_;rintro j x ⟨a,k⟩;refine Gt.pos (by rw[D4 a];rfl) ?_;refine Gt.bind (J2a [.nd 3 [] []] 1 j [x] [(6,[])] ⟨rfl,rfl⟩ (λt d=>by simp at d;subst d;exact⟨w3,(C9b _ w3).1,(C9b _ w3).2⟩) a (by decide)) ?_;rintro o l ⟨g,n,rfl,m⟩;exact Gt.addT ⟨g,(k.cons' m).row 10 [] (by decide) _ rfl⟩
 obtain⟨f,x,i,a,e⟩:=h ⟨0,[],[]⟩ (by decide+kernel);have b:f.T=btT:=e.2.1;exact⟨by decide+kernel,f,x,i,(E7 a).1,by rw[e.1];decide,by rw[b];decide,b.symm⟩
theorem B5b:∀a:List Nt,a.length<=nNL a+cTy a
 |[]=>vQ _
 | .ty o::r=>by have:=B5b r;rw[nNL,cTy,nN,jQ];omega
 | .nd k c n b::r=>by have:=B5b r;rw[nNL,cTy,nN,jQ];omega
theorem B2d(k:Int)(a:bZ)(n:Int)(l:uZ):(mkN k a n l).list.length<=l.length:=by
 unfold mkN;repeat' split
 all_goals (first|exact wQ _|exact vQ _|(simp only[List.length_dropLast];omega)|(simp only[List.length_tail];omega))
mutual
theorem N1b:∀(t:Nt),Gd t->∀b c,∀m∈emN b c t,m.list.length<=nN t
 | .ty _,_,b,c,m,a=>by simp[emN]at a
 | .nd k e n d,h,b,c,m,a=>by
  rw[Gd]at h;rw[emN,qW,zW]at a;rw[nN];rcases a with a|rfl
  · have:=V7b d h.2 b c m a;omega
  · have f:=B2d k e n (ixL b c d);have g:=M2b d b c;have i:=B5b d;have j:=L0b h.1;omega
theorem V7b:∀(d:List Nt),GdL d->∀b c,∀m∈R9 b c d,m.list.length<=nNL d
 |[],_,b,c,m,a=>by simp[R9]at a
 |p::r,h,b,c,m,a=>by
  rw[R9,qW]at a;rw[nNL];rcases a with a|a
  · have:=N1b p h.1 b c m a;omega
  · have:=V7b r h.2 _ _ m a;omega
end
mutual
theorem X5d:∀(t:Nt),Wn t->∀b c,∀m∈emN b c t,m.text.length<=30
 | .ty _,_,b,c,m,a=>by simp[emN]at a
 | .nd k e n d,h,b,c,m,a=>by
  rw[Wn]at h;rw[emN,qW,zW]at a;rcases a with a|rfl
  · exact J1d d h.2.2 b c m a
  · rw[(G6a _ _ _ _).1];exact(Y4c h.2.1).1
theorem J1d:∀(d:List Nt),WnL d->∀b c,∀m∈R9 b c d,m.text.length<=30
 |[],_,b,c,m,a=>by simp[R9]at a
 |p::r,h,b,c,m,a=>by
  rw[R9,qW]at a;rw[WnL]at h;rcases a with a|a
  · exact X5d p h.1 b c m a
  · exact J1d r h.2 _ _ m a
end
theorem Prgm.tx{N:List Nd}{T:List Ty}{b:List Nt}(h:Prgm N T b):∀a∈N,a.text.length<=30:=λa e=>by
 have c:a.fl∈emN 0 0 (.nd 26 [] 0 b):=by
  rw[<-h.nodes];exact List.mem_map_of_mem e
 have d:a.fl.text.length<=30:=X5d _ (w26 h.wn) 0 0 _ c;exact d
mutual
theorem I8d:∀(t:Tr) (b:Nat),∀y∈emT b t,y.kind=8\/y.kind=9\/y.of'=0
 | .nd k d c,b,y,a=>by
  rw[emT]at a;split at a
  · exact D4e c b y a
  · rw[qW,zW]at a;rcases a with a|rfl
    · exact E5c c b y a
    · unfold G0a;repeat' split
      all_goals first|exact .inr (.inr rfl)|exact .inl rfl
theorem E5c:∀(c:List Tr) (b:Nat),∀y∈M9 b c,y.kind=8\/y.kind=9\/y.of'=0
 |[],b,y,a=>by simp[M9]at a
 |t::r,b,y,a=>by
  rw[M9,qW]at a;rcases a with a|a
  · exact I8d t b y a
  · exact E5c r _ y a
theorem D4e:∀(c:List Tr) (b:Nat),∀y∈emB b c,y.kind=8\/y.kind=9\/y.of'=0
 |[],b,y,a=>by
  rw[emB,zW]at a;subst a;exact .inr (.inl rfl)
 |t::r,b,y,a=>by
  rw[emB,qW,qW,zW]at a;rcases a with (a|a)|rfl
  · exact E5c r _ y a
  · exact I8d t _ y a
  · exact .inr (.inl rfl)
end
mutual
theorem D2e:∀(t:Nt) (b:Nat),∀y∈emY b t,y.kind=8\/y.kind=9\/y.of'=0
 | .ty none,b,y,a=>by simp[emY]at a
 | .ty (some t),b,y,a=>by rw[emY]at a;exact I8d t b y a
 | .nd k d n c,b,y,a=>by rw[emY]at a;exact N2b c b y a
theorem N2b:∀(c:List Nt) (b:Nat),∀y∈W9 b c,y.kind=8\/y.kind=9\/y.of'=0
 |[],b,y,a=>by simp[W9]at a
 |p::r,b,y,a=>by
  rw[W9,qW]at a;rcases a with a|a
  · exact D2e p b y a
  · exact N2b r _ y a
end
theorem Prgm.of{N:List Nd}{T:List Ty}{b:List Nt}(h:Prgm N T b):∀t∈T,t.kind=8\/t.kind=9\/t.of'=0:=λt a=>by
 rw[h.types]at a;exact N2b b 0 t a
