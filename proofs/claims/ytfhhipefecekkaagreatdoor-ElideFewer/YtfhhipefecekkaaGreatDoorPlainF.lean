/-
  A part of the proof.
-/
import Derived.Test.YtfhhipefecekkaaGreatDoorPlainD
import Derived.KernelRfl
set_option maxHeartbeats 16000000
set_option maxRecDepth 100000
namespace Go.Proofs.YtfhhipefecekkaaGreatDoor.M
def Pe(N:List Nd)(i:Nat)(x:Int):Prop:=∃j:Nat,x=j/\j<i/\∃h:j<N.length,isE N[j].kind
def Pk(N:List Nd)(i:Nat)(k:Int)(x:Int):Prop:=∃j:Nat,x=j/\j<i/\∃h:j<N.length,N[j].kind=k
def Py(T:List Ty)(x:Int):Prop:=∃j:Nat,x=j/\j<T.length/\sz (tr T j)<=T.length
def Pz(T:List Ty)(x:Int):Prop:=x= -1\/Py T x
def ndx(N:List Nd)(x:Int):Nd:=N.getD x.toNat nd0
structure FlN(N:List Nd)(T:List Ty)(i:Nat)(n:Nd):Prop where
 k:1<=n.kind/\n.kind<=26
 ty:n.kind≠6->n.kind≠14->n.kind≠16->n.kind≠17->n.ty= -1
 k6:n.kind=6->(∀x∈n.list,Pk N i 16 x)/\Pz T n.ty/\Pk N i 26 n.a
 k7:n.kind=7->Pe N i n.a/\∀x∈n.list,Pe N i x
 k1:n.kind=8\/n.kind=13\/n.kind=15\/n.kind=18\/n.kind=21\/n.kind=24\/n.kind=25->Pe N i n.a
 k2:n.kind=9\/n.kind=12\/n.kind=19->Pe N i n.a/\Pe N i n.b
 k10:n.kind=10->(∀x∈n.list,Pk N i 15 x)/\(n.list.map λx=>(ndx N x).text).Nodup/\∀x∈n.list,L9 (ndx N x).text
 k11:n.kind=11->∀x∈n.list,Pe N i x
 k12:n.kind=12->n.text∈[[61,61],[60],[43],[45],[42]]
 k13:n.kind=13->n.text∈[[33],[45],[116,121,112,101,111,102]]
 k14:n.kind=14->Pe N i n.a/\Py T n.ty
 k16:n.kind=16->Pz T n.ty
 k17:n.kind=17->Pz T n.ty/\Pe N i n.a
 k20:n.kind=20->Pe N i n.a/\Pe N i n.b/\Pe N i n.c
 k22:n.kind=22->Pe N i n.a/\Pk N i 26 n.b/\(n.c= -1\/Pk N i 26 n.c)
 k23:n.kind=23->Pe N i n.a/\Pk N i 26 n.b
 k26:n.kind=26->∀x∈n.list,∃j:Nat,x=j/\j<i
 ls:n.kind≠6->n.kind≠7->n.kind≠10->n.kind≠11->n.kind≠26->n.list=[]
section
variable{N:List Nd}{T:List Ty}
theorem Em.kd{b tb:Nat}{p:Nt}(h:Em N b tb p)(hp:1<=p.k):∃j:Nat,ixN b tb p=j/\b<=j/\j<b+nN p/\∃h:j<N.length,N[j].kind=p.k/\N[j].text=p.tx:=by
 cases p with
 |ty o=>cases o<;>simp[Nt.k]at hp
 |nd k tx n ps=>
  obtain⟨_,hi,e⟩:=h.parts;refine⟨b+nNL ps,Em.ix,by omega,by rw[nN];omega,hi,(congrArg Nd.kind e).trans (X8 _ _ _ _),(congrArg Nd.text e).trans (F0a _ _ _ _).1⟩
theorem EmL.kds:∀{ps:List Nt} {b tb:Nat},EmL N b tb ps->(∀p∈ps,1<=p.k)->∀x∈ixL b tb ps,∃p∈ps,∃j:Nat,x=j/\j<b+nNL ps/\∃h:j<N.length,N[j].kind=p.k/\N[j].text=p.tx
 |[],_,_,_,_,x,hx=>by simp[ixL]at hx
 |p::r,b,tb,h,hk,x,hx=>by
  rw[ixL,jW]at hx;obtain⟨h1,h2⟩:=h.head;rcases hx with rfl|hx
  · obtain⟨j,e,_,hj,hi,h3⟩:=h1.kd (hk p (by simp));exact⟨p,by simp,j,e,by rw[nNL];omega,hi,h3⟩
  · obtain⟨q,hq,j,e,hj,h3⟩:=EmL.kds h2 (λq hq=>hk q (by simp[hq])) x hx;exact⟨q,by simp[hq],j,e,by rw[nNL];omega,h3⟩
theorem EmL.txs:∀{ps:List Nt} {b tb:Nat},EmL N b tb ps->(∀p∈ps,1<=p.k)->(ixL b tb ps).map (λx=>(ndx N x).text)=ps.map Nt.tx
 |[],_,_,_,_=>rfl
 |p::r,b,tb,h,hk=>by
  obtain⟨h1,h2⟩:=h.head;obtain⟨j,e,_,hj,hi,h3,h4⟩:=h1.kd (hk p (by simp));rw[ixL,List.map_cons,List.map_cons,EmL.txs h2 λq hq=>hk q (by simp[hq]),e];congr 1
  unfold ndx;rw[tQ,lQ,gQ hi];exact h4
theorem EmL.split:∀{ps qs:List Nt} {b tb:Nat},EmL N b tb (ps++qs)->EmL N b tb ps/\EmL N (b+nNL ps) (tb+nTL ps) qs
 |[],qs,b,tb,h=>by
  refine⟨?_,by simpa[nNL,nTL]using h⟩;obtain⟨A,B,e,hA⟩:=h;exact⟨A,M8 b tb qs++B,by simpa[M8]using e,hA⟩
 |p::r,qs,b,tb,h=>by
  rw[List.cons_append]at h;obtain⟨h1,h2⟩:=h.head;obtain⟨h3,h4⟩:=EmL.split h2;refine⟨?_,by rw[nNL,nTL,<-Nat.add_assoc,<-Nat.add_assoc];exact h4⟩;obtain⟨A,B,e,hA⟩:=h;refine⟨A,M8 (b+nNL (p::r)) (tb+nTL (p::r)) qs++B, ?_,hA⟩;rw[e,<-List.cons_append,U8a];simp
def EmY(T:List Ty)(tb:Nat)(t:Nt):Prop:=∃T0 T1,T=T0++emY tb t++T1/\T0.length=tb/\TsOk T0
def EmYL(T:List Ty)(tb:Nat)(ps:List Nt):Prop:=∃T0 T1,T=T0++S9 tb ps++T1/\T0.length=tb/\TsOk T0
theorem EmYL.head{tb:Nat}{p:Nt}{r:List Nt}(h:EmYL T tb (p::r))(hw:Wn p):EmY T tb p/\EmYL T (tb+nT p) r:=by
 obtain⟨T0,T1,h,rfl,h0⟩:=h;rw[S9]at h;exact⟨⟨T0,S9 (T0.length+nT p) r++T1,by rw[h];simp,rfl,h0⟩,⟨T0++emY T0.length p,T1,by rw[h];simp,by rw[qQ,D3a],K0c p hw T0 h0⟩⟩
theorem EmYL.drop:∀{ps qs:List Nt} {tb:Nat},EmYL T tb (ps++qs)->(∀p∈ps,Wn p)->EmYL T (tb+nTL ps) qs
 |[],qs,tb,h,_=>by simpa[nTL]using h
 |p::r,qs,tb,h,hw=>by
  rw[nTL,<-Nat.add_assoc];exact EmYL.drop (h.head (hw p (by simp))).2 λq hq=>hw q (by simp[hq])
mutual
theorem H3c:∀t:Tr,sz t=nTy t
 | .nd _ _ ks=>by rw[sz,nTy,V5b ks]
theorem V5b:∀l:List Tr,szL l=M7 l
 |[]=>rfl
 |t::r=>by rw[szL,M7,H3c t,V5b r]
end
def Sub(N:List Nd)(T:List Ty)(i:Nat):Prop:=∃b tb k tx n ps,Em N b tb (.nd k tx n ps)/\Wn (.nd k tx n ps)/\i=b+nNL ps/\EmYL T tb ps
mutual
theorem Q9c:∀(t:Nt) (b tb:Nat),Wn t->Em N b tb t->EmY T tb t->∀i,b<=i->i<b+nN t->Sub N T i
 | .ty _,b,tb,_,_,_,i,h1,h2=>by rw[nN]at h2;omega
 | .nd k tx n ps,b,tb,hw,he,hy,i,h1,h2=>by
  have hy':EmYL T tb ps:=hy;by_cases hi:i=b+nNL ps
  · exact⟨b,tb,k,tx,n,ps,he,hw,hi,hy'⟩
  · have hw':=hw;rw[Wn]at hw';exact Y0b ps b tb hw'.2.2 he.parts.1 hy' i h1 (by rw[nN]at h2;omega)
theorem Y0b:∀(ps:List Nt) (b tb:Nat),WnL ps->EmL N b tb ps->EmYL T tb ps->∀i,b<=i->i<b+nNL ps->Sub N T i
 |[],b,tb,_,_,_,i,h1,h2=>by rw[nNL]at h2;omega
 |p::r,b,tb,hw,he,hy,i,h1,h2=>by
  rw[WnL]at hw;by_cases hi:i<b+nN p
  · exact Q9c p b tb hw.1 he.head.1 (hy.head hw.1).1 i h1 hi
  · exact Y0b r (b+nN p) (tb+nT p) hw.2 he.head.2 (hy.head hw.1).2 i (by omega) (by rw[nNL]at h2;omega)
end
theorem V2b{b tb:Nat}{a:Nt}(hw:Wn a)(hk:isT a.k)(h:EmY T tb a):Pz T (ixN b tb a):=by
 obtain⟨o,rfl⟩:=F2a hw hk;cases o with
 |none=>exact .inl rfl
 |some t=>
  have:=G5a t;obtain⟨T0,T1,h,rfl,h0⟩:=h;have hw':Wf t:=hw;obtain⟨h1,h2⟩:=Q6c t hw' T0 h0;have hl:(T0++emT T0.length t).length=T0.length+nTy t:=by rw[qQ,Y8]
  rw[emY]at h;have hT:T.length=T0.length+nTy t+T1.length:=by rw[h,qQ,hl]
  refine .inr ⟨T0.length+nTy t - 1,by rw[ixN];omega,by omega, ?_⟩;have e:tr T (T0.length+nTy t - 1)=t:=by rw[h,C4a _ h1 (by rw[hl];omega),h2]
  rw[e,H3c];omega
theorem FlN.of{i:Nat}{n:Nd}(h:FlN N T i n.fl):FlN N T i n:=⟨h.k,h.ty,h.k6,h.k7,h.k1,h.k2,h.k10,h.k11,h.k12,h.k13,h.k14,h.k16,h.k17,h.k20,h.k22,h.k23,h.k26,h.ls⟩
theorem Em.pe{b tb i:Nat}{p:Nt}(h:Em N b tb p)(hp:isE p.k)(hi:b+nN p<=i):Pe N i (ixN b tb p):=by
 obtain⟨j,e,_,hj,hl,hk,_⟩:=h.kd hp.1;exact⟨j,e,by omega,hl,by rw[hk];exact hp⟩
theorem Em.pk{b tb i:Nat}{p:Nt}{k:Int}(h:Em N b tb p)(hp:p.k=k)(h1:1<=k)(hi:b+nN p<=i):Pk N i k (ixN b tb p):=by
 obtain⟨j,e,_,hj,hl,hk,_⟩:=h.kd (by omega);exact⟨j,e,by omega,hl,by rw[hk];exact hp⟩
theorem P0c{i:Nat}(hi:i<N.length)(h:Sub N T i):FlN N T i N[i]:=by
 obtain⟨b,tb,k,tx,n,ps,he,hw,rfl,ht⟩:=h;obtain⟨hl,_,hf⟩:=he.parts;refine FlN.of ?_;rw[hf];have hs:=X0 hw;clear hf hw;cases hs with
 |n1 n h=>constructor<;>simp[mkN]
 |n2 tx h=>constructor<;>simp[mkN]
 |n3 n h=>constructor<;>simp[mkN]
 |n4=>constructor<;>simp[mkN]
 |n5 tx h=>constructor<;>simp[mkN]
 |n6 ps a c h1 h2 h3 h4 h5 h6=>
  have hpa:EmL N b tb ps/\EmL N (b+nNL ps) (tb+nTL ps) [a,c]:=EmL.split hl;have hx:∀x∈ixL b tb ps,Pk N (b+nNL (ps++[a,c])) 16 x:=λx hx=>by
   obtain⟨p,hp,j,e,hj,h,hkk,_⟩:=hpa.1.kds (λp hp=>by rw[(h1 p hp).2];decide) x hx;exact⟨j,e,by rw[G6a];omega,h,by rw[hkk];exact(h1 p hp).2⟩
  have ha:Pz T (ixN (b+nNL ps) (tb+nTL ps) a):=V2b h3 h4 ((ht.drop λp hp=>(h1 p hp).1).head h3).1;have hc:=hpa.2.head.2.head.1.pk (i:=b+nNL (ps++[a,c])) h6 (by decide) (by rw[G6a];simp only[nNL];omega);have el:ixL b tb (ps++[a,c])=ixL b tb ps++[ixN (b+nNL ps) (tb+nTL ps) a,ixN (b+nNL ps+nN a) (tb+nTL ps+nT a) c]:=by rw[K9a];rfl
  have e1:(ixL b tb (ps++[a,c])).dropLast.dropLast=ixL b tb ps:=by rw[el];simp
  have e2:(ixL b tb (ps++[a,c])).dropLast.getLastD 0=ixN (b+nNL ps) (tb+nTL ps) a:=by rw[el];simp[List.getLastD_eq_getLast?]
  have e3:(ixL b tb (ps++[a,c])).getLastD 0=ixN (b+nNL ps+nN a) (tb+nTL ps+nT a) c:=by rw[el];simp[List.getLastD_eq_getLast?]
  generalize ixL b tb (ps++[a,c])=L at *;constructor<;>simp[mkN]
  rw[List.getLastD_eq_getLast?]at e2 e3;rw[e1,e2,e3];exact⟨hx,ha,hc⟩
 |n7 a ps h1 h2 h3=>
  have hk:∀p∈a::ps,isE p.k:=λp hp=>by
   rcases jW.1 hp with rfl|hp
   · exact h2
   · exact(h3 p hp).2
  have hx:∀x∈ixL b tb (a::ps),Pe N (b+nNL (a::ps)) x:=λx hx=>by
   obtain⟨p,hp,j,e,hj,h,hkk,_⟩:=hl.kds (λp hp=>(hk p hp).1) x hx;exact⟨j,e,hj,h,by rw[hkk];exact hk p hp⟩
  constructor<;>simp[mkN,ixL]
  exact⟨hx _ (by simp[ixL]),λx hh=>hx x (by simp[ixL,hh])⟩
 |n8 tx a h0 h1 h2=>
  have h3:=hl.head.1.pe (i:=b+nNL [a]) h2 (by rw[nNL];omega);constructor<;>simp[mkN,ixL]
  exact h3
 |n9 a c h1 h2 h3 h4=>
  have e1:=hl.head.1.pe (i:=b+nNL [a,c]) h2 (by rw[nNL];omega);have e2:=hl.head.2.head.1.pe (i:=b+nNL [a,c]) h4 (by rw[nNL,nNL];omega);constructor<;>simp[mkN,ixL]
  exact⟨e1,e2⟩
 |n10 ps h1 h2=>
  have hp1:∀p∈ps,1<=p.k:=λp hp=>by rw[(h1 p hp).2];decide
  have hx:∀x∈ixL b tb ps,Pk N (b+nNL ps) 15 x/\L9 (ndx N x).text:=λx hx=>by
   obtain⟨p,hp,j,e,hj,h,hkk,htx⟩:=hl.kds hp1 x hx;refine⟨⟨j,e,hj,h,by rw[hkk];exact(h1 p hp).2⟩, ?_⟩;have:(ndx N x).text=p.tx:=by
    unfold ndx;rw[e,tQ,lQ,gQ h];exact htx
   rw[this];obtain⟨hw,hk⟩:=h1 p hp;have hs:=X0 hw;cases hs<;>simp[Nt.k]at hk
   simpa[Nt.tx]
  have hn:=hl.txs hp1;constructor<;>simp[mkN]
  exact⟨λx h=>(hx x h).1,by rw[hn];exact h2,λx h=>(hx x h).2⟩
 |n11 ps h1=>
  have hx:∀x∈ixL b tb ps,Pe N (b+nNL ps) x:=λx hx=>by
   obtain⟨p,hp,j,e,hj,h,hkk,_⟩:=hl.kds (λp hp=>(h1 p hp).2.1) x hx;exact⟨j,e,hj,h,by rw[hkk];exact(h1 p hp).2⟩
  constructor<;>simp[mkN]
  exact hx
 |n12 tx a c h0 h1 h2 h3 h4=>
  have e1:=hl.head.1.pe (i:=b+nNL [a,c]) h2 (by rw[nNL];omega);have e2:=hl.head.2.head.1.pe (i:=b+nNL [a,c]) h4 (by rw[nNL,nNL];omega);constructor<;>simp[mkN,ixL]
  · exact⟨e1,e2⟩
  · simpa using h0
 |n13 tx a h0 h1 h2=>
  have h3:=hl.head.1.pe (i:=b+nNL [a]) h2 (by rw[nNL];omega);constructor<;>simp[mkN,ixL]
  · exact h3
  · simpa using h0
 |n14 a t h1 h2 h3=>
  have e1:=hl.head.1.pe (i:=b+nNL [a,.ty (some t)]) h2 (by rw[nNL];omega);have e2:Py T (ixN (b+nN a) (tb+nT a) (.ty (some t))):=by
   rcases V2b (b:=b+nN a) (a:= .ty (some t)) (T:=T) (tb:=tb+nT a) h3 (.inr rfl) ((ht.head h1).2.head h3).1 with h|h
   · have:=G5a t;rw[ixN]at h;omega
   · exact h
  constructor<;>simp[mkN,ixL]
  exact⟨e1,e2⟩
 |n15 tx a h0 h1 h2=>
  have h3:=hl.head.1.pe (i:=b+nNL [a]) h2 (by rw[nNL];omega);constructor<;>simp[mkN,ixL]
  exact h3
 |n16 tx a h0 h1 h2=>
  have e2:Pz T (ixN b tb a):=V2b h1 h2 (ht.head h1).1;constructor<;>simp[mkN,ixL]
  exact e2
 |n17 tx a c h0 h1 h2 h3 h4=>
  have e1:Pz T (ixN b tb a):=V2b h1 h2 (ht.head h1).1;have e2:=hl.head.2.head.1.pe (i:=b+nNL [a,c]) h4 (by rw[nNL,nNL];omega);constructor<;>simp[mkN,ixL]
  exact⟨e1,e2⟩
 |n18 tx a h0 h1 h2=>
  have h3:=hl.head.1.pe (i:=b+nNL [a]) h2 (by rw[nNL];omega);constructor<;>simp[mkN,ixL]
  exact h3
 |n19 tx a c h0 h1 h2 h3 h4=>
  have e1:=hl.head.1.pe (i:=b+nNL [a,c]) h2 (by rw[nNL];omega);have e2:=hl.head.2.head.1.pe (i:=b+nNL [a,c]) h4 (by rw[nNL,nNL];omega);constructor<;>simp[mkN,ixL]
  exact⟨e1,e2⟩
 |n20 a c d h1 h2 h3 h4 h5 h6=>
  have e1:=hl.head.1.pe (i:=b+nNL [a,c,d]) h2 (by rw[nNL];omega);have e2:=hl.head.2.head.1.pe (i:=b+nNL [a,c,d]) h4 (by rw[nNL,nNL];omega);have e3:=hl.head.2.head.2.head.1.pe (i:=b+nNL [a,c,d]) h6 (by rw[nNL,nNL,nNL];omega);constructor<;>simp[mkN,ixL]
  exact⟨e1,e2,e3⟩
 |n21 a h1 h2=>
  have h3:=hl.head.1.pe (i:=b+nNL [a]) h2 (by rw[nNL];omega);constructor<;>simp[mkN,ixL]
  exact h3
 |n22 a c d h1 h2 h3 h4 h5 h6=>
  have e1:=hl.head.1.pe (i:=b+nNL [a,c,d]) h2 (by rw[nNL];omega);have e2:=hl.head.2.head.1.pk (i:=b+nNL [a,c,d]) h4 (by decide) (by rw[nNL,nNL];omega);have e3:ixN (b+nN a+nN c) (tb+nT a+nT c) d= -1\/Pk N (b+nNL [a,c,d]) 26 (ixN (b+nN a+nN c) (tb+nT a+nT c) d):=by
   rcases h6 with h6|h6
   · exact .inr (hl.head.2.head.2.head.1.pk h6 (by decide) (by rw[nNL,nNL,nNL];omega))
   · obtain⟨o,rfl⟩:=F2a h5 (.inl h6);cases o with
     |none=>exact .inl rfl
     |some t=>simp[Nt.k]at h6
  constructor<;>simp[mkN,ixL]
  exact⟨e1,e2,e3⟩
 |n23 a c h1 h2 h3 h4=>
  have e1:=hl.head.1.pe (i:=b+nNL [a,c]) h2 (by rw[nNL];omega);have e2:=hl.head.2.head.1.pk (i:=b+nNL [a,c]) h4 (by decide) (by rw[nNL,nNL];omega);constructor<;>simp[mkN,ixL]
  exact⟨e1,e2⟩
 |n24 a h1 h2=>
  have h3:=hl.head.1.pe (i:=b+nNL [a]) h2 (by rw[nNL];omega);constructor<;>simp[mkN,ixL]
  exact h3
 |n25 a h1 h2=>
  have h3:=hl.head.1.pe (i:=b+nNL [a]) h2 (by rw[nNL];omega);constructor<;>simp[mkN,ixL]
  exact h3
 |n26 ps h1=>
  have hx:∀x∈ixL b tb ps,∃j:Nat,x=j/\j<b+nNL ps:=λx hx=>by
   obtain⟨p,hp,j,e,hj,h,hkk,_⟩:=hl.kds (λp hp=>by have:=(h1 p hp).2.1;omega) x hx;exact⟨j,e,hj⟩
  constructor<;>simp[mkN]
  exact hx
theorem Prgm.flat{ps:List Nt}(h:Prgm N T ps)(i:Nat)(hi:i<N.length):FlN N T i N[i]:=by
 have he:Em N 0 0 (.nd 26 [] 0 ps):=⟨[],[],by simp[h.nodes],rfl⟩;have hn:N.length=nN (.nd 26 [] 0 ps):=by
  have:=congrArg List.length h.nodes;rw[List.length_map,U3]at this;exact this
 have hy:EmY T 0 (.nd 26 [] 0 ps):=⟨[],[],by rw[emY,h.types];simp,rfl,R6a⟩;exact P0c hi (Q9c _ 0 0 (w26 h.wn) he hy i (wQ _) (by omega))
end
def Tg(N:List Nd)(b:Nat)(j:Int):Prop:=∃n:Nat,j=n/\∃h:n<N.length,(N[n].kind=16\/N[n].kind=17)/\(n<b\/N[n].kind=17/\Pk N n 6 N[n].a)
theorem Tg.mono{N:List Nd}{a b:Nat}{j:Int}(h:Tg N a j)(hab:a<=b):Tg N b j:=by
 obtain⟨n,e,hn,hk,h⟩:=h;exact⟨n,e,hn,hk,h.imp (λx=>by omega) id⟩
def FrOk(N:List Nd)(b:Nat)(fs:List Fr):Prop:=∀f∈fs,∀x j,f x=some j->Tg N b j
theorem FrOk.mono{N:List Nd}{a b:Nat}{fs:List Fr}(h:FrOk N a fs)(hab:a<=b):FrOk N b fs:=λf hf x j e=>(h f hf x j e).mono hab
theorem FrOk.look{N:List Nd}{b:Nat}:∀{fs:List Fr},FrOk N b fs->∀{x j},M.look x fs=some j->Tg N b j
 |[],_,x,j,e=>by simp[M.look]at e
 |f::r,h,x,j,e=>by
  rw[M.look]at e;cases hl:M.look x r with
  |none=>rw[hl]at e;exact h f (by simp) x j e
  |some i=>
   rw[hl]at e;simp only[zQ]at e;subst e;exact FrOk.look (fs:=r) (λf hf=>h f (by simp[hf])) hl
theorem FrOk.set{N:List Nd}{b:Nat}{fs:List Fr}(h:FrOk N b fs){x:List UInt8}{j:Int}(hj:Tg N b j):FrOk N b (G5 fs x j):=by
 intro f hf y k e;unfold G5 at hf;rcases qW.1 hf with hf|hf
 · exact h f ((List.dropLast_sublist _).subset hf) y k e
 · simp only[zW]at hf;subst hf;unfold Fr.set at e;split at e
   · simp only[zQ]at e;rw[<-e];exact hj
   · unfold C5a at e;rw[List.getLastD_eq_getLast?]at e;cases hl:fs.getLast? with
     |none=>rw[hl]at e;simp[Fr.no]at e
     |some g=>
      rw[hl]at e;exact h g (List.mem_of_getLast? hl) y k e
theorem FrOk.drop{N:List Nd}{b:Nat}{fs:List Fr}(h:FrOk N b fs):FrOk N b fs.dropLast:=λf hf=>h f ((List.dropLast_sublist _).subset hf)
theorem FrOk.push{N:List Nd}{b:Nat}{fs:List Fr}(h:FrOk N b fs):FrOk N b (fs++[Fr.no]):=by
 intro f hf x j e;rcases qW.1 hf with hf|hf
 · exact h f hf x j e
 · simp only[zW]at hf;subst hf;simp[Fr.no]at e
def isV(k:Int):Prop:=k=5\/k=18
structure Fnd(N:List Nd)(a b:Nat)(fs:List Fr)(l:List (Nat×Int)):Prop where
 fr:FrOk N b fs
 tg:∀p∈l,(∃h:p.1<N.length,isV N[p.1].kind)/\Tg N p.1 p.2
 cov:∀i (h:i<N.length),a<=i->i<b->isV N[i].kind->∃j,(i,j)∈l
def FndB(N:List Nd)(a b:Nat)(r:Br):Prop:=∀fs l,r= .ok fs l->Fnd N a b fs l
theorem FndB.and{N:List Nd}{a b c:Nat}{r:Br}{k:List Fr->Br}(h:FndB N a b r)(hk:∀f,FrOk N b f->FndB N b c (k f)):FndB N a c (r.and k):=by
 intro fs l e;cases r with
 |bad e i=>simp[Br.and]at e
 |ok f1 l1=>
  rw[Br.and_ok]at e;have h1:=h f1 l1 rfl;cases hh:k f1 with
  |bad e2 i2=>rw[hh]at e;simp at e
  |ok f2 l2=>
   rw[hh]at e;simp only[Br.ok.injEq]at e;obtain⟨rfl,rfl⟩:=e;have h2:=hk f1 h1.fr f2 l2 hh;refine⟨h2.fr,λp hp=> ?_,λi hi ha hb hv=> ?_⟩
   · rcases qW.1 hp with hp|hp
     · exact h1.tg p hp
     · exact h2.tg p hp
   · by_cases hib:i<b
     · obtain⟨j,hj⟩:=h1.cov i hi ha hib hv;exact⟨j,by simp[hj]⟩
     · obtain⟨j,hj⟩:=h2.cov i hi (by omega) hb hv;exact⟨j,by simp[hj]⟩
theorem FndB.grow{N:List Nd}{a b:Nat}{r:Br}(h:FndB N a b r)(hn:∀h:b<N.length,¬isV N[b].kind):FndB N a (b+1) r:=by
 intro fs l e;have h1:=h fs l e;refine⟨h1.fr.mono (by omega),h1.tg,λi hi ha hb hv=> ?_⟩;by_cases hib:i=b
 · subst hib;exact absurd hv (hn hi)
 · exact h1.cov i hi ha (by omega) hv
theorem FndB.pop{N:List Nd}{a b:Nat}{r:Br}(h:FndB N a b r):FndB N a b r.pop:=by
 intro fs l e;cases r with
 |bad e i=>simp[Br.pop]at e
 |ok f1 l1=>
  simp only[Br.pop,Br.ok.injEq]at e;obtain⟨rfl,rfl⟩:=e;have h1:=h f1 l1 rfl;exact⟨h1.fr.drop,h1.tg,h1.cov⟩
theorem FndB.setF{N:List Nd}{a b:Nat}{r:Br}(h:FndB N a b r){x:List UInt8}{j:Int}(hj:Tg N b j):FndB N a b (r.setF x j):=by
 intro fs l e;cases r with
 |bad e i=>simp[Br.setF]at e
 |ok f1 l1=>
  simp only[Br.setF,Br.ok.injEq]at e;obtain⟨rfl,rfl⟩:=e;have h1:=h f1 l1 rfl;exact⟨h1.fr.set hj,h1.tg,h1.cov⟩
theorem FndB.none{N:List Nd}{a:Nat}{fs:List Fr}(h:FrOk N a fs):FndB N a a (.ok fs []):=by
 intro f l e;simp only[Br.ok.injEq]at e;obtain⟨rfl,rfl⟩:=e;exact⟨h,λp hp=>by simp at hp,λi hi ha hb=>by omega⟩
theorem FndB.bad{N:List Nd}{a b:Nat}{e:Int}{i:Nat}:FndB N a b (.bad e i):=by
 intro f l e;cases e
section
variable{N:List Nd}
theorem X9b{b tb:Nat}{k:Int}{tx:List UInt8}{n:Int}{ps:List Nt}(h:Em N b tb (.nd k tx n ps)):∃hi:b+nNL ps<N.length,N[b+nNL ps].kind=k:=by
 obtain⟨_,hi,e⟩:=h.parts;exact⟨hi,(congrArg Nd.kind e).trans (X8 _ _ _ _)⟩
mutual
theorem Z0b:∀(t:Nt) (fs:List Fr) (b tb:Nat),Wn t->Em N b tb t->FrOk N b fs->FndB N b (b+nN t) (bnT fs b t)
 | .ty _,fs,b,tb,_,_,hf=>by rw[bnT,nN];exact FndB.none hf
 | .nd k tx n ps,fs,b,tb,hw,he,hf=>by
  obtain⟨hi,hk⟩:=X9b he;have hw':=hw;rw[Wn]at hw';obtain⟨hsh,-,hwl⟩:=hw';have hel:=he.parts.1;rw[bnT,nN,<-Nat.add_assoc];split
  · rename_i h5;subst h5;have hps:ps=[]:=by simpa[shp]using hsh
    subst hps;simp only[nNL,Nat.add_zero]at *;split
    · exact FndB.bad
    · rename_i j hj;intro f l e;simp only[Br.ok.injEq]at e;obtain⟨rfl,rfl⟩:=e;refine⟨hf.mono (by omega),λp hp=> ?_,λi hi' ha hb hv=>⟨j, ?_⟩⟩
      · simp only[zW]at hp;subst hp;exact⟨⟨hi,.inl hk⟩,hf.look hj⟩
      · have:i=b:=by omega
        subst this;simp
  rename_i h5;split
  · rename_i h18;split
    · exact FndB.bad
    · rename_i j hj;have hl:=Z3 ps false fs b tb hwl hel hf;intro f l e;rw[Br.and_ok]at e;cases hh:bnL false fs b ps with
      |bad e2 i2=>rw[hh]at e;simp at e
      |ok f2 l2=>
       rw[hh]at e;simp only[Br.ok.injEq]at e;obtain⟨rfl,rfl⟩:=e;have h2:=hl f2 l2 hh;refine⟨h2.fr.mono (by omega),λp hp=> ?_,λi hi' ha hb hv=> ?_⟩
       · rcases qW.1 hp with hp|hp
         · simp only[zW]at hp;subst hp;exact⟨⟨hi,.inr (hk.trans h18)⟩,(hf.look hj).mono (by simp)⟩
         · exact h2.tg p hp
       · by_cases hib:i=b+nNL ps
         · subst hib;exact⟨j,by simp⟩
         · obtain⟨j',hj'⟩:=h2.cov i hi' ha (by omega) hv;exact⟨j',by simp[hj']⟩
  rename_i h18;have hnv:∀h:b+nNL ps<N.length,¬isV N[b+nNL ps].kind:=λh hv=>by
   rw[hk]at hv;rcases hv with hv|hv
   · exact h5 hv
   · exact h18 hv
  split
  · rename_i h17;split
    · exact FndB.bad
    · have htg:Tg N (b+nNL ps+1) ((b+nNL ps:Nat):Int):=⟨b+nNL ps,rfl,hi,.inr (hk.trans h17),.inl (by omega)⟩;refine FndB.setF (FndB.grow ?_ hnv) htg;by_cases hfn:N6c ps=true
      · rw[if_pos hfn];refine Z3 ps false _ b tb hwl hel (hf.set ⟨b+nNL ps,rfl,hi,.inr (hk.trans h17),.inr ⟨hk.trans h17, ?_⟩⟩);match ps,hfn,hel,hi,hk,he with
        |[a,.nd k' tx' n' qs],hfn,hel,hi,hk,he=>
         have hk':k'=6:=by simpa[N6c]using hfn
         have ea:N[b+nNL [a,.nd k' tx' n' qs]].a=ixN (b+nN a) (tb+nT a) (.nd k' tx' n' qs):=by
          obtain⟨_,_,e⟩:=he.parts;have:=congrArg Nd.a e;subst h17;exact this
         rw[ea];exact hel.head.2.head.1.pk (by simp[Nt.k,hk']) (by decide) (by simp only[nNL];omega)
      · rw[if_neg hfn];exact Z3 ps false fs b tb hwl hel hf
  rename_i h17;split
  · rename_i h16;have hps:∃o,ps=[.ty o]:=by
     have hs:=X0 hw;subst h16;cases hs with
     |n16 tx a h0 h1 h2=>
      obtain⟨o,rfl⟩:=F2a h1 h2;exact⟨o,rfl⟩
    obtain⟨o,rfl⟩:=hps;have hn0:nNL [Nt.ty o]=0:=by simp[nNL,nN]
    rw[hn0]at *;have htg:Tg N (b+0+1) ((b+0:Nat):Int):=⟨b+0,rfl,hi,.inl (hk.trans h16),.inl (by omega)⟩;exact FndB.setF (r:= .ok fs []) (FndB.grow (b:=b+0) (FndB.none (by simpa using hf)) hnv) htg
  rename_i h16;split
  · exact FndB.grow (Z3 ps true _ b tb hwl hel hf.push).pop hnv
  split
  · exact FndB.grow (Z3 ps false _ b tb hwl hel hf.push).pop hnv
  · exact FndB.grow (Z3 ps false fs b tb hwl hel hf) hnv
theorem Z3:∀(ps:List Nt) (fn:Bool) (fs:List Fr) (b tb:Nat),WnL ps->EmL N b tb ps->FrOk N b fs->FndB N b (b+nNL ps) (bnL fn fs b ps)
 |[],fn,fs,b,tb,_,_,hf=>by rw[bnL,nNL];exact FndB.none hf
 | .ty o::r,fn,fs,b,tb,hw,he,hf=>by
  rw[WnL]at hw;rw[bnL,nNL,nN,Nat.zero_add];exact Z3 r fn fs b (tb+nT (.ty o)) hw.2 he.head.2 hf
 | .nd k tx n qs::r,fn,fs,b,tb,hw,he,hf=>by
  rw[WnL]at hw;rw[bnL,nNL,<-Nat.add_assoc];refine FndB.and (b:=b+nN (.nd k tx n qs)) ?_ λf hf'=>Z3 r fn f _ _ hw.2 he.head.2 hf';split
  · rename_i h26;have h26':k=26:=by simp at h26;exact h26.2
    have hw1:=hw.1;rw[Wn]at hw1;obtain⟨hi,hk⟩:=X9b he.head.1;rw[nN,<-Nat.add_assoc];refine FndB.grow (Z3 qs false fs b tb hw1.2.2 he.head.1.parts.1 hf) λh hv=> ?_;rw[hk,h26']at hv;rcases hv with hv|hv<;>exact absurd hv (by decide)
  · exact Z0b (.nd k tx n qs) fs b tb hw.1 he.head.1 hf
end
theorem D5d(l:List (Nat×Int)):∀(ts:List Int) (i:Nat) (v:Int),(upd ts l)[i]? =some v->ts[i]? =some v/\(∀j,(i,j) ∉ l)\/(i,v)∈l:=by
 induction l with
 |nil=>intro ts i v h;exact .inl ⟨h,λ_ hj=>by simp at hj⟩
 |cons p r ih=>
  intro ts i v h;rcases ih (ts.set p.1 p.2) i v h with ⟨h1,h2⟩|h1
  · by_cases hi:p.1=i
    · right;rw[hi,List.getElem?_set_self']at h1;cases ht:ts[i]? with
      |none=>rw[ht]at h1;simp at h1
      |some u=>
       rw[ht]at h1;simp at h1;rw[<-h1,<-hi];simp
    · left;rw[List.getElem?_set_ne hi]at h1;refine⟨h1,λj hj=> ?_⟩;rcases jW.1 hj with rfl|hj
      · exact hi rfl
      · exact h2 j hj
  · exact .inr (by simp[h1])
structure C7d(N:List Nd)(ts:List Int):Prop where
 len:ts.length=N.length
 tg:∀i (h:i<N.length),isV N[i].kind->Tg N i (ts.getD i 0)
 no:∀i (h:i<N.length),¬isV N[i].kind->ts.getD i 0= -1
 rg:∀i,i<N.length->-1<=ts.getD i 0/\ts.getD i 0<N.length
theorem L2c{T:List Ty}{ps:List Nt}(h:Prgm N T ps){fs:List Fr}{l:List (Nat×Int)}(hb:bnT [] 0 (.nd 26 [] 0 ps)= .ok fs l):C7d N (upd (List.replicate N.length (-1)) l):=by
 have he:Em N 0 0 (.nd 26 [] 0 ps):=⟨[],[],by simp[h.nodes],rfl⟩;have hn:N.length=nN (.nd 26 [] 0 ps):=by
  have:=congrArg List.length h.nodes;rw[List.length_map,U3]at this;exact this
 have hf:=Z0b (.nd 26 [] 0 ps) [] 0 0 (w26 h.wn) he (λf hf=>by simp at hf) fs l hb;have hlen:(upd (List.replicate N.length (-1)) l).length=N.length:=by rw[J5a];simp
 have key:∀i (hi:i<N.length),∃v,(upd (List.replicate N.length (-1)) l).getD i 0=v/\((v= -1/\∀j,(i,j) ∉ l)\/(i,v)∈l):=λi hi=>by
  have h1:(upd (List.replicate N.length (-1)) l)[i]? =some ((upd (List.replicate N.length (-1)) l).getD i 0):=by
   rw[lQ,gQ (by omega)];rfl
  refine⟨_,rfl, ?_⟩;rcases D5d l _ i _ h1 with ⟨h2,h3⟩|h2
  · left;rw[List.getElem?_replicate,if_pos hi]at h2;simp only[zQ]at h2;exact⟨h2.symm,h3⟩
  · exact .inr h2
 refine⟨hlen,λi hi hv=> ?_,λi hi hv=> ?_,λi hi=> ?_⟩
 · obtain⟨v,e,h1⟩:=key i hi;rw[e];rcases h1 with ⟨_,h1⟩|h1
   · obtain⟨j,hj⟩:=hf.cov i hi (wQ _) (by omega) hv;exact absurd hj (h1 j)
   · exact(hf.tg _ h1).2
 · obtain⟨v,e,h1⟩:=key i hi;rw[e];rcases h1 with ⟨h1,_⟩|h1
   · exact h1
   · obtain⟨⟨_,h2⟩,_⟩:=hf.tg _ h1;exact absurd h2 hv
 · obtain⟨v,e,h1⟩:=key i hi;rw[e];rcases h1 with ⟨h1,_⟩|h1
   · omega
   · obtain⟨_,n,e2,hn2,_⟩:=hf.tg _ h1;simp only at e2;omega
end
def W6:Tr:= .nd 5 [] []
def plT(k:Int):Tr:= .nd k [] []
abbrev Of:=List (Option Tr)
def ofA(of:Of)(x:Int):Tr:=(of.getD x.toNat none).getD W6
structure Cx where
 N:List Nd
 T:List Ty
 ts:List Int
 fn:List Int
def E7a(T:List Ty)(n:Nd):Tr:=if n.ty= -1 then W6 else tr T n.ty.toNat
def T8(c:Cx)(of:Of)(j:Int):Tr:=
 if (ndx c.N j).ty≠-1 then tr c.T (ndx c.N j).ty.toNat else if (ndx c.N j).kind=17 then ofA of (ndx c.N j).a else W6
def fnT(c:Cx)(n:Nd):Tr:= .nd 9 [] (E7a c.T n::n.list.map (T8 c []))
def J4(of:Of)(n:Nd):Option Tr:=
 if (ofA of n.a).k=5 then some (ofA of n.a) else if (ofA of n.a).k=8/\n.text=[108,101,110,103,116,104] then some (plT 1) else H7 n.text (ofA of n.a).ns (ofA of n.a).ks
def J0(of:Of)(n:Nd):Option Tr:=
 if D9 (ofA of n.b) (plT 1)=true then if (ofA of n.a).k=5 then some (ofA of n.a) else if (ofA of n.a).k=8 then some ((ofA of n.a).ks.headD W6) else none else none
def asks(c:Cx)(of:Of)(i:Nat):Option (List (Int×Tr)):=
 let n:=ndx c.N i
 if n.kind=7 then if (ofA of n.a).k=5 then some [] else some (n.list.zip (ofA of n.a).ks.tail)
 else if n.kind=14 then some [(n.a,tr c.T n.ty.toNat)]
 else if n.kind=17 then if n.ty≠-1 then some [(n.a,tr c.T n.ty.toNat)] else some []
 else if n.kind=18 then some [(n.a,T8 c of (c.ts.getD i 0))]
 else if n.kind=19 then (J4 of n).map λt=>[(n.b,t)]
 else if n.kind=20 then (J0 of n).map λt=>[(n.c,t)]
 else if n.kind=24 then some [(n.a,E7a c.T (ndx c.N (c.fn.getD i 0)))]
 else some []
def S8(c:Cx)(of:Of)(i:Nat):Bool:=
 match asks c of i with
 |none=>false
 |some l=>l.all λp=>D9 (ofA of p.1) p.2
def A8a(of:Of)(x:Int):Bool:=(ofA of x).k==1||(ofA of x).k==5
def A7a(c:Cx)(of:Of)(i:Nat):Option Tr:=
 let n:=ndx c.N i
 if (ofA of n.a).k=5 then some (ofA of n.a)
 else if (ofA of n.a).k≠9\/n.list.length≠(ofA of n.a).ks.tail.length then none
 else if S8 c of i=true then some ((ofA of n.a).ks.headD W6) else none
def B6b(of:Of)(n:Nd):Option Tr:=
 if (ofA of n.a).k=5\/(ofA of n.b).k=5 then some W6
 else if (ofA of n.a).k≠(ofA of n.b).k\/((ofA of n.a).k≠1/\(ofA of n.a).k≠3) then none
 else some (plT (ofA of n.a).k)
def G2b(of:Of)(n:Nd):Option Tr:=
 if n.text=[61,61] then some (plT 2) else if n.text=[43] then B6b of n
 else if A8a of n.a && A8a of n.b then some (if n.text=[60] then plT 2 else plT 1) else none
def I4b(of:Of)(n:Nd):Option Tr:=
 if n.text=[33] then some (plT 2) else if n.text=[116,121,112,101,111,102] then some (plT 3) else if A8a of n.a then some (plT 1) else none
def K3c(N:List Nd)(of:Of)(n:Nd):Tr:= .nd 7 (n.list.map λx=>(ndx N x).text) (n.list.map λx=>ofA of (ndx N x).a)
def S2c(of:Of)(n:Nd):Tr:= .nd 8 [] [Y4 (n.list.map (ofA of))]
def D7(c:Cx)(of:Of)(i:Nat):Option Tr:=
 let n:=ndx c.N i
 if n.kind=1 then some (plT 1) else if n.kind=2 then some (plT 3) else if n.kind=3 then some (plT 2)
 else if n.kind=5 then some (T8 c of (c.ts.getD i 0)) else if n.kind=6 then some (ofA of i)
 else if n.kind=7 then A7a c of i else if n.kind=8 then J4 of n else if n.kind=9 then J0 of n
 else if n.kind=10 then some (K3c c.N of n) else if n.kind=11 then some (S2c of n)
 else if n.kind=12 then G2b of n else if n.kind=13 then I4b of n
 else if n.kind=14 then some (tr c.T n.ty.toNat) else some (plT 4)
def ckN(c:Cx)(of:Of)(i:Nat):Int ⊕ Option Tr:=
 let n:=ndx c.N i
 if 1<=n.kind/\n.kind<=14 then match D7 c of i with
  |none=> .inl 9
  |some t=>if 300<sz t then .inl 2 else .inr (some t)
 else if n.kind=24/\c.fn.getD i 0= -1 then .inl 4
 else if S8 c of i=true then .inr none else .inl 9
def of0(c:Cx):Of:=c.N.map λn=>if n.kind=6 then some (fnT c n) else none
def ckS(c:Cx)(r:(Int×Nat) ⊕ Of)(i:Nat):(Int×Nat) ⊕ Of:=
 match r with
 | .inl e=> .inl e
 | .inr of=>match ckN c of i with
  | .inl e=> .inl (e,i)
  | .inr none=> .inr of
  | .inr (some t)=> .inr (of.set i (some t))
def R3(c:Cx):Nat->(Int×Nat) ⊕ Of
 |0=> .inr (of0 c)
 |j+1=>ckS c (R3 c j) j
def ckP(c:Cx):(Int×Nat) ⊕ Of:=R3 c c.N.length
theorem F7a(c:Cx){e:Int×Nat}:∀{j k:Nat},R3 c j= .inl e->j<=k->R3 c k= .inl e
 |j,0,h,hk=>by
  have:j=0:=by omega
  subst this;exact h
 |j,k+1,h,hk=>by
  by_cases hj:j=k+1
  · subst hj;exact h
  · rw[R3,F7a c h (by omega:j<=k)];rfl
structure D8a(c:Cx):Prop where
 flat:∀i (h:i<c.N.length),FlN c.N c.T i c.N[i]
 nms:C7d c.N c.ts
 lenN:c.N.length<=1200
 lenT:c.T.length<=300
 ok:TsOk c.T
 ls:∀i (h:i<c.N.length),c.N[i].list.length<=1200
 fnl:c.fn.length=c.N.length
 fnr:∀i,i<c.N.length->c.fn.getD i 0= -1\/∃j:Nat,c.fn.getD i 0=j/\j<c.N.length
 tx:∀nd∈c.N,nd.text.length<=30
theorem D3{N:List Nd}{i:Nat}(h:i<N.length):ndx N (i:Int)=N[i]:=by
 unfold ndx;rw[tQ,lQ,gQ h];rfl
structure CkI(c:Cx)(of:Of)(j:Nat):Prop where
 len:of.length=c.N.length
 ex:∀i (h:i<c.N.length),isE c.N[i].kind->(i<j\/c.N[i].kind=6)->∃t,of[i]? =some (some t)
 sm:∀i t,i<j->of[i]? =some (some t)->sz t<=300
 no:∀i (h:i<c.N.length),¬isE c.N[i].kind->of[i]? =some none
 later:∀i (h:i<c.N.length),j<=i->of[i]? =some (if c.N[i].kind=6 then some (fnT c c.N[i]) else none)
theorem E7b(c:Cx):∀(j:Nat) (of:Of),j<=c.N.length->R3 c j= .inr of->CkI c of j
 |0,of,_,h=>by
  simp only[R3,Sum.inr.injEq]at h;subst h;have key:∀i (h:i<c.N.length),(of0 c)[i]? =some (if c.N[i].kind=6 then some (fnT c c.N[i]) else none):=λi h=>by
   unfold of0;rw[List.getElem?_map,gQ h];rfl
  refine⟨by simp[of0],λi h he h6=> ?_,λi t h=>by omega,λi h he=> ?_,λi h _=>key i h⟩
  · rcases h6 with h6|h6
    · omega
    · exact⟨_,by rw[key i h,if_pos h6]⟩
  · rw[key i h,if_neg (λh6=>he (by rw[h6];exact⟨by decide,by decide⟩))]
 |j+1,of,hj,h=>by
  rw[R3]at h;cases hh:R3 c j with
  |inl e=>rw[hh]at h;simp[ckS]at h
  |inr of1=>
   rw[hh]at h;have ih:=E7b c j of1 (by omega) hh;have hjn:j<c.N.length:=by omega
   simp only[ckS]at h;cases hk:ckN c of1 j with
   |inl e=>rw[hk]at h;simp at h
   |inr o=>
    rw[hk]at h;unfold ckN at hk;simp only[D3 hjn]at hk;cases o with
    |none=>
     simp only[Sum.inr.injEq]at h;subst h;have hne:¬isE c.N[j].kind:=by
      intro he;have he':1<=c.N[j].kind/\c.N[j].kind<=14:=he;rw[if_pos he']at hk;split at hk
      · simp at hk
      · split at hk<;>simp at hk
     refine⟨ih.len,λi h he h6=>ih.ex i h he ?_,λi t h ho=> ?_,ih.no,λi h hi=>ih.later i h (by omega)⟩
     · rcases h6 with h6|h6
       · by_cases hij:i=j
         · subst hij;exact absurd he hne
         · exact .inl (by omega)
       · exact .inr h6
     · by_cases hij:i=j
       · subst hij;rw[ih.no i hjn hne]at ho;simp at ho
       · exact ih.sm i t (by omega) ho
    |some t=>
     simp only[Sum.inr.injEq]at h;subst h;have het:isE c.N[j].kind/\sz t<=300:=by
      by_cases he:1<=c.N[j].kind/\c.N[j].kind<=14
      · refine⟨he, ?_⟩;rw[if_pos he]at hk;split at hk
        · simp at hk
        · split at hk
          · simp at hk
          · simp only[Sum.inr.injEq,zQ]at hk;subst hk;omega
      · rw[if_neg he]at hk;split at hk
        · simp at hk
        · split at hk<;>simp at hk
     have hl:j<of1.length:=by rw[ih.len];exact hjn
     refine⟨by rw[List.length_set];exact ih.len,λi h he h6=> ?_,λi u h ho=> ?_,λi h he=> ?_,λi h hi=> ?_⟩
     · by_cases hij:i=j
       · subst hij;exact⟨t,by rw[List.getElem?_set_self hl]⟩
       · rw[List.getElem?_set_ne (by omega)];exact ih.ex i h he (h6.imp (λx=>by omega) id)
     · by_cases hij:i=j
       · subst hij;rw[List.getElem?_set_self hl]at ho;simp only[zQ]at ho;subst ho;exact het.2
       · rw[List.getElem?_set_ne (by omega)]at ho;exact ih.sm i u (by omega) ho
     · by_cases hij:i=j
       · subst hij;exact absurd het.1 he
       · rw[List.getElem?_set_ne (by omega)];exact ih.no i h he
     · rw[List.getElem?_set_ne (by omega)];exact ih.later i h (by omega)
def prt(n:Nd):List Int:=
 if n.kind=10\/n.kind=11\/n.kind=26 then n.list
 else if n.kind=7 then n.a::n.list
 else if n.kind=6 then n.list++[n.a]
 else if n.kind=8\/n.kind=13\/n.kind=14\/n.kind=15\/n.kind=17\/n.kind=18\/n.kind=21\/n.kind=24\/n.kind=25 then [n.a]
 else if n.kind=9\/n.kind=12\/n.kind=19\/n.kind=23 then [n.a,n.b]
 else if n.kind=20 then [n.a,n.b,n.c]
 else if n.kind=22 then if n.c= -1 then [n.a,n.b] else [n.a,n.b,n.c]
 else []
theorem Pe.lt{N:List Nd}{i:Nat}{x:Int}(h:Pe N i x):∃j:Nat,x=j/\j<i:=by obtain⟨j,e,h,_⟩:=h;exact⟨j,e,h⟩
theorem Pk.lt{N:List Nd}{i:Nat}{k x:Int}(h:Pk N i k x):∃j:Nat,x=j/\j<i:=by obtain⟨j,e,h,_⟩:=h;exact⟨j,e,h⟩
theorem I8c{N:List Nd}{T:List Ty}{i:Nat}{n:Nd}(h:FlN N T i n):∀x∈prt n,∃j:Nat,x=j/\j<i:=by
 intro x hx;unfold prt at hx;split at hx
 · rename_i hk;rcases hk with hk|hk|hk
   · exact((h.k10 hk).1 x hx).lt
   · exact(h.k11 hk x hx).lt
   · exact h.k26 hk x hx
 split at hx
 · rename_i hk;rcases jW.1 hx with rfl|hx
   · exact(h.k7 hk).1.lt
   · exact((h.k7 hk).2 x hx).lt
 split at hx
 · rename_i hk;rcases qW.1 hx with hx|hx
   · exact((h.k6 hk).1 x hx).lt
   · simp only[zW]at hx;subst hx;exact(h.k6 hk).2.2.lt
 split at hx
 · rename_i hk;simp only[zW]at hx;subst hx;rcases hk with hk|hk|hk|hk|hk|hk|hk|hk|hk
   · exact(h.k1 (by omega)).lt
   · exact(h.k1 (by omega)).lt
   · exact(h.k14 hk).1.lt
   · exact(h.k1 (by omega)).lt
   · exact(h.k17 hk).2.lt
   · exact(h.k1 (by omega)).lt
   · exact(h.k1 (by omega)).lt
   · exact(h.k1 (by omega)).lt
   · exact(h.k1 (by omega)).lt
 split at hx
 · rename_i hk;simp only[jW,List.not_mem_nil,or_false]at hx;by_cases h23:n.kind=23
   · rcases hx with rfl|rfl
     · exact(h.k23 h23).1.lt
     · exact(h.k23 h23).2.lt
   · rcases hx with rfl|rfl
     · exact(h.k2 (by omega)).1.lt
     · exact(h.k2 (by omega)).2.lt
 split at hx
 · rename_i hk;simp only[jW,List.not_mem_nil,or_false]at hx;rcases hx with rfl|rfl|rfl
   · exact(h.k20 hk).1.lt
   · exact(h.k20 hk).2.1.lt
   · exact(h.k20 hk).2.2.lt
 split at hx
 · rename_i hk;have h22:=h.k22 hk;split at hx
   · simp only[jW,List.not_mem_nil,or_false]at hx;rcases hx with rfl|rfl
     · exact h22.1.lt
     · exact h22.2.1.lt
   · rename_i hc;simp only[jW,List.not_mem_nil,or_false]at hx;rcases hx with rfl|rfl|rfl
     · exact h22.1.lt
     · exact h22.2.1.lt
     · rcases h22.2.2 with h|h
       · exact absurd h hc
       · exact h.lt
 · simp at hx
def setA(ar:List Int)(v:Int)(l:List Int):List Int:=l.foldl (λa x=>a.set x.toNat v) ar
theorem E5a(v:Int):∀(l:List Int) (ar:List Int),(setA ar v l).length=ar.length
 |[],ar=>rfl
 |x::l,ar=>by rw[setA,List.foldl_cons,<-setA,E5a v l];simp
theorem G2a(ar:List Int)(v:Int)(l:List Int)(x:Int):setA ar v (l++[x])=(setA ar v l).set x.toNat v:=by simp[setA]
def fnH(N:List Nd)(ar:List Int)(i:Nat):List Int:=if i+1=N.length then ar.set i (-1) else ar
def fnW(N:List Nd)(ar:List Int)(i:Nat):Int:=if (ndx N i).kind=6 then i else (fnH N ar i).getD i 0
def fnS(N:List Nd)(ar:List Int)(i:Nat):List Int:=setA (fnH N ar i) (fnW N ar i) (prt (ndx N i))
def fnI(N:List Nd):Nat->List Int
 |0=>List.replicate N.length 0
 |j+1=>fnS N (fnI N j) (N.length - 1 - j)
def fnP(N:List Nd):List Int:=fnI N N.length
def InA(n:Nat)(ar:List Int):Prop:=ar.length=n/\∀v∈ar,-1<=v/\v<n
theorem InA.set{n:Nat}{ar:List Int}(h:InA n ar)(i:Nat){v:Int}(hv:-1<=v/\v<n):InA n (ar.set i v):=by
 refine⟨by rw[List.length_set];exact h.1,λu hu=> ?_⟩;rcases List.mem_or_eq_of_mem_set hu with hu|rfl
 · exact h.2 u hu
 · exact hv
theorem InA.setA{n:Nat}{v:Int}(hv:-1<=v/\v<n):∀{l ar:List Int},InA n ar->InA n (M.setA ar v l)
 |[],_,h=>h
 |x::l,_,h=>InA.setA hv (l:=l) (h.set x.toNat hv)
theorem InA.getD{n:Nat}{ar:List Int}(h:InA n ar)(hn:0<n)(i:Nat):-1<=ar.getD i 0/\ar.getD i 0<n:=by
 rw[lQ];by_cases hi:i<ar.length
 · rw[gQ hi];exact h.2 _ (mQ hi)
 · rw[List.getElem?_eq_none (by omega)]
   simp;omega
theorem O7c{N:List Nd}{ar:List Int}(h:InA N.length ar)(i:Nat):InA N.length (fnH N ar i):=by
 unfold fnH;split
 · exact h.set i (by omega)
 · exact h
theorem G6d{N:List Nd}{ar:List Int}(h:InA N.length ar){i:Nat}(hi:i<N.length):-1<=fnW N ar i/\fnW N ar i<N.length:=by
 unfold fnW;split
 · omega
 · exact(O7c h i).getD (by omega) i
theorem O6c(N:List Nd):∀j,j<=N.length->InA N.length (fnI N j)
 |0,_=>⟨by simp[fnI],λv hv=>by
  simp[fnI]at hv;have:=List.length_pos_iff.2 hv.1
  omega⟩
 |j+1,hj=>by
  have ih:=O6c N j (by omega);rw[fnI,fnS];exact(O7c ih _).setA (G6d ih (by omega))
def cxP(N:List Nd)(T:List Ty)(l:List (Nat×Int)):Cx:=⟨N,T,upd (List.replicate N.length (-1)) l,fnP N⟩
theorem A4b{N:List Nd}{T:List Ty}{ps:List Nt}(h:Prgm N T ps){fs:List Fr}{l:List (Nat×Int)}(hb:bnT [] 0 (.nd 26 [] 0 ps)= .ok fs l)(htx:∀nd∈N,nd.text.length<=30):D8a (cxP N T l):=by
 have hA:=O6c N N.length (vQ _);refine⟨h.flat,L2c h hb,h.lenN,h.lenT,h.ok,λi hi=> ?_,hA.1,λi hi=> ?_,htx⟩
 · have hm:N[i].fl∈emN 0 0 (.nd 26 [] 0 ps):=by
    rw[<-h.nodes];exact List.mem_map_of_mem (mQ hi)
   have h1:=D9b (.nd 26 [] 0 ps) (A1b _ (w26 h.wn)) 0 0 _ hm;have h2:N.length=nN (.nd 26 [] 0 ps):=by
    have:=congrArg List.length h.nodes;rw[List.length_map,U3]at this;exact this
   have h3:=h.lenN;have h4:N[i].fl.list=N[i].list:=rfl;rw[h4]at h1;show N[i].list.length<=1200;omega
 · have hi':i<N.length:=hi;obtain⟨h1,h2⟩:=hA.getD (by omega) i;show (fnI N N.length).getD i 0= -1\/_;by_cases h0:(fnI N N.length).getD i 0= -1
   · exact .inl h0
   · exact .inr ⟨((fnI N N.length).getD i 0).toNat,by show (fnI N N.length).getD i 0=_;omega,by show _<N.length;omega⟩
theorem K7c:∀ns:List (List UInt8),(∀n∈ns,L9 n)->nsW ns<=ns.length * 28
 |[],_=>by simp[nsW]
 |n::r,h=>by
  have h1:=K7c r λm hm=>h m (by simp[hm]);have h2:=(h n (by simp)).2.1;have e:nsW (n::r)=n.length+8+nsW r:=by simp[nsW]
  rw[e,jQ];omega
theorem R2a:∀l:List Tr,(∀x∈l,wg x+44<=60 * sz x)->wgL l+39 * l.length<=60 * szL l
 |[],_=>by simp[wgL,szL]
 |t::r,h=>by
  have h1:=R2a r λx hx=>h x (by simp[hx]);have h2:=h t (by simp);rw[wgL,szL,jQ];omega
theorem J8d{t:Tr}(h:Wf t):wg t+44<=60 * sz t:=by
 induction h with
 |plain k h1 h2=>simp[wg,sz,wgL,szL,nsW]
 |obj ns ks hl nd hn hw ih=>
  have h1:=R2a ks ih;have h2:=K7c ns hn;rw[wg,sz];omega
 |arr t _ ih=>
  simp only[wg,sz,wgL,szL,nsW,List.map_nil,List.sum_nil];omega
 |fn t ps _ _ ih1 ih2=>
  have h1:=R2a ps ih2;simp only[wg,sz,wgL,szL,nsW,List.map_nil,List.sum_nil];omega
 |uni ks hl _ ih=>
  have h1:=R2a ks ih;simp only[wg,sz,nsW,List.map_nil,List.sum_nil];omega
abbrev Gm:=Int->Option Int
def O0c(g:Gm)(x v:Int):Gm:=λu=>if u=x then some v else g u
def gput(g:Gm)(x:Int)(t:Tr):Gm:=if Z7 t=127 then g else O0c g x (Z7 t:Int)
def D4b(of:Of)(g:Gm)(p:Int×Tr):Gm:=if (ofA of p.1).k=5 then gput g p.1 p.2 else g
def T7a(c:Cx)(of:Of)(g:Gm)(i:Nat):Gm:=
 if (ndx c.N i).kind=16 then if (ndx c.N i).ty≠-1 then gput g i (tr c.T (ndx c.N i).ty.toNat) else g
 else if (ndx c.N i).kind=7\/(ndx c.N i).kind=8\/(ndx c.N i).kind=9 then gput g i (ofA of i) else g
def plN(c:Cx)(of:Of)(g:Gm)(i:Nat):Gm:=((asks c of i).getD []).foldl (D4b of) (T7a c of g i)
def S6a(c:Cx)(of:Of):Nat->Gm
 |0=>λ_=>none
 |j+1=>plN c of (S6a c of j) j
def P8(g:Gm):Nat->List (Int×Int)
 |0=>[]
 |j+1=>P8 g j++(match g (j:Int) with
  |some v=>[((j:Int),v)]
  |none=>[])
def plP(c:Cx)(of:Of):List (Int×Int):=P8 (S6a c of c.N.length) c.N.length
structure Dn(c:Cx)(of:Of)(i:Nat):Prop where
 asked:∃l,asks c of i=some l
 call:(ndx c.N i).kind=7->(ofA of (ndx c.N i).a).k=5\/((ofA of (ndx c.N i).a).k=9/\(ndx c.N i).list.length=(ofA of (ndx c.N i).a).ks.tail.length)
 ret:(ndx c.N i).kind=24->c.fn.getD i 0≠-1
def Agr(c:Cx)(i:Nat)(of of':Of):Prop:=∀j (h:j<c.N.length),(j<i\/c.N[j].kind=6)->of[j]? =of'[j]?
theorem Agr.a{c:Cx}{i:Nat}{of of':Of}(h:Agr c i of of'){x:Int}(hx:Pe c.N i x):ofA of x=ofA of' x:=by
 obtain⟨j,rfl,hj,hl,_⟩:=hx;unfold ofA;rw[tQ,lQ,lQ,h j hl (.inl hj)]
theorem Agr.has{c:Cx}(hc:D8a c){i:Nat}{of of':Of}(h:Agr c i of of'){x:Int}(hx:Tg c.N i x):T8 c of x=T8 c of' x:=by
 obtain⟨j,rfl,hl,hk,hj⟩:=hx;unfold T8;rw[D3 hl];split
 · rfl
 split
 · rename_i h17;have h1:=((hc.flat j hl).k17 h17).2;rcases hj with hj|⟨_,n,e,hn,hnl,h6⟩
   · obtain⟨n,e,hn,hnl,hke⟩:=h1;rw[e];unfold ofA;rw[tQ,lQ,lQ,h n hnl (.inl (by omega))]
   · rw[e];unfold ofA;rw[tQ,lQ,lQ,h n hnl (.inr h6)]
 · rfl
theorem Agr.asks{c:Cx}(hc:D8a c){i:Nat}(hi:i<c.N.length){of of':Of}(h:Agr c i of of'):M.asks c of i=M.asks c of' i:=by
 have hf:=hc.flat i hi;have hn:=hc.nms.tg i hi;unfold M.asks;simp only[D3 hi];split
 · rename_i hk;rw[h.a (hf.k7 hk).1]
 split
 · rfl
 split
 · rfl
 split
 · rename_i hk;rw[h.has hc (hn (.inr hk))]
 split
 · rename_i hk;unfold J4;rw[h.a (hf.k2 (by omega)).1]
 split
 · rename_i hk;unfold J0;rw[h.a (hf.k20 hk).1,h.a (hf.k20 hk).2.1]
 · rfl
theorem A0d{c:Cx}{of of':Of}{j:Nat}(hj:j<c.N.length)(h:R3 c j= .inr of)(h':R3 c (j+1)= .inr of'):Agr c j of of':=by
 have hI:=E7b c j of (by omega) h;rw[R3,h]at h';simp only[ckS]at h';intro i hi hh;cases hk:ckN c of j with
 |inl e=>rw[hk]at h';simp at h'
 |inr o=>
  rw[hk]at h';cases o with
  |none=>
   simp only[Sum.inr.injEq]at h';rw[h']
  |some t=>
   simp only[Sum.inr.injEq]at h';subst h';by_cases hij:i=j
   · subst hij;have h6:c.N[i].kind=6:=by
      rcases hh with hh|hh
      · omega
      · exact hh
     unfold ckN at hk;simp only[D3 hi]at hk;rw[if_pos (by omega)]at hk;have e:D7 c of i=some (ofA of i):=by
      unfold D7;simp only[D3 hi,h6];rfl
     rw[e]at hk;simp only at hk;split at hk
     · simp at hk
     · simp only[Sum.inr.injEq,zQ]at hk;subst hk;rw[List.getElem?_set_self (by rw[hI.len];exact hi)];obtain⟨t,ht⟩:=hI.ex i hi (by rw[h6];exact⟨by decide,by decide⟩) (.inr h6);rw[ht];unfold ofA;rw[tQ,lQ,ht];rfl
   · rw[List.getElem?_set_ne (by omega)]
theorem L7b{c:Cx}:∀(k j:Nat) {of of':Of},j<=k->k<=c.N.length->R3 c j= .inr of->R3 c k= .inr of'->Agr c j of of'
 |0,j,of,of',hjk,hk,h,h'=>by
  have:j=0:=by omega
  subst this;rw[h]at h';simp only[Sum.inr.injEq]at h';subst h';exact λ_ _ _=>rfl
 |k+1,j,of,of',hjk,hk,h,h'=>by
  by_cases hj:j=k+1
  · subst hj;rw[h]at h';simp only[Sum.inr.injEq]at h';subst h';exact λ_ _ _=>rfl
  · cases hm:R3 c k with
    |inl e=>rw[F7a c hm (by omega:k<=k+1)]at h';simp at h'
    |inr of1=>
     have h1:=L7b k j (by omega) (by omega) h hm;have h2:=A0d (by omega) hm h';intro i hi hh;rw[h1 i hi hh];exact h2 i hi (hh.imp (λx=>by omega) id)
theorem O4d{c:Cx}(hc:D8a c){of of':Of}{i:Nat}(hi:i<c.N.length)(ha:Agr c i of of')(h:Dn c of i):Dn c of' i:=by
 have hf:=hc.flat i hi;refine⟨by rw[<-ha.asks hc hi];exact h.asked,λhk=> ?_,h.ret⟩;have h1:=h.call hk;rw[D3 hi]at h1 hk⊢;rw[<-ha.a (hf.k7 hk).1];exact h1
theorem O5d{c:Cx}{of of':Of}{j:Nat}(hj:j<c.N.length)(h:R3 c j= .inr of)(h':R3 c (j+1)= .inr of'):Dn c of j:=by
 rw[R3,h]at h';simp only[ckS]at h';have key:∃o,ckN c of j= .inr o:=by
  cases hk:ckN c of j with
  |inl e=>rw[hk]at h';simp at h'
  |inr o=>exact⟨o,rfl⟩
 obtain⟨o,hk⟩:=key;unfold ckN at hk;simp only[D3 hj]at hk;by_cases he:1<=c.N[j].kind/\c.N[j].kind<=14
 · rw[if_pos he]at hk;cases hx:D7 c of j with
   |none=>rw[hx]at hk;simp at hk
   |some t=>
    refine⟨?_,λh7=> ?_,λh24=>by rw[D3 hj]at h24;omega⟩
    · unfold asks;simp only[D3 hj];split
      · split<;>exact⟨_,rfl⟩
      split
      · exact⟨_,rfl⟩
      rw[if_neg (by omega),if_neg (by omega),if_neg (by omega),if_neg (by omega),if_neg (by omega)];exact⟨_,rfl⟩
    · rw[D3 hj]at h7⊢;unfold D7 at hx;simp only[D3 hj,h7]at hx;have hx:A7a c of j=some t:=hx;unfold A7a at hx;simp only[D3 hj]at hx;split at hx
      · rename_i h5;exact .inl h5
      · split at hx
        · simp at hx
        · rename_i h9;refine .inr ?_;simp only[not_or,ne_eq,Decidable.not_not]at h9;exact h9
 · rw[if_neg he]at hk;split at hk
   · simp at hk
   · rename_i h24;split at hk
     · rename_i hfit;refine⟨?_,λh7=>by rw[D3 hj]at h7;omega,λh=>by rw[D3 hj]at h;exact λe=>h24 ⟨h,e⟩⟩;unfold S8 at hfit;cases ha:asks c of j with
       |none=>rw[ha]at hfit;simp at hfit
       |some l=>exact⟨l,rfl⟩
     · simp at hk
structure Fin'(c:Cx)(of:Of):Prop where
 inv:CkI c of c.N.length
 dn:∀i,i<c.N.length->Dn c of i
theorem G9d{c:Cx}(hc:D8a c){of:Of}(h:ckP c= .inr of):Fin' c of:=by
 unfold ckP at h;refine⟨E7b c _ of (vQ _) h,λi hi=> ?_⟩;cases h1:R3 c i with
 |inl e=>rw[F7a c h1 (by omega:i<=c.N.length)]at h;simp at h
 |inr of1=>
  cases h2:R3 c (i+1) with
  |inl e=>rw[F7a c h2 (by omega:i+1<=c.N.length)]at h;simp at h
  |inr of2=>exact O4d hc hi (L7b _ i (by omega) (vQ _) h1 h) (O5d hi h1 h2)
def Gok(g:Gm):Prop:=∀x v,g x=some v->1<=v/\v<127
theorem A0c:∀{l:List Tr},(∀x∈l,1<=Z7 x)->l≠[]->1<=U0 l
 |t::r,h,_=>by
  have h1:=h t (by simp);rw[U0];have:Z7 t<=Z7 t|||U0 r:=Nat.left_le_or;omega
theorem G8c{t:Tr}(h:Wf t):1<=Z7 t:=by
 induction h with
 |plain k h1 h2=>
  rw[Z7,if_neg (by omega)];unfold O1a;split<;>try omega
  split<;>try omega
  split<;>try omega
  split<;>try omega
  split<;>try omega
  split<;>try omega
  split<;>omega
 |obj ns ks=>simp[Z7,O1a]
 |arr t=>simp[Z7,O1a]
 |fn t ps=>simp[Z7,O1a]
 |uni ks hl _ ih=>
  rw[Z7,if_pos rfl];exact A0c ih (by intro e;rw[e]at hl;simp at hl)
theorem Gok.put{g:Gm}(h:Gok g)(x:Int){t:Tr}(ht:Wf t):Gok (gput g x t):=by
 unfold gput;split
 · exact h
 · rename_i hn;intro y v e;unfold O0c at e;split at e
   · simp only[zQ]at e;have:=G8c ht;have:=Q2a t;omega
   · exact h y v e
theorem V8b{g:Gm}(h:Gok g):∀n,(∀p∈P8 g n,(0<=p.1/\p.1<n)/\1<=p.2/\p.2<127)/\(P8 g n).Pairwise λp q=>p.1<q.1
 |0=>by simp[P8]
 |n+1=>by
  obtain⟨h1,h2⟩:=V8b h n;rw[P8];cases hg:g (n:Int) with
  |none=>
   simp only[List.append_nil];exact⟨λp hp=>by have:=h1 p hp;omega,h2⟩
  |some v=>
   simp only;refine⟨λp hp=> ?_, ?_⟩
   · rcases qW.1 hp with hp|hp
     · have:=h1 p hp;omega
     · simp only[zW]at hp;subst hp;have:=h _ _ hg;simp only;omega
   · rw[List.pairwise_append];refine⟨h2,by simp,λp hp q hq=> ?_⟩;simp only[zW]at hq;subst hq;exact(h1 p hp).1.2
theorem V9c{l:List UInt8}{N:List Nd}{T:List Ty}{i:Nat}{x:Int}(hs:(I5 l).2.1=0)(he:∀k:Nat,D7a 0 ⟨0,[],[]⟩ (sp' (I5 l).1 (k+60))=some (.ok ⟨i,N,T⟩ x))(hN:N.length<=1200)(hT:T.length<=300):PRes l (.inr (N,T)):=
 ⟨hs,⟨i,N,T⟩,x,⟨60,λf hf=>by
  obtain⟨k,rfl⟩:∃k,f=k+60:=⟨f - 60,by omega⟩;exact he k⟩,hN,hT,rfl,rfl⟩
def fN:List UInt8:=[102]
theorem O0d:L9 fN:=⟨by decide,by decide,by decide,by decide,λc hc=>by simp[fN]at hc;subst hc;decide⟩
def tB3:List Ty:=[⟨1,[],[],0⟩]
def OfW(of:Of):Prop:=∀(i:Nat) (t:Tr),of[i]? =some (some t)->Wf t
theorem D4{c:Prop}[Decidable c]{x y:Option Tr}{t:Tr}(h:(if c then x else y)=some t):(c/\x=some t)\/(¬c/\y=some t):=by
 by_cases hc:c
 · rw[if_pos hc]at h;exact .inl ⟨hc,h⟩
 · rw[if_neg hc]at h;exact .inr ⟨hc,h⟩
theorem G1a:Wf W6:= .plain 5 (by decide) (by decide)
theorem OfW.a{of:Of}(h:OfW of)(x:Int):Wf (ofA of x):=by
 unfold ofA;rw[lQ];cases hx:of[x.toNat]? with
 |none=>exact G1a
 |some o=>cases o with
  |none=>exact G1a
  |some t=>exact h _ t hx
theorem Wf.kid{t x:Tr}(h:Wf t)(hx:x∈t.ks):Wf x:=by
 cases h with
 |plain k=>simp[Tr.ks]at hx
 |obj ns ks _ _ _ hw=>exact hw x hx
 |arr t hw=>simp[Tr.ks]at hx;subst hx;exact hw
 |fn t ps h1 h2=>
  simp only[Tr.ks,jW]at hx;rcases hx with rfl|hx
  · exact h1
  · exact h2 x hx
 |uni ks _ hw=>exact hw x hx
theorem Wf.head{t:Tr}(h:Wf t):Wf (t.ks.headD W6):=by
 cases hk:t.ks with
 |nil=>exact G1a
 |cons x r=>exact h.kid (by rw[hk];simp)
section
variable{c:Cx}(hc:D8a c){of:Of}(ho:OfW of)
include hc
theorem H9b{x:Int}(h:Pz c.T x)(hn:x≠-1):Wf (tr c.T x.toNat):=by
 rcases h with h|⟨j,rfl,hj,_⟩
 · exact absurd h hn
 · rw[tQ];exact X9a hc.ok j hj
theorem K1d{i:Nat}(hi:i<c.N.length):Pz c.T c.N[i].ty:=by
 have hf:=hc.flat i hi;by_cases h6:c.N[i].kind=6
 · exact(hf.k6 h6).2.1
 by_cases h14:c.N[i].kind=14
 · exact .inr (hf.k14 h14).2
 by_cases h16:c.N[i].kind=16
 · exact hf.k16 h16
 by_cases h17:c.N[i].kind=17
 · exact(hf.k17 h17).1
 · exact .inl (hf.ty h6 h14 h16 h17)
theorem A4a(x:Int):Pz c.T (ndx c.N x).ty:=by
 by_cases h:x.toNat<c.N.length
 · have:=K1d hc h;unfold ndx;rw[lQ,gQ h];exact this
 · unfold ndx;rw[lQ,List.getElem?_eq_none (by omega)];exact .inl rfl
theorem V9b(x:Int):Wf (E7a c.T (ndx c.N x)):=by
 unfold E7a;split
 · exact G1a
 · rename_i h;exact H9b hc (A4a hc x) h
include ho
theorem D2b(x:Int):Wf (T8 c of x):=by
 unfold T8;split
 · rename_i h;exact H9b hc (A4a hc x) h
 split
 · exact ho.a _
 · exact G1a
omit hc
theorem A3b{n:Nd}{t:Tr}(h:J4 of n=some t):Wf t:=by
 unfold J4 at h;split at h
 · simp only[zQ]at h;subst h;exact ho.a _
 split at h
 · simp only[zQ]at h;subst h;exact .plain 1 (by decide) (by decide)
 · exact(ho.a _).kid (Y0 h)
theorem Z3a{n:Nd}{t:Tr}(h:J0 of n=some t):Wf t:=by
 unfold J0 at h;split at h
 · split at h
   · simp only[zQ]at h;subst h;exact ho.a _
   split at h
   · simp only[zQ]at h;subst h;exact(ho.a _).head
   · simp at h
 · simp at h
include hc
theorem A9d{i:Nat}{l:List (Int×Tr)}(h:asks c of i=some l):∀p∈l,Wf p.2:=by
 unfold asks at h;simp only at h;intro p hp;split at h
 · split at h
   · simp only[zQ]at h;subst h;simp at hp
   · simp only[zQ]at h;subst h;have:=(List.of_mem_zip hp).2;exact(ho.a _).kid (List.mem_of_mem_tail this)
 split at h
 · simp only[zQ]at h;subst h;simp only[zW]at hp;subst hp;have h1:=A4a hc i;by_cases hn:(ndx c.N i).ty= -1
   · rename_i hk _;exfalso;by_cases hi:i<c.N.length
     · rw[D3 hi]at hn;rename_i hk14;rw[D3 hi]at hk14;obtain⟨j,e,_⟩:=((hc.flat i hi).k14 hk14).2;omega
     · rename_i hk14;unfold ndx at hk14;rw[tQ,lQ,List.getElem?_eq_none (by omega)]at hk14;simp[nd0]at hk14
   · exact H9b hc h1 hn
 split at h
 · split at h
   · rename_i hn;simp only[zQ]at h;subst h;simp only[zW]at hp;subst hp;exact H9b hc (A4a hc i) hn
   · simp only[zQ]at h;subst h;simp at hp
 split at h
 · simp only[zQ]at h;subst h;simp only[zW]at hp;subst hp;exact D2b hc ho _
 split at h
 · rw[Option.map_eq_some_iff]at h;obtain⟨t,h1,rfl⟩:=h;simp only[zW]at hp;subst hp;exact A3b ho h1
 split at h
 · rw[Option.map_eq_some_iff]at h;obtain⟨t,h1,rfl⟩:=h;simp only[zW]at hp;subst hp;exact Z3a ho h1
 split at h
 · simp only[zQ]at h;subst h;simp only[zW]at hp;subst hp;exact V9b hc _
 · simp only[zQ]at h;subst h;simp at hp
omit hc in
theorem R6c{i:Nat}{t:Tr}(h:A7a c of i=some t):Wf t:=by
 unfold A7a at h;simp only at h;split at h
 · simp only[zQ]at h;subst h;exact ho.a _
 split at h
 · simp at h
 split at h
 · simp only[zQ]at h;subst h;exact(ho.a _).head
 · simp at h
theorem P7c{i:Nat}(hi:i<c.N.length){t:Tr}(h:D7 c of i=some t):Wf t:=by
 have pl:∀k:Int,1<=k->k<=6->∀{u:Tr},some (plT k)=some u->Wf u:=λk h1 h2 u h=>by
  simp only[zQ]at h;subst h;exact .plain k h1 h2
 have hf:=hc.flat i hi;unfold D7 at h;rw[D3 hi]at h;rcases D4 h with ⟨_,h⟩|⟨_,h⟩
 · exact pl 1 (by decide) (by decide) h
 rcases D4 h with ⟨_,h⟩|⟨_,h⟩
 · exact pl 3 (by decide) (by decide) h
 rcases D4 h with ⟨_,h⟩|⟨_,h⟩
 · exact pl 2 (by decide) (by decide) h
 rcases D4 h with ⟨_,h⟩|⟨_,h⟩
 · simp only[zQ]at h;subst h;exact D2b hc ho _
 rcases D4 h with ⟨_,h⟩|⟨_,h⟩
 · simp only[zQ]at h;subst h;exact ho.a _
 rcases D4 h with ⟨_,h⟩|⟨_,h⟩
 · exact R6c ho h
 rcases D4 h with ⟨_,h⟩|⟨_,h⟩
 · exact A3b ho h
 rcases D4 h with ⟨_,h⟩|⟨_,h⟩
 · exact Z3a ho h
 rcases D4 h with ⟨h10,h⟩|⟨_,h⟩
 · simp only[zQ]at h;subst h;obtain⟨h1,h2,h3⟩:=hf.k10 h10;refine .obj _ _ (by simp) h2 (λn hn=> ?_) (λx hx=> ?_)
   · obtain⟨y,hy,rfl⟩:=List.mem_map.1 hn;exact h3 y hy
   · obtain⟨y,hy,rfl⟩:=List.mem_map.1 hx;exact ho.a _
 rcases D4 h with ⟨_,h⟩|⟨_,h⟩
 · simp only[zQ]at h;subst h;refine .arr _ (G0c _ λx hx=> ?_);obtain⟨y,hy,rfl⟩:=List.mem_map.1 hx;exact ho.a _
 rcases D4 h with ⟨_,h⟩|⟨_,h⟩
 · unfold G2b at h;rcases D4 h with ⟨_,h⟩|⟨_,h⟩
   · exact pl 2 (by decide) (by decide) h
   rcases D4 h with ⟨_,h⟩|⟨_,h⟩
   · unfold B6b at h;rcases D4 h with ⟨_,h⟩|⟨_,h⟩
     · simp only[zQ]at h;subst h;exact G1a
     rcases D4 h with ⟨_,h⟩|⟨hh,h⟩
     · simp at h
     · exact pl _ (by omega) (by omega) h
   rcases D4 h with ⟨_,h⟩|⟨_,h⟩
   · split at h
     · exact pl 2 (by decide) (by decide) h
     · exact pl 1 (by decide) (by decide) h
   · simp at h
 rcases D4 h with ⟨_,h⟩|⟨_,h⟩
 · unfold I4b at h;rcases D4 h with ⟨_,h⟩|⟨_,h⟩
   · exact pl 2 (by decide) (by decide) h
   rcases D4 h with ⟨_,h⟩|⟨_,h⟩
   · exact pl 3 (by decide) (by decide) h
   rcases D4 h with ⟨_,h⟩|⟨_,h⟩
   · exact pl 1 (by decide) (by decide) h
   · simp at h
 rcases D4 h with ⟨h14,h⟩|⟨_,h⟩
 · simp only[zQ]at h;subst h;obtain⟨j,e,hj,_⟩:=(hf.k14 h14).2;show Wf (tr c.T c.N[i].ty.toNat);rw[e,tQ];exact X9a hc.ok j hj
 · exact pl 4 (by decide) (by decide) h
end
theorem P9b{c:Cx}(hc:D8a c):∀(j:Nat) (of:Of),j<=c.N.length->R3 c j= .inr of->OfW of
 |0,of,_,h=>by
  simp only[R3,Sum.inr.injEq]at h;subst h;intro i t hi;unfold of0 at hi;rw[List.getElem?_map]at hi;cases hn:c.N[i]? with
  |none=>rw[hn]at hi;simp at hi
  |some n=>
   rw[hn]at hi;simp only[Option.map_some,zQ]at hi;split at hi
   · simp only[zQ]at hi;subst hi;obtain⟨hl,rfl⟩:=List.getElem?_eq_some_iff.1 hn;have h1:=V9b hc (i:Int);rw[D3 hl]at h1;refine .fn _ _ h1 λx hx=> ?_;obtain⟨y,hy,rfl⟩:=List.mem_map.1 hx;exact D2b hc (of:=[]) (λi t h=>by simp at h) y
   · simp at hi
 |j+1,of,hj,h=>by
  rw[R3]at h;cases hh:R3 c j with
  |inl e=>rw[hh]at h;simp[ckS]at h
  |inr of1=>
   rw[hh]at h;have ih:=P9b hc j of1 (by omega) hh;simp only[ckS]at h;cases hk:ckN c of1 j with
   |inl e=>rw[hk]at h;simp at h
   |inr o=>
    rw[hk]at h;cases o with
    |none=>
     simp only[Sum.inr.injEq]at h;subst h;exact ih
    |some t=>
     simp only[Sum.inr.injEq]at h;subst h;intro i u hu;by_cases hij:j=i
     · subst hij;rw[List.getElem?_set_self']at hu;cases ho:of1[j]? with
       |none=>rw[ho]at hu;simp at hu
       |some o=>
        rw[ho]at hu;simp at hu;subst hu;unfold ckN at hk;simp only at hk;split at hk
        · cases hx:D7 c of1 j with
          |none=>rw[hx]at hk;simp at hk
          |some v=>
           rw[hx]at hk;simp only at hk;split at hk
           · simp at hk
           · simp only[Sum.inr.injEq,zQ]at hk;subst hk;exact P7c hc ih (by omega) hx
        · split at hk
          · simp at hk
          · split at hk<;>simp at hk
     · rw[List.getElem?_set_ne hij]at hu;exact ih i u hu
theorem E6d{c:Cx}(hc:D8a c){of:Of}(ho:OfW of){g:Gm}(h:Gok g)(i:Nat):Gok (plN c of g i):=by
 have h1:Gok (T7a c of g i):=by
  unfold T7a;split
  · split
    · rename_i hn;exact h.put _ (H9b hc (A4a hc i) hn)
    · exact h
  split
  · exact h.put _ (ho.a _)
  · exact h
 unfold plN;cases ha:asks c of i with
 |none=>exact h1
 |some l=>
  have hw:=A9d hc ho ha;show Gok (l.foldl (D4b of) _);clear ha;generalize T7a c of g i=g1 at *;induction l generalizing g1 with
  |nil=>exact h1
  |cons p r ih=>
   rw[List.foldl_cons];refine ih (λq hq=>hw q (by simp[hq])) _ ?_;unfold D4b;split
   · exact h1.put _ (hw p (by simp))
   · exact h1
theorem W3b{c:Cx}(hc:D8a c){of:Of}(ho:OfW of):∀j,Gok (S6a c of j)
 |0=>λx v e=>by simp[S6a]at e
 |j+1=>E6d hc ho (W3b hc ho j) j
theorem C6a:∀l r:List Tr,szL (l++r)=szL l+szL r
 |[],r=>by simp[szL]
 |t::l,r=>by rw[List.cons_append,szL,szL,C6a l r];omega
mutual
theorem H6c:∀t:Tr,szL (flat t)<=sz t
 | .nd k ns ks=>by
  rw[flat];split
  · have:=M2a ks;rw[sz];omega
  · simp[szL]
theorem M2a:∀l:List Tr,szL (I4 l)<=szL l
 |[]=>by simp[I4,szL]
 |t::r=>by
  have h1:=H6c t;have h2:=M2a r;rw[I4,C6a,szL];omega
end
theorem N6b:∀l acc:List Tr,szL (dd acc l)<=szL acc+szL l
 |[],acc=>by simp[dd,szL]
 |t::r,acc=>by
  rw[dd,szL];split
  · have:=N6b r acc;omega
  · have:=N6b r (acc++[t]);rw[C6a,szL,szL]at this;omega
theorem H1c(l:List Tr):sz (Y4 l)<=1+szL l:=by
 unfold Y4;split
 · simp[sz,szL]
 · have h1:=N6b (I4 l) [];have h2:=M2a l;rw[szL]at h1;split
   · simp[sz,szL]
   · rename_i t h;rw[h,szL,szL]at h1;omega
   · rename_i t u r h;rw[h]at h1;rw[sz];omega
theorem S0a{m:Nat}:∀l:List Tr,(∀x∈l,sz x<=m)->szL l<=l.length * m
 |[],_=>by simp[szL]
 |t::r,h=>by
  have h1:=h t (by simp);have h2:=S0a r λx hx=>h x (by simp[hx]);rw[szL,jQ,Nat.add_mul];omega
section
variable{c:Cx}(hc:D8a c)
include hc
theorem W0b{x:Int}(h:Pz c.T x)(hn:x≠-1):sz (tr c.T x.toNat)<=300:=by
 rcases h with h|⟨j,rfl,hj,hs⟩
 · exact absurd h hn
 · have:=hc.lenT;rw[tQ];omega
theorem V5c(x:Int):sz (E7a c.T (ndx c.N x))<=300:=by
 unfold E7a;split
 · simp[W6,sz,szL]
 · rename_i h;exact W0b hc (A4a hc x) h
theorem E8d(x:Int):sz (T8 c [] x)<=300:=by
 unfold T8;split
 · rename_i h;exact W0b hc (A4a hc x) h
 split
 · simp[ofA,W6,sz,szL]
 · simp[W6,sz,szL]
theorem G7d{i:Nat}(hi:i<c.N.length):sz (fnT c c.N[i])<=400000:=by
 have h1:=V5c hc (i:Int);rw[D3 hi]at h1;have h2:=S0a (m:=300) (c.N[i].list.map (T8 c [])) λx hx=>by
  obtain⟨y,hy,rfl⟩:=List.mem_map.1 hx;exact E8d hc y
 have h3:=hc.ls i hi;rw[List.length_map]at h2;unfold fnT;rw[sz,szL];omega
variable{of:Of}{i:Nat}(hI:CkI c of i)
include hI
omit hc in
theorem O5a{x:Int}(h:Pe c.N i x):sz (ofA of x)<=300:=by
 obtain⟨j,rfl,hj,hl,he⟩:=h;obtain⟨t,ht⟩:=hI.ex j hl he (.inl hj);unfold ofA;rw[tQ,lQ,ht];exact hI.sm j t hj ht
theorem C0d{j:Nat}(hj:j<c.N.length)(h6:c.N[j].kind=6):sz (ofA of (j:Int))<=400000:=by
 obtain⟨t,ht⟩:=hI.ex j hj (by rw[h6];exact⟨by decide,by decide⟩) (.inr h6);unfold ofA;rw[tQ,lQ,ht];by_cases hji:j<i
 · have:=hI.sm j t hji ht
   simp;omega
 · have:=hI.later j hj (by omega);rw[ht,if_pos h6]at this;simp only[zQ]at this;subst this;exact G7d hc hj
theorem Y2c{x:Int}(h:Tg c.N i x):sz (T8 c of x)<=400000:=by
 obtain⟨j,rfl,hl,hk,hj⟩:=h;have h1:=A4a hc (j:Int);unfold T8;split
 · rename_i hn;have:=W0b hc h1 hn;omega
 split
 · rename_i h17;rw[D3 hl]at h17⊢;rcases hj with hj|⟨_,n,e,hn,hnl,h6⟩
   · obtain⟨n,e,hn,hnl,hke⟩:=((hc.flat j hl).k17 h17).2;have:=O5a hI (x:=c.N[j].a) ⟨n,e,by omega,hnl,hke⟩;omega
   · rw[e];exact C0d hc hI hnl h6
 · simp[W6,sz,szL]
omit hc in
theorem N3c{x:Int}(h:Pe c.N i x){t:Tr}(ht:t∈(ofA of x).ks):sz t<=300:=by
 have h1:=O5a hI h;have h2:=N8 ht;omega
omit hc in
theorem X3b{x:Int}(h:Pe c.N i x):sz ((ofA of x).ks.headD W6)<=300:=by
 cases hk:(ofA of x).ks with
 |nil=>simp[W6,sz,szL]
 |cons y r=>exact N3c hI h (by rw[hk];simp)
omit hc in
theorem D7c{n:Nd}(hn:Pe c.N i n.a){t:Tr}(h:J4 of n=some t):sz t<=300:=by
 unfold J4 at h;rcases D4 h with ⟨_,h⟩|⟨_,h⟩
 · simp only[zQ]at h;subst h;exact O5a hI hn
 rcases D4 h with ⟨_,h⟩|⟨_,h⟩
 · simp only[zQ]at h;subst h;simp[plT,sz,szL]
 · exact N3c hI hn (Y0 h)
omit hc in
theorem A9c{n:Nd}(hn:Pe c.N i n.a){t:Tr}(h:J0 of n=some t):sz t<=300:=by
 unfold J0 at h;rcases D4 h with ⟨_,h⟩|⟨_,h⟩
 · rcases D4 h with ⟨_,h⟩|⟨_,h⟩
   · simp only[zQ]at h;subst h;exact O5a hI hn
   rcases D4 h with ⟨_,h⟩|⟨_,h⟩
   · simp only[zQ]at h;subst h;exact X3b hI hn
   · simp at h
 · simp at h
theorem P8c(hi:i<c.N.length){t:Tr}(h:D7 c of i=some t):sz t<=1000000:=by
 have pl:∀k:Int,∀{u:Tr},some (plT k)=some u->sz u<=1000000:=λk u h=>by
  simp only[zQ]at h;subst h;simp[plT,sz,szL]
 have hf:=hc.flat i hi;have hl:=hc.ls i hi;unfold D7 at h;rw[D3 hi]at h;rcases D4 h with ⟨_,h⟩|⟨_,h⟩
 · exact pl 1 h
 rcases D4 h with ⟨_,h⟩|⟨_,h⟩
 · exact pl 3 h
 rcases D4 h with ⟨_,h⟩|⟨_,h⟩
 · exact pl 2 h
 rcases D4 h with ⟨h5,h⟩|⟨_,h⟩
 · simp only[zQ]at h;subst h
   have:=Y2c hc hI (hc.nms.tg i hi (.inl h5));omega
 rcases D4 h with ⟨h6,h⟩|⟨_,h⟩
 · simp only[zQ]at h;subst h
   have:=C0d hc hI hi h6;omega
 rcases D4 h with ⟨h7,h⟩|⟨_,h⟩
 · unfold A7a at h;rw[D3 hi]at h;have h1:=O5a hI (hf.k7 h7).1;have h2:=X3b hI (hf.k7 h7).1;rcases D4 h with ⟨_,h⟩|⟨_,h⟩
   · simp only[zQ]at h;subst h;omega
   rcases D4 h with ⟨_,h⟩|⟨_,h⟩
   · simp at h
   rcases D4 h with ⟨_,h⟩|⟨_,h⟩
   · simp only[zQ]at h;subst h;omega
   · simp at h
 rcases D4 h with ⟨h8,h⟩|⟨_,h⟩
 · have:=D7c hI (hf.k1 (.inl h8)) h;omega
 rcases D4 h with ⟨h9,h⟩|⟨_,h⟩
 · have:=A9c hI (hf.k2 (.inl h9)).1 h;omega
 rcases D4 h with ⟨h10,h⟩|⟨_,h⟩
 · simp only[zQ]at h;subst h;have h2:=S0a (m:=300) (c.N[i].list.map λx=>ofA of (ndx c.N x).a) λx hx=>by
    obtain⟨y,hy,rfl⟩:=List.mem_map.1 hx;obtain⟨j,rfl,hj,hjl,hk⟩:=(hf.k10 h10).1 y hy;rw[D3 hjl];obtain⟨j2,e,hj2,hr⟩:=(hc.flat j hjl).k1 (by omega);exact O5a hI ⟨j2,e,by omega,hr⟩
   rw[List.length_map]at h2;unfold K3c;rw[sz];omega
 rcases D4 h with ⟨h11,h⟩|⟨_,h⟩
 · simp only[zQ]at h;subst h;have h1:=H1c (c.N[i].list.map (ofA of));have h2:=S0a (m:=300) (c.N[i].list.map (ofA of)) λx hx=>by
    obtain⟨y,hy,rfl⟩:=List.mem_map.1 hx;exact O5a hI (hf.k11 h11 y hy)
   rw[List.length_map]at h2;unfold S2c;rw[sz,szL,szL];omega
 rcases D4 h with ⟨_,h⟩|⟨_,h⟩
 · unfold G2b at h;rcases D4 h with ⟨_,h⟩|⟨_,h⟩
   · exact pl 2 h
   rcases D4 h with ⟨_,h⟩|⟨_,h⟩
   · unfold B6b at h;rcases D4 h with ⟨_,h⟩|⟨_,h⟩
     · exact pl 5 h
     rcases D4 h with ⟨_,h⟩|⟨hh,h⟩
     · simp at h
     · exact pl _ h
   rcases D4 h with ⟨_,h⟩|⟨_,h⟩
   · split at h
     · exact pl 2 h
     · exact pl 1 h
   · simp at h
 rcases D4 h with ⟨_,h⟩|⟨_,h⟩
 · unfold I4b at h;rcases D4 h with ⟨_,h⟩|⟨_,h⟩
   · exact pl 2 h
   rcases D4 h with ⟨_,h⟩|⟨_,h⟩
   · exact pl 3 h
   rcases D4 h with ⟨_,h⟩|⟨_,h⟩
   · exact pl 1 h
   · simp at h
 rcases D4 h with ⟨h14,h⟩|⟨_,h⟩
 · simp only[zQ]at h;subst h;have h1:=(hf.k14 h14).2;have:=W0b hc (.inr h1) (by obtain⟨j,e,_⟩:=h1;omega);omega
 · exact pl 4 h
theorem I8d(hw:OfW of)(hi:i<c.N.length)(h11:c.N[i].kind=11):wgL (c.N[i].list.map (ofA of))<=25000000:=by
 have hf:=hc.flat i hi;have hl:=hc.ls i hi;have h1:=R2a (c.N[i].list.map (ofA of)) λx hx=>by
  obtain⟨y,hy,rfl⟩:=List.mem_map.1 hx;exact J8d (hw.a y)
 have h2:=S0a (m:=300) (c.N[i].list.map (ofA of)) λx hx=>by
  obtain⟨y,hy,rfl⟩:=List.mem_map.1 hx;exact O5a hI (hf.k11 h11 y hy)
 rw[List.length_map]at h1 h2;omega
end
end Go.Proofs.YtfhhipefecekkaaGreatDoor.M
