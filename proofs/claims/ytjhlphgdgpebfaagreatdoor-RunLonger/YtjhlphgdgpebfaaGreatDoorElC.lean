/-
  A part of the proof.
-/
import Derived.Test.YtjhlphgdgpebfaaGreatDoorElA
import Derived.Test.YtjhlphgdgpebfaaGreatDoorSht
import Derived.Sort.OwnSortedInts
import Derived.Test.YtjhlphgdgpebfaaGreatDoorRunF
set_option maxHeartbeats 0
set_option linter.all false
set_option maxRecDepth 100000
namespace Go.Proofs.YtjhlphgdgpebfaaGreatDoor
open _root_.Array renaming size->V
open Bool renaming false->κ
open Go renaming Calls->μ,cell_of_row->á,frozen_of_row->ã,Value->χ,bodyPost_ret->ä,results->â,maxLen->Γ
open Ending renaming returned->π
open Obj renaming cells->γ
open RowKit renaming Below->Ω
open Value renaming string->ζ,slice->Y,int->Û
open World renaming cell?->δ,setCell->ρ,drew->É,ownsRow->ξ
open List renaming length->Q,toArray->ν,length_singleton->Ë
open Option renaming some->C
open Go.Proofs.Tryz
open Go.RowKit Go.Maps
def Uc{s}{w}{P ϊ:Option Addr->Nat->Nat->Int->Int->E->Prop}(S:∀h,I No w h->V w.heap<V h.heap->μ prog 14 #[ζ s] h λe b=>∃d n f c p,e=π (.tuple #[Y d n f,.agg #[U c,U p]])/\Ω (V h.heap) h b/\P d n f c p b)
 (R:∀h,V w.heap<V h.heap->μ prog 15 #[ζ s] h λe b=>∃d n f c p,e=π (.tuple #[Y d n f,.agg #[U c,U p]])/\Ω (V h.heap) h b/\ϊ d n f c p b):
 μ prog 11 #[ζ s,U 3] w λe T=>(∃d n f c p b,P d n f c p b/\c≠0/\I (λk=>k=V w.heap) b T/\e=π (.tuple #[sN,.agg #[U c,U p]]))\/
  ∃d n f p b m t q l u g,P d n f 0 p b/\Ω (V b.heap) b g/\ϊ m t q l u g/\I (λk=>k=V w.heap) g T/\e=π (.tuple #[Y m t q,.agg #[U l,U u]]):=by
 have N:=rY w<|γ #[U 0,U 0] 29;have D:=O (S _ (I.alloc No w<|γ #[U 0,U 0] 29) ι);have v:=O R;clear S R;go_in;go_wp2_with fail;refine D.u.mono ?_;rintro e b ⟨d,n,f,c,p,rfl,j,L⟩;have i:b.heap[V w.heap]?=C (γ #[U 0,U 0] 29 (0,0)):=(j.block _ ι).trans N;have F:δ b (J (V w.heap) 0)=C (U 0):=á _ _ 0 _ _ _ i;have G:δ b (J (V w.heap) 1)=C (U 0):=á _ _ 1 _ _ _ i;have cz:∀o,b.frozen? (J (V w.heap) o)=κ:=λo=>ã _ _ o _ _ i;have H:=(aG i);have B:=O L;have CH:∀(a:E) (x y:χ) (o:Obj),I (λk=>k=V w.heap) a ((ρ (ρ a (J (V w.heap) 0) x) (J (V w.heap) 1) y).alloc o):=λa x y o=>((I.set a (J (V w.heap) 0) x).trans (I.set _ (J (V w.heap) 1) y) λ_ _ e=>e).trans (I.alloc No _ o) λ_ _ e=>e.elim;have Z:∀(a:E) (x y:χ) (o:Obj),I (λk=>k=V w.heap) a (É<|(ρ (ρ a (J (V w.heap) 0) x) (J (V w.heap) 1) y).alloc o):=λa x y o=>(CH a x y o).trans (I.drewN No _ 1) λ_ _ e=>e.elim;have a2:=O i;clear D L j N i;by_cases z:c=0
 .subst z;have A:=O (v.u (b.alloc<|γ #[U 0,U p] 29) à);clear v;go_wp2_with fail;refine A.u.mono ?_;rintro e g ⟨m,t,q,l,u,rfl,j,M⟩;have r:g.heap[V w.heap]?=C (γ #[U 0,U 0] 29 (0,0)):=(j.block _ à).trans<|(I.alloc No b<|γ #[U 0,U p] 29).block _ H (λx=>x)|>.trans a2.u;have d0:δ g (J (V w.heap) 0)=C (U 0):=á _ _ 0 _ _ _ r;have d1:δ g (J (V w.heap) 1)=C (U 0):=á _ _ 1 _ _ _ r;have dz:∀o,g.frozen? (J (V w.heap) o)=κ:=λo=>ã _ _ o _ _ r;have dl:=(aG r);have HQ:=O M;have a3:Hid (Ω (V b.heap) b g):=(I.ep (I.alloc No b<|γ #[U 0,U p] 29) (λ_ _ x=>x.elim)<|vQ _).trans (j.mono ι);clear A M j r F G cz;go_wp2_with fail;exact ä (v:=.tuple #[Y m t q,.agg #[U l,U u]]) (by simp[â,results11,go_sem,d0,d1]) K<|.inr ⟨d,n,f,p,b,m,t,q,l,u,g,B.u,a3.u,HQ.u,(I.set g (J (V w.heap) 0) _).trans (I.set _ (J (V w.heap) 1) _) λ_ _ e=>e,K⟩
 .have a4:(c==0)=κ:=by simp[z]
  clear v;go_wp2_with fail;go_region;all_goals go_wp2
  all_goals exact ä (v:=.tuple #[sN,.agg #[U c,U p]]) (by simp[â,results11,go_sem,F,G,H]) K<|.inl ⟨d,n,f,c,p,b,B.u,z,Z _ _ _ _,K⟩
def Ua{s}{w}{g}(N:g≠1/\g≠2/\g≠3){P:Option Addr->Nat->Nat->Int->Int->E->Prop}(F:∀i,I No w i->V w.heap<V i.heap->μ prog 14 #[ζ s] i λe c=>∃d n f b p,e=π (.tuple #[Y d n f,.agg #[U b,U p]])/\Ω (V i.heap) i c/\P d n f b p c):
 μ prog 11 #[ζ s,U g] w λe R=>∃d n f b p c j m,P d n f b p c/\I (λk=>k=V w.heap) c R/\((b≠0/\j=b/\m=p)\/(b=0/\j=7/\m=0))/\e=π (.tuple #[sN,.agg #[U j,U m]]):=by
 obtain⟨G,H,L⟩:=N;have m1:(g==1)=κ:=by simpa using G
 have m2:(g==2)=κ:=by simpa using H
 have m3:(g==3)=κ:=by simpa using L
 have B:=rY w<|γ #[U 0,U 0] 29;have t:=O (F _ (I.alloc No w<|γ #[U 0,U 0] 29) ι);clear F;go_in;go_wp2_with fail;refine t.u.mono ?_;rintro e c ⟨d,n,f,b,p,rfl,D,A⟩;have h:c.heap[V w.heap]?=C (γ #[U 0,U 0] 29 (0,0)):=(D.block _ ι).trans B;have u:δ c (J (V w.heap) 0)=C (U 0):=á _ _ 0 _ _ _ h;have v:δ c (J (V w.heap) 1)=C (U 0):=á _ _ 1 _ _ _ h;have S:∀o,c.frozen? (J (V w.heap) o)=κ:=λo=>ã _ _ o _ _ h;have z:=(aG h);have r:=O A;have q:∀(a:E) (x y:χ) (o:Obj),I (λk=>k=V w.heap) a ((ρ (ρ a (J (V w.heap) 0) x) (J (V w.heap) 1) y).alloc o):=λa x y o=>((I.set a (J (V w.heap) 0) x).trans (I.set _ (J (V w.heap) 1) y) λ_ _ e=>e).trans (I.alloc No _ o) λ_ _ e=>e.elim;have M:∀(a:E) (x y:χ) (o:Obj),I (λk=>k=V w.heap) a (É<|(ρ (ρ a (J (V w.heap) 0) x) (J (V w.heap) 1) y).alloc o):=λa x y o=>(q a x y o).trans (I.drewN No _ 1) λ_ _ e=>e.elim;clear t A D B h G H L;by_cases l:b=0
 .subst l;go_wp2;exact ä (v:=.tuple #[sN,.agg #[U 7,U 0]]) (by simp[â,results11,go_sem,u,v,z]) K ⟨d,n,f,0,p,c,7,0,r.u,q _ _ _ _,.inr ⟨K,K,K⟩,K⟩
 .have T:(b==0)=κ:=by simp[l]
  go_wp2_with fail;go_region;all_goals go_wp2
  all_goals exact ä (v:=.tuple #[sN,.agg #[U b,U p]]) (by simp[â,results11,go_sem,u,v,z]) K ⟨d,n,f,b,p,c,b,p,r.u,M _ _ _ _,.inl ⟨l,K,K⟩,K⟩
def iS(c:Cx):Nat->uZ
 |0=>[]
 |j+1=>iS c j++(if (aA c.N j).x=18/\c.fn.getD j 0≠c.fn.getD (eH c j).toNat 0 then [eH c j] else [])
theorem jX{g a}:∀n,(∀j,j<n->g j=a j)->U5 g n=U5 a n
 |0,_=>K
 |n+1,h=>by rw[U5,U5,jX n λj b=>h j W,h n W]
theorem Iu(g):∀(n) (x),fZ (U5 g n) x=if 0<=x/\x<n then g x else none
 |0,x=>by
  rw[wY W];rfl
 |n+1,x=>by
  have c:=Iu g n x;rw[U5];cases b:g (n:Int) with
  |none=>
   simp only[iY];rw[c];by_cases a:x=n
   .subst a;rw[wY W,yY W,b]
   .by_cases h:0<=x/\x<n
    .rw[yY h,yY W]
    .rw[wY h,wY W]
  |some v=>
   simp only;rw[CY];simp only;by_cases a:x=n
   .subst a;rw[yY K,yY W,b]
   .rw[wY a,c];by_cases h:0<=x/\x<n
    .rw[yY h,yY W]
    .rw[wY h,wY W]
def fQ.qw{l}{N:List Nd}{T:List Ty}{a:List (Nat×Int)}{b}(h:fQ l N T a b)(L):(bH (aQ N T a) (fZ<|fS (aQ N T a) b) L (Q (aQ N T a).N) ((Q (aQ N T a).N:Int)-1) ⟨λ_=>none,[]⟩).lf.Sublist (fS (aQ N T a) b):=by
 obtain⟨k,g,_,f,_,_⟩:=h;have c:=(YD f a (fZ<|fS (aQ N T a) b) L (Q (aQ N T a).N)).1;have d:U5 (fZ<|fS (aQ N T a) b) (Q N)=fS (aQ N T a) b:=by
  have e:fS (aQ N T a) b=U5 (pX (aQ N T a) b (Q N)) (Q N):=K;rw[e];exact jX _ λj i=>by rw[Iu,yY W]
 rw[d]at c;exact c
def mV(c):∀j,Q (iS c j)<=j
 |0=>vQ _
 |j+1=>by
  have:=mV c j;rw[iS,qQ];split<;>simp<;>omega
def Mr(l:uZ)(x):x∈Lib.compact l↔x∈l:=by
 unfold Lib.compact Lib.compactUpTo;have c:∀j,j<Q l->(ν l)[j]!∈l:=λj a=>by
  rw[getElem!_pos (ν l) j<|by simpa using a];simp
 have e:∀j,j<Q l->(ν l)[j]!∈((List.range (Q l)).filter<|Lib.keeps (ν l)).map ((ν l)[·]!):=λj=>by
  induction j with
  |zero=>exact λa=>kZ.2 ⟨0,List.mem_filter.2 ⟨List.mem_range.2 a,Lib.keeps_lt_one _ 0 W⟩,K⟩
  |succ j d=>
   intro a;by_cases b:(ν l)[j+1]! =(ν l)[j+1-1]!
   .rw[b];exact d W
   .exact kZ.2 ⟨j+1,List.mem_filter.2 ⟨List.mem_range.2 a,Lib.keeps_pos b⟩,K⟩
 constructor
 .intro h;obtain⟨j,a,rfl⟩:=kZ.1 h;exact c j<|List.mem_range.1 (List.mem_filter.1 a).1
 .intro h;obtain⟨j,a,rfl⟩:=List.mem_iff_getElem.1 h;have:=e j a;rwa [getElem!_pos (ν l) j<|by simpa using a]at this
def ZD{w}{B g a}{l d}(p:ξ w B 3 1 (Y (C<|J g 0) (Q l) a) (Q l)<|C8 l)(i:Q d=Q l)(n)(c):
 I (λk=>k=g) w (Sort.grow (Sort.putRow (Û .i64) (Sort.ahead w n) g 0 (ν d)) c)/\ξ (Sort.grow (Sort.putRow (Û .i64) (Sort.ahead w n) g 0 (ν d)) c) B 3 1 (Y (C<|J g 0) (Q l) a) (Q l) (C8 d):=by
 obtain⟨e,_⟩|⟨s,q,r,b,f,j,o,m,h,t⟩:=p.2
 .simp at e
 .simp only[Value.slice.injEq,zQ,Addr.mk.injEq,and_true,true_and]at b;obtain⟨rfl,rfl⟩:=b;exact⟨(I.grown<|grownBy_sortedI (ν d)).mono λk _ x=>by simpa using x,ownsRow_sortedI i f j o m h⟩
def Pq{w:E}{B g c n}{a b}(d:ξ w B 3 1 (Y (C<|J g 0) n c) n<|C8<|a++b):ξ w B 3 1 (Y (C<|J g 0) (Q a) c) (Q a) (C8 a):=by
 have l:=d.1;simp only[C8,lZ,qQ,Nat.mul_one]at l;obtain⟨h,_⟩|⟨q,p,f,e,i,k,r,m,j,o⟩:=d.2
 .simp at h
 .simp only[Value.slice.injEq,zQ,Addr.mk.injEq,and_true,true_and]at e;obtain⟨rfl,rfl⟩:=e;refine⟨by simp[C8],.inr ⟨g,c,f,K,i,k,W,m,j,?_⟩⟩;have:=congrArg (List.take (Q a)) o;rw[List.take_take]at this;rw[Nat.mul_one]at this⊢;rw[Nat.min_eq_left W]at this;rw[this];simp[C8]
def Ya{w:E}{B}{b}{a}{l}(c:ξ w B 3 1 (Y b (Q l) a) (Q l)<|C8 l)(F:Q l<=1000000):
 μ prog 75 #[Y b (Q l) a] w λe d=>e=rT/\I (λk=>(Y b (Q l) a).ownBlock=C k) w d/\∃h,Q h=Q l/\(∀x,x∈h↔x∈l)/\ξ d B 3 1 (Y b (Q l) a) (Q l) (C8 h):=by
 by_cases f:Q l=0
 .rw[f];refine(Tryz.slices_Sort_int_none b a w).mono ?_;rintro e d ⟨rfl,rfl⟩;rw[f]at c;exact⟨K,I.refl _ _,l,f,λ_=>Iff.rfl,c⟩
 .obtain⟨g,rfl,D,o,z,A,m⟩:=D5 c W;obtain⟨_,v,p⟩:=A9 c g K;refine(Tryz.slices_Sort_int g 0 a l w (λj i=>?_) o W).mono ?_
  .have q:j<Q l:=by simpa using i
   refine⟨?_,ã w g _ _ _ p⟩;rw[Nat.zero_add,m j (U l[j])<|by simp[C8,q],getElem!_pos (ν l) j i];rfl
  .rintro e d ⟨rfl,n,r,rfl⟩;obtain⟨s,t⟩:=ZD c (d:=l.mergeSort λx y=>decide<|x<=y) (List.length_mergeSort _) n r;exact⟨K,s.mono λk _ x=>by have u:k=g:=x;rw[u];rfl,_,List.length_mergeSort _,λx=>List.mem_mergeSort,t⟩
def C2d{w:E}{B}{b}{a}{l}(d:ξ w B 3 1 (Y b (Q l) a) (Q l)<|C8 l)(H:Q l<=1000000):
 μ prog 76 #[Y b (Q l) a] w λe h=>I (λk=>(Y b (Q l) a).ownBlock=C k) w h/\∃c,Q c<=Q l/\(∀x,x∈c↔x∈l)/\e=π (Y b (Q c) a)/\ξ h B 3 1 (Y b (Q c) a) (Q c) (C8 c):=by
 by_cases f:Q l=0
 .rw[f];refine(Tryz.slices_Compact_int_empty b a w).mono ?_;rintro e h ⟨rfl,rfl⟩;rw[f]at d;exact⟨I.refl _ _,l,W,λ_=>Iff.rfl,by rw[f],by rw[f];exact d⟩
 .obtain⟨g,rfl,F,G,r,D,s⟩:=D5 d W;obtain⟨_,A,t⟩:=A9 d g K;refine(Tryz.slices_Compact_int g 0 a l w (λj m=>?_) W r).mono ?_
  .have u:j<Q l:=by simpa using m
   refine⟨?_,ã w g _ _ _ t⟩;rw[Nat.zero_add,s j (U l[j])<|by simp[C8,u],getElem!_pos (ν l) j m];rfl
  .rintro e h ⟨rfl,q,rfl⟩;have v:Q (Lib.compact l)<=Q l:=by
    unfold Lib.compact Lib.compactUpTo;rw[lZ];refine kQ (List.length_filter_le _ _) ?_;rw[List.length_range];exact vQ _
   have y:Q (Lib.compact l++List.replicate (Q l-Q (Lib.compact l)) 0)=Q l:=by
    rw[qQ,List.length_replicate];omega
   obtain⟨n,o⟩:=ZD d y q #[];have p:∀i:E,Sort.grow i #[]=i:=λi=>by simp[Sort.grow]
   rw[p]at n o;refine⟨n.mono λk _ x=>by have z:k=g:=x;rw[z];rfl,_,v,Mr l,K,Pq o⟩
def Jo(c:Cx)(w:E)(e:Ending)(d:E):Prop:=Ω (V w.heap) w d/\∃(b:Option Addr) (a:Nat) (L:uZ),e=π (.tuple #[Y b (Q L) a,.agg #[U 0,U 0]])/\Q L<=1200/\(∀x,x∈L↔x∈iS c (Q c.N))/\ξ d (V w.heap) 3 1 (Y b (Q L) a) (Q L) (C8 L)
def Sw(s)(w:E)(a6:s.size<=Γ){N}{T}{b}{ck}(c8:fQ s.data.toList N T b ck):μ prog 38 #[ζ s] w (Jo (aQ N T b) w):=by
 obtain⟨ps,fs,hr,H,ae,bs⟩:=c8;have z:jG (aQ N T b):=yP H ae H.tx;have HR:Hid (∀u,μ prog 47 #[ζ s] u λe g=>Ω (V u.heap) u g/\∃B h i tv av ms,V u.heap<=B/\e=π (.tuple #[pV h,.agg #[U 0,U 0]])/\hG g B h i av tv ms 2400 fs (aQ N T b).ts/\cU g i (aQ N T b).N):=λu=>by
  refine(Gy s u a6).mono ?_;rintro e g ⟨M,⟨er,cx,al,_⟩|⟨N',T',cl,B,h,i,tv,al,br,hB,hm⟩⟩
  .have:=al.one hr;simp at this
  .have e1:=al.one hr;simp only[Sum.inr.injEq,Prod.mk.injEq]at e1;obtain⟨rfl,rfl⟩:=e1;obtain rfl:=GK br H;rw[show kU cl=.ok fs b from ae]at hm;obtain⟨e0,av,ms,a6,hn⟩:=hm;exact⟨M,B,h,i,tv,av,ms,hB,e0,a6,hn⟩
 have bq:0<Q (aQ N T b).N:=by
  have:=H.j8;show 0<Q N;omega
 have bx:(aQ N T b).fn=kC (aQ N T b).N:=K;have HF:Hid (∀u i,cU u i (aQ N T b).N->μ prog 26 #[i] u λe g=>∃fv,e=π fv/\I No u g/\ξ g (V u.heap) 3 1 fv (Q (aQ N T b).N) (C8 (aQ N T b).fn)):=λu i a2=>VI z.ew z.ls bq z.fp u i a2;generalize aQ N T b=c at*;clear hr H ae bs bx a6;have b1:=rY w<|γ #[U 0,U 0] 29;obtain⟨i0,hi,cf,cg,ch⟩:=info_parts Tryz.fy;have HQ:Hid (∀g f d (L:uZ),Ω (V w.heap) w g->Q L<=1200->(∀x,x∈L↔x∈iS c (Q c.N))->ξ g (V w.heap) 3 1 (Y f (Q L) d) (Q L) (C8 L)->Jo c w (π<|.tuple #[Y f (Q L) d,.agg #[U 0,U 0]]) g):=λg f d L h1 h2 h3 h4=>⟨h1,f,d,L,K,h2,h3,h4⟩;go_in;go_wp2_with fail;refine(HR.u _).mono ?_;clear HR;rintro e R ⟨M,B,h,i,tv,av,ms,hB,rfl,P,a3⟩;have f0:R.heap[V w.heap]?=C (γ #[U 0,U 0] 29 (0,0)):=by
  rw[M.block _ ι];exact b1
 have gl:=(aG f0);have ap:Hid (Ω (V w.heap) w R):=(I.ep (I.alloc No w _) (λ_ _ x=>x.elim)<|vQ _).trans (M.mono ι);have bi:=O f0;have b0:=O P;have bm:=O a3;have cn:=z.fp;have aa:=O z;obtain⟨na,nc,a4⟩:∃na nc,i=Y na (Q c.N) nc:=by
  obtain⟨nx,hn,_⟩:=a3;exact B8 hn
 subst a4;obtain⟨ta,tc,cc⟩:=B8 P.js;subst cc;have cj:=(aG P.blk);have bh:R.cell? (J h 0)=C (Y na (Q c.N) nc):=cr P.blk K;have C1:=I.alloc No R<|γ #[U 0,U 0] 29;have au:=O<|HF.u _ _<|a3.eu C1 λ_ _ _ _ _ _ x=>x;have aq:=O C1;clear P a3 z M b1 f0 HF hB C1;go_wp2_with fail;refine au.u.mono ?_;rintro e a ⟨fv,rfl,b4,ah⟩;have v:=O<|B6 aq.u b4;have aw:=O ah;obtain⟨fa,fc,bz⟩:=B8 ah;subst bz;have pz:δ a (J h 0)=C (Y na (Q c.N) nc):=A4 v.u bh;have cv:h<V a.heap:=yQ cj v.u.size;clear b4 ah au aq bh;go_wp2_with fail;go_loopw [29,6] (λan u wr=>∃(j:Nat) (f:Option Addr) (d:Nat),j<=Q c.N/\an=U (j:Int)/\u=Y f (Q (iS c j)) d/\Hid (I No a wr)/\Hid (wr.ownsRow (V a.heap) 3 1 (Y f (Q (iS c j)) d) (Q (iS c j))<|C8<|iS c j)) (λan _ _=>Q c.N-(intOf an).toNat);case atStart=>exact⟨0,none,0,wQ _,K,K,I.refl _ _,kW _ _ _ _⟩
 case round=>
  obtain⟨j,f,d,hj,rfl,rfl,CR,q⟩:=hrel;have ce:V a.heap<=wr.heap.size:=CR.u.size;have bt:=mV c j;by_cases aj:j<Q c.N
  .have a9:Hid (I No R wr):=B6 v.u CR.u;obtain⟨ng,cw,la,lc,a4,hg,cq,c7,⟨x0,x1,x2,x3,x4,x5,x6,x7,x8⟩,-,-⟩:=(bm.u.eu a9.u λ_ _ _ _ _ _ x=>x).at (Below.refl _ _) j aj;simp only[Value.slice.injEq,true_and]at a4;obtain⟨rfl,rfl⟩:=a4;unfold Γ at c7;have ab:wr.heap[h]?=_:=D9 a9.u b0.u.blk;have b2:wr.cell? (J h 2)=C (Y ta (Q c.ts) tc):=cr ab K;have ci:=(aG ab);have l:Hid (iS c (j+1)=iS c j++(if c.N[j].x=18/\c.fn.getD j 0≠c.fn.getD (eH c j).toNat 0 then [eH c j] else [])):=by
    show _=_;rw[iS,B7 aj]
   have ag:=aa.u.sv;obtain⟨fg,bw,cp,bu,bv,y1⟩:=D6 (ls:=c.fn) (by rw[ag];exact C7 (A3 aw.u CR.u λ_ _ x=>x)<|wQ _) (j:=j) W;subst bw;rw[ag]at bu;unfold Γ at bv;have Z:=O λm=>aa.u.mw.tg j aj<|.inr m;have HY:Hid (∀n (a2:n<Q c.fn),wr.cell? (J fg n)=C (U c.fn[n])):=λn a2=>by
    obtain⟨cy,e,_,_,_,hy⟩:=D6 (ls:=c.fn) (by rw[ag];exact C7 (A3 aw.u CR.u λ_ _ x=>x)<|wQ _) a2;simp only[zQ,Addr.mk.injEq,and_true]at e;subst e;exact hy
   have ct:Q c.ts=Q c.N:=aa.u.mw.len;obtain⟨tg,ca,cb,cs,c9,t1⟩:=D6 (C7 (A3 b0.u.js a9.u λ_ _ x=>x)<|wQ _) (j:=j) W;subst ca;unfold Γ at c9;have b9:c.fn.getD j 0=c.fn[j]'W:=by rw[lQ,gQ W];rfl
   have ai:c.ts.getD j 0=c.ts[j]'W:=by rw[lQ,gQ W];rfl
   have hx:eH c j=c.ts[j]'W:=by unfold eH;rw[tQ];exact ai
   rw[b9]at l;rw[ai]at Z;rw[hx]at l;clear b9 ai hx ab;generalize c.ts[j]'W=tj at*;generalize c.fn[j]'W=fj at*;obtain⟨G,b3⟩:∃G,iS c j=G:=⟨_,K⟩;rw[b3]at q l bt⊢;clear b3;generalize c.N[j]=nd at*;obtain⟨kd,va,vb,vc,ls,tx,vn,vt,vp⟩:=nd;simp only at*;have t:=I.alloc No wr<|aM kd va vb vc (Y la (Q ls) lc) tx vn vt vp;by_cases m:kd=18
   .subst m;obtain⟨n,rfl,hn,-⟩:=Z.u K;have yn:=HY.u n W;have ba:c.fn.getD ((n:Int)).toNat 0=c.fn[n]'W:=by rw[tQ,lQ,gQ W];rfl
    rw[ba]at l;clear ba HY Z;generalize c.fn[n]'W=fn at*;by_cases A:fj=fn
    .have gf:(fj !=fn)=κ:=by simpa using A
     have o:Hid (iS c (j+1)=G):=by
      show _=_;rw[l.u,wY<|by simp[A],iY]
     have a8:=O<|B6 CR.u t;clear l t A;go_wp2_with fail;go_quiet (fail);go_wp2_with fail;go_roundw;case rel=>exact⟨j+1,f,d,W,ç,by rw[o.u],B6 a8.u<|I.drewN _ _ _,by rw[o.u];exact A3 q.u (B6 (I.alloc No wr _)<|I.drewN _ _ _) λ_ _ x=>x⟩
     case measure=>simp[intOf];omega
    .have gf:(fj !=fn)=true:=by simpa using A
     have o:Hid (iS c (j+1)=G++[(n:Int)]):=by
      show _=_;rw[l.u,yY ⟨K,A⟩]
     clear l A;go_wp2_with fail;go_quiet (fail);have p:Hid (I No wr _):=B6 t<|I.drewN _ _ nq;generalize (wr.alloc<|aM 18 va vb vc (Y la (Q ls) lc) tx vn vt vp).drewN nq=r at*;have z2:=A4 p.u b2;have zt:=A4 p.u t1;have b:h<V r.heap:=yQ ci p.u.size;have lt:tg<V r.heap:=yQ cb p.u.size;have cu:V a.heap<=V r.heap:=kQ ce p.u.size;have F:=O<|(A3 q.u p.u λ_ _ x=>x).alloc<|γ #[U (n:Int)] 3;clear t x0 x1 x2 x3 x4 x5 x6 x7 x8 y1 yn b2 t1;go_wp2_with (at_builtin;refine wpList_append_own _ K _ _ 63 K (V a.heap) 3 i0 (U 0) 1 8 underlying63 hi cf cg ch K ε _ _ _ K F.u (J (V r.heap) 0) 1 1 [U (n:Int)] K K ?c1 ?c2 ?c3 ?c4 ?c5 ?_);case c1=>exact World.news_of_block (cs:=#[U (n:Int)]) (t:=3) (fr:=(0,0))<|rY r _
     case c2=>intro u hu;simp at hu;subst hu;rfl
     case c3=>simp only[Γ];omega
     case c4=>omega
     case c5=>simp;omega
     intro v' a7 ak b8 _;obtain⟨bp,c4,rfl⟩:=B8 ak;have bn:=O ak;have b7:I (λk=>V a.heap<=k) r a7:=(I.alloc (λk=>V a.heap<=k) r<|γ #[U (n:Int)] 3).trans (I.grown b8) λk m x=>(A9 F.u k x.symm).1;have S:Hid (I No a a7):=(((B6 CR.u p.u).mono (S':=λk=>V a.heap<=k) λ_ _ x=>x.elim).trans b7 λ_ _ x=>x).mono (λk m x=>W);clear ak b8 b7;go_wp2_with fail;go_roundw;case rel=>exact⟨j+1,bp,c4,W,ç,by rw[o.u,qQ,Ë],S,(show ξ _ _ _ _ _ _ _ from by rw[o.u,T4,qQ,Ë];exact bn.u)⟩
     case measure=>simp[intOf];omega
   .have gk:(kd==18)=κ:=by simpa using m
    have o:Hid (iS c (j+1)=G):=by
     show _=_;rw[l.u,wY<|by simp[m],iY]
    have a8:=O<|B6 CR.u t;clear l t Z HY;go_wp2_with fail;go_quiet (fail);go_wp2_with fail;go_roundw;case rel=>exact⟨j+1,f,d,W,ç,by rw[o.u],B6 a8.u<|I.drewN _ _ _,by rw[o.u];exact A3 q.u (B6 (I.alloc No wr _)<|I.drewN _ _ _) λ_ _ x=>x⟩
    case measure=>simp[intOf];omega
  .have c6:j=Q c.N:=W;subst c6;have az:=O (Ya q.u W);generalize iS c (Q c.N)=L0 at*;go_wp2_with fail;refine az.u.mono ?_;rintro e a7 ⟨rfl,b5,L1,bc,be,a5⟩;have c4:I No a a7:=((CR.u.mono (S':=λk=>V a.heap<=k) λ_ _ x=>x.elim).trans b5 λk _ x=>(A9 q.u k x).1).mono (λk m x=>W);rw[<-bc]at a5⊢;have ar:=O (C2d a5 W);have ay:=O be;have F:=O a5;have S:=O c4;have ax:Hid (L1.length<=1200):=by show _<=_;omega
   clear b5 be a5 c4 az q bc;go_wp2_with fail;refine ar.u.mono ?_;rintro e D ⟨b6,L2,bd,bf,rfl,bg⟩;have c5:I No a D:=((S.u.mono (S':=λk=>V a.heap<=k) λ_ _ x=>x.elim).trans b6 λk _ x=>(A9 F.u k x).1).mono (λk m x=>W);have y:D.heap[V w.heap]?=C (γ #[U 0,U 0] 29 (0,0)):=D9 c5<|D9 v.u bi.u;have g0:D.cell? (J (V w.heap) 0)=C (U 0):=cr y K;have g1:D.cell? (J (V w.heap) 1)=C (U 0):=cr y K;have gz:∀am,D.frozen? (J (V w.heap) am)=κ:=λam=>ã D _ am _ _ y;have cm:=(aG y);have af:=RZ y;have cd:V w.heap<=V a.heap:=kQ (Nat.le_of_lt gl) v.u.size;have ao:Hid (Ω (V w.heap) w _):=ap.u.trans<|I.ep (B6 (B6 v.u c5) af) (λ_ _ x=>x.elim) ap.u.size;have bo:=O<|HQ.u _ f d L2 ao.u (kQ bd ax.u) (λx=>(bf x).trans<|ay.u x)<|A3 (C7 bg cd) af λ_ _ x=>x;clear b6 bf bg c5 y af ao HQ ay F S ar bd ax;generalize L2.length=bl at*;go_wp2_with fail;exact ä (v:=.tuple #[Y f bl d,.agg #[U 0,U 0]]) (by simp[â,results38,go_sem,g0,g1]) K bo.u
def Ci(c:Cx)(R:List<|Int×Int)(w:E)(e:Ending)(b:E):Prop:=∃d a l k f L g i j h,h=(Q c.N:Int)-1/\δ b (J a 2)=C (U h)/\V w.heap<=V d.heap/\e=π (pV g)/\I No w b/\(∀x,x∈L↔x∈iS c (Q c.N))/\iU d c a l k f L/\dL d b a f g i j (fZ R) 0 ⟨λ_=>none,[]⟩
def GN(R:List<|Int×Int):Prop:=Q R<=1200/\∀p∈R,(0<=p.1/\p.1<=1000000)/\0<=p.2/\p.2<128
def GN.tn{R}(h:GN R):∀l,(∀p∈l,p∈R)->bP (fZ l):=by
 have g:∀(l:List<|Int×Int) (f:Int->Option Int),(∀p∈l,p∈R)->bP f->bP (l.foldl (λf p=>λx=>if x=p.1 then C p.2 else f x) f):=λl=>by
  induction l with
  |nil=>exact λf _ b=>b
  |cons p r d=>
   intro f a b;refine d _ (λq c=>a q<|by simp[c]) λx v e=>?_;simp only at e;split at e
   .simp only[zQ]at e;have:=h.2 p (a p ι);omega
   .exact b x v e
 exact λl a=>g l _ a bP.no
def dL.new(a)(c)(b):dL a (((a.alloc<|.map #[] 0).alloc<|.map #[] 0).alloc<|γ #[pV c,.map<|C (V a.heap),b,.map<|C<|V a.heap+1,sN] 74) c b (V a.heap+1+1) (V a.heap) (V a.heap+1) (λ_=>none) 0 ⟨λ_=>none,[]⟩:=by
 refine⟨B6 (B6 (I.alloc _ _ _)<|I.alloc _ _ _)<|I.alloc _ _ _,⟨sN,?_,kW _ _ _ _⟩,?_,?_,⟨W,W,W⟩,W,vQ _,bP.no,bP.no⟩
 .have:=rY ((a.alloc<|.map #[] 0).alloc<|.map #[] 0)<|γ #[pV c,.map<|C (V a.heap),b,.map<|C<|V a.heap+1,sN] 74;simpa using this
 .exact((cQ.new a).P (B6 (I.alloc No _ _)<|I.alloc No _ _) λx=>x).more W
 .have:=(cQ.new<|a.alloc<|.map #[] 0).P (I.alloc No _<|γ #[pV c,.map<|C (V a.heap),b,.map<|C<|V a.heap+1,sN] 74) λx=>x;simp only[World.size_alloc]at this;exact this
def dL.sn{t w j}{r c a o m}{l}{g d:Gm}{s}(h:dL t w r l c a o g m s)(b:I (λk=>k=a) w j)(A:cQ j a 5000 d)(y:bP d):dL t j r l c a o d m s:=by
 obtain⟨B,f,n⟩:=h.blk;have p:∀{q u e v},w.heap[q]?=C (γ u e v)->q≠a:=λi x=>by
  subst x;exact h.gs.et i
 refine⟨h.P.trans b λk F x=>by have:=h.lo.2.1;have G:k=a:=x;omega,⟨B,?_,A3 n b λq i x=>?_⟩,A,h.ks.P b λx=>h.ne x.symm,h.lo,h.ne,h.fq,h.tg,y⟩
 .rw[b.block c (aG f)<|p f];exact f
 .obtain⟨_,D,z⟩:=A9 n q i;exact p z x
def vm(s)(w:E)(a3:s.size<=Γ){N}{T}{h}{bb}(o:fQ s.data.toList N T h bb){R}(z:GN R){M}{P}(ho:ξ w 0 55 2 (Y M (Q R) P) (Q R)<|S4 R):
 μ prog 21 #[ζ s,Y M (Q R) P] w (Ci (aQ N T h) R w):=by
 have HR:Hid (∀u,μ prog 16 #[ζ s] u λe b=>Ω (V u.heap) u b/\∃d g f,e=π (.tuple #[pV d,.agg #[U 0,U 0]])/\cU b f (aQ N T h).N/\cQ b g 5000 (lS<|aQ N T h)/\∃q p n ov,b.heap[d]?=C (γ (rM (aQ N T h) f q ((Q (aQ N T h).N:Int)-1) p g n ov) 66 (0,0))):=λu=>by
  refine(MI s u a3).mono ?_;rintro e b ⟨b2,⟨er,a5,v,b6,rfl⟩|⟨N',T',bo,br,ba,w0,d,p,mb,g,f,q,mn,n,bd,bs,Z,bm,bh,bi,hB,rfl,hZ,z,S,b9⟩⟩
  .exact absurd b6 o.not
  .obtain⟨rfl,rfl,rfl,rfl⟩:=ba.one o;subst b9;obtain⟨ov,bc,b3,_⟩:=S.st;exact⟨b2,d,g,f,K,hB.fx S.P,hB.nm S.P,q,p,n,ov,b3⟩
 have a8:=O λu=>Sw s u a3 o;have ao:jG (aQ N T h):=by
  obtain⟨ps,fs,_,hP,b4,_⟩:=o;exact yP hP b4 hP.tx
 have bj:=@run_makeMap prog;generalize aQ N T h=c at*;have HO:=O ho;have ae:=O z;have bf:=z.1;clear a3 o ho z;go_in;go_wp2_with fail;refine(HR.u _).mono ?_;rintro e D ⟨Z,d,g,f,rfl,ai,ak,q,p,n,ov,aj⟩;have af:I No w (D.alloc<|γ #[U 0,U 0] 29):=B6 ((I.below Z).mono λ_ hi x=>W)<|I.alloc _ _ _;have a1:=I.alloc No D<|γ #[U 0,U 0] 29;have a7:=O af;have ab:Hid (∀u,I No (D.alloc<|γ #[U 0,U 0] 29) u->cU u f c.N/\cQ u g 5000 (lS c)/\u.heap[d]?=C (γ (rM c f q ((Q c.N:Int)-1) p g n ov) 66 (0,0))):=λu hu=>⟨ai.eu (B6 a1 hu) λ_ _ _ _ _ _ x=>x,ak.P (B6 a1 hu) λx=>x,D9 (B6 a1 hu) aj⟩;clear HR Z ai ak aj af a1;go_wp2_with fail;refine(a8.u _).mono ?_;rintro e a ⟨am,i,l,L,rfl,az,ag,ah⟩;have H:I No (D.alloc<|γ #[U 0,U 0] 29) (a.alloc<|γ #[U 0,U 0] 29):=B6 ((I.below am).mono λ_ hi x=>W)<|I.alloc _ _ _;have r:=O<|B6 a7.u H;obtain⟨n2,q2,a6⟩:=ab.u _ H;have ad:Hid (iU (a.alloc<|γ #[U 0,U 0] 29) c d g f (Y i (Q L) l) L):=⟨ao,n2,q2,⟨_,_,_,_,_,a6⟩,A3 (C7 ah<|wQ _) (I.alloc No _ _) λ_ _ x=>x,W⟩;have a9:=O ag;have ac:=O a6;clear ab a8 am az ag ah n2 q2 a6 H ao a7;go_wp2_with fail;have m:=O<|dL.new (a.alloc<|γ #[U 0,U 0] 29) d<|Y i (Q L) l;have a4:V (a.alloc<|γ #[U 0,U 0] 29).heap=V a.heap+1:=ι;rw[a4]at m;have HQ:Hid (∀b t,bP t->t=fZ R->I (λk=>k=V a.heap+1) ((((a.alloc<|γ #[U 0,U 0] 29).alloc<|.map #[] 0).alloc<|.map #[] 0).alloc<|γ #[pV d,.map<|C<|V a.heap+1,Y i (Q L) l,.map<|C<|V a.heap+1+1,sN] 74) b->cQ b (V a.heap+1) 5000 t->Ci c R w (π<|pV<|V a.heap+1+1+1) b):=λb t hg he A hi=>by
  have hF:=m.u.sn A hi hg;subst he;have b0:=D9 hF.P ac.u;have hz:=r.u.size;exact⟨_,d,g,f,_,L,_,_,_,_,K,cr b0 K,hz,K,B6 r.u hF.P,a9.u,ad.u,hF⟩
 have aa:Hid (∀b,I (λk=>k=V a.heap+1) ((((a.alloc<|γ #[U 0,U 0] 29).alloc<|.map #[] 0).alloc<|.map #[] 0).alloc<|γ #[pV d,.map<|C<|V a.heap+1,Y i (Q L) l,.map<|C<|V a.heap+1+1,sN] 74) b->ξ b 0 55 2 (Y M (Q R) P) (Q R) (S4 R)/\δ b (J (V a.heap+1+1+1) 1)=C (.map<|C<|V a.heap+1)/\V a.heap+1+1+1<V b.heap):=λb A=>by
  have h1:I No w b:=B6 r.u (m.u.P.trans A λk hk x=>by have x':k=V a.heap+1:=x;omega);obtain⟨bq,hb,_⟩:=m.u.blk;have al:=(A.block _ (aG hb) W).trans hb;exact⟨A3 HO.u h1 λ_ _ x=>x,cr al K,(aG al)⟩
 have ax:Hid (cQ ((((a.alloc<|γ #[U 0,U 0] 29).alloc<|.map #[] 0).alloc<|.map #[] 0).alloc<|γ #[pV d,.map<|C<|V a.heap+1,Y i (Q L) l,.map<|C<|V a.heap+1+1,sN] 74) (V a.heap+1) 0<|fZ<|R.take 0):=by
  have:=(cQ.new<|a.alloc<|γ #[U 0,U 0] 29).P (B6 (I.alloc No _<|.map #[] 0)<|I.alloc No _<|γ #[pV d,.map<|C<|V a.heap+1,Y i (Q L) l,.map<|C<|V a.heap+1+1,sN] 74) λx=>x;rw[a4]at this;exact this
 clear m ad a9 ac r a4 HO;generalize ((((a.alloc<|γ #[U 0,U 0] 29).alloc<|.map #[] 0).alloc<|.map #[] 0).alloc<|γ #[pV d,.map<|C<|V a.heap+1,Y i (Q L) l,.map<|C<|V a.heap+1+1,sN] 74)=W3 at*;go_loopw [30] (λv wr=>∃j:Nat,j<=Q R/\v=U (j:Int)/\Hid (I (λk=>k=V a.heap+1) W3 wr)/\Hid (cQ wr (V a.heap+1) j<|fZ<|R.take j)) (λv _=>Q R-(intOf v).toNat);case atStart=>exact⟨0,wQ _,K,I.refl _ _,ax⟩
 case round=>
  obtain⟨j,hj,rfl,CR,IM⟩:=hrel;obtain⟨oR,b1,bp⟩:=aa.u wr CR.u;by_cases B:j<Q R
  .obtain⟨be,b8,-,hg,bg,b5,a2⟩:=D5 oR W;subst b8;have v1:=a2 (j*2+1) _ (DC R j B).2;have v0:=a2 (j*2) _ (DC R j B).1;have rg:=ae.u.2 R[j]<|mQ B;have G:Hid (fZ (R.take<|j+1)=λx=>if x=R[j].1 then C R[j].2 else fZ (R.take j) x):=by
    show _=_;rw[nQ B,CY]
   obtain⟨⟨x,y⟩,ar⟩:∃a5,R[j]=a5:=⟨_,K⟩;rw[ar]at v0 v1 rg G;simp only at v0 v1 rg G;unfold Γ at b5;have F:=B6 (I.alloc No wr<|γ #[U x,U y] 55)<|I.drewN No _ 1;obtain⟨au,aq,ap,an⟩:=(IM.u.P F λx=>x).put x y rg.1 W W;have bn:(Instr.mapUpdate 46 (.map<|C<|V a.heap+1) (U x)<|U y).run prog (wr.alloc<|γ #[U x,U y] 55).drew=.ok () au:=aq;have aw:=O ap;have av:Hid (I (λk=>k=V a.heap+1) W3 au):=CR.u.trans ((F.mono (S':=λk=>k=V a.heap+1) λ_ _ x=>x.elim).trans an λ_ _ x=>x) λ_ _ x=>x;clear a2 ar ap an aq F oR;go_wp2_with fail;go_region;all_goals go_wp2_with fail
   all_goals go_roundw
   all_goals first
    |exact⟨j+1,W,ç,av,(show cQ _ _ _ _ from by rw[G.u];exact aw.u)⟩
    |(simp[intOf];omega)
  .have b7:j=Q R:=W;subst b7;have ay:=O (HQ.u wr _ (ae.u.tn (R.take (Q R)) λa5 hp=>List.mem_of_mem_take hp) (by rw[vZ]) CR.u<|IM.u.more W);clear HQ aa oR;go_wp2_with fail;go_ret;exact ay.u
def pE(c:Cx)(a:Of)(L:uZ):List (Int×Int):=(bH c (fZ<|fS c a) L (Q c.N) ((Q c.N:Int)-1) ⟨λ_=>none,[]⟩).lf
def SU(l:bZ)(w:E)(e:Ending)(g:E):Prop:=Ω (V w.heap) w g/\
 ((∃f p,iX l f p/\e=π (.tuple #[sN,.agg #[U f,U p]]))\/
  ∃N T a b L d c,fQ l N T a b/\(∀x,x∈L↔x∈iS (aQ N T a) (Q N))/\e=π (.tuple #[Y d (Q (pE (aQ N T a) b L)) c,.agg #[U 0,U 0]])/\ξ g (V w.heap) 55 2 (Y d (Q (pE (aQ N T a) b L)) c) (Q (pE (aQ N T a) b L)) (S4<|pE (aQ N T a) b L))
def Xh(s)(w:E)(Z:s.size<=Γ):μ prog 15 #[ζ s] w (SU s.data.toList w):=by
 have HR:=O λb=>zN s b Z;have v:=rY w<|γ #[U 0,U 0] 29;have ai:=Z;clear Z;go_in;go_wp2_with fail;refine(HR.u _).mono ?_;clear HR;rintro e b ⟨m,⟨h,p,P,rfl⟩|⟨N,T,a,f,ga,gc,q,rfl,ag⟩⟩
 .have d:b.heap[V w.heap]?=C (γ #[U 0,U 0] 29 (0,0)):=by
   rw[m.block _ ι];exact v
  have F:δ b (J (V w.heap) 0)=C (U 0):=cr d K;have G:δ b (J (V w.heap) 1)=C (U 0):=cr d K;have gz:∀o,b.frozen? (J (V w.heap) o)=κ:=λo=>ã b _ o _ _ d;have gl:=(aG d);have ar:(h !=0)=true:=by simp[P.1]
  have g:Hid (Ω (V w.heap) w b):=(I.ep (I.alloc No w _) (λ_ _ x=>x.elim)<|vQ _).trans (m.mono ι);have am:=O P;clear P m v d;go_wp2_with fail;go_region;all_goals go_wp2_with fail
  all_goals
   have ap:I (λk=>k=V w.heap) b (ρ (ρ b (J (V w.heap) 0)<|U h) (J (V w.heap) 1)<|U p):=I.trans (I.set b (J (V w.heap) 0) _) (I.set _ (J (V w.heap) 1) _) λ_ _ x=>x;have hR:SU s.data.toList w (π<|.tuple #[sN,.agg #[U h,U p]]) _:=⟨g.u.trans<|I.ep (I.trans ap (B6 (I.alloc No _<|γ #[U h,U p] 29)<|I.drewN No _ 1) λ_ _ x=>x.elim) (λk _ e=>W) g.u.size,.inl ⟨h,p,am.u,K⟩⟩;exact ä (v:=.tuple #[sN,.agg #[U h,U p]]) (by simp[â,results15,go_sem,F,G,gl]) K hR
 .have d:b.heap[V w.heap]?=C (γ #[U 0,U 0] 29 (0,0)):=by
   rw[m.block _ ι];exact v
  have gl:=(aG d);have S:=q.oj;have af:GN (fS (aQ N T a) f):=⟨S.1,λp hp=>by have:=S.2.1 p hp;omega⟩;have g:Hid (Ω (V w.heap) w b):=(I.ep (I.alloc No w _) (λ_ _ x=>x.elim)<|vQ _).trans (m.mono ι);have r:=I.alloc No b<|γ #[U 0,U 0] 29;have aa:=O<|vm s _ ai q af<|A3 (C7 ag<|wQ _) r λ_ _ x=>x;have ak:∀L,iW (aQ N T a) (Q (aQ N T a).N) ((Q (aQ N T a).N:Int)-1)<=2400:=λL=>by
   obtain⟨ps,fs,_,l,_,_⟩:=q;exact(YD l a (fZ<|fS (aQ N T a) f) L _).2
  have aq:0<Q (aQ N T a).N:=by
   obtain⟨ps,fs,_,l,_,_⟩:=q;have:=l.j8;show 0<Q N;omega
  have D:Hid (∀y u t L,(∀x,x∈L↔x∈iS (aQ N T a) (Q (aQ N T a).N))->Ω (V w.heap) w y->ξ y (V w.heap) 55 2 (Y u (Q (pE (aQ N T a) f L)) t) (Q (pE (aQ N T a) f L)) (S4<|pE (aQ N T a) f L)->SU s.data.toList w (π<|.tuple #[Y u (Q (pE (aQ N T a) f L)) t,.agg #[U 0,U 0]]) y):=λy u t L h1 h2 h3=>⟨h2,.inr ⟨N,T,a,f,L,u,t,q,h1,K,h3⟩⟩;have a5:=O<|D9 r d;have A:=O r;unfold pE at D;generalize aQ N T a=c at*;generalize fS c f=ab at*;clear q ag S af m v d r ai;go_wp2_with fail;refine aa.u.mono ?_;rintro e a3 ⟨wB,pb,qb,nv,cv,L,fb,gb,kb,mn,R,ae,av,rfl,H,hL,l,hF⟩;have au:pb<V a3.heap:=by
   have:=blt ae;simpa using this
  obtain⟨aw,-,b0,-,-,-,-⟩:=hF.cell;obtain⟨i,n⟩:∃i:Nat,mn=i/\i<Q c.N:=⟨Q c.N-1,W,W⟩;have aj:=ak L;rw[<-R,n.1]at aj;have a9:=O (RH l (Q c.N) i a3 kb 0 _ n.2 n.2 hF W);have HE:Hid (bH c (fZ ab) L (Q c.N) i ⟨λ_=>none,[]⟩=bH c (fZ ab) L (Q c.N) ((Q c.N:Int)-1) ⟨λ_=>none,[]⟩):=by
   show _=_;rw[<-R,n.1]
  have a7:=O hL;have a6:=O<|D9 H a5.u;have al:V w.heap<=V wB.heap:=by
   have h1:=g.u.size;have h2:=A.u.size;omega
  have B:Hid (Ω (V w.heap) w a3):=g.u.trans<|I.ep (B6 A.u H) (λ_ _ x=>x.elim) g.u.size;have ah:=hF.nc;have a8:=O ah;rw[n.1]at ae;clear H hL l hF aj ak R n ah aa a5 A;go_wp2_with fail;refine a9.u.mono ?_;rintro e z ⟨rfl,a2,r2⟩;rw[HE.u]at a2;obtain⟨l3,-,-,-,-,-,xa,xc,b4,-,ho⟩:=a2.cell;have j:=r2.cells a8.u a6.u ε ε;have F:δ z (J (V w.heap) 0)=C (U 0):=cr j K;have G:δ z (J (V w.heap) 1)=C (U 0):=cr j K;have gz:∀o,z.frozen? (J (V w.heap) o)=κ:=λo=>ã z _ o _ _ j;have ao:=(aG j);have M:=RZ j;have a4:Hid (Ω (V w.heap) w _):=(B.u.trans<|I.ep r2 (λk _ x=>kQ al x.1) B.u.size).trans<|I.ep M (λ_ _ x=>x.elim)<|Nat.le_of_lt ao;have an:=O<|D.u _ xa xc L a7.u a4.u<|A3 (C7 ho al) M λ_ _ x=>x;clear D a4 M j ho a2 r2 a9 HE a7 a6 B a8;generalize Q (bH _ _ _ _ _ _).lf=bl at*;go_wp2_with fail;exact ä (v:=.tuple #[Y xa bl xc,.agg #[U 0,U 0]]) (by simp[â,results15,go_sem,F,G]) K an.u
theorem pG{L b}(h:∀x,x∈L↔x∈b)(c)(x v):bN L c x v=bN b c x v:=by
 unfold bN;by_cases a:x∈L
 .rw[yY a,yY<|(h x).1 a]
 .rw[wY a,wY λk=>a<|(h x).2 k]
theorem uI{c}{g}{L a}(h:∀x,x∈L↔x∈a):∀(f),bH c g L f=bH c g a f
 |0=>K
 |f+1=>by
  have b:=uI (c:=c) (g:=g) h f;funext i s;rw[bH,bH,b];unfold cP dH;simp only[pG h]
def rV(c:Cx)(a:Of):List (Int×Int):=(bH c (fZ<|fS c a) (iS c (Q c.N)) (Q c.N) ((Q c.N:Int)-1) ⟨λ_=>none,[]⟩).lf
theorem ś{c}{a}{L}(h:∀x,x∈L↔x∈iS c (Q c.N)):pE c a L=rV c a:=by
 unfold pE rV;rw[uI h]
def vx(s)(w:E)(A:s.size<=Γ):μ prog 11 #[ζ s,U 3] w (SS s.data.toList w (iX s.data.toList) rV):=by
 refine(Uc (P:=λl n m b p j=>Ω (V w.heap) w j/\V w.heap<V j.heap/\((iX s.data.toList b p/\b≠0)\/(b=0/\∃N T c d,fQ s.data.toList N T c d)))
  (ϊ:=λl n m b p j=>(iX s.data.toList b p/\l=none/\n=0/\m=0)\/(b=0/\p=0/\∃N T c d,fQ s.data.toList N T c d/\n=Q (rV (aQ N T c) d)/\ξ j (V w.heap+1) 55 2 (Y l n m) n (sF<|rV (aQ N T c) d)))
  (λr h o=>(zN s r A).mono ?_) λr o=>(Xh s r A).mono ?_).mono ?_
 .have u:Ω (V w.heap) w r:=h.ep (λ_ _ x=>x.elim)<|vQ _;rintro e j ⟨a,⟨b,p,f,rfl⟩|⟨N,T,c,d,F,D,q,rfl,k⟩⟩
  .exact⟨_,_,_,b,p,K,a,u.trans<|a.mono h.size,yQ o a.size,.inl ⟨f,f.1⟩⟩
  .exact⟨_,_,_,0,0,K,a,u.trans<|a.mono h.size,yQ o a.size,.inr ⟨K,N,T,c,d,q⟩⟩
 .rintro e j ⟨a,⟨b,p,f,rfl⟩|⟨N,T,c,d,a2,F,D,q,M,rfl,k⟩⟩
  .exact⟨_,_,_,b,p,K,a,.inl ⟨f,K,K,K⟩⟩
  .rw[ś M]at k⊢;exact⟨_,_,_,0,0,K,a,.inr ⟨K,K,N,T,c,d,q,K,C7 k W⟩⟩
 .rintro e B (⟨l,n,m,b,p,j,⟨a,o,v⟩,z,h,rfl⟩|⟨l,n,m,p,j,H,n',L,G,Z,a3,⟨a,o,v⟩,R,P,h,rfl⟩)
  .have t:Ω (V w.heap) w B:=a.trans<|h.ep (B:=V w.heap) (λi _ (x:i=w.heap.size)=>W) a.size;refine⟨t,.inl ⟨b,p,z,?_,K⟩⟩;obtain⟨f,_⟩|⟨e,_⟩:=v
   .exact f
   .exact absurd e z
  .have y:=a.trans<|R.mono a.size;have t:Ω (V w.heap) w B:=y.trans<|h.ep (B:=V w.heap) (λi _ (x:i=w.heap.size)=>W) y.size;refine⟨t,?_⟩;obtain⟨f,rfl,rfl,rfl⟩|⟨rfl,rfl,N,T,c,d,q,rfl,k⟩:=P
   .exact .inl ⟨G,Z,f.1,f,K⟩
   .refine .inr ⟨N,T,c,d,H,L,q,K,C7 (A3 k h λg S (x:g=w.heap.size)=>?_) W⟩;have:=(A9 k g S).1;omega
def Ff(s)(w)(e:s.size<=Γ)(j:Tbl w){fu:Nat}(h:fu<=100000):μ prog 6 #[ζ s,U 3,U fu] w (wF s.data.toList w (iX s.data.toList) rV fu):=by
 refine(Gi (λd N T b c a k=>ZI s d e k a) j h (λd _=>vx s d e) λN T b c a=>?_).mono λ_ _=>yI.pd;obtain⟨l,g,_⟩:=a.oj;have f:(rV (aQ N T b) c).Sublist (fS (aQ N T b) c):=a.qw _;exact⟨by have:=f.length_le;omega,λp i=>by have:=g p<|f.subset i;omega⟩
