/-
  A part of the proof.
-/
import Derived.Test.YtjhlphgdgpebfaaGreatDoorBindC
set_option maxHeartbeats 0
set_option linter.all false
set_option maxRecDepth 100000
namespace Go.Proofs.YtjhlphgdgpebfaaGreatDoor
open _root_.Array renaming size->V
open Go renaming Calls->μ,undef->Ξ
open Obj renaming cells->γ
open Value renaming slice->Y,string->ζ,pointer->υ
open World renaming alloc->σ,cell?->δ,setCell->ρ
open List renaming length->Q,toArray->ν
open Option renaming some->C
open Go.Proofs.Tryz
open Go.RowKit Go.Maps
section
variable{b:E}{B a:Nat}{c d:Value}{N:List Nd}
def vk(hN:cU b c N)(i)(hi)(w)(a4)(D)(A)(h:dF b w B a c d a4 D A)(b6:D≠[])(T tb)(ps qs)(an:zJ N T tb ps N[i] qs)(hC:∀ad∈ps,1<=ad.k->lD b B a c d N ad)(P)(ba:a4+2*aB ps<=P)(hm:P<=100000)(hf:Q D+aB ps<=100000)(aq:Q A=Q N)(al:Q (N[i]).M<=100000)(ap:Q (N[i]).text<=1000000)(hk:(N[i]).x=5\/(N[i]).x=18)(R)(a9:bM (N[i]).text D=none->R=.bad 5 i)(aa:∀j,bM (N[i]).text D=C j->R=(Br.ok D [(i,j)]).and λb3=>bE false b3 T ps):
 μ prog 126 #[pV a,U i] w (aI b w B a c d N P A R):=by
 have b5:=h.jh;obtain⟨g,S,n,p,rfl,hg,bf,bb,⟨x0,x1,x2,x3,x4,x5,x6,x7,x8⟩,ho,ac⟩:=hN.at h.jh i hi;generalize am:N[i]=nd at*;obtain⟨k,s,t,u,r,l,x,y,m⟩:=nd;simp only at x0 x1 x2 x3 x4 x5 x6 x7 x8 ho ac al ap hk a9 aa;have a2:I No w ((σ w<|γ #[pV a] 104).alloc<|aM k s t u (Y n (Q r) p) l x y m):=B6 (I.alloc No _ _)<|I.alloc No _ _;have h1:=h.kept a2;have ah:((σ w<|γ #[pV a] 104).alloc<|aM k s t u (Y n (Q r) p) l x y m).heap[V w.heap]?=C (γ #[pV a] 104 (0,0)):=by
  rw[Below.heap_alloc _ _ _ ι];have:=rY w<|γ #[pV a] 104;simpa using this
 have ai:((σ w<|γ #[pV a] 104).alloc<|aM k s t u (Y n (Q r) p) l x y m).heap[V w.heap+1]?=C (γ #[U k,U s,U t,U u,Y n (Q r) p,ζ ⟨ν l⟩,U x,U y,U m] 93 (0,0)):=by
  have:=rY (σ w<|γ #[pV a] 104)<|aM k s t u (Y n (Q r) p) l x y m;simpa using this
 have a6:δ ((σ w<|γ #[pV a] 104).alloc<|aM k s t u (Y n (Q r) p) l x y m) (J (V w.heap) 0)=C (pV a):=cr ah K;have KA:=O<|cV.y (B:=B) (bb:=a) (tv:=d) a2;obtain⟨ax,ay⟩:=h.blk;have aj:=A3 ho a2 λ_ _ a5=>a5;unfold maxLen at bb;have ag:cW N i=m:=by
  unfold cW;rw[lQ,gQ hi,am];rfl
 have ak:i<Q A:=W;obtain⟨f,F,a8,t1,t2,t3,-,-,t4,-,-,-⟩:=h.write i ak 0;subst a8;have FI:Hid (∀M,I No ((σ w<|γ #[pV a] 104).alloc<|aM k s t u (Y n (Q r) p) l x y m) M->μ prog 171 #[pV a,.agg #[U k,U s,U t,U u,Y n (Q r) p,ζ ⟨ν l⟩,U x,U y,U m]] M λe z=>
  (e=gu 5 m/\Hid (aI b w B a (Y (C<|J g 0) (Q N) S) (Y (C<|J f 0) (Q A) F) N P A R (gu 5 m) z))\/
  (∃j,e=.returned (U j)/\(∃au,δ z (J f i)=C (U au))/\z.frozen? (J f i)=false/\δ z (J a 2)=C (Y (C<|J f 0) (Q A) F)/\δ z (J (V w.heap) 0)=C (pV a)/\(a<V z.heap/\f<V z.heap)/\
   Hid (bM l D=C j/\cV B a (Y (C<|J f 0) (Q A) F) w (ρ z (J f i)<|U j)/\dF b (ρ z (J f i)<|U j) B a (Y (C<|J g 0) (Q N) S) (Y (C<|J f 0) (Q A) F) a4 D (dG A [(i,j)])/\I (λa3=>a3=f) ((σ w<|γ #[pV a] 104).alloc<|aM k s t u (Y n (Q r) p) l x y m) (ρ z (J f i)<|U j)))):=by
  intro M ha;have h2:=h1.kept ha;obtain⟨av,ms,ao⟩:=h2.st;have be:=ao.len;refine(C9d ao W k s t u n (Q r) p l x y m ap).mono ?_;rintro e z ⟨Z,he⟩;have a7:=B6 ha Z;have h3:=h2.kept Z;cases hl:bM l D with
  |none=>
   rw[hl]at he;exact .inl ⟨he,KA.u.trans<|cV.y a7,by rw[a9 hl];show gu 5 m=gu 5 (cW N i);rw[ag]⟩
  |some j=>
   rw[hl]at he;obtain⟨bd,bg,a8,u1,u2,u3,u4,u5,u6,u7,u8,u9⟩:=h3.write i ak j;simp only[Value.slice.injEq,zQ,Addr.mk.injEq,and_true,true_and]at a8;obtain⟨rfl,rfl⟩:=a8;exact .inr ⟨j,he,⟨_,u4⟩,u5,u6,A4 a7 a6,⟨u7,u1⟩,K,(KA.u.trans<|cV.y a7).trans u8,u9,I.trans (a7.mono λ_ _ a5=>a5.elim) (I.set z (J f i) _) λ_ _ a5=>a5⟩
 have PB:Hid (∀(j:Int) (z:E),Hid (bM l D=C j/\cV B a (Y (C<|J f 0) (Q A) F) w (ρ z (J f i)<|U j)/\dF b (ρ z (J f i)<|U j) B a (Y (C<|J g 0) (Q N) S) (Y (C<|J f 0) (Q A) F) a4 D (dG A [(i,j)])/\I (λa3=>a3=f) ((σ w<|γ #[pV a] 104).alloc<|aM k s t u (Y n (Q r) p) l x y m) (ρ z (J f i)<|U j))->
  (∀o v,δ ((σ w<|γ #[pV a] 104).alloc<|aM k s t u (Y n (Q r) p) l x y m) (J (V w.heap) o)=C v->δ (ρ z (J f i)<|U j) (J (V w.heap) o)=C v)/\(∀o v,δ ((σ w<|γ #[pV a] 104).alloc<|aM k s t u (Y n (Q r) p) l x y m) (J (V w.heap+1) o)=C v->δ (ρ z (J f i)<|U j) (J (V w.heap+1) o)=C v)/\
  ∀M,I No (ρ z (J f i)<|U j) M->μ prog 43 #[.agg #[U k,U s,U t,U u,Y n (Q r) p,ζ ⟨ν l⟩,U x,U y,U m]] M λe ae=>∃ga gc,e=.returned (Y ga (Q (px T qs)) gc)/\δ ae (J (V w.heap) 0)=C (pV a)/\
  Hid (μ prog 88 #[pV a,Y ga (Q (px T qs)) gc] ae<|DX b w B a (Y (C<|J g 0) (Q N) S) (Y (C<|J f 0) (Q A) F) N P A R)):=by
  rintro j z ⟨hl,b8,b4,Z⟩;have b7:∀q,V w.heap<=q->q≠f:=λq hq=>W;have ab:∀q,V w.heap<=q->∀o v,δ ((σ w<|γ #[pV a] 104).alloc<|aM k s t u (Y n (Q r) p) l x y m) (J q o)=C v->δ (ρ z (J f i)<|U j) (J q o)=C v:=λq hq o v e=>by
   have b9:=blt e;have:=Z.block q b9<|b7 q hq;unfold δ at*;simp only at*;rw[this];exact e
  refine⟨ab _<|vQ _,ab _ W,λM ha=>?_⟩;rw[aa j hl];refine MF b8 b4 b6 an hC W hf aq n p ?_ al (V w.heap) (ab _ (vQ _) _ _ a6) P ba M ha;refine A3 aj Z λq hq e=>?_;have:=ac q hq;have h5:=(h.fresh (q:=f));have:=h.low.2 f K;have:=h.hz;omega
 have cn:∀o v,(#[U k,U s,U t,U u,Y n (Q r) p,ζ ⟨ν l⟩,U x,U y,U m]:Array Value)[o]?=C v->δ ((σ w<|γ #[pV a] 104).alloc<|aM k s t u (Y n (Q r) p) l x y m) (J (V w.heap+1) o)=C v:=λo v e=>by rw[cell_of_row _ _ o _ _ _ ai];exact e
 have G:=O cn;have b0:=t4;clear cn;generalize Q (px T qs)=pl at*;clear aq an hC h1 h am ah ai aj ho ac b5 hN a9 aa ag;have n0:δ ((σ w<|γ #[pV a] 104).alloc<|aM k s t u (Y n (Q r) p) l x y m) (J (V w.heap+1) 0)=C (U k):=G.u 0 _ K;have n1:δ ((σ w<|γ #[pV a] 104).alloc<|aM k s t u (Y n (Q r) p) l x y m) (J (V w.heap+1) 1)=C (U s):=G.u 1 _ K;have n2:δ ((σ w<|γ #[pV a] 104).alloc<|aM k s t u (Y n (Q r) p) l x y m) (J (V w.heap+1) 2)=C (U t):=G.u 2 _ K;have n3:δ ((σ w<|γ #[pV a] 104).alloc<|aM k s t u (Y n (Q r) p) l x y m) (J (V w.heap+1) 3)=C (U u):=G.u 3 _ K;have n4:δ ((σ w<|γ #[pV a] 104).alloc<|aM k s t u (Y n (Q r) p) l x y m) (J (V w.heap+1) 4)=C (Y n (Q r) p):=G.u 4 _ K;have n5:δ ((σ w<|γ #[pV a] 104).alloc<|aM k s t u (Y n (Q r) p) l x y m) (J (V w.heap+1) 5)=C (ζ ⟨ν l⟩):=G.u 5 _ K;have n6:δ ((σ w<|γ #[pV a] 104).alloc<|aM k s t u (Y n (Q r) p) l x y m) (J (V w.heap+1) 6)=C (U x):=G.u 6 _ K;have n7:δ ((σ w<|γ #[pV a] 104).alloc<|aM k s t u (Y n (Q r) p) l x y m) (J (V w.heap+1) 7)=C (U y):=G.u 7 _ K;have n8:δ ((σ w<|γ #[pV a] 104).alloc<|aM k s t u (Y n (Q r) p) l x y m) (J (V w.heap+1) 8)=C (U m):=G.u 8 _ K;have l1:V w.heap+1<V ((σ w<|γ #[pV a] 104).alloc<|aM k s t u (Y n (Q r) p) l x y m).heap:=ι;have l2:a<V ((σ w<|γ #[pV a] 104).alloc<|aM k s t u (Y n (Q r) p) l x y m).heap:=à;have l3:f<V ((σ w<|γ #[pV a] 104).alloc<|aM k s t u (Y n (Q r) p) l x y m).heap:=à;have az:δ ((σ w<|γ #[pV a] 104).alloc<|aM k s t u (Y n (Q r) p) l x y m) (J a 2)=C (Y (C<|J f 0) (Q A) F):=A4 a2 t4;have hg:(k==5)=true\/(k==5)=false/\(k==18)=true:=by
  obtain rfl|rfl:=hk
  .exact .inl K
  .exact .inr ⟨K,K⟩
 clear hk;obtain g5|⟨g5,g18⟩:=hg;all_goals
  go_in;go_wp2_with fail;generalize ((σ w<|γ #[pV a] 104).alloc<|aM k s t u (Y n (Q r) p) l x y m)=wz at*;try clear x0 x1 x2 x3 x4 x5 x6 x7 x8
  try clear G KA a2
  unfold maxLen at t3;rename_i ϋ aK;have aw:Hid (∀(b1 b2:Value) (j:Int) (z:E),Hid (bM l D=C j/\cV B a (Y (C<|J f 0) (Q A) F) w (ρ z (J f i)<|U j)/\dF b (ρ z (J f i)<|U j) B a (Y (C<|J g 0) (Q N) S) (Y (C<|J f 0) (Q A) F) a4 D (dG A [(i,j)])/\I (λa3=>a3=f) wz (ρ z (J f i)<|U j))->
   Exit.inBlock 0 (Exit.then ϋ<|bodyPost prog Tryz.f126<|aI b w B a (Y (C<|J g 0) (Q N) S) (Y (C<|J f 0) (Q A) F) N P A R) Exit.normal {tmps:=#[pV a,U (i:Int),pV (V w.heap),Ξ,pV<|V w.heap+1,pV a,pV a,pV a,Y (C<|J g 0) (Q N) S,U (i:Int),υ<|C<|J g<|i*9,.agg #[U k,U s,U t,U u,Y n (Q r) p,ζ ⟨ν l⟩,U x,U y,U m],pV<|V w.heap+1,U k,.bool true,b1,b2,pV a,pV a,υ<|C<|J a 2,Y (C<|J f 0) (Q A) F,U (i:Int),pV a,.agg #[U k,U s,U t,U u,Y n (Q r) p,ζ ⟨ν l⟩,U x,U y,U m],U j,υ<|C<|J f i,Ξ,Ξ,Ξ,Ξ,Ξ,Ξ,Ξ,Ξ,Ξ,Ξ,Ξ,Ξ,Ξ,Ξ,Ξ,Ξ,Ξ,Ξ,Ξ,Ξ,Ξ,Ξ,Ξ,Ξ,Ξ,Ξ,Ξ],defers:=[]} (ρ z (J f i)<|U j)):=by
   intro b1 b2 j z L;obtain⟨ar,H,af⟩:=PB.u j z L;have y0:=ar 0 _ a6;have z0:=H 0 _ n0;have z1:=H 1 _ n1;have z2:=H 2 _ n2;have z3:=H 3 _ n3;have z4:=H 4 _ n4;have z5:=H 5 _ n5;have z6:=H 6 _ n6;have z7:=H 7 _ n7;have z8:=H 8 _ n8;have PA:=O af;have lz:=blt z0;clear ar H af FI PB L n0 n1 n2 n3 n4 n5 n6 n7 n8 a6;generalize ρ z (J f i) (U j)=wy at*;try clear ax ay az t4 b0
   go_wp2_with fail;go_region_with (first|(go_at_call 43;refine(PA.u _<|I.drewN _ _ 1).mono ?_;rintro e z ⟨ga,gc,rfl,bc,L⟩)|(go_at_call 88;refine(Hid.u L).mono ?_;rintro e ae (⟨er,ad,rfl,H4⟩|⟨rfl,H4⟩);exact⟨K,H4.u⟩));all_goals go_wp2_with fail
   all_goals go_end0
   all_goals exact H4.u
  clear PB aK;go_region_with (go_at_call 171;refine(FI.u _<|I.drewN _ _ 1).mono ?_;rintro e z (⟨rfl,L⟩|⟨j,rfl,⟨au,u1⟩,u2,u3,u4,⟨u5,u6⟩,L⟩);exact⟨K,L.u⟩);all_goals exact aw.u _ _ _ _ L
end
