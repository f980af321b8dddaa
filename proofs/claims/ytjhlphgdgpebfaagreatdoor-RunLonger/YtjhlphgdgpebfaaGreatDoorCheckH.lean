/-
  A part of the proof.
-/
import Derived.RangeFuncNested
import Derived.RangeFuncBound
import Derived.RangeFuncCalls
import Derived.RangeFuncLeaves
import Derived.RangeFuncBox
import Derived.Shelf.Abstract
import Derived.Shelf.RegionOpen
import Derived.OwnWalkIn
import Derived.TacticsInMore
import Derived.LoopNIn
import Derived.LoopIn
import Derived.OwnWalk
import Derived.Test.YtjhlphgdgpebfaaGreatDoorBindD
set_option maxHeartbeats 0
set_option linter.all false
set_option maxRecDepth 100000
namespace Go.Proofs.YtjhlphgdgpebfaaGreatDoor
open _root_.Array renaming size->V
open Go renaming Addr->è,Calls->μ,step_append_lies->Þ,Value->χ,undef->Ξ,frozen_of_row->ã,cell_of_row->á,maxLen->Γ,heap_setCell_same->ê
open Ending renaming returned->π
open Obj renaming cells->γ
open Value renaming slice->Y,string->ζ,int->Û
open World renaming ownsRow->ξ,cell?->δ,alloc->σ,news_of_block->Æ,setCell->ρ
open List renaming length->Q,replicate->ì
open Option renaming some->C
open Go.Proofs.Tryz
open Go.RowKit Go.Maps
section
variable(w:E)(b e f:Int)(a:uZ)(c:Option è)(d:Nat)(j:ByteArray)(g i h:Int)
def Xc(F:ξ w 0 3 1 (Y c (Q a) d) (Q a)<|C8 a)(hn:Q a<=100000):μ prog 43 #[.agg #[U 6,U b,U e,U f,Y c (Q a) d,ζ j,U g,U i,U h]] w (oE w<|a++[b]):=by
 obtain⟨i0,T,a3,a4,a5⟩:=info_parts Tryz.fy;have A1:=I.alloc No w<|γ #[U 6,U b,U e,U f,Y c (Q a) d,ζ j,U g,U i,U h] 93;have nb:=rY w<|γ #[U 6,U b,U e,U f,Y c (Q a) d,ζ j,U g,U i,U h] 93;have n1:δ (σ w<|γ #[U 6,U b,U e,U f,Y c (Q a) d,ζ j,U g,U i,U h] 93) (J (V w.heap) 1)=C (U b):=cr nb K;have n4:δ (σ w<|γ #[U 6,U b,U e,U f,Y c (Q a) d,ζ j,U g,U i,U h] 93) (J (V w.heap) 4)=C (Y c (Q a) d):=cr nb K;have a2:V (σ w<|γ #[U 6,U b,U e,U f,Y c (Q a) d,ζ j,U g,U i,U h] 93).heap=V w.heap+1:=Array.size_push _;have L:=O A1;have HO:=O F;go_in;go_wp2;generalize (σ w<|γ #[U 6,U b,U e,U f,Y c (Q a) d,ζ j,U g,U i,U h] 93)=m at*;have P:Hid (∀u,I No m u->μ prog 82 #[Y c (Q a) d] u λv s=>∃n o,v=π (Y n (Q a) o)/\Hid (I No u s)/\Hid (ξ s (V w.heap) 3 1 (Y n (Q a) o) (Q a)<|C8 a)/\δ s (J (V w.heap) 1)=C (U b)/\V u.heap<=V s.heap):=λu H=>by
  refine(Hl u a c d (A3 (A3 HO.u L.u λ_ _ x=>x) H λ_ _ x=>x) hn).mono ?_;rintro v s ⟨n,o,rfl,D,F⟩;have:=H.size;exact⟨n,o,K,D,C7 F W,A4 (B6 H D) n1,D.size⟩
 have a9:(m.drew.alloc<|γ #[U b] 3).heap[V w.heap+1]?=C (γ #[U b] 3 (0,0)):=by
  have:=rY m.drew<|γ #[U b] 3;rw[show V m.drew.heap=V w.heap+1 from a2]at this;exact this
 have a6:=O a9;have ab:V (m.drew.alloc<|γ #[U b] 3).heap=V w.heap+2:=by
  show (m.heap.push _).size=_;rw[Array.size_push,a2]
 have N:=O<|B6 (I.drewN No m 1)<|I.alloc No m.drew<|γ #[U b] 3;go_region_law (first
  |(refine Þ _ Θ _ _ _ Θ (V w.heap) 3 i0 (U 0) 1 8 underlying63 T a3 a4 a5 K W (Y n (Q a) o) (Q a) (C8 a) Θ (p.u.alloc _) (J (V l.heap) 0) 1 1 [U b] Θ Θ (Æ<|rY l _) (by simp [Value.oneCell']) W Ä W (by simp;omega) (V l.heap+1) ι ?_;intro A z y r q B a7;have R:Hid (I (λk=>V w.heap<=k) l y):=(I.alloc (λk=>V w.heap<=k) l<|γ #[U b] 3).trans (I.grown q) λk Z x=>(A9 p.u k x.symm).1;have S:=O r;clear r q B)
  |(refine Þ _ Θ _ _ _ Θ (V w.heap) 3 i0 (U 0) 1 8 underlying63 T a3 a4 a5 K W (Y n (Q a) o) (Q a) (C8 a) Θ p.u (J (V w.heap+1) 0) 1 1 [U b] Θ Θ (Æ<|by rw [t.u.block _ W λx=>x];exact a6.u) (by simp [Value.oneCell']) W Ä W W (V l.heap) K ?_;intro A z y r q B a7;have R:Hid (I (λk=>V w.heap<=k) l y):=(I.grown q).mono λk Z x=>(A9 p.u k x.symm).1;have S:=O r;clear r q B)
  |(go_simp;refine (P.u _<|I.drewN _ _ 1).mono ?_;rintro v l ⟨n,o,rfl,t,p,aa,G⟩;have M:=O<|B6 (I.drewN No m 1) t.u;have a8:V w.heap+1<=V l.heap:=ð;clear G)
  |(go_simp;refine (P.u _ N.u).mono ?_;rintro v l ⟨n,o,rfl,t,p,aa,G⟩;have M:=O<|B6 N.u t.u;have a8:V w.heap+1<=V l.heap:=W;clear G));all_goals
  have HR:Hid (oE w (a++[b]) (π<|Y (C<|J A 0) (Q a+1) z) y):=by
   refine⟨C<|J A 0,z,ι,((B6 L.u M.u).mono λ_ _ x=>x.elim).trans R.u (λ_ _ x=>x)|>.mono (λk Z x=>W),?_⟩;rw[qQ,List.length_singleton,T4];exact S.u
  go_wp2;go_ret;exact HR.u
end
def PI{N}{T}{i}{l}(q:oI N T i l)(w:E)(a)(b)(o:ξ w 0 3 1 (Y a (Q l.M) b) (Q l.M)<|C8 l.M)(n:Q l.M<=100000):
 μ prog 43 #[eE l a b] w (oE w<|aD l):=by
 have r:=q.k;unfold eE aD;obtain⟨m,d,e,f,c,s,g,k,j⟩:=l;simp only at*;split
 .rename_i h;exact RY w d e f c a b _ g k j m h o n
 split
 .rename_i h;subst h;exact Gq w d e f c a b _ g k j o n
 split
 .rename_i h;subst h;exact Xc w d e f c a b _ g k j o n
 split
 .rename_i h;exact RX w d e f c a b _ g k j m h
 split
 .rename_i h;exact DV w d e f c a b _ g k j m W
 split
 .rename_i h;exact GV w d e f c a b _ g k j m W
 split
 .rename_i h;split
  .rename_i p;exact DV w d e f c a b _ g k j m W
  .rename_i p;exact GV w d e f c a b _ g k j m W
 .exact RV w d e f c a b _ g k j m W
open Go.Shelf
attribute [local go_sem] Oper.semAt_some
def dn(m k:Nat):List (Fin<|m+1):=(List.range k).map λj=>⟨m-j,W⟩
theorem XK(m k):dn m (k+1)=dn m k++[⟨m-k,W⟩]:=by grind[dn,List.range_succ]
theorem Qd(m k):Q (dn m k)=k:=by simp[dn]
def pO(a b:Nat)(A B:E):Prop:=I (λk=>k=a\/b<=k) A B
theorem pO.trans{a b}{A B c}(h:pO a b A B)(k:pO a b B c):pO a b A c:=I.trans h k λ_ _ x=>x
def jT(a:E)(g:Nat)(b:Nd)(j:Nat)(c:Option è)(d:Nat):Prop:=δ a (J g<|j*9)=C (U b.x)/\δ a (J g<|j*9+1)=C (U b.a)/\δ a (J g<|j*9+2)=C (U b.b)/\δ a (J g<|j*9+3)=C (U b.c)/\δ a (J g<|j*9+4)=C (Y c (Q b.M) d)/\δ a (J g<|j*9+5)=C (ζ ⟨b.text.toArray⟩)/\δ a (J g<|j*9+6)=C (U b.n)/\δ a (J g<|j*9+7)=C (U b.ty)/\δ a (J g<|j*9+8)=C (U b.at')
theorem pO.cell{a b}{A B}(h:pO a b A B){q o}{v}(f:q≠a)(e:q<b)(c:A.cell? (J q o)=C v):B.cell? (J q o)=C v:=by
 have d:=blt c;rw[World.cell?_of_block<|I.block h q d W];omega
theorem jT.kp{c d}{A B}(h:pO c d A B){g j}{i}{e}{f}(b:g≠c)(a:g<d)(t:jT A g i j e f):jT B g i j e f:=by
 obtain⟨k,l,m,n,o,p,q,r,s⟩:=t;exact⟨h.cell b a k,h.cell b a l,h.cell b a m,h.cell b a n,h.cell b a o,h.cell b a p,h.cell b a q,h.cell b a r,h.cell b a s⟩
def Ql(F)(n)(hF:F.fn 96)(a3:F.round=none)(hn:1<=n)(l f g D m h i)(hm:m<=1200)(s:Nat->Nd)(w:Nat->Option è)(y:Nat->Nat)(H:f≠h)(L:f<i)(T:g≠h)(Z:g<i)(d t:List (Fin<|m+1)->E->Prop)
 (u:∀c x a,d c a->Q c<m+1->YieldAt F (n-1) prog l #[U x.1,eE (s x.1) (w x.1)<|y x.1] a λe b=>
  (e=π (.bool true)/\d (c++[x]) b/\pO h i a b)\/(e=π (.bool false)/\t (c++[x]) b))
 (a) (M:δ a (J f 0)=C (Y (C<|J g 0) (m+1) D)) (R:∀j,j<m+1->jT a g (s j) j (w j) (y j)) (G:d [] a):
 CallsIn F n prog 96 #[.func (.yield l) #[] #[],pV f] a λe b=>(∃v,e=π v)/\
  ((∃z,z=dn m (m+1)/\d z b)\/(∃c,True/\t c b)):=by
 unfold eE at u;refine callsIn_of_wp func96 K hF ?_ a3;simp only[ntmps96,List.size_toArray,jQ,xQ,Nat.reduceAdd,Nat.reduceSub,Array.replicate_succ,Array.replicate_zero,List.push_toArray,List.append_toArray,uY,jZ];gi_wp2;gi_loopw [3] (λv wr=>∃k:Nat,k<=m+1/\v=U (m-k)/\d (dn m k) wr/\pO h i a wr) (λv _=>(intOf v+1).toNat);case atStart=>exact⟨0,wQ _,ç,G,I.refl _ _⟩
 case round=>
  obtain⟨k,hk,rfl,N,o⟩:=hrel;have aa:=o.cell H L M;by_cases ae:k<m+1
  .obtain⟨p,hp⟩:∃p,p+k=m:=⟨m-k,W⟩;have q:p<m+1:=W;have S:dn m (k+1)=dn m k++[⟨p,q⟩]:=by
    rw[XK];have:m-k=p:=W;simp only[this]
   obtain⟨a7,a8,a9,c3,c4,c5,c6,c7,c8⟩:=(R p q).kp o T Z;obtain⟨fn,af,a5,a6,hy,P⟩:=u (dn m k) ⟨p,q⟩ wr N (by grind[Qd]);dsimp only at hy;have r:(m-k)=(p:Int):=W;have A:=O S;have B:=O o;rw[r];generalize s p=a4 at*;obtain⟨kd,va,vb,vc,ls,tx,vn,vt,vp⟩:=a4;simp only at*;gi_wp2;refine P.mono ?_;rintro e W3 (⟨rfl,ac,a2⟩|⟨rfl,ad⟩)
   .gi_wp2;go_roundw;case rel=>exact⟨k+1,W,ç,by rw[A.u];omega,B.u.trans a2⟩
    simp_all[measure,intOf]
   .gi_wp2;refine bodyPost_ret (results_none K _ _ _) K ?_;grind
  .obtain rfl:k=m+1:=W;have r:(m-((m+1:Nat):Int))=-1:=W;rw[r];gi_wp2;go_end0;grind
def jT.below{d}{A B:E}(h:Below d A B){g j}{e}{b}{c}(t:g<d)(s:jT A g e j b c):jT B g e j b c:=by
 have a:∀{o:Nat} {v:χ},A.cell? (J g o)=C v->B.cell? (J g o)=C v:=λ{o v} u=>(h.cell t).trans u;obtain⟨f,i,k,l,m,n,p,q,r⟩:=s;exact⟨a f,a i,a k,a l,a m,a n,a p,a q,a r⟩
def Zs(F:Fence)(n)(hF:F.fn 96)(L:F.round=none)(H:1<=n)(a g h m b c)(G:m<=1200)(f:Nat->Nd)(d:Nat->Option è)(e:Nat->Nat)(r:a≠b)(s:a<c)(z:g≠b)(A:g<c)(w:E)(u:a<V w.heap)(B:g<V w.heap)
 (t:δ w (J a 0)=C (Y (C<|J g 0) (m+1) h)) (y:∀j,j<m+1->jT w g (f j) j (d j) (e j)):
 SeqStopsK F n prog 96 #[pV a] (λx:Fin (m+1)=>#[Û .i64 (x.1:Int),eE (f x.1) (d x.1)<|e x.1]) (pO b c) (λM=>M=dn m (m+1)) (λ_=>True) (m+1) w:=λl k o p i _ _ v q=>
 Ql F n hF L H l a g h m b c G f d e r s z A k o v p ((i.cell u).trans t) (λj D=>(y j D).below i B) q
def xy(F)(n)(hF:F.fn 51)(d:F.round=none)(a)(c b)(w:E):
 CallsIn F n prog 51 #[Y a c b] w λe f=>e=π (.func (.func 96) #[] #[pV (V w.heap)])/\f=σ w (γ #[Y a c b] 58):=by
 refine callsIn_of_wp func51 K hF ?_ d;simp only[ntmps51,List.size_toArray,jQ,xQ,Nat.reduceAdd,Nat.reduceSub,Array.replicate_succ,Array.replicate_zero,List.push_toArray,List.append_toArray,uY,jZ];gi_wp2;go_ret;exact⟨K,K⟩
theorem XU(N)(m)(b:Q N=m+1):∀k,k<=m+1->(dn m k).foldl (λa x=>eP N a x.1) (ì (Q N) 0)=mU N k
 |0,_=>K
 |k+1,h=>by
  rw[XK,List.foldl_append,XU N m b k W,mU];grind
attribute [local go_sem] Oper.semAt_some
def ĺ{N}{c8}(hf:∀i (b5),oI N c8 i N[i])(c7:∀i (b5:i<Q N),Q N[i].M<=1200)(m)(hN:Q N=m+1)(hm:m<=1200)(w)(g o)(hg:g<V w.heap)(la:Nat->Option è)(lc:Nat->Nat)(hc:∀j,j<m+1->jT w g (aA N j) j (la j) (lc j))(c6:∀j,j<m+1->ξ w 0 3 1 (Y (la j) (Q (aA N j).M)<|lc j) (Q (aA N j).M) (C8 (aA N j).M)):
 μ prog 26 #[Y (C<|J g 0) (m+1) o] w λe w'=>∃fa fc,e=π (Y fa (m+1) fc)/\I No w w'/\ξ w' (V w.heap) 3 1 (Y fa (m+1) fc) (m+1) (C8<|kC N):=by
 refine(callsIn_wide (n:=6)).1 ?_;obtain⟨i0,ce,ck,cl,cv⟩:=info_parts Tryz.fy;obtain⟨f,bo,aw,bj⟩:=run_make_full (P:=prog) (σ w<|γ #[Y (C<|J g 0) (m+1) o] 58) (V w.heap) 63 3 i0 (U 0) 1 underlying63 ce ck cl .i64 .i64 (m+1) θ Ä ι;have ch:V (σ w<|γ #[Y (C<|J g 0) (m+1) o] 58).heap=V w.heap+1:=Array.size_push _;rw[ch]at bo aw;have cb:((m+1:Nat):Int)=(m:Int)+1:=W;rw[cb]at bo;have bl:=rY w<|γ #[Y (C<|J g 0) (m+1) o] 58;have be:f.heap[V w.heap]?=C (γ #[Y (C<|J g 0) (m+1) o] 58 (0,0)):=by
  rw[bj.block _ ι ι];exact bl
 have c9:δ f (J (V w.heap) 0)=C (Y (C<|J g 0) (m+1) o):=cr be K;have cu:V w.heap+2<=V f.heap:=by
  have:=(A9 aw (V w.heap+1) K);obtain⟨_,am,M⟩:=this;have:=(aG M);omega
 have bA:Boxed (f.alloc<|γ #[Y (C<|J (V w.heap+1) 0) (m+1)<|m+1] 63) (V f.heap) 63 (Y (C<|J (V w.heap+1) 0) (m+1)<|m+1):=Boxed.new f _ _;have bL:Boxed (f.alloc<|γ #[Y (C<|J (V w.heap+1) 0) (m+1)<|m+1] 63) (V w.heap) 58 (Y (C<|J g 0) (m+1) o):=Boxed.alloc (show Boxed f _ _ _ from be) _;have ca:=bL.cell;refine callsIn_of_wp_marks func26 K trivial ?_ K;simp only[ntmps26,List.size_toArray,jQ,xQ,Nat.reduceAdd,Nat.reduceSub,Array.replicate_succ,Array.replicate_zero,List.push_toArray,List.append_toArray,uY,jZ];gi_wp2_with (refine⟨trivial,?_⟩;gi_at_call 51;refine(xy _ _ trivial K _ _ _ _).mono ?_;rintro e w' ⟨rfl,rfl⟩);have bS:=Boxed.new (f.alloc<|γ #[Y (C<|J (V w.heap+1) 0) (m+1)<|m+1] 63) 58<|Y (C<|J g 0) (m+1) o;rw[World.size_alloc]at bS;have bx:=bA.alloc<|γ #[Y (C<|J g 0) (m+1) o] 58;have bz:=bL.alloc<|γ #[Y (C<|J g 0) (m+1) o] 58;have bf:I No w ((f.alloc<|γ #[Y (C<|J (V w.heap+1) 0) (m+1)<|m+1] 63).alloc<|γ #[Y (C<|J g 0) (m+1) o] 58):=B6 (B6 (B6 (I.alloc No w _)<|(I.grown bj).mono λ_ _ x=>θ)<|I.alloc No f _)<|I.alloc No _ _;have c3:ξ ((f.alloc<|γ #[Y (C<|J (V w.heap+1) 0) (m+1)<|m+1] 63).alloc<|γ #[Y (C<|J g 0) (m+1) o] 58) (V w.heap) 3 1 (Y (C<|J (V w.heap+1) 0) (m+1)<|m+1) (m+1) (C8<|ì (Q N) 0):=by
  have e:(madeCells (Û IntKind.i64 0).cells<|(m+1)*1).toList=C8 (ì (Q N) 0):=by
   rw[hN];apply List.ext_getElem
   .grind[madeCells,C8]
   .simp_all[madeCells,C8,Value.cells,Nat.mod_one]
  rw[e]at aw;exact(aw.alloc _).alloc _
 have ci:V ((f.alloc<|γ #[Y (C<|J (V w.heap+1) 0) (m+1)<|m+1] 63).alloc<|γ #[Y (C<|J g 0) (m+1) o] 58).heap=V f.heap+2:=ι;obtain⟨W0,c4⟩:∃W0,(f.alloc<|γ #[Y (C<|J (V w.heap+1) 0) (m+1)<|m+1] 63).alloc (γ #[Y (C<|J g 0) (m+1) o] 58)=W0:=⟨_,K⟩;rw[c4]at bS bx bz bf c3 ci⊢;clear c4 bA bL c9 ca bl be bo aw bj;refine wpIn_rangeFunc_ownH K W (gf:=96) (lb:=#[pV<|V f.heap+1]) K trivial (enters_of func96 Θ K)
  (Zs _ _ trivial K W (V f.heap+1) g o m (V w.heap+1) (V f.heap+2) hm (λj=>aA N j) la lc W W W W W0 W W bS.cell λj hj=>(hc j hj).below (I.ep bf (λ_ _ x=>x.elim)<|vQ _) hg) pO.trans
  (λb ap bc o' hl b5 _ _=>⟨K,K,K,ι,λk _ F=>World.putObj_heap_other λe=>F W⟩) (Below.refl _ _) (λ_=>K)
  (λal b=>(Boxed b (V w.heap) 58 (Y (C<|J g 0) (m+1) o)/\Boxed b (V f.heap) 63 (Y (C<|J (V w.heap+1) 0) (m+1)<|m+1))/\(ξ b (V w.heap) 3 1 (Y (C<|J (V w.heap+1) 0) (m+1)<|m+1) (m+1) (C8<|al.foldl (λc x=>eP N c x.1)<|ì (Q N) 0)/\I No w b))
  (λ_ _ _=>False)
  (λal b W' bs ay an hr=>by
   obtain⟨⟨h1,L⟩,s,h4⟩:=ay;refine⟨⟨boxed_own _ _ (λ(_:Unit)=>_) () b W' bs h1 an λbr e=>(hr br e).2,boxed_own _ _ (λ(_:Unit)=>_) () b W' bs L an λbr e=>(hr br e).2⟩,A3 s (I.grown an) λq G x=>?_,h4.trans (I.grown an) λk F x=>θ⟩;obtain⟨_,am,M⟩:=A9 s q G;grind[Obj.isCells])
  (λ_ _ _ _ _ ay _ _=>ay)
  ⟨⟨bz,bx⟩,c3,bf⟩
  (λx a' b=>∃Bx,V f.heap<Bx/\b.heap[Bx]?=C (γ #[U (aA N x.1).x,U (aA N x.1).a,U (aA N x.1).b,U (aA N x.1).c,Y (la x.1) (Q (aA N x.1).M)<|lc x.1,ζ ⟨(aA N x.1).text.toArray⟩,U (aA N x.1).n,U (aA N x.1).ty,U (aA N x.1).at'] 93 (0,0))/\a'={tmps:=#[Y (C<|J g 0) (m+1) o,pV (V w.heap),sN,pV (V f.heap),U (x.1:Int),pV Bx,Ξ,Ξ,Ξ,Y (C<|J g 0) (m+1) o,U<|(m:Int)+1,Y (C<|J (V w.heap+1) 0) (m+1)<|m+1,Y (C<|J g 0) (m+1) o,.func (.func 96) #[] #[pV<|V f.heap+1],U (x.1:Int),eE (aA N x.1) (la x.1)<|lc x.1,Ξ,Ξ,Ξ,Ξ,Ξ,Ξ,Ξ,Ξ,Ξ,Ξ,Ξ,Ξ,Ξ,Ξ,Ξ,Ξ,Ξ,Ξ,Ξ,Ξ,Ξ,Ξ,Ξ,Ξ,Ξ,Ξ,Ξ,Ξ,Ξ],defers:=[]})
  (λx a' _ cm ώ bs ay an hr=>by
   obtain⟨Bx,h1,L,s⟩:=ay;refine⟨Bx,h1,?_,s⟩;rw[an.block Bx (aG L) λe=>?_]<;>grind[Obj.isCells])
  ?assign ?body ?done ?stop;case assign=>
  rintro ap al x b ϋ ⟨⟨h1,L⟩,s,h4⟩ hK;unfold eE at hK⊢;generalize aA N x.1=nd at*;obtain⟨kd,va,vb,vc,ls,tx,vn,vt,vp⟩:=nd;simp only at*;gi_wp2;exact hK _ _ ((KeepsOthers.alloc _ _).from _) (I.alloc _ _ _) ⟨⟨h1.alloc _,L.alloc _⟩,s.alloc _,B6 h4<|I.alloc No _ _⟩ ⟨V b.heap,L.lt,rY b _,K⟩
 case body=>
  rintro ap al ⟨i,hi⟩ a' b hl-⟨⟨b1,b2⟩,ax,b7⟩ ⟨Bx,cs,H,rfl⟩ cg;simp only at*;have bm:i<Q N:=W;have ba:=B7 bm;have bh:=hf i bm;have ct:=c7 i bm;have b9:=c6 i hi;rw[ba]at b9 H⊢;have cj:=b7.size;have ac:Hid (∀az,I (λk=>k=V w.heap+1) b az->μ prog 43 #[eE N[i] (la i)<|lc i] az (oE az<|aD N[i])):=λaz hu=>PI bh az (la i) (lc i) (A3 (A3 b9 b7 λ_ _ x=>x) hu (λq G x=>by
   have x':=x;have:=(b9.lt q G).2;omega)) W;have b3:=O<|Gv bh;obtain⟨c,bg⟩:∃c,al.foldl (λc x=>eP N c x.1) (ì (Q N) 0)=c:=⟨_,K⟩;have aq:Hid ((al++[(⟨i,hi⟩:Fin<|m+1)]).foldl (λc x=>eP N c x.1) (ì (Q N) 0)=bK (jC N c i) (lT N c i) (aD N[i])):=by
   show _=_;rw[List.foldl_append,bg];simp only[List.foldl_cons,List.foldl_nil,eP,ba]
  rw[bg]at ax;clear bg;have b6:Q c=m+1:=by
   have:=ax.1;simpa[C8]using this
  have bb:ξ b (V w.heap) 3 1 (Y (C<|J (V w.heap+1) 0) (Q c)<|m+1) (Q c) (C8 c):=by rw[b6];exact ax
  obtain⟨gx,D,b8,a8,a9,v1⟩:=D6 (j:=i) (C7 bb<|wQ _) (show i<Q c by omega);have a7:gx=V w.heap+1:=by
   have:=xZ D;exact(congrArg Addr.block this).symm
  subst a7;have ad:b.frozen? (J (V w.heap+1) i)=false:=by
   obtain⟨_,am,M⟩:=A9 bb (V w.heap+1) K;exact ã b _ i _ _ M
  have T:=O<|wP bb i<|-1;rw[b6]at T;have cc:c.getD i 0=c[i]'W:=by rw[lQ,gQ<|show i<Q c by omega];rfl
  have cd:(c.set i<|-1).getD i 0=-1:=by rw[lQ,List.getElem?_set_self<|show i<Q c by omega];rfl
  have HW:Hid ((i=m->N[i].x=6->jC N c i=c.set i (-1)/\lT N c i=(i:Int))/\(i=m->N[i].x≠6->jC N c i=c.set i (-1)/\lT N c i=-1)/\(i≠m->N[i].x=6->jC N c i=c/\lT N c i=(i:Int))/\(i≠m->N[i].x≠6->jC N c i=c/\lT N c i=c[i]'W)):=by
   unfold lT jC;rw[ba,hN];refine⟨λe k=>?_,λe k=>?_,λe k=>?_,λe k=>?_⟩
   .grind
   .grind
   .grind
   .grind
  have cL:=b1.cell;have cA:=b2.cell;have aa:=O b1;have ab:=O b2;have b0:=O b7;have b4:=O cj;have bw:=O ax;have bv:=O b6;have bu:Hid (Q (c.set i<|-1)=m+1):=by
   show _=_;rw[List.length_set];exact b6
  clear cc cd bh hf c7 c6 hc b9 ax bb b1 b2 b7 D a8 a9 ba cg;generalize aD N[i]=a at*;generalize jC N c i=h at*;generalize lT N c i=ww at*;generalize c[i]'_=ai at*;generalize c.set i (-1)=cn at*;unfold eE at*;generalize N[i]=nd at*;obtain⟨kd,va,vb,vc,ls,tx,vn,vt,vp⟩:=nd;simp only at*;have n0:=á _ _ 0 _ _ _ H;have n1:=á _ _ 1 _ _ _ H;have n2:=á _ _ 2 _ _ _ H;have n3:=á _ _ 3 _ _ _ H;have n4:=á _ _ 4 _ _ _ H;have n5:=á _ _ 5 _ _ _ H;have n6:=á _ _ 6 _ _ _ H;have n7:=á _ _ 7 _ _ _ H;have n8:=á _ _ 8 _ _ _ H;have cq:=(aG H);clear H;by_cases ao:i=m
  .by_cases h6:kd=6
   .skip;obtain⟨e1,e2⟩:=HW.u.1 ao h6;subst e1 e2;have ae:=O bu.u;have Z:Hid (ξ (ρ b (J (V w.heap+1) i)<|U<|-1) (V w.heap) 3 1 (Y (C<|J (V w.heap+1) 0) (m+1)<|m+1) (m+1)<|C8 h):=T.u;have l:Hid (I (λk=>k=V w.heap+1) b<|ρ b (J (V w.heap+1) i)<|U<|-1):=(show I (λk=>k=V w.heap+1) b _ from I.set b (J (V w.heap+1) i) (U<|-1));have af:=O aq.u;have bn:=ao.symm;subst bn;subst h6;gi_wp2;refine⟨trivial,(CallsIn.inRound ap<|callsIn_wide.2<|ac.u _ l.u).mono ?_⟩;rintro e bt ⟨ga,gc,rfl,z,a6⟩;have P:=O<|l.u.trans z λ_ _ x=>x.elim;have R:=O<|C7 a6 l.u.size;have S:=O<|A3 Z.u z λ_ _ x=>x;clear z a6 Z l ac v1 ad cL cA n0 n1 n2 n3 n4 n5 n6 n7 n8;gi_wp2;gi_loopw [35] (λv wr=>∃j:Nat,j<=Q a/\v=U (j:Int)/\Hid (I (λk=>k=V w.heap+1) b wr)/\Hid (wr.ownsRow (V w.heap) 3 1 (Y (C<|J (V w.heap+1) 0) (m+1)<|m+1) (m+1)<|C8<|bK h (m:Int)<|a.take j)/\Hid (wr.ownsRow (V b.heap) 3 1 (Y ga (Q a) gc) (Q a)<|C8 a)) (λv _=>Q a-(intOf v).toNat);case atStart=>exact⟨0,wQ _,K,P,S,R⟩
    case round=>
     obtain⟨j,hj,rfl,CR,n,u⟩:=hrel;clear P S R;have a5:Boxed wr (V f.heap) 63 (Y (C<|J (V w.heap+1) 0) (m+1)<|m+1):=(CR.u.block _ ab.u.lt W).trans ab.u;have cA:=a5.cell;by_cases A:j<Q a
     .obtain⟨p,ah,bi,au,ak,v0⟩:=D6 (C7 u.u<|wQ _) A;subst ah;obtain⟨y,B,bq⟩:=b3.u a[j]<|mQ A;rw[B]at v0;have a3:Hid (bK h (m:Int) (a.take<|j+1)=(bK h (m:Int)<|a.take j).set y (m:Int)):=by
       show _=_;rw[nQ A,IY,B,tQ]
      have r:Q (bK h (m:Int)<|a.take j)=m+1:=by rw[zI];exact ae.u
      have a2:=O r;obtain⟨d,a4⟩:∃d,bK h (m:Int) (a.take j)=d:=⟨_,K⟩;rw[a4]at n a3 a2 r;clear a4;have t:Hid (wr.ownsRow (V w.heap) 3 1 (Y (C<|J (V w.heap+1) 0) (Q d)<|m+1) (Q d)<|C8 d):=by
       show ξ _ _ _ _ _ _ _;rw[r];exact n.u
      obtain⟨gx,D,b8,a8,a9,v1⟩:=D6 (j:=y) (C7 t.u<|wQ _) (show y<Q d by omega);have a7:gx=V w.heap+1:=by
       have:=xZ D;exact(congrArg Addr.block this).symm
      subst a7;have ad:wr.frozen? (J (V w.heap+1) y)=false:=by
       obtain⟨_,am,M⟩:=A9 t.u (V w.heap+1) K;exact ã wr _ y _ _ M
      have T:=O<|wP t.u y (m:Int);have ag:Hid (p≠V w.heap+1):=by
       show p≠V w.heap+1;have h1:=(u.u.lt p K).1;have L:=b4.u;omega
      unfold Γ at ak;have bp:(y:Int)<(m:Int)+1:=W;generalize d[y]'_=av at*;clear r B D a8 a9;gi_wp2;go_roundw;case rel=>exact⟨j+1,W,ç,(show I (λk=>k=V w.heap+1) b _ from CR.u.trans (I.set wr (J (V w.heap+1) y) _) (λ_ _ x=>x)),(show ξ _ _ _ _ _ _ _ from by
       rw[a3.u];have:=T.u;rw[a2.u]at this;omega),A3 u.u (I.set wr (J (V w.heap+1) y) _) (λq G x=>by
        have x':q=V w.heap+1:=x;have s:p=q:=xZ G;exact ag.u<|s.trans x')⟩
      grind[intOf]
     .have aj:j=Q a:=W;subst aj;rw[vZ]at n;gi_wp2;refine⟨⟨CR.u.size,λk bc F ho hn=>by rw[CR.u.block k (aG ho) W];omega⟩,CR.u.mono λk _ x=>.inl x,⟨(CR.u.block _ aa.u.lt W).trans aa.u,a5⟩,?_,b0.u.trans CR.u λk F x=>W⟩;rw[af.u];exact n.u
   .skip;obtain⟨e1,e2⟩:=HW.u.2.1 ao h6;subst e1;rw[e2]at aq;have ae:=O bu.u;have Z:Hid (ξ (ρ b (J (V w.heap+1) i)<|U<|-1) (V w.heap) 3 1 (Y (C<|J (V w.heap+1) 0) (m+1)<|m+1) (m+1)<|C8 h):=T.u;have l:Hid (I (λk=>k=V w.heap+1) b<|ρ b (J (V w.heap+1) i)<|U<|-1):=(show I (λk=>k=V w.heap+1) b _ from I.set b (J (V w.heap+1) i) (U<|-1));have af:=O aq.u;have bn:=ao.symm;subst bn;have cf:(kd==6)=false:=by simpa using h6
    clear h6;gi_wp2;refine⟨trivial,(CallsIn.inRound ap<|callsIn_wide.2<|ac.u _ l.u).mono ?_⟩;rintro e bt ⟨ga,gc,rfl,z,a6⟩;have P:=O<|l.u.trans z λ_ _ x=>x.elim;have R:=O<|C7 a6 l.u.size;have S:=O<|A3 Z.u z λ_ _ x=>x;clear z a6 Z l ac v1 ad cL cA n0 n1 n2 n3 n4 n5 n6 n7 n8;gi_wp2;gi_loopw [35] (λv wr=>∃j:Nat,j<=Q a/\v=U (j:Int)/\Hid (I (λk=>k=V w.heap+1) b wr)/\Hid (wr.ownsRow (V w.heap) 3 1 (Y (C<|J (V w.heap+1) 0) (m+1)<|m+1) (m+1)<|C8<|bK h (-1)<|a.take j)/\Hid (wr.ownsRow (V b.heap) 3 1 (Y ga (Q a) gc) (Q a)<|C8 a)) (λv _=>Q a-(intOf v).toNat);case atStart=>exact⟨0,wQ _,K,P,S,R⟩
    case round=>
     obtain⟨j,hj,rfl,CR,n,u⟩:=hrel;clear P S R;have a5:Boxed wr (V f.heap) 63 (Y (C<|J (V w.heap+1) 0) (m+1)<|m+1):=(CR.u.block _ ab.u.lt W).trans ab.u;have cA:=a5.cell;by_cases A:j<Q a
     .obtain⟨p,ah,bi,au,ak,v0⟩:=D6 (C7 u.u<|wQ _) A;subst ah;obtain⟨y,B,bq⟩:=b3.u a[j]<|mQ A;rw[B]at v0;have a3:Hid (bK h (-1) (a.take<|j+1)=(bK h (-1)<|a.take j).set y (-1)):=by
       show _=_;rw[nQ A,IY,B,tQ]
      have r:Q (bK h (-1)<|a.take j)=m+1:=by rw[zI];exact ae.u
      have a2:=O r;obtain⟨d,a4⟩:∃d,bK h (-1) (a.take j)=d:=⟨_,K⟩;rw[a4]at n a3 a2 r;clear a4;have t:Hid (wr.ownsRow (V w.heap) 3 1 (Y (C<|J (V w.heap+1) 0) (Q d)<|m+1) (Q d)<|C8 d):=by
       show ξ _ _ _ _ _ _ _;rw[r];exact n.u
      obtain⟨gx,D,b8,a8,a9,v1⟩:=D6 (j:=y) (C7 t.u<|wQ _) (show y<Q d by omega);have a7:gx=V w.heap+1:=by
       have:=xZ D;exact(congrArg Addr.block this).symm
      subst a7;have ad:wr.frozen? (J (V w.heap+1) y)=false:=by
       obtain⟨_,am,M⟩:=A9 t.u (V w.heap+1) K;exact ã wr _ y _ _ M
      have T:=O<|wP t.u y<|-1;have ag:Hid (p≠V w.heap+1):=by
       show p≠V w.heap+1;have h1:=(u.u.lt p K).1;have L:=b4.u;omega
      unfold Γ at ak;have bp:(y:Int)<(m:Int)+1:=W;generalize d[y]'_=av at*;clear r B D a8 a9;gi_wp2;go_roundw;case rel=>exact⟨j+1,W,ç,(show I (λk=>k=V w.heap+1) b _ from CR.u.trans (I.set wr (J (V w.heap+1) y) _) (λ_ _ x=>x)),(show ξ _ _ _ _ _ _ _ from by
       rw[a3.u];have:=T.u;rw[a2.u]at this;omega),A3 u.u (I.set wr (J (V w.heap+1) y) _) (λq G x=>by
        have x':q=V w.heap+1:=x;have s:p=q:=xZ G;exact ag.u<|s.trans x')⟩
      grind[intOf]
     .have aj:j=Q a:=W;subst aj;rw[vZ]at n;gi_wp2;refine⟨⟨CR.u.size,λk bc F ho hn=>by rw[CR.u.block k (aG ho) W];omega⟩,CR.u.mono λk _ x=>.inl x,⟨(CR.u.block _ aa.u.lt W).trans aa.u,a5⟩,?_,b0.u.trans CR.u λk F x=>W⟩;rw[af.u];exact n.u
  .by_cases h6:kd=6
   .skip;obtain⟨e1,e2⟩:=HW.u.2.2.1 ao h6;subst e1 e2;have ae:=O bv.u;have Z:Hid (ξ b (V w.heap) 3 1 (Y (C<|J (V w.heap+1) 0) (m+1)<|m+1) (m+1)<|C8 h):=bw.u;have l:Hid (I (λk=>k=V w.heap+1) b b):=I.refl _ _;have af:=O aq.u;have au:((i:Int)==(m:Int))=false:=à;subst h6;gi_wp2;refine⟨trivial,(CallsIn.inRound ap<|callsIn_wide.2<|ac.u _ l.u).mono ?_⟩;rintro e bt ⟨ga,gc,rfl,z,a6⟩;have P:=O<|l.u.trans z λ_ _ x=>x.elim;have R:=O<|C7 a6 l.u.size;have S:=O<|A3 Z.u z λ_ _ x=>x;clear z a6 Z l ac v1 ad cL cA n0 n1 n2 n3 n4 n5 n6 n7 n8;gi_wp2;gi_loopw [35] (λv wr=>∃j:Nat,j<=Q a/\v=U (j:Int)/\Hid (I (λk=>k=V w.heap+1) b wr)/\Hid (wr.ownsRow (V w.heap) 3 1 (Y (C<|J (V w.heap+1) 0) (m+1)<|m+1) (m+1)<|C8<|bK h (i:Int)<|a.take j)/\Hid (wr.ownsRow (V b.heap) 3 1 (Y ga (Q a) gc) (Q a)<|C8 a)) (λv _=>Q a-(intOf v).toNat);case atStart=>exact⟨0,wQ _,K,P,S,R⟩
    case round=>
     obtain⟨j,hj,rfl,CR,n,u⟩:=hrel;clear P S R;have a5:Boxed wr (V f.heap) 63 (Y (C<|J (V w.heap+1) 0) (m+1)<|m+1):=(CR.u.block _ ab.u.lt W).trans ab.u;have cA:=a5.cell;by_cases A:j<Q a
     .obtain⟨p,ah,bi,au,ak,v0⟩:=D6 (C7 u.u<|wQ _) A;subst ah;obtain⟨y,B,bq⟩:=b3.u a[j]<|mQ A;rw[B]at v0;have a3:Hid (bK h (i:Int) (a.take<|j+1)=(bK h (i:Int)<|a.take j).set y (i:Int)):=by
       show _=_;rw[nQ A,IY,B,tQ]
      have r:Q (bK h (i:Int)<|a.take j)=m+1:=by rw[zI];exact ae.u
      have a2:=O r;obtain⟨d,a4⟩:∃d,bK h (i:Int) (a.take j)=d:=⟨_,K⟩;rw[a4]at n a3 a2 r;clear a4;have t:Hid (wr.ownsRow (V w.heap) 3 1 (Y (C<|J (V w.heap+1) 0) (Q d)<|m+1) (Q d)<|C8 d):=by
       show ξ _ _ _ _ _ _ _;rw[r];exact n.u
      obtain⟨gx,D,b8,a8,a9,v1⟩:=D6 (j:=y) (C7 t.u<|wQ _) (show y<Q d by omega);have a7:gx=V w.heap+1:=by
       have:=xZ D;exact(congrArg Addr.block this).symm
      subst a7;have ad:wr.frozen? (J (V w.heap+1) y)=false:=by
       obtain⟨_,am,M⟩:=A9 t.u (V w.heap+1) K;exact ã wr _ y _ _ M
      have T:=O<|wP t.u y (i:Int);have ag:Hid (p≠V w.heap+1):=by
       show p≠V w.heap+1;have h1:=(u.u.lt p K).1;have L:=b4.u;omega
      unfold Γ at ak;have bp:(y:Int)<(m:Int)+1:=W;generalize d[y]'_=av at*;clear r B D a8 a9;gi_wp2;go_roundw;case rel=>exact⟨j+1,W,ç,(show I (λk=>k=V w.heap+1) b _ from CR.u.trans (I.set wr (J (V w.heap+1) y) _) (λ_ _ x=>x)),(show ξ _ _ _ _ _ _ _ from by
       rw[a3.u];have:=T.u;rw[a2.u]at this;omega),A3 u.u (I.set wr (J (V w.heap+1) y) _) (λq G x=>by
        have x':q=V w.heap+1:=x;have s:p=q:=xZ G;exact ag.u<|s.trans x')⟩
      grind[intOf]
     .have aj:j=Q a:=W;subst aj;rw[vZ]at n;gi_wp2;refine⟨⟨CR.u.size,λk bc F ho hn=>by rw[CR.u.block k (aG ho) W];omega⟩,CR.u.mono λk _ x=>.inl x,⟨(CR.u.block _ aa.u.lt W).trans aa.u,a5⟩,?_,b0.u.trans CR.u λk F x=>W⟩;rw[af.u];exact n.u
   .skip;obtain⟨e1,e2⟩:=HW.u.2.2.2 ao h6;subst e1 e2;have ae:=O bv.u;have Z:Hid (ξ b (V w.heap) 3 1 (Y (C<|J (V w.heap+1) 0) (m+1)<|m+1) (m+1)<|C8 h):=bw.u;have l:Hid (I (λk=>k=V w.heap+1) b b):=I.refl _ _;have af:=O aq.u;have au:((i:Int)==(m:Int))=false:=à;have cf:(kd==6)=false:=by simpa using h6
    clear h6;gi_wp2;refine⟨trivial,(CallsIn.inRound ap<|callsIn_wide.2<|ac.u _ l.u).mono ?_⟩;rintro e bt ⟨ga,gc,rfl,z,a6⟩;have P:=O<|l.u.trans z λ_ _ x=>x.elim;have R:=O<|C7 a6 l.u.size;have S:=O<|A3 Z.u z λ_ _ x=>x;clear z a6 Z l ac v1 ad cL cA n0 n1 n2 n3 n4 n5 n6 n7 n8;gi_wp2;gi_loopw [35] (λv wr=>∃j:Nat,j<=Q a/\v=U (j:Int)/\Hid (I (λk=>k=V w.heap+1) b wr)/\Hid (wr.ownsRow (V w.heap) 3 1 (Y (C<|J (V w.heap+1) 0) (m+1)<|m+1) (m+1)<|C8<|bK h ww<|a.take j)/\Hid (wr.ownsRow (V b.heap) 3 1 (Y ga (Q a) gc) (Q a)<|C8 a)) (λv _=>Q a-(intOf v).toNat);case atStart=>exact⟨0,wQ _,K,P,S,R⟩
    case round=>
     obtain⟨j,hj,rfl,CR,n,u⟩:=hrel;clear P S R;have a5:Boxed wr (V f.heap) 63 (Y (C<|J (V w.heap+1) 0) (m+1)<|m+1):=(CR.u.block _ ab.u.lt W).trans ab.u;have cA:=a5.cell;by_cases A:j<Q a
     .obtain⟨p,ah,bi,au,ak,v0⟩:=D6 (C7 u.u<|wQ _) A;subst ah;obtain⟨y,B,bq⟩:=b3.u a[j]<|mQ A;rw[B]at v0;have a3:Hid (bK h ww (a.take<|j+1)=(bK h ww<|a.take j).set y ww):=by
       show _=_;rw[nQ A,IY,B,tQ]
      have r:Q (bK h ww<|a.take j)=m+1:=by rw[zI];exact ae.u
      have a2:=O r;obtain⟨d,a4⟩:∃d,bK h ww (a.take j)=d:=⟨_,K⟩;rw[a4]at n a3 a2 r;clear a4;have t:Hid (wr.ownsRow (V w.heap) 3 1 (Y (C<|J (V w.heap+1) 0) (Q d)<|m+1) (Q d)<|C8 d):=by
       show ξ _ _ _ _ _ _ _;rw[r];exact n.u
      obtain⟨gx,D,b8,a8,a9,v1⟩:=D6 (j:=y) (C7 t.u<|wQ _) (show y<Q d by omega);have a7:gx=V w.heap+1:=by
       have:=xZ D;exact(congrArg Addr.block this).symm
      subst a7;have ad:wr.frozen? (J (V w.heap+1) y)=false:=by
       obtain⟨_,am,M⟩:=A9 t.u (V w.heap+1) K;exact ã wr _ y _ _ M
      have T:=O<|wP t.u y ww;have ag:Hid (p≠V w.heap+1):=by
       show p≠V w.heap+1;have h1:=(u.u.lt p K).1;have L:=b4.u;omega
      unfold Γ at ak;have bp:(y:Int)<(m:Int)+1:=W;generalize d[y]'_=av at*;clear r B D a8 a9;gi_wp2;go_roundw;case rel=>exact⟨j+1,W,ç,(show I (λk=>k=V w.heap+1) b _ from CR.u.trans (I.set wr (J (V w.heap+1) y) _) (λ_ _ x=>x)),(show ξ _ _ _ _ _ _ _ from by
       rw[a3.u];have:=T.u;rw[a2.u]at this;omega),A3 u.u (I.set wr (J (V w.heap+1) y) _) (λq G x=>by
        have x':q=V w.heap+1:=x;have s:p=q:=xZ G;exact ag.u<|s.trans x')⟩
      grind[intOf]
     .have aj:j=Q a:=W;subst aj;rw[vZ]at n;gi_wp2;refine⟨⟨CR.u.size,λk bc F ho hn=>by rw[CR.u.block k (aG ho) W];omega⟩,CR.u.mono λk _ x=>.inl x,⟨(CR.u.block _ aa.u.lt W).trans aa.u,a5⟩,?_,b0.u.trans CR.u λk F x=>W⟩;rw[af.u];exact n.u
 case done=>
  rintro bd zs b hD rfl ⟨⟨h1,L⟩,s,h4⟩ hK;have cA:=L.cell;gi_wp2;refine⟨ι,.inl ⟨_,_,K,run_takeDeferred hK,?_⟩⟩;have c5:I (λk=>k=bd) b (b.putObj bd<|.deferred none):=⟨K,K,K,ι,λk _ F=>World.putObj_heap_other λe=>F e⟩;refine⟨_,results_tmp K _ _ _,_,_,K,h4.trans c5 λk F x=>W,?_⟩;have:=A3 s c5 (λq G x=>by
   have x':=x;have:V w.heap+1=q:=xZ G;omega);rw[XU N m hN (m+1)<|vQ _]at this;grind[kC]
 case stop=>
  rintro bd cp al b _ _ b5 _;exact b5.elim
def VI{N}{T}(u:∀i (h),oI N T i N[i])(y:∀i (h:i<Q N),Q N[i].M<=1200)(t:0<Q N)(D:Q N<=1200)(w)(q)(p:cU w q N):
 μ prog 26 #[q] w λe r=>∃k,e=π k/\I No w r/\ξ r (V w.heap) 3 1 k (Q N) (C8<|kC N):=by
 obtain⟨m,l⟩:∃m,Q N=m+1:=⟨Q N-1,W⟩;obtain⟨g,B,_,_,n,v,_⟩:=p.at (Below.refl _ _) 0 t;have b:∀j:Nat,∃(c:Option è) (d:Nat),j<m+1->jT w g (aA N j) j c d/\ξ w 0 3 1 (Y c (Q (aA N j).M) d) (Q (aA N j).M) (C8 (aA N j).M):=λj=>by
  by_cases a:j<Q N
  .obtain⟨s,F,c,d,o,_,_,_,A,z,_⟩:=p.at (Below.refl _ _) j a;rw[n]at o;have x:g=s:=by
    injection o with f _ _;injection f with f;exact congrArg Addr.block f
   subst x;refine⟨c,d,λ_=>?_⟩;rw[show aA N j=N[j] from B7 a];exact⟨A,z⟩
  .exact⟨none,0,λh=>W⟩
 subst n;rw[l];refine(ĺ u y m l W w g B v (λj=>(b j).choose) (λj=>(b j).choose_spec.choose) (λj a=>((b j).choose_spec.choose_spec a).1) λj a=>((b j).choose_spec.choose_spec a).2).mono ?_;grind
def sC(w:E)(b:χ)(T:List Ty):Prop:=∃a,ξ w 0 88 4 b (Q T) a/\eN (eI w λ_=>True) T a
def sC.eu{S}{w c}{d}{T}(h:sC w d T)(b:I S w c)(p:∀k f e i,w.heap[k]?=C (γ f e i)->(e=88\/e=156\/e=3)->¬S k):sC c d T:=by
 obtain⟨n,a,j⟩:=h;refine⟨n,A3 a b λg l x=>?_,j.imp<|eI.P b (λg _ _ q m=>?_) λ_ _ _=>trivial⟩
 .obtain⟨_,o,m⟩:=A9 a g l;grind
 grind
def pM.row{w}{c}{v}{N}(h:pM w c v N):cU w v N:=by
 obtain⟨d,a,b⟩:=h;exact⟨d,C7 a<|wQ _,b.imp<|gE.P (I.refl No w) (λ_ _ _ x=>x.elim) λ_ _ _=>trivial⟩
def pL.row{w}{c}{v}{T}(h:pL w c v T):sC w v T:=by
 obtain⟨d,a,b⟩:=h;exact⟨d,C7 a<|wQ _,b.imp<|eI.P (I.refl No w) (λ_ _ _ x=>x.elim) λ_ _ _=>trivial⟩
structure jR(w:E)(N:List Nd)(pb lb mb qb:Nat)(nv:χ)(cs:Array χ)(S:List Ty)(k:Nat)(f:Int->Option Int):Prop where
 ey:cU w nv N
 blk:w.heap[pb]?=C (γ cs 66 (0,0))
 jr:iK w lb mb 4000 S (.map []) λ_=>True
 names:cQ w qb k f
 ne:qb≠mb
section
variable{w e:E}{N:List Nd}{b c mb d:Nat}{g:χ}{a:Array χ}{S:List Ty}{k:Nat}{f:Int->Option Int}
theorem jR.y(h:jR w N b c mb d g a S k f)(i:I No w e):jR e N b c mb d g a S k f:=
 ⟨h.ey.eu i λ_ _ _ _ _ _ x=>x,by rw[i.block b (aG h.blk) λx=>x];exact h.blk,h.jr.y i,h.names.P i λx=>x,h.ne⟩
def jR.put{p}{o}(h:jR w N b c mb d g a S k f)(m:I (λx=>x=d) w e)(s:cQ e d p o):jR e N b c mb d g a S p o:=by
 have n:∀q a i l,w.heap[q]?=C (γ a i l)->q≠d:=λq a i l j x=>by
  subst x;exact h.names.et j
 refine⟨h.ey.eu m λq a i l j _=>n q a i l j,?_,h.jr.P m (h.jr.gm.P m λx=>h.ne x.symm) (λq r i j _=>n q r i _ j) λ_ x _=>x,s,h.ne⟩;rw[m.block b (aG h.blk)<|n _ _ _ _ h.blk];exact h.blk
theorem jR.not(h:jR w N b c mb d g a S k f):∀q a i j,w.heap[q]?=C (γ a i j)->i≠66->q≠b:=λq a i j l m x=>by
 subst x;rw[h.blk]at l;grind
def jR.store{m}(h:jR w N b c mb d g a S k f)(j:I (λx=>x=b) w e)(p:e.heap[b]?=C (γ m 66 (0,0))):jR e N b c mb d g m S k f:=by
 have s:mb≠b:=λx=>by
  subst x;exact h.jr.gm.tag _ _ _ h.blk
 have i:d≠b:=λx=>by
  subst x;exact h.names.et h.blk
 refine⟨h.ey.eu j λq a l o i r=>h.not q a l o i θ,p,h.jr.P j (h.jr.gm.P j s) (λq n l i r=>h.not q n l _ i θ) λ_ x _=>x,h.names.P j i,h.ne⟩
theorem jR.grow{v}{S':List Ty}(h:jR w N b c mb d g a S k f)(u:δ w (J c 0)=C v)(n:I (mH c v) w e)(D:iK e c mb 4000 S' (.map []) λ_=>True):jR e N b c mb d g a S' k f/\(∀(q:Nat) (a) (i) (j),w.heap[q]?=C (γ a i j)->i≠120->i≠88->e.heap[q]?=C (γ a i j))/\I (λx=>c<=x) w e:=by
 obtain⟨F,H,t,o,_⟩:=h.jr.blk;have B:v=F:=by
  rw[á w c 0 _ _ _ t]at u;exact(xZ u).symm
 subst B;have z:∀q (a:Array χ) (i:TypeId) (j:Nat×Nat),w.heap[q]?=C (γ a i j)->i≠120->i≠88->¬mH c v q:=by
  rintro q a i j l p r (rfl|m)
  .grind
  .obtain⟨_,A,s⟩:=A9 o q m.symm;grind
 have y:∀(q:Nat) (a:Array χ) (i:TypeId) (j:Nat×Nat),w.heap[q]?=C (γ a i j)->i≠120->i≠88->e.heap[q]?=C (γ a i j):=λq a i j l p r=>by
  rw[n.block q (aG l)<|z q a i j l p r];omega
 refine⟨⟨h.ey.eu n λq a i j l G=>z q a i j l θ θ,y _ _ _ _ h.blk ε ε,D,h.names.P n ?_,h.ne⟩,y,n.mono ?_⟩
 .rintro(rfl|m)
  .exact h.names.et t
  .obtain⟨_,A,s⟩:=A9 o d m.symm;exact h.names.et s
 .rintro q _ (rfl|m)
  .simp
  .exact(A9 o q m.symm).1
end
def RZ{w}{q}{t}(f:w.heap[q]?=C (γ #[U 0,U 0] t (0,0))):I No w (ρ (ρ w (J q 0)<|U 0) (J q 1)<|U 0):=by
 have a:I (λk=>k=q) w (ρ (ρ w (J q 0)<|U 0) (J q 1)<|U 0):=I.trans (I.set w (J q 0) _) (I.set _ (J q 1) _) λ_ _ x=>x;refine⟨a.os,a.tape,a.output,a.size,λk c _=>?_⟩;by_cases b:k=q
 .subst b;rw[ê _ k 1 _ _ _<|ê w k 0 _ _ _ f];grind
 .exact a.block k c b
def TS{a w e:E}{d b c B}(h:I (SW a d b c) a e)(f:Below B w a)(g:B<=V a.heap)(i:B<=d)(j:B<=b)(l:B<=c):Below B w e:=
 f.trans (I.ep h (λk _ x=>by
  obtain rfl|rfl|rfl|⟨x,_⟩:=x<;>omega) g)
def qX(n:Nat)(d f:χ)(c:Int)(b e:Nat)(a:χ)(j:Nat):Array χ:=
 #[d,f,U c,pV b,.map<|C e,a,sN,U 0,U<|if 1<=j then n else 0,U<|if 2<=j then ((n+1:Nat)) else 0,U<|if 3<=j then ((n+2:Nat)) else 0,U<|if 4<=j then ((n+3:Nat)) else 0,U<|if 5<=j then ((n+4:Nat)) else 0]
theorem yh(c)(e g)(d)(b f)(a):qX (Q c.T) e g d b f a 5=rM c e g d b f a (sN):=rfl
def ym(n)(d f)(c)(b e)(a){j}(g:j<5):(qX n d f c b e a j).setIfInBounds (7+(j+1)) (U<|(n+j:Nat))=qX n d f c b e a (j+1):=by
 have:j=0\/j=1\/j=2\/j=3\/j=4:=W;obtain rfl|rfl|rfl|rfl|rfl:=this<;>rfl
theorem Qa{j}(a:j<5):J6.take (j+1)=J6.take j++[⟨((j+1:Nat)),[],[],0⟩]:=by
 have:j=0\/j=1\/j=2\/j=3\/j=4:=W;obtain rfl|rfl|rfl|rfl|rfl:=this<;>rfl
theorem Ġ:J6.take 5=J6:=rfl
theorem E1c(a):nU [] a=a:=by
 unfold nU;have:(kK (Q ([]:List Ty)))=id:=by
  funext t;obtain⟨k,b,c,o⟩:=t;simp[kK]
 simp_all
def DC:∀(l) (j) (h),(S4 l)[j*2]?=C (U l[j].1)/\(S4 l)[j*2+1]?=C (U l[j].2)
 |p::r,0,_=>⟨K,K⟩
 |p::r,j+1,h=>by
  have a:=DC r j θ;grind[S4]
section
variable{N:List Nd}{T:List Ty}{b:List Nt}{c:List Fr}{a:List (Nat×Int)}
def za(d:bJ N T b)(f:kU b=.ok c a):∀p∈U6 (dG (ì (Q N)<|-1) a) (Q N),(0<=p.1/\p.1<=1000000)/\(0<=p.2/\p.2<=1000000):=λp g=>by
 obtain⟨j,e,rfl,h⟩:=Jh _ _ p g;have i:=(Ey d f).rg j e;have k:=d.fp;omega
def Xm{d}{q k p m bl}{l w f}{v}(o:bJ N T b)(z:kU b=.ok c a)(h:jR d N q k p m l (qX (Q T) l w v k m f 5) (T++J6.take 5) bl<|fZ<|U6 (dG (ì (Q N)<|-1) a) (Q N))(A:bl<=5000)(B:ξ d 0 3 1 f (Q N)<|C8<|kC N):
 dO d (aQ N T a) q k p m l f/\aW d d (aQ N T a) q k p m l w v f [] []:=by
 have y:fZ (U6 (dG (ì (Q N)<|-1) a) (Q N))=lS (aQ N T a):=A3f<|aQ N T a;have r:T++J6.take 5=tl (aQ N T a) []:=by
  rw[Ġ];unfold tl;rw[iY];rfl
 rw[y,r]at h;obtain⟨P,R,F,_⟩:=h.jr.blk;obtain⟨n,⟨H,G,j,_⟩,_⟩:=h.jr.gm.own;refine⟨⟨yP o z o.tx,h.ey,h.names.more A,B,⟨_,h.blk⟩,⟨_,F⟩,⟨_,_,j⟩,h.ne⟩,⟨I.refl _ _,⟨sN,.map [],?_,kW _ _ _ _,h.jr.P (I.refl No _) h.jr.gm (λ_ _ _ _ _ x=>x) λg _ _=>ù⟩,?_⟩⟩
 .rw[<-yh];exact h.blk
 .intro i D;have s:(tl (aQ N T a) [])=T++J6:=by rw[<-r];rfl
  have L:i<Q (T++J6):=by rw[<-s];exact D
  have e:(tl (aQ N T a) [])[i]=(T++J6)[i]:=by simp only[s]
  rw[e];by_cases u:i<Q T
  .rw[List.getElem_append_left u];have:=o.ls i u;omega
  .rw[List.getElem_append_right W];have j:=mQ (show i-Q T<J6.length from θ);generalize J6[i-Q T]'_=t at*;have M:t.M=[]/\t.eo=[]:=by
    simp only[J6,jW,rZ,or_false]at j;obtain rfl|rfl|rfl|rfl|rfl:=j<;>exact⟨K,K⟩
   simp_all
end
