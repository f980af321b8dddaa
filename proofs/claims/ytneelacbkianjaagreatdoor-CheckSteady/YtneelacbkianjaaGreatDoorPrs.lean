/-
  A part of the proof.
-/
import Derived.Test.YtneelacbkianjaaGreatDoorNodeD
import Derived.Test.YtneelacbkianjaaGreatDoorScanB
set_option maxHeartbeats 16000000
set_option maxRecDepth 100000
namespace Go.Proofs.YtneelacbkianjaaGreatDoor
open Go.Proofs.Tryz
open Go.RowKit
def NdOwn(w:lZ)(a:Nat)(v:Value)(N:List Nd):Prop:=∃b,w.ownsRow a 87 9 v N.length b/\Rws (NdV w (λg=>a<=g)) N b
def L6d(l:bZ)(w:lZ)(e:Ending)(a:lZ):Prop:=
 Below w.heap.size w a/\((∃b p,PRes l (.inl (b,p))/\e= .returned (.tuple #[.agg #[sN,sN,U 0],.agg #[U b,U p]]))\/
  ∃N T c d f g,PRes l (.inr (N,T))/\e= .returned (.tuple #[.agg #[.slice c N.length d,.slice f T.length g,U ((N.length:Int) - 1)],.agg #[U 0,U 0]])/\NdOwn a w.heap.size (.slice c N.length d) N/\TyOwn a w.heap.size (.slice f T.length g) T)
def Res2(a:Nat)(w b:lZ):Prop:=I (λk=>k=a\/k=a+1) w b
theorem L2b{w c d:lZ}{l:bZ}{a p:Int}(b:Below w.heap.size w c)(e:Res2 w.heap.size c d)(f:PRes l (.inl (a,p))):
 L6d l w (.returned (.tuple #[.agg #[sN,sN,U 0],.agg #[U a,U p]])) d:=
 ⟨b.trans (I.toBelow e (λi g x=>by rcases x with x|x<;>omega) b.size),.inl ⟨a,p,f,rfl⟩⟩
theorem X1c{w b A:lZ}{l:bZ}{n q:Option Addr}{o r:Nat}{N:List Nd}{T:List Ty}{p s:List Value}{B C:Array Value}(u:Below w.heap.size w b)(d:Res2 w.heap.size b A)
 (D:b.heap[w.heap.size]? =some (.cells B 40 (0,0))) (E:b.heap[w.heap.size+1]? =some (.cells C 26 (0,0)))
 (v:b.ownsRow w.heap.size 87 9 (.slice n N.length o) N.length p) (G:Rws (NdV b (λg=>w.heap.size<=g)) N p)
 (y:b.ownsRow w.heap.size 76 4 (.slice q T.length r) T.length s) (F:Rws (TyV b (λg=>w.heap.size<=g)) T s) (H:PRes l (.inr (N,T))):
 L6d l w (.returned (.tuple #[.agg #[.slice n N.length o,.slice q T.length r,U ((N.length:Int) - 1)],.agg #[U 0,U 0]])) A:=by
 have m:∀g,(g=w.heap.size\/g=w.heap.size+1)->∀c e t,b.heap[g]? =some (.cells c e t)->e=40\/e=26:=by
  rintro g (rfl|rfl) c e t a
  · rw[D]at a;simp only[zQ,xW]at a;exact .inl a.2.1.symm
  · rw[E]at a;simp only[zQ,xW]at a;exact .inr a.2.1.symm
 have z:∀g,w.heap.size<=g->g<b.heap.size->(g=w.heap.size\/g=w.heap.size+1)->(∃c e,b.heap[g]? =some (.cells c e (0,0))/\(e=131\/e=3))->False:=by
  rintro g _ _ f ⟨c,e,a,j⟩;rcases m g f _ _ _ a with rfl|rfl<;>rcases j with j|j<;>exact absurd j (by decide)
 refine⟨u.trans (I.toBelow d (λi K x=>by rcases x with x|x<;>omega) u.size),.inr ⟨N,T,n,o,q,r,H,rfl,⟨p,A4 v d (λg k f=> ?_),G.imp (NdV.chg d z (λ_ x _=>x))⟩,⟨s,A4 y d (λg k f=> ?_),F.imp (TyV.chg d z (λ_ x _=>x))⟩⟩⟩
 · obtain⟨_,c,a⟩:=A9 v g k;rcases m g f _ _ _ a with h|h<;>exact absurd h (by decide)
 · obtain⟨_,c,a⟩:=A9 y g k;rcases m g f _ _ _ a with h|h<;>exact absurd h (by decide)
theorem Res2.put{c:Nat}{a b:lZ}{q o:Nat}{v:Value}(h:Res2 c a b)(d:q=c\/q=c+1):Res2 c a (b.setCell (J q o) v):=
 I.trans h (I.set b (J q o) v) (λi _ x=>by have e:i=q:=x;subst e;exact d)
theorem Res2.drew{c:Nat}{a b:lZ}(h:Res2 c a b):Res2 c a b.drew:=I.trans h (I.drewN No b 1) (λ_ _ x=>x.elim)
theorem Res2.alloc{c:Nat}{a b:lZ}{o:Obj}(h:Res2 c a b):Res2 c a (b.alloc o):=I.trans h (I.alloc No b o) (λ_ _ x=>x.elim)
theorem O9d{b:Nat}{a:lZ}{c d e f g:Value}{o:Obj}:Res2 b a (((((((a.setCell (J b 0) c).setCell (J b 1) d).setCell (J b 2) e).setCell (J (b+1) 0) f).setCell (J (b+1) 1) g).alloc o).drew):=
 ((((((Res2.put (I.refl _ _) (.inl rfl)).put (.inl rfl)).put (.inl rfl)).put (.inr rfl)).put (.inr rfl)).alloc).drew
theorem W2a{B:Nat}{f:Nat->Prop}{w b:lZ}{q:Nat}{a:Array Value}{e:TypeId}(d:Kept B f w b)(h:w.heap[q]? =some (.cells a e (0,0)))(c:e≠84/\e≠87/\e≠76):b.heap[q]? =some (.cells a e (0,0)):=B0a d h c
theorem T9a(s:ByteArray)(w:lZ)(hs:s.size<=maxLen):Calls prog 11 #[.string s] w (L6d s.data.toList w):=by
 have R:=λa=>Q7b s a hs;go_enter func11,ntmps11;go_wp2_with fail
 refine(R _).mono ?_;clear R;rintro a6 a ⟨ad,a5,rfl,X,d⟩;have L:w.heap.size+1<a.heap.size:=by have:=d.size;simp at this;omega
 have M:w.heap.size<a.heap.size:=by omega
 have f:Hid (a.heap[w.heap.size]? =some (.cells #[sN,sN,U 0] 40 (0,0))):=by
  show _=_;rw[d.block w.heap.size (by simp;omega),Below.heap_alloc _ _ _ (by simp)];exact qY w _
 have i:Hid (a.heap[w.heap.size+1]? =some (.cells #[U 0,U 0] 26 (0,0))):=by
  show _=_;rw[d.block (w.heap.size+1) (by simp)];have:=qY (w.alloc (.cells #[sN,sN,U 0] 40)) (.cells #[U 0,U 0] 26);simpa using this
 have C:=O ((((Below.refl w.heap.size w).alloc (vQ _) (.cells #[sN,sN,U 0] 40)).alloc (by simp) (.cells #[U 0,U 0] 26)).trans (d.mono (by simp;omega)));have D:=O (C9 X (by simp;omega:w.heap.size<=_));clear d X;by_cases j:(F4 s.data.toList).2.1=0
 · have a7:((F4 s.data.toList).2.1 !=0)=false:=by simp[j]
   obtain⟨V,a8,G⟩:=H2b _ j;have aa:w.heap.size<=a.heap.size:=by omega
   have S:=Z1a (w:=(a.alloc (.cells #[U 0,U ((F4 s.data.toList).2.2:Int)] 26)).alloc (.cells #[.slice ad (F4 s.data.toList).1.length a5,U 0,U 0,sN,sN] 84))
    (B:=w.heap.size) (pb:=a.heap.size+1) (ok:=λg=>w.heap.size<=g) ⟨V,G⟩ (λab=>(U5d ⟨V,G⟩ (T0b _) ab).2.2.2) (λg F=>by simp at F;omega) (by simp;omega) (H9c (by simp) (by simp;omega) (λg F=>by simp at F;omega) a8 (D.o.alloc _))
   have E:=O j;clear D G;go_wp2_with fail
   refine S.mono ?_;clear S;rintro a6 b ⟨n,o,T,k⟩;have l:Hid (b.heap[w.heap.size]? =some (.cells #[sN,sN,U 0] 40 (0,0))):=
    W2a n (by rw[Below.heap_alloc _ _ _ (by simp;omega),Below.heap_alloc _ _ _ M];exact f.o) (by decide)
   have y:Hid (b.heap[w.heap.size+1]? =some (.cells #[U 0,U 0] 26 (0,0))):=
    W2a n (by rw[Below.heap_alloc _ _ _ (by simp;omega),Below.heap_alloc _ _ _ L];exact i.o) (by decide)
   have N:w.heap.size+1<b.heap.size:=by have:=n.size;simp at this;omega
   have P:w.heap.size<b.heap.size:=by omega
   have B:=O (((C.o.alloc aa _).alloc (by simp;omega) _).trans (n.below (by simp;omega)));have e:=O T;have u:b.cell? (J w.heap.size 0)=some (sN):=cr l.o rfl;have v:b.cell? (J w.heap.size 1)=some (sN):=cr l.o rfl;have x:b.cell? (J w.heap.size 2)=some (U 0):=cr l.o rfl;have qf:∀o,b.frozen? (J w.heap.size o)=false:=λo=>frozen_of_row b _ o _ _ l.o;have r:b.cell? (J (w.heap.size+1) 0)=some (U 0):=cr y.o rfl;have t:b.cell? (J (w.heap.size+1) 1)=some (U 0):=cr y.o rfl;have pf:∀o,b.frozen? (J (w.heap.size+1) o)=false:=λo=>frozen_of_row b _ o _ _ y.o;clear n T L M C f i;cases o with
   |fail m p=>
    obtain⟨rfl,W⟩:=k;have a9:(m !=0)=true:=by simp[W]
    have h:=O (show PRes s.data.toList (.inl (m,p)) from ⟨W,.inr ⟨E.o,.inl e.o⟩⟩);clear e;go_wp2_with fail
    go_region
    all_goals go_wp2_with fail
    exact bodyPost_ret (v:= .tuple #[.agg #[sN,sN,U 0],.agg #[U m,U p]]) (by simp[results,results11,go_sem,u,v,x,r,t,N,P]) rfl (L2b B.o O9d h.o)
   |ok c a3=>
    by_cases z:(tk (F4 s.data.toList).1 c.i).kind=6
    · simp only[z,if_true]at k;by_cases q:1200<c.N.length\/300<c.T.length
      · rw[rY q]at k;subst k;have h:=O (show PRes s.data.toList (.inl (2,0)) from ⟨by decide,.inr ⟨E.o,.inr ⟨c,a3,e.o,q,rfl,rfl⟩⟩⟩);clear q z;have a9:((2:Int) !=0)=true:=by decide
        clear e;go_wp2_with fail
        go_region
        all_goals go_wp2_with fail
        exact bodyPost_ret (v:= .tuple #[.agg #[sN,sN,U 0],.agg #[U 2,U 0]]) (by simp[results,results11,go_sem,u,v,x,r,t,N,P]) rfl (L2b B.o O9d h.o)
      · rw[yY q]at k;obtain⟨rfl,Y⟩:=k;have h:=O (show PRes s.data.toList (.inr (c.N,c.T)) from ⟨E.o,c,a3,e.o,by omega,by omega,rfl,rfl⟩);obtain⟨nv,yv,nx,yx,d,H,K,Z,a2⟩:=Y.blk;obtain⟨na,nc,rfl⟩:=B9 H;obtain⟨ya,yc,rfl⟩:=B9 K;have c3:b.cell? (J (a.heap.size+1) 3)=some (.slice na c.N.length nc):=cr d rfl;have c4:b.cell? (J (a.heap.size+1) 4)=some (.slice ya c.T.length yc):=cr d rfl;have ac:=(ltG d);have ae:c.N.length<=1200:=by omega
        have OO:=O K;have RR:=O a2;have ON:=O H;have RN:=O Z;clear Y d H K Z a2 q z e;generalize A:c.N.length=nn at *;have a4:=O A;clear A;go_wp2_with fail
        go_region
        go_wp2_with fail
        have A:=a4.o;subst A;exact bodyPost_ret (v:= .tuple #[.agg #[.slice na c.N.length nc,.slice ya c.T.length yc,U ((c.N.length:Int) - 1)],.agg #[U 0,U 0]]) (by simp[results,results11,go_sem,u,v,x,r,t,N,P]) rfl (X1c B.o O9d l.o y.o ON.o RN.o OO.o RR.o h.o)
    · exact absurd (P2d e.o) z
 · have a7:((F4 s.data.toList).2.1 !=0)=true:=by simp[j]
   have h:=O (show PRes s.data.toList (.inl ((F4 s.data.toList).2.1,((F4 s.data.toList).2.2:Int))) from ⟨j,.inl ⟨rfl,rfl⟩⟩);have u:a.cell? (J w.heap.size 0)=some (sN):=cr f.o rfl;have v:a.cell? (J w.heap.size 1)=some (sN):=cr f.o rfl;have x:a.cell? (J w.heap.size 2)=some (U 0):=cr f.o rfl;have qf:∀o,a.frozen? (J w.heap.size o)=false:=λo=>frozen_of_row a _ o _ _ f.o;have r:a.cell? (J (w.heap.size+1) 0)=some (U 0):=cr i.o rfl;have t:a.cell? (J (w.heap.size+1) 1)=some (U 0):=cr i.o rfl;have pf:∀o,a.frozen? (J (w.heap.size+1) o)=false:=λo=>frozen_of_row a _ o _ _ i.o;clear D f i j;generalize (F4 s.data.toList).2.1=m at *;generalize ((F4 s.data.toList).2.2:Int)=p at *;go_wp2_with fail
   go_region
   all_goals go_wp2_with fail
   exact bodyPost_ret (v:= .tuple #[.agg #[sN,sN,U 0],.agg #[U m,U p]]) (by simp[results,results11,go_sem,u,v,x,r,t,L,M]) rfl (L2b C.o O9d h.o)
