/-
  A part of the proof.
-/
import Derived.Test.YteocidgdmjaffaaGreatDoorNodeD
import Derived.Test.YteocidgdmjaffaaGreatDoorScanB
set_option maxHeartbeats 0
set_option linter.all false
set_option maxRecDepth 100000
namespace Go.Proofs.YteocidgdmjaffaaGreatDoor
open Go.Proofs.Tryz
open Go.RowKit
def mY(w:E)(a:Nat)(v:Value)(N:List C):Prop:=∃b,w.ownsRow a 85 9 v N.length b/\dS (fH w (λg=>a<=g)) N b
def KL(l:Y)(w:E)(e:Ending)(a:E):Prop:=
 Below w.heap.size w a/\((∃b p,dI l (.inl (b,p))/\e=.returned (.tuple #[.agg #[sN,sN,U 0],.agg #[U b,U p]]))\/
  ∃N T c d f g,dI l (.inr (N,T))/\e=.returned (.tuple #[.agg #[.slice c N.length d,.slice f T.length g,U (N.length-1)],.agg #[U 0,U 0]])/\mY a w.heap.size (.slice c N.length d) N/\mW a w.heap.size (.slice f T.length g) T)
def gE(a:Nat)(w b:E):Prop:=I (λk=>k=a\/k=a+1) w b
def JR{w c d:E}{l}{a p}(b:Below w.heap.size w c)(e:gE w.heap.size c d)(f:dI l (.inl (a,p))):
 KL l w (.returned (.tuple #[.agg #[sN,sN,U 0],.agg #[U a,U p]])) d:=
 ⟨b.trans (I.ek e (λi g x=>by omega) b.size),.inl ⟨a,p,f,rfl⟩⟩
def Il{w a y:E}{l}{k o}{m p}{N}{T}{n q}{z A}(s:Below w.heap.size w a)(c:gE w.heap.size a y)
 (L:a.heap[w.heap.size]?=some (.cells z 52 (0,0))) (M:a.heap[w.heap.size+1]?=some (.cells A 26 (0,0)))
 (t:a.ownsRow w.heap.size 85 9 (.slice k N.length m) N.length n) (D:dS (fH a (λg=>w.heap.size<=g)) N n)
 (u:a.ownsRow w.heap.size 81 4 (.slice o T.length p) T.length q) (B:dS (dM a (λg=>w.heap.size<=g)) T q) (F:dI l (.inr (N,T))):
 KL l w (.returned (.tuple #[.agg #[.slice k N.length m,.slice o T.length p,U (N.length-1)],.agg #[U 0,U 0]])) y:=by
 have G:∀g,(g=w.heap.size\/g=w.heap.size+1)->∀b e r,a.heap[g]?=some (.cells b e r)->e=52\/e=26:=by
  rintro g (rfl|rfl) b e r f
  .grind
  .grind
 have v:∀g,w.heap.size<=g->g<a.heap.size->(g=w.heap.size\/g=w.heap.size+1)->(∃b e,a.heap[g]?=some (.cells b e (0,0))/\(e=137\/e=3))->False:=by
  rintro g _ _ j ⟨b,e,f,d⟩;obtain rfl|rfl:=G g j _ _ _ f<;>obtain d|d:=d<;>exact absurd d (by decide)
 refine⟨s.trans (I.ek c (λi H x=>by omega) s.size),.inr ⟨N,T,k,m,o,p,F,rfl,⟨n,A3 t c (λg h j=>?_),D.imp (fH.P c v (λ_ x _=>x))⟩,⟨q,A3 u c (λg h j=>?_),B.imp (dM.P c v (λ_ x _=>x))⟩⟩⟩
 .obtain⟨_,b,f⟩:=A9 t g h;grind
 .obtain⟨_,b,f⟩:=A9 u g h;grind
theorem gE.put{c}{a b}{q o}{v}(h:gE c a b)(d:q=c\/q=c+1):gE c a (b.setCell (J q o) v):=
 I.trans h (I.set b (J q o) v) (λi _ x=>by grind)
theorem gE.drew{c}{a b}(h:gE c a b):gE c a b.drew:=I.trans h (I.drewN No b 1) (λ_ _ x=>x.elim)
theorem gE.alloc{c}{a b}{o}(h:gE c a b):gE c a (b.alloc o):=I.trans h (I.alloc No b o) (λ_ _ x=>x.elim)
def AZ{b}{a}{c d e f g}{o}:gE b a (((((((a.setCell (J b 0) c).setCell (J b 1) d).setCell (J b 2) e).setCell (J (b+1) 0) f).setCell (J (b+1) 1) g).alloc o).drew):=
 ((((((gE.put (I.refl _ _) (.inl rfl)).put (.inl rfl)).put (.inl rfl)).put (.inr rfl)).put (.inr rfl)).alloc).drew
def QJ{B}{f}{w b}{q:Nat}{a}{e}(d:Kept B f w b)(h:w.heap[q]?=some (.cells a e (0,0)))(c:e≠103/\e≠85/\e≠81):b.heap[q]?=some (.cells a e (0,0)):=X9 d h c
def XU(s)(w:E)(hs:s.size<=maxLen):Calls prog 21 #[.string s] w (KL s.data.toList w):=by
 have HS:=λa=>Iw s a hs;go_in;go_wp2_with fail;refine(HS _).mono ?_;rintro a8 a ⟨ad,a7,rfl,ho,d⟩;have P:w.heap.size+1<a.heap.size:=by have:=d.size;simp at this;omega
 have R:w.heap.size<a.heap.size:=by omega
 have f:Hid (a.heap[w.heap.size]?=some (.cells #[sN,sN,U 0] 52 (0,0))):=by
  rw[d.block w.heap.size (by simp;omega),Below.heap_alloc _ _ _ (by simp)];exact yY w _
 have i:Hid (a.heap[w.heap.size+1]?=some (.cells #[U 0,U 0] 26 (0,0))):=by
  show _=_;rw[d.block (w.heap.size+1) (by simp)];have:=yY (w.alloc (.cells #[sN,sN,U 0] 52)) (.cells #[U 0,U 0] 26);simpa using this
 have D:=O ((((Below.refl w.heap.size w).alloc (vQ _) (.cells #[sN,sN,U 0] 52)).alloc (by simp) (.cells #[U 0,U 0] 26)).trans (d.mono (by simp;omega)));have F:=O (C8 ho (by simp;omega:w.heap.size<=_));by_cases j:(M8 s.data.toList).2.1=0
 .have a9:((M8 s.data.toList).2.1!=0)=false:=by simp[j]
  obtain⟨Z,aa,L⟩:=Vj _ j;have ac:w.heap.size<=a.heap.size:=by omega
  have V:=Hf (w:=(a.alloc (.cells #[U 0,U ((M8 s.data.toList).2.2:Int)] 26)).alloc (.cells #[.slice ad (M8 s.data.toList).1.length a7,U 0,U 0,sN,sN] 103))
   (pb:=a.heap.size+1) (ok:=λg=>w.heap.size<=g) ⟨Z,L⟩ (λae=>(Mr ⟨Z,L⟩ (SE _) ae).2.2.2) (λg H=>by simp at H;omega) (by simp;omega) (Uw (by simp) (by simp;omega) (λg H=>by simp at H;omega) aa (F.u.alloc _));have G:=O j;clear F L;go_wp2_with fail;refine V.mono ?_;clear V;rintro a8 c ⟨n,o,W,k⟩;have l:Hid (c.heap[w.heap.size]?=some (.cells #[sN,sN,U 0] 52 (0,0))):=
   QJ n (by rw[Below.heap_alloc _ _ _ (by simp;omega),Below.heap_alloc _ _ _ R];exact f.u) (by decide);have y:Hid (c.heap[w.heap.size+1]?=some (.cells #[U 0,U 0] 26 (0,0))):=
   QJ n (by rw[Below.heap_alloc _ _ _ (by simp_all),Below.heap_alloc _ _ _ P];exact i.u) (by decide);have S:w.heap.size+1<c.heap.size:=by have:=n.size;simp at this;omega
  have T:w.heap.size<c.heap.size:=by omega
  have B:=O (((D.u.alloc ac _).alloc (by simp;omega) _).trans (n.below (by simp;omega)));have e:=O W;have u:c.cell? (J w.heap.size 0)=some (sN):=cr l.u rfl;have v:c.cell? (J w.heap.size 1)=some (sN):=cr l.u rfl;have x:c.cell? (J w.heap.size 2)=some (U 0):=cr l.u rfl;have qf:=λo=>frozen_of_row c _ o _ _ l.u;have r:c.cell? (J (w.heap.size+1) 0)=some (U 0):=cr y.u rfl;have t:c.cell? (J (w.heap.size+1) 1)=some (U 0):=cr y.u rfl;have pf:=λo=>frozen_of_row c _ o _ _ y.u;clear n W P R D f i;cases o with
  |fail m p=>
   obtain⟨rfl,a2⟩:=k;have ab:(m !=0)=true:=by simp[a2]
   have h:=O (show dI s.data.toList (.inl (m,p)) from ⟨a2,.inr ⟨G.u,.inl e.u⟩⟩);clear e;go_wp2_with fail;go_region;all_goals go_wp2_with fail
   exact bodyPost_ret (v:=.tuple #[.agg #[sN,sN,U 0],.agg #[U m,U p]]) (by simp[results,results21,go_sem,u,v,x,r,t,S,T]) rfl (JR B.u AZ h.u)
  |ok b a5=>
   by_cases z:(tk (M8 s.data.toList).1 b.i).x=6
   .simp only[z,if_true]at k;by_cases q:1200<b.N.length\/300<b.T.length
    .rw[wY q]at k;subst k;have h:=O (show dI s.data.toList (.inl (2,0)) from ⟨by decide,.inr ⟨G.u,.inr ⟨b,a5,e.u,q,rfl,rfl⟩⟩⟩);clear q z;have ab:((2:Int)!=0)=true:=by decide
     clear e;go_wp2_with fail;go_region;all_goals go_wp2_with fail
     exact bodyPost_ret (v:=.tuple #[.agg #[sN,sN,U 0],.agg #[U 2,U 0]]) (by simp[results,results21,go_sem,u,v,x,r,t,S,T]) rfl (JR B.u AZ h.u)
    .rw[zY q]at k;obtain⟨rfl,hp⟩:=k;have h:=O (show dI s.data.toList (.inr (b.N,b.T)) from ⟨G.u,b,a5,e.u,by omega,by omega,rfl,rfl⟩);obtain⟨nv,yv,nx,yx,d,M,N,a3,a4⟩:=hp.eo;obtain⟨na,nc,rfl⟩:=B8 M;obtain⟨ya,yc,rfl⟩:=B8 N;have c3:c.cell? (J (a.heap.size+1) 3)=some (.slice na b.N.length nc):=cr d rfl;have c4:c.cell? (J (a.heap.size+1) 4)=some (.slice ya b.T.length yc):=cr d rfl;have af:=(aI d);have ag:b.N.length<=1200:=by omega
     have OO:=O N;have RR:=O a4;have ON:=O M;have RN:=O a3;clear hp d M N a3 a4 q z e;generalize A:b.N.length=nn at*;have a6:=O A;clear A;go_wp2_with fail;go_region;go_wp2_with fail;have A:=a6.u;subst A;exact bodyPost_ret (v:=.tuple #[.agg #[.slice na b.N.length nc,.slice ya b.T.length yc,U ((b.N.length:Int)-1)],.agg #[U 0,U 0]]) (by simp[results,results21,go_sem,u,v,x,r,t,S,T]) rfl (Il B.u AZ l.u y.u ON.u RN.u OO.u RR.u h.u)
   .exact absurd (Ut e.u) z
 .have a9:((M8 s.data.toList).2.1!=0)=true:=by simp[j]
  have h:=O (show dI s.data.toList (.inl ((M8 s.data.toList).2.1,((M8 s.data.toList).2.2:Int))) from ⟨j,.inl ⟨rfl,rfl⟩⟩);have u:a.cell? (J w.heap.size 0)=some (sN):=cr f.u rfl;have v:a.cell? (J w.heap.size 1)=some (sN):=cr f.u rfl;have x:a.cell? (J w.heap.size 2)=some (U 0):=cr f.u rfl;have qf:=λo=>frozen_of_row a _ o _ _ f.u;have r:a.cell? (J (w.heap.size+1) 0)=some (U 0):=cr i.u rfl;have t:a.cell? (J (w.heap.size+1) 1)=some (U 0):=cr i.u rfl;have pf:=λo=>frozen_of_row a _ o _ _ i.u;clear F f i j;generalize (M8 s.data.toList).2.1=m at*;generalize ((M8 s.data.toList).2.2:Int)=p at*;go_wp2_with fail;go_region;all_goals go_wp2_with fail
  exact bodyPost_ret (v:=.tuple #[.agg #[sN,sN,U 0],.agg #[U m,U p]]) (by simp[results,results21,go_sem,u,v,x,r,t,P,R]) rfl (JR D.u AZ h.u)
