/-
  A part of the proof.
-/
import Derived.Test.YteocidgdmjaffaaGreatDoorBindC
set_option maxHeartbeats 0
set_option linter.all false
set_option maxRecDepth 100000
namespace Go.Proofs.YteocidgdmjaffaaGreatDoor
open Go.Proofs.Tryz
open Go.RowKit Go.Maps
section
variable{b:E}{B a:Nat}{c d:Value}{N:List C}
def Ga(hN:cV b c N)(i)(hi)(w)(a3)(D)(A)(h:cM b w B a c d a3 D A)(b4:D≠[])(T tb)(ps qs)(am:uJ N T tb ps N[i] qs)(hC:∀ac∈ps,1<=ac.k->X7 b B a c d N ac)(P)(b8:a3+2*aA ps<=P)(hm:P<=100000)(hf:D.length+aA ps<=100000)(ao:A.length=N.length)(ak:(N[i]).M.length<=100000)(an:(N[i]).text.length<=1000000)(hk:(N[i]).x=5\/(N[i]).x=18)(R)(a8:bG (N[i]).text D=none->R=.bad 5 i)(a9:∀j,bG (N[i]).text D=some j->R=(Br.ok D [(i,j)]).and λaz=>bB false az T ps):
 Calls prog 100 #[pV a,U i] w (aG b w B a c d N P A R):=by
 have b3:=h.jg;obtain⟨g,S,n,p,rfl,hg,bd,b9,⟨x0,x1,x2,x3,x4,x5,x6,x7,x8⟩,ho,ab⟩:=hN.at h.jg i hi;generalize al:N[i]=nd at*;obtain⟨k,s,t,u,r,l,x,y,m⟩:=nd;simp only at x0 x1 x2 x3 x4 x5 x6 x7 x8 ho ab ak an hk a8 a9;have W:I No w ((w.alloc (.cells #[pV a] 92)).alloc (aL k s t u (.slice n r.length p) l x y m)):=B6 (I.alloc No _ _) (I.alloc No _ _);have h1:=h.kept W;have ag:((w.alloc (.cells #[pV a] 92)).alloc (aL k s t u (.slice n r.length p) l x y m)).heap[w.heap.size]?=some (.cells #[pV a] 92 (0,0)):=by
  rw[Below.heap_alloc _ _ _ (by simp)];have:=yY w (.cells #[pV a] 92);simpa using this
 have ah:((w.alloc (.cells #[pV a] 92)).alloc (aL k s t u (.slice n r.length p) l x y m)).heap[w.heap.size+1]?=some (.cells #[U k,U s,U t,U u,.slice n r.length p,.string ⟨l.toArray⟩,U x,U y,U m] 85 (0,0)):=by
  have:=yY (w.alloc (.cells #[pV a] 92)) (aL k s t u (.slice n r.length p) l x y m);simpa using this
 have a5:((w.alloc (.cells #[pV a] 92)).alloc (aL k s t u (.slice n r.length p) l x y m)).cell? (J w.heap.size 0)=some (pV a):=cr ag rfl;have KA:=O (cH.y (B:=B) (bb:=a) (tv:=d) W);obtain⟨au,aw⟩:=h.eo;have ai:=A3 ho W (λ_ _ a4=>a4);unfold maxLen at b9;have af:cI N i=m:=by
  unfold cI;rw[lQ,gQ hi,al];rfl
 have aj:i<A.length:=by omega
 obtain⟨f,F,a7,t1,t2,t3,-,-,t4,-,-,-⟩:=h.write i aj 0;subst a7;have FI:Hid (∀M,I No ((w.alloc (.cells #[pV a] 92)).alloc (aL k s t u (.slice n r.length p) l x y m)) M->Calls prog 144 #[pV a,.agg #[U k,U s,U t,U u,.slice n r.length p,.string ⟨l.toArray⟩,U x,U y,U m]] M λe z=>
  (e=gu 5 m/\Hid (aG b w B a (.slice (some (J g 0)) N.length S) (.slice (some (J f 0)) A.length F) N P A R (gu 5 m) z))\/
  (∃j,e=.returned (U j)/\(∃aq,z.cell? (J f i)=some (U aq))/\z.frozen? (J f i)=false/\z.cell? (J a 2)=some (.slice (some (J f 0)) A.length F)/\z.cell? (J w.heap.size 0)=some (pV a)/\(a<z.heap.size/\f<z.heap.size)/\
   Hid (bG l D=some j/\cH B a (.slice (some (J f 0)) A.length F) w (z.setCell (J f i) (U j))/\cM b (z.setCell (J f i) (U j)) B a (.slice (some (J g 0)) N.length S) (.slice (some (J f 0)) A.length F) a3 D (cQ A [(i,j)])/\I (λa2=>a2=f) ((w.alloc (.cells #[pV a] 92)).alloc (aL k s t u (.slice n r.length p) l x y m)) (z.setCell (J f i) (U j))))):=by
  intro M ha;have h2:=h1.kept ha;obtain⟨av,ms,hs⟩:=h2.st;have bc:=hs.len;refine(Ng hs (by omega) k s t u n r.length p l x y m an).mono ?_;rintro e z ⟨V,he⟩;have a6:=B6 ha V;have h3:=h2.kept V;cases Z:bG l D with
  |none=>
   rw[Z]at he;exact .inl ⟨he,KA.u.trans (cH.y a6),by rw[a8 Z];show gu 5 m=gu 5 (cI N i);rw[af]⟩
  |some j=>
   rw[Z]at he;obtain⟨bb,be,a7,u1,u2,u3,u4,u5,u6,u7,u8,u9⟩:=h3.write i aj j;simp only[Value.slice.injEq,zQ,Addr.mk.injEq,and_true,true_and]at a7;obtain⟨rfl,rfl⟩:=a7;exact .inr ⟨j,he,⟨_,u4⟩,u5,u6,A4 a6 a5,⟨u7,u1⟩,rfl,(KA.u.trans (cH.y a6)).trans u8,u9,I.trans (a6.mono λ_ _ a4=>a4.elim) (I.set z (J f i) _) (λ_ _ a4=>a4)⟩
 have PB:Hid (∀(j:Int) (z:E),Hid (bG l D=some j/\cH B a (.slice (some (J f 0)) A.length F) w (z.setCell (J f i) (U j))/\cM b (z.setCell (J f i) (U j)) B a (.slice (some (J g 0)) N.length S) (.slice (some (J f 0)) A.length F) a3 D (cQ A [(i,j)])/\I (λa2=>a2=f) ((w.alloc (.cells #[pV a] 92)).alloc (aL k s t u (.slice n r.length p) l x y m)) (z.setCell (J f i) (U j)))->
  (∀o v,((w.alloc (.cells #[pV a] 92)).alloc (aL k s t u (.slice n r.length p) l x y m)).cell? (J w.heap.size o)=some v->(z.setCell (J f i) (U j)).cell? (J w.heap.size o)=some v)/\(∀o v,((w.alloc (.cells #[pV a] 92)).alloc (aL k s t u (.slice n r.length p) l x y m)).cell? (J (w.heap.size+1) o)=some v->(z.setCell (J f i) (U j)).cell? (J (w.heap.size+1) o)=some v)/\
  ∀M,I No (z.setCell (J f i) (U j)) M->Calls prog 40 #[.agg #[U k,U s,U t,U u,.slice n r.length p,.string ⟨l.toArray⟩,U x,U y,U m]] M λe ad=>∃ga gc,e=.returned (.slice ga (px T qs).length gc)/\ad.cell? (J w.heap.size 0)=some (pV a)/\
  Hid (Calls prog 62 #[pV a,.slice ga (px T qs).length gc] ad (wE b w B a (.slice (some (J g 0)) N.length S) (.slice (some (J f 0)) A.length F) N P A R))):=by
  rintro j z ⟨Z,b6,b0,V⟩;have b5:∀q,w.heap.size<=q->q≠f:=λq hq=>by omega
  have aa:∀q,w.heap.size<=q->∀o v,((w.alloc (.cells #[pV a] 92)).alloc (aL k s t u (.slice n r.length p) l x y m)).cell? (J q o)=some v->(z.setCell (J f i) (U j)).cell? (J q o)=some v:=λq hq o v e=>by
   have b7:=blt e;have:=V.block q b7 (b5 q hq);unfold World.cell? at*;simp only at*;rw[this];exact e
  refine⟨aa _ (vQ _),aa _ (by omega),λM ha=>?_⟩;rw[a9 j Z];refine GI b6 b0 b4 am hC (by omega) hf ao n p ?_ ak w.heap.size (aa _ (vQ _) _ _ a5) P b8 M ha;refine A3 ai V λq hq e=>?_;have:=ab q hq;have h5:=(h.fresh (q:=f));have:=h.low.2 f rfl;have:=h.hz;omega
 have cn:∀o v,(#[U k,U s,U t,U u,.slice n r.length p,.string ⟨l.toArray⟩,U x,U y,U m]:Array Value)[o]?=some v->((w.alloc (.cells #[pV a] 92)).alloc (aL k s t u (.slice n r.length p) l x y m)).cell? (J (w.heap.size+1) o)=some v:=λo v e=>by rw[cell_of_row _ _ o _ _ _ ah];exact e
 have G:=O cn;have ay:=t4;clear cn;generalize (px T qs).length=pl at*;clear ao am hC h1 h al ag ah ai ho ab b3 hN a8 a9 af;have n0:((w.alloc (.cells #[pV a] 92)).alloc (aL k s t u (.slice n r.length p) l x y m)).cell? (J (w.heap.size+1) 0)=some (U k):=G.u 0 _ rfl;have n1:((w.alloc (.cells #[pV a] 92)).alloc (aL k s t u (.slice n r.length p) l x y m)).cell? (J (w.heap.size+1) 1)=some (U s):=G.u 1 _ rfl;have n2:((w.alloc (.cells #[pV a] 92)).alloc (aL k s t u (.slice n r.length p) l x y m)).cell? (J (w.heap.size+1) 2)=some (U t):=G.u 2 _ rfl;have n3:((w.alloc (.cells #[pV a] 92)).alloc (aL k s t u (.slice n r.length p) l x y m)).cell? (J (w.heap.size+1) 3)=some (U u):=G.u 3 _ rfl;have n4:((w.alloc (.cells #[pV a] 92)).alloc (aL k s t u (.slice n r.length p) l x y m)).cell? (J (w.heap.size+1) 4)=some (.slice n r.length p):=G.u 4 _ rfl;have n5:((w.alloc (.cells #[pV a] 92)).alloc (aL k s t u (.slice n r.length p) l x y m)).cell? (J (w.heap.size+1) 5)=some (.string ⟨l.toArray⟩):=G.u 5 _ rfl;have n6:((w.alloc (.cells #[pV a] 92)).alloc (aL k s t u (.slice n r.length p) l x y m)).cell? (J (w.heap.size+1) 6)=some (U x):=G.u 6 _ rfl;have n7:((w.alloc (.cells #[pV a] 92)).alloc (aL k s t u (.slice n r.length p) l x y m)).cell? (J (w.heap.size+1) 7)=some (U y):=G.u 7 _ rfl;have n8:((w.alloc (.cells #[pV a] 92)).alloc (aL k s t u (.slice n r.length p) l x y m)).cell? (J (w.heap.size+1) 8)=some (U m):=G.u 8 _ rfl;have l1:w.heap.size+1<((w.alloc (.cells #[pV a] 92)).alloc (aL k s t u (.slice n r.length p) l x y m)).heap.size:=by simp
 have l2:a<((w.alloc (.cells #[pV a] 92)).alloc (aL k s t u (.slice n r.length p) l x y m)).heap.size:=by simp;omega
 have l3:f<((w.alloc (.cells #[pV a] 92)).alloc (aL k s t u (.slice n r.length p) l x y m)).heap.size:=by simp;omega
 have ax:((w.alloc (.cells #[pV a] 92)).alloc (aL k s t u (.slice n r.length p) l x y m)).cell? (J a 2)=some (.slice (some (J f 0)) A.length F):=A4 W t4;have hg:(k==5)=true\/(k==5)=false/\(k==18)=true:=by
  obtain rfl|rfl:=hk
  .exact .inl rfl
  .exact .inr ⟨rfl,rfl⟩
 clear hk;obtain g5|⟨g5,g18⟩:=hg;all_goals
  go_in;go_wp2_with fail;generalize ((w.alloc (.cells #[pV a] 92)).alloc (aL k s t u (.slice n r.length p) l x y m))=wz at*;try clear x0 x1 x2 x3 x4 x5 x6 x7 x8
  try clear G KA W
  unfold maxLen at t3;rename_i K aK;have ar:Hid (∀(b1 b2:Value) (j:Int) (z:E),Hid (bG l D=some j/\cH B a (.slice (some (J f 0)) A.length F) w (z.setCell (J f i) (U j))/\cM b (z.setCell (J f i) (U j)) B a (.slice (some (J g 0)) N.length S) (.slice (some (J f 0)) A.length F) a3 D (cQ A [(i,j)])/\I (λa2=>a2=f) wz (z.setCell (J f i) (U j)))->
   Exit.inBlock 0 (Exit.then K (bodyPost prog Tryz.f100 (aG b w B a (.slice (some (J g 0)) N.length S) (.slice (some (J f 0)) A.length F) N P A R))) Exit.normal {tmps:=#[pV a,U (i:Int),pV w.heap.size,undef,pV (w.heap.size+1),pV a,pV a,pV a,.slice (some (J g 0)) N.length S,U (i:Int),.pointer (some (J g (i*9))),.agg #[U k,U s,U t,U u,.slice n r.length p,.string ⟨l.toArray⟩,U x,U y,U m],pV (w.heap.size+1),U k,.bool true,b1,b2,pV a,pV a,.pointer (some (J a 2)),.slice (some (J f 0)) A.length F,U (i:Int),pV a,.agg #[U k,U s,U t,U u,.slice n r.length p,.string ⟨l.toArray⟩,U x,U y,U m],U j,.pointer (some (J f i)),undef,undef,undef,undef,undef,undef,undef,undef,undef,undef,undef,undef,undef,undef,undef,undef,undef,undef,undef,undef,undef,undef,undef,undef,undef,undef,undef],defers:=[]} (z.setCell (J f i) (U j))):=by
   intro b1 b2 j z L;obtain⟨ap,H,ae⟩:=PB.u j z L;have y0:=ap 0 _ a5;have z0:=H 0 _ n0;have z1:=H 1 _ n1;have z2:=H 2 _ n2;have z3:=H 3 _ n3;have z4:=H 4 _ n4;have z5:=H 5 _ n5;have z6:=H 6 _ n6;have z7:=H 7 _ n7;have z8:=H 8 _ n8;have PA:=O ae;have lz:=blt z0;clear ap H ae FI PB L n0 n1 n2 n3 n4 n5 n6 n7 n8 a5;generalize z.setCell (J f i) (U j)=wy at*;try clear au aw ax t4 ay
   go_wp2_with fail;go_region_with (first|(go_at_call 40;refine(PA.u _ (I.drewN _ _ 1)).mono ?_;rintro e z ⟨ga,gc,rfl,ba,L⟩)|(go_at_call 62;refine(Hid.u L).mono ?_;rintro e ad (⟨er,ac,rfl,H4⟩|⟨rfl,H4⟩);exact⟨rfl,H4.u⟩));all_goals go_wp2_with fail
   all_goals go_end0
   all_goals exact H4.u
  clear PB aK;go_region_with (go_at_call 144;refine(FI.u _ (I.drewN _ _ 1)).mono ?_;rintro e z (⟨rfl,L⟩|⟨j,rfl,⟨aq,u1⟩,u2,u3,u4,⟨u5,u6⟩,L⟩);exact⟨rfl,L.u⟩);all_goals exact ar.u _ _ _ _ L
end
