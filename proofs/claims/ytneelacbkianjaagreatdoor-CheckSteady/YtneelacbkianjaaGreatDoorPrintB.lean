/-
  A part of the proof.
-/
import Derived.Test.YtneelacbkianjaaGreatDoorPrintA
set_option maxHeartbeats 16000000
set_option maxRecDepth 100000
namespace Go.Proofs.YtneelacbkianjaaGreatDoor
open Go.Proofs.Tryz
open Go.RowKit
section
variable{B a:Nat}{c:Value}{b:Wk}
theorem N4d{w:lZ}{G:bZ}(hB:B<=w.heap.size)(M:Wrt w B a c b G)(z C D R:Int)(S:uZ)(g:bZ)(T W V:Int)(N:Option Addr)(P:Nat)(x y:bZ)(h A lg:Int)(a7:(bnK z g:Int)=h)(hb:1<=h/\h<=3)(a8:h=1->A=2)(a9:h≠1->A=h)(a5:lg=h+1)(CW:CCs w B a c b 133 #[pV a,U C,U A] x)(CV:CCs w B a c b 133 #[pV a,U D,U lg] y)(j:G.length+(x++([32]++g++[32])++y).length<=100000000000000):
 Calls prog 131 #[pV a,.agg #[U z,U C,U D,U R,.slice N S.length P,.string ⟨g.toArray⟩,U T,U W,U V]] w (D7 w B a c b (G++(x++([32]++g++[32])++y))):=by
 have E:=O (λa6=>J5b (Nd.mk z C D R S g T W V) N P a6);simp only[ndv,a7]at E;have u:I No w (w.alloc (ndC z C D R (.slice N S.length P) g T W V)):=I.alloc No _ _;obtain⟨SY,K0,R0,a4⟩:=G9 hB M u (x++([32]++g++[32])++y);have a3:=O (CW _ u);have a2:=O (CV _ u);have i:=fc3 M u 1 2 5 rfl rfl rfl;clear M u CW CV;go_enter func131,ntmps131;go_wp2_with fail
 refine(E.o _).mono ?_;rintro e aa ⟨rfl,K⟩;have n:=O (K0.o.trans (Wkp.still K));have v:=O (R0.o.still K);obtain⟨ao,ap,aq,ar⟩:=i.o aa n.o;clear K E K0 R0;by_cases H:h=1
 · subst H;have L:=a8 rfl;subst L;subst a5;have k:=O (a3.o _ _ n.o v.o (by simp at j⊢<;>omega));go_wp2_with fail
   refine(k.o).mono ?_;rintro e X ⟨rfl,d,f⟩;have o:=O d;have r:=O f;obtain⟨ab,ac,ad,ae⟩:=i.o X d;clear d f k n v;have l:=O (SY.o.2.2 _ _ _ 1 [32] (g) [32] rfl o.o r.o (by simp at j⊢<;>omega));go_wp2_with fail
   go_region_with (go_at_call 30;refine(l.o.2).mono ?_;rintro e Y ⟨rfl,d,f⟩)
   all_goals
    have p:=O d;have s:=O f;obtain⟨af,ag,ah,ai⟩:=i.o Y d;clear d f l o r;have m:=O (a2.o _ _ p.o s.o (by simp at j⊢<;>omega));go_wp2_with fail
    refine(m.o).mono ?_;rintro e Z ⟨rfl,d,f⟩;have q:=O d;have t:=O f;obtain⟨aj,ak,al,am⟩:=i.o Z d;clear d f m p s;have F:=O (a4.o _ _ q.o t.o (by simp));clear q t;go_wp2;go_end0;exact F.o
 · have L:=a9 H;subst L;subst a5;have an:(A==1)=false:=by simp[H]
   have k:=O (a3.o _ _ n.o v.o (by simp at j⊢<;>omega));go_wp2_with fail
   refine(k.o).mono ?_;rintro e X ⟨rfl,d,f⟩;have o:=O d;have r:=O f;obtain⟨ab,ac,ad,ae⟩:=i.o X d;clear d f k n v;have l:=O (SY.o.2.2 _ _ _ 1 [32] (g) [32] rfl o.o r.o (by simp at j⊢<;>omega));go_wp2_with fail
   go_region_with (go_at_call 30;refine(l.o.2).mono ?_;rintro e Y ⟨rfl,d,f⟩)
   all_goals
    have p:=O d;have s:=O f;obtain⟨af,ag,ah,ai⟩:=i.o Y d;clear d f l o r;have m:=O (a2.o _ _ p.o s.o (by simp at j⊢<;>omega));go_wp2_with fail
    refine(m.o).mono ?_;rintro e Z ⟨rfl,d,f⟩;have q:=O d;have t:=O f;obtain⟨aj,ak,al,am⟩:=i.o Z d;clear d f m p s;have F:=O (a4.o _ _ q.o t.o (by simp));clear q t;go_wp2;go_end0;exact F.o
theorem W5c{w:lZ}{h:bZ}(G:B<=w.heap.size)(A:Wrt w B a c b h)(k p o:Nat)(m:Option Addr)(n:Nat)(d:uZ)(K:k<d.length)(l:w.heap[p]? =some (.cells #[pV a] 50 (0,0)))(j:w.heap[o]? =some (.cells #[.slice m d.length n] 43 (0,0)))(C:w.ownsRow 0 3 1 (.slice m d.length n) d.length (C8 d))(f:bZ)(q:CCs w B a c b 95 #[pV a,U d[k]] f)(R:h.length+(f).length<=100000000000000):
 Calls prog 173 #[U (k:Int),pV p,pV o] w (D7 w B a c b (h++(f))):=by
 have T:=(ltG l);have S:=(ltG j);have X:w.cell? (J p 0)=some (pV a):=cr l rfl;have V:w.cell? (J o 0)=some (.slice m d.length n):=cr j rfl;obtain⟨g,rfl,P,M,H,N⟩:=D9 C K;unfold maxLen at H;clear l j C;have i:I No w w:=I.refl _ _;obtain⟨L,s,u,E⟩:=G9 G A i (f);have D:=O (q _ i);clear A i q;generalize d[k]=z at *;go_enter func173,ntmps173;have r:=O (D.o _ _ (s.o.trans (Wkp.still (I.drewN _ _ 1))) (u.o.still (I.drewN _ _ 1)) (by omega));go_wp2_with fail
 go_region_with (go_at_call 95;refine(r.o).mono ?_;rintro e W ⟨rfl,x,y⟩)
 all_goals
  have t:=O x;have v:=O y;clear x y r s u;have F:=O (E.o _ _ t.o v.o (by simp));clear t v;go_wp2;go_end0;exact F.o
theorem X2c{w:lZ}{t:bZ}(V:B<=w.heap.size)(o:Wrt w B a c b t)(q r:bZ)(k:Option Addr)(l:Nat)(d:uZ)(f:Nat->bZ)(hn:d.length<=1000000)(X:w.ownsRow 0 3 1 (.slice k d.length l) d.length (C8 d))(A:∀i,Wkp B a w i->∀j (ae:j<d.length),CCs i B a c b 95 #[pV a,U d[j]] (f j))(z:t.length+(q++L0 [44,32] f d.length++r).length<=100000000000000):
 Calls prog 134 #[pV a,.string ⟨q.toArray⟩,.slice k d.length l,.string ⟨r.toArray⟩] w (D7 w B a c b (t++(q++L0 [44,32] f d.length++r))):=by
 have n:I No w ((w.alloc (.cells #[pV a] 50)).alloc (.cells #[.slice k d.length l] 43)):=I.trans (I.alloc No _ _) (I.alloc No _ _) (λ_ _ x=>x);have u:=kQ V n.size;obtain⟨R,F,L,Z⟩:=G9 V o n (q++L0 [44,32] f d.length++r);have v:((w.alloc (.cells #[pV a] 50)).alloc (.cells #[.slice k d.length l] 43)).heap[w.heap.size]? =some (.cells #[pV a] 50 (0,0)):=by
  rw[Below.heap_alloc _ _ _ (by simp)];have:=qY w (.cells #[pV a] 50);simpa using this
 have y:((w.alloc (.cells #[pV a] 50)).alloc (.cells #[.slice k d.length l] 43)).heap[w.heap.size+1]? =some (.cells #[.slice k d.length l] 43 (0,0)):=by
  have:=qY (w.alloc (.cells #[pV a] 50)) (.cells #[.slice k d.length l] 43);simpa using this
 have s:Hid (∀i,Wkp B a ((w.alloc (.cells #[pV a] 50)).alloc (.cells #[.slice k d.length l] 43)) i->i.cell? (J w.heap.size 0)=some (pV a)/\i.cell? (J (w.heap.size+1) 0)=some (.slice k d.length l)/\w.heap.size<i.heap.size/\w.heap.size+1<i.heap.size):=by
  intro i m;have S:=m.other (o.still n) v (by decide) (by decide);have T:=m.other (o.still n) y (by decide) (by decide);exact⟨cr S rfl,cr T rfl,(ltG S),(ltG T)⟩
 have Y:Hid (CC ((w.alloc (.cells #[pV a] 50)).alloc (.cells #[.slice k d.length l] 43)) B a c b 33 #[pV a,U (d.length:Int),.string ⟨#[44,32]⟩,.func (.func 173) #[] #[pV w.heap.size,pV (w.heap.size+1)]] (L0 [44,32] f d.length)):=by
  intro i a3 m a7 hl;refine(Q1a 173 (λ_ _=>by go_simp) i a3 a7 (kQ u m.size) d.length (by omega) ⟨#[44,32]⟩ _ _ f hl ?_).mono ?_
  · intro a2 j ad p a6 W a4;have a8:=(m.trans p).other (o.still n) v (by decide) (by decide);have a5:=(m.trans p).other (o.still n) y (by decide) (by decide);have a9:=(m.trans p).own (o.still n) (A4 X n (λ_ _ x=>x)) (by decide) (by decide);refine(W5c (kQ u (kQ m.size p.size)) a6 j w.heap.size (w.heap.size+1) k l d W a8 a5 a9 (f j) (A a2 ((Wkp.still n).trans (m.trans p)) j W) a4).mono ?_;rintro e w' ⟨rfl,g,h⟩;exact⟨rfl,p.trans g,h⟩
  · rintro e w' ⟨rfl,g,h⟩;exact⟨rfl,m.trans g,h⟩
 clear v y;clear o n u X A;generalize L0 [44,32] f d.length=rb at *;go_enter func134,ntmps134;have C:=O (R.o.1 _ _ (w.heap.size+1+1) 1 (q) (by simp) F.o L.o (by simp at z⊢<;>omega));go_wp2_with fail
 refine(C.o.1).mono ?_;rintro e aa ⟨rfl,g,h⟩;have G:=O g;have M:=O h;obtain⟨af,ag,ah,ai⟩:=s.o aa g;clear g h C F L;have D:=O (Y.o _ _ (G.o.trans (Wkp.still (I.drewN _ _ 1))) (M.o.still (I.drewN _ _ 1)) (by simp at z⊢<;>omega));go_wp2_with fail
 go_region_with (go_at_call 33;refine(D.o).mono ?_;rintro e ab ⟨rfl,g,h⟩)
 all_goals
  have H:=O g;have N:=O h;obtain⟨aj,ak,al,am⟩:=s.o ab g;clear g h D G M;have E:=O (R.o.1 _ _ _ 1 (r) rfl H.o N.o (by simp at z⊢<;>omega));go_wp2_with fail
  refine(E.o.1).mono ?_;rintro e ac ⟨rfl,g,h⟩;have K:=O g;have P:=O h;obtain⟨an,ao,ap,aq⟩:=s.o ac g;clear g h E H N;have HE:=O (Z.o _ _ K.o P.o (by simp));clear K P;go_wp2;go_end0;exact HE.o
theorem O7c{w:lZ}{C:bZ}(hB:B<=w.heap.size)(E:Wrt w B a c b C)(k y S z:Nat)(M:Option Addr)(N:Nat)(v:uZ)(hk:k<v.length)(hz:v[k]=(z:Int))(F:w.heap[y]? =some (.cells #[pV a] 50 (0,0)))(L:w.heap[S]? =some (.cells #[.slice M v.length N] 43 (0,0)))(ol:w.ownsRow 0 3 1 (.slice M v.length N) v.length (C8 v))(h R P:Nat)(i f m n:Int)(o:uZ)(d:bZ)(p r q:Int)(j:Option Addr)(l:Nat)(n4:w.cell? (J a 4)=some (.slice (some (J h 0)) R P))(ah:z<R)(_hnc:R<=P)(_hnm:P<=maxLen)(ae:h<w.heap.size)(ag:a<w.heap.size)(x0:w.cell? (J h (z * 9))=some (U i))(x1:w.cell? (J h (z * 9+1))=some (U f))(x2:w.cell? (J h (z * 9+2))=some (U m))(x3:w.cell? (J h (z * 9+3))=some (U n))(x4:w.cell? (J h (z * 9+4))=some (.slice j o.length l))(x5:w.cell? (J h (z * 9+5))=some (.string ⟨d.toArray⟩))(x6:w.cell? (J h (z * 9+6))=some (U p))(x7:w.cell? (J h (z * 9+7))=some (U r))(x8:w.cell? (J h (z * 9+8))=some (U q))(A:bZ)(T:CCs w B a c b 95 #[pV a,U f] A)(D:C.length+((d++[58,32])++A).length<=100000000000000):
 Calls prog 200 #[U (k:Int),pV y,pV S] w (D7 w B a c b (C++((d++[58,32])++A))):=by
 have a9:=(ltG F);have af:=(ltG L);have X:=O F;have a0:w.cell? (J y 0)=some (pV a):=cr F rfl;have l0:w.cell? (J S 0)=some (.slice M v.length N):=cr L rfl;obtain⟨ac,rfl,hg,ad,a8,a5⟩:=D9 ol hk;rw[hz]at a5;unfold maxLen at a8;clear F L ol hz;have t:I No w ((w.alloc (ndC i f m n (.slice j o.length l) d p r q)).drew):=(I.alloc No _ _).trans (I.drewN No _ 1) (λ_ _ x=>x);have a2:B<=((w.alloc (ndC i f m n (.slice j o.length l) d p r q)).drew).heap.size:=kQ hB t.size;have SY:=O (L1a (B:=B) (wb:=a) (tv:=c) (bn:=b) a2);have a6:=O (T _ t);have Y:=O (Wkp.refl B a ((w.alloc (ndC i f m n (.slice j o.length l) d p r q)).drew));have R0:=O (E.still t);have a7:Hid (∀g H,Wkp B a ((w.alloc (ndC i f m n (.slice j o.length l) d p r q)).drew) g->Wrt g B a c b H->H=C++((d++[58,32])++A)->D7 w B a c b (C++((d++[58,32])++A)) (rT) g):=λg H s u e=>⟨rfl,(Wkp.still t).trans s,e ▸ u⟩;have a3:((w.alloc (ndC i f m n (.slice j o.length l) d p r q)).drew).heap[w.heap.size]? =some (.cells #[U i,U f,U m,U n,.slice j o.length l,.string ⟨d.toArray⟩,U p,U r,U q] 87 (0,0)):=qY w _;have a4:((w.alloc (ndC i f m n (.slice j o.length l) d p r q)).drew).heap[y]? =some (.cells #[pV a] 50 (0,0)):=(t.block y a9 (λx=>x)).trans X.o;have G:Hid (∀g,Wkp B a ((w.alloc (ndC i f m n (.slice j o.length l) d p r q)).drew) g->g.cell? (J y 0)=some (pV a)/\g.cell? (J w.heap.size 1)=some (U f)/\g.cell? (J w.heap.size 5)=some (.string ⟨d.toArray⟩)/\y<g.heap.size/\w.heap.size<g.heap.size):=by
  intro g ha;have g0:=ha.other (E.still t) a4 (by decide) (by decide);have K:=ha.other (E.still t) a3 (by decide) (by decide);exact⟨cr g0 rfl,cr K rfl,cr K rfl,(ltG g0),(ltG K)⟩
 clear a3 a4 E t a2 X T;go_enter func200,ntmps200;go_wp2_with fail
 go_region
 obtain⟨ai,aj,ak,al,am⟩:=G.o _ (Wkp.refl B a ((w.alloc (ndC i f m n (.slice j o.length l) d p r q)).drew));clear x0 x1 x2 x3 x4 x5 x6 x7 x8 a5 l0 a0 n4;generalize ((w.alloc (ndC i f m n (.slice j o.length l) d p r q)).drew)=w0 at *;have V:=O (SY.o.2.1 _ _ _ 1 (d) [58,32] rfl Y.o R0.o (by first|omega|(simp;omega)|(simp at D;omega)|(simp at D⊢;omega)));go_wp2_with fail
 go_region_with (go_at_call 30;refine(V.o.2).mono ?_;rintro e aa ⟨rfl,s,u⟩)
 all_goals
  have Z:=O s;have R1:=O u;obtain⟨an,ao,ap,aq,ar⟩:=G.o aa s;clear s u V Y R0;have W:=O (a6.o _ _ Z.o R1.o (by first|omega|(simp;omega)|(simp at D;omega)|(simp at D⊢;omega)));go_wp2_with fail
  refine(W.o).mono ?_;rintro e ab ⟨rfl,s,u⟩;have K2:=O s;have R2:=O u;obtain⟨au,av,aw,ax,ay⟩:=G.o ab s;clear s u W Z R1;have HE:=O (a7.o _ _ K2.o R2.o (by simp));clear K2 R2;go_wp2;go_end0;exact HE.o
theorem U7b{w:lZ}{C:bZ}(hB:B<=w.heap.size)(E:Wrt w B a c b C)(k y S z:Nat)(fk fa fb fc:Int)(ft:bZ)(fn fy fp:Int)(M:Option Addr)(N:Nat)(v:uZ)(hk:k<v.length)(hz:v[k]=(z:Int))(F:w.heap[y]? =some (.cells #[pV a] 50 (0,0)))(L:w.heap[S]? =some (.cells #[U fk,U fa,U fb,U fc,.slice M v.length N,.string ⟨ft.toArray⟩,U fn,U fy,U fp] 87 (0,0)))(ol:w.ownsRow 0 3 1 (.slice M v.length N) v.length (C8 v))(h R P:Nat)(i m n o:Int)(p:uZ)(d:bZ)(q f r:Int)(j:Option Addr)(l:Nat)(n4:w.cell? (J a 4)=some (.slice (some (J h 0)) R P))(ah:z<R)(_hnc:R<=P)(_hnm:P<=maxLen)(ae:h<w.heap.size)(ag:a<w.heap.size)(x0:w.cell? (J h (z * 9))=some (U i))(x1:w.cell? (J h (z * 9+1))=some (U m))(x2:w.cell? (J h (z * 9+2))=some (U n))(x3:w.cell? (J h (z * 9+3))=some (U o))(x4:w.cell? (J h (z * 9+4))=some (.slice j p.length l))(x5:w.cell? (J h (z * 9+5))=some (.string ⟨d.toArray⟩))(x6:w.cell? (J h (z * 9+6))=some (U q))(x7:w.cell? (J h (z * 9+7))=some (U f))(x8:w.cell? (J h (z * 9+8))=some (U r))(A:bZ)(T:CCs w B a c b 96 #[pV a,U f] A)(D:C.length+(d++A).length<=100000000000000):
 Calls prog 199 #[U (k:Int),pV y,pV S] w (D7 w B a c b (C++(d++A))):=by
 have a9:=(ltG F);have af:=(ltG L);have X:=O F;have a0:w.cell? (J y 0)=some (pV a):=cr F rfl;have l0:w.cell? (J S 4)=some (.slice M v.length N):=cr L rfl;obtain⟨ac,rfl,hg,ad,a8,a5⟩:=D9 ol hk;rw[hz]at a5;unfold maxLen at a8;clear F L ol hz;have t:I No w ((w.alloc (ndC i m n o (.slice j p.length l) d q f r)).drew):=(I.alloc No _ _).trans (I.drewN No _ 1) (λ_ _ x=>x);have a2:B<=((w.alloc (ndC i m n o (.slice j p.length l) d q f r)).drew).heap.size:=kQ hB t.size;have SY:=O (L1a (B:=B) (wb:=a) (tv:=c) (bn:=b) a2);have a6:=O (T _ t);have Y:=O (Wkp.refl B a ((w.alloc (ndC i m n o (.slice j p.length l) d q f r)).drew));have R0:=O (E.still t);have a7:Hid (∀g H,Wkp B a ((w.alloc (ndC i m n o (.slice j p.length l) d q f r)).drew) g->Wrt g B a c b H->H=C++(d++A)->D7 w B a c b (C++(d++A)) (rT) g):=λg H s u e=>⟨rfl,(Wkp.still t).trans s,e ▸ u⟩;have a3:((w.alloc (ndC i m n o (.slice j p.length l) d q f r)).drew).heap[w.heap.size]? =some (.cells #[U i,U m,U n,U o,.slice j p.length l,.string ⟨d.toArray⟩,U q,U f,U r] 87 (0,0)):=qY w _;have a4:((w.alloc (ndC i m n o (.slice j p.length l) d q f r)).drew).heap[y]? =some (.cells #[pV a] 50 (0,0)):=(t.block y a9 (λx=>x)).trans X.o;have G:Hid (∀g,Wkp B a ((w.alloc (ndC i m n o (.slice j p.length l) d q f r)).drew) g->g.cell? (J y 0)=some (pV a)/\g.cell? (J w.heap.size 7)=some (U f)/\g.cell? (J w.heap.size 5)=some (.string ⟨d.toArray⟩)/\y<g.heap.size/\w.heap.size<g.heap.size):=by
  intro g ha;have g0:=ha.other (E.still t) a4 (by decide) (by decide);have K:=ha.other (E.still t) a3 (by decide) (by decide);exact⟨cr g0 rfl,cr K rfl,cr K rfl,(ltG g0),(ltG K)⟩
 clear a3 a4 E t a2 X T;go_enter func199,ntmps199;go_wp2_with fail
 go_region
 obtain⟨ai,aj,ak,al,am⟩:=G.o _ (Wkp.refl B a ((w.alloc (ndC i m n o (.slice j p.length l) d q f r)).drew));clear x0 x1 x2 x3 x4 x5 x6 x7 x8 a5 l0 a0 n4;generalize ((w.alloc (ndC i m n o (.slice j p.length l) d q f r)).drew)=w0 at *;have V:=O (SY.o.1 _ _ _ 1 (d) rfl Y.o R0.o (by first|omega|(simp;omega)|(simp at D;omega)|(simp at D⊢;omega)));go_wp2_with fail
 go_region_with (go_at_call 30;refine(V.o.2).mono ?_;rintro e aa ⟨rfl,s,u⟩)
 all_goals
  have Z:=O s;have R1:=O u;obtain⟨an,ao,ap,aq,ar⟩:=G.o aa s;clear s u V Y R0;have W:=O (a6.o _ _ Z.o R1.o (by first|omega|(simp;omega)|(simp at D;omega)|(simp at D⊢;omega)));go_wp2_with fail
  refine(W.o).mono ?_;rintro e ab ⟨rfl,s,u⟩;have K2:=O s;have R2:=O u;obtain⟨au,av,aw,ax,ay⟩:=G.o ab s;clear s u W Z R1;have HE:=O (a7.o _ _ K2.o R2.o (by simp));clear K2 R2;go_wp2;go_end0;exact HE.o
theorem Y7c{w:lZ}{D:bZ}(Z:B<=w.heap.size)(o:Wrt w B a c b D)(k:Option Addr)(l:Nat)(d:uZ)(f:Nat->bZ)(hn:d.length<=1000000)(P:∀(h:lZ) (s:bZ) (qx ql j:Nat),Wkp B a w h->Wrt h B a c b s->B<=h.heap.size->j<d.length->h.heap[qx]? =some (.cells #[pV a] 50 (0,0))->h.heap[ql]? =some (.cells #[.slice k d.length l] 43 (0,0))->s.length+(f j).length<=100000000000000->Calls prog 200 #[U (j:Int),pV qx,pV ql] h (D7 h B a c b (s++f j)))(z:D.length+(if d.length=0 then [123,125] else [123,32]++L0 [44,32] f d.length++[32,125]).length<=100000000000000):
 Calls prog 177 #[pV a,.slice k d.length l] w (D7 w B a c b (D++(if d.length=0 then [123,125] else [123,32]++L0 [44,32] f d.length++[32,125]))):=by
 generalize a3:(if d.length=0 then [123,125] else [123,32]++L0 [44,32] f d.length++[32,125])=XX at *;have R:=O a3;clear a3;have n:I No w ((w.alloc (.cells #[pV a] 50)).alloc (.cells #[.slice k d.length l] 43)):=I.trans (I.alloc No _ _) (I.alloc No _ _) (λ_ _ ae=>ae);have E:=kQ Z n.size;obtain⟨C,x,y,L⟩:=G9 Z o n (XX);have F:((w.alloc (.cells #[pV a] 50)).alloc (.cells #[.slice k d.length l] 43)).heap[w.heap.size]? =some (.cells #[pV a] 50 (0,0)):=by
  rw[Below.heap_alloc _ _ _ (by simp)];have:=qY w (.cells #[pV a] 50);simpa using this
 have G:((w.alloc (.cells #[pV a] 50)).alloc (.cells #[.slice k d.length l] 43)).heap[w.heap.size+1]? =some (.cells #[.slice k d.length l] 43 (0,0)):=by
  have:=qY (w.alloc (.cells #[pV a] 50)) (.cells #[.slice k d.length l] 43);simpa using this
 have v:Hid (∀h,Wkp B a ((w.alloc (.cells #[pV a] 50)).alloc (.cells #[.slice k d.length l] 43)) h->h.cell? (J w.heap.size 0)=some (pV a)/\h.cell? (J (w.heap.size+1) 0)=some (.slice k d.length l)/\w.heap.size<h.heap.size/\w.heap.size+1<h.heap.size):=by
  intro h m;have X:=m.other (o.still n) F (by decide) (by decide);have Y:=m.other (o.still n) G (by decide) (by decide);exact⟨cr X rfl,cr Y rfl,(ltG X),(ltG Y)⟩
 have a4:Hid (CC ((w.alloc (.cells #[pV a] 50)).alloc (.cells #[.slice k d.length l] 43)) B a c b 33 #[pV a,U (d.length:Int),.string ⟨#[44,32]⟩,.func (.func 200) #[] #[pV w.heap.size,pV (w.heap.size+1)]] (L0 [44,32] f d.length)):=by
  intro h s m aa hl;refine(Q1a 200 (λ_ _=>by go_simp) h s aa (kQ E m.size) d.length (by omega) ⟨#[44,32]⟩ _ _ f hl ?_).mono ?_
  · intro a2 j a5 u a9 hj a6;have ab:=(m.trans u).other (o.still n) F (by decide) (by decide);have a7:=(m.trans u).other (o.still n) G (by decide) (by decide);refine(P a2 a5 w.heap.size (w.heap.size+1) j ((Wkp.still n).trans (m.trans u)) a9 (kQ E (kQ m.size u.size)) hj ab a7 a6).mono ?_;rintro e w' ⟨rfl,g,i⟩;exact⟨rfl,u.trans g,i⟩
  · rintro e w' ⟨rfl,g,i⟩;exact⟨rfl,m.trans g,i⟩
 clear F G;clear o n E P;generalize L0 [44,32] f d.length=rb at *;go_enter func177,ntmps177;by_cases H:d.length=0
 · have t:=R.o;rw[rY H]at t;subst t;have a8:=iY H;subst a8;simp only[xQ]at *;have p:=O (C.o.1 _ _ (w.heap.size+1+1) 1 [123,125] (by simp) x.o y.o (by simp at z⊢<;>omega));go_wp2_with fail
   refine(p.o.1).mono ?_;rintro e K ⟨rfl,g,i⟩;have q:=O g;have r:=O i;obtain⟨af,ag,ah,ai⟩:=v.o K g;clear g i p x y;have A:=O (L.o _ _ q.o r.o (by simp));clear q r;go_wp2;go_end0;exact A.o
 · have t:=R.o;rw[yY H]at t;subst t;have aj:((d.length:Int)==0)=false:=by rw[beq_eq_false_iff_ne];omega
   have p:=O (C.o.1 _ _ (w.heap.size+1+1) 1 [123,32] (by simp) x.o y.o (by simp at z⊢<;>omega));go_wp2_with fail
   refine(p.o.1).mono ?_;rintro e K ⟨rfl,g,i⟩;have q:=O g;have r:=O i;obtain⟨af,ag,ah,ai⟩:=v.o K g;clear g i p x y;have M:=O (a4.o _ _ (q.o.trans (Wkp.still (I.drewN _ _ 1))) (r.o.still (I.drewN _ _ 1)) (by simp at z⊢<;>omega));go_wp2_with fail
   go_region_with (go_at_call 33;refine(M.o).mono ?_;rintro e ac ⟨rfl,g,i⟩)
   all_goals
    have S:=O g;have V:=O i;obtain⟨ak,al,am,an⟩:=v.o ac g;clear g i M q r;have N:=O (C.o.1 _ _ _ 1 [32,125] rfl S.o V.o (by simp at z⊢<;>omega));go_wp2_with fail
    refine(N.o.1).mono ?_;rintro e ad ⟨rfl,g,i⟩;have T:=O g;have W:=O i;obtain⟨ao,ap,aq,ar⟩:=v.o ad g;clear g i N S V;have A:=O (L.o _ _ T.o W.o (by simp));clear T W;go_wp2;go_end0;exact A.o
theorem D2c{w:lZ}{H:bZ}(hB:B<=w.heap.size)(z:Wrt w B a c b H)(r k p q:Int)(u:bZ)(s l t:Int)(n:Option Addr)(o:Nat)(h:uZ)(f:Nat->bZ)(E D:bZ)(hn:h.length<=1000000)(Y:∀(i:lZ) (A:bZ) (qx ql j:Nat),Wkp B a w i->Wrt i B a c b A->B<=i.heap.size->j<h.length->i.heap[qx]? =some (.cells #[pV a] 50 (0,0))->i.heap[ql]? =some (.cells #[U r,U k,U p,U q,.slice n h.length o,.string ⟨u.toArray⟩,U s,U l,U t] 87 (0,0))->A.length+(f j).length<=100000000000000->Calls prog 199 #[U (j:Int),pV qx,pV ql] i (D7 i B a c b (A++f j)))(P:CCs w B a c b 96 #[pV a,U l] E)(N:CCs w B a c b 56 #[pV a,U k] D)(y:H.length+([102,110,40]++L0 [44,32] f h.length++[41]++E++[32]++D).length<=100000000000000):
 Calls prog 176 #[pV a,.agg #[U r,U k,U p,U q,.slice n h.length o,.string ⟨u.toArray⟩,U s,U l,U t]] w (D7 w B a c b (H++([102,110,40]++L0 [44,32] f h.length++[41]++E++[32]++D))):=by
 have m:I No w ((w.alloc (.cells #[pV a] 50)).alloc (ndC r k p q (.slice n h.length o) u s l t)):=I.trans (I.alloc No _ _) (I.alloc No _ _) (λ_ _ aj=>aj);have K:=kQ hB m.size;obtain⟨G,Z,R0,a6⟩:=G9 hB z m ([102,110,40]++L0 [44,32] f h.length++[41]++E++[32]++D);have a5:=O (P _ m);have a3:=O (N _ m);have L:((w.alloc (.cells #[pV a] 50)).alloc (ndC r k p q (.slice n h.length o) u s l t)).heap[w.heap.size]? =some (.cells #[pV a] 50 (0,0)):=by
  rw[Below.heap_alloc _ _ _ (by simp)];have:=qY w (.cells #[pV a] 50);simpa using this
 have M:((w.alloc (.cells #[pV a] 50)).alloc (ndC r k p q (.slice n h.length o) u s l t)).heap[w.heap.size+1]? =some (.cells #[U r,U k,U p,U q,.slice n h.length o,.string ⟨u.toArray⟩,U s,U l,U t] 87 (0,0)):=by
  have:=qY (w.alloc (.cells #[pV a] 50)) (ndC r k p q (.slice n h.length o) u s l t);simpa using this
 have x:Hid (∀i,Wkp B a ((w.alloc (.cells #[pV a] 50)).alloc (ndC r k p q (.slice n h.length o) u s l t)) i->i.cell? (J w.heap.size 0)=some (pV a)/\i.cell? (J (w.heap.size+1) 4)=some (.slice n h.length o)/\i.cell? (J (w.heap.size+1) 7)=some (U l)/\i.cell? (J (w.heap.size+1) 1)=some (U k)/\w.heap.size<i.heap.size/\w.heap.size+1<i.heap.size):=by
  intro i v;have g0:=v.other (z.still m) L (by decide) (by decide);have F:=v.other (z.still m) M (by decide) (by decide);exact⟨cr g0 rfl,cr F rfl,cr F rfl,cr F rfl,(ltG g0),(ltG F)⟩
 have a4:Hid (CC ((w.alloc (.cells #[pV a] 50)).alloc (ndC r k p q (.slice n h.length o) u s l t)) B a c b 33 #[pV a,U (h.length:Int),.string ⟨#[44,32]⟩,.func (.func 199) #[] #[pV w.heap.size,pV (w.heap.size+1)]] (L0 [44,32] f h.length)):=by
  intro i A v ab hl;refine(Q1a 199 (λ_ _=>by go_simp) i A ab (kQ K v.size) h.length (by omega) ⟨#[44,32]⟩ _ _ f hl ?_).mono ?_
  · intro a2 j a7 C aa hj a8;have ac:=(v.trans C).other (z.still m) L (by decide) (by decide);have a9:=(v.trans C).other (z.still m) M (by decide) (by decide);refine(Y a2 a7 w.heap.size (w.heap.size+1) j ((Wkp.still m).trans (v.trans C)) aa (kQ K (kQ v.size C.size)) hj ac a9 a8).mono ?_;rintro e w' ⟨rfl,d,g⟩;exact⟨rfl,C.trans d,g⟩
  · rintro e w' ⟨rfl,d,g⟩;exact⟨rfl,v.trans d,g⟩
 clear L M;clear z m K Y P N;generalize L0 [44,32] f h.length=rb at *;go_enter func176,ntmps176;have R:=O (G.o.1 _ _ (w.heap.size+1+1) 1 [102,110,40] (by simp) Z.o R0.o (by simp at y⊢<;>omega));go_wp2_with fail
 refine(R.o.1).mono ?_;rintro e ad ⟨rfl,d,g⟩;have K1:=O d;have R1:=O g;obtain⟨ak,al,am,an,ao,ap⟩:=x.o ad d;clear d g R Z R0;have S:=O (a4.o _ _ (K1.o.trans (Wkp.still (I.drewN _ _ 1))) (R1.o.still (I.drewN _ _ 1)) (by simp at y⊢<;>omega));go_wp2_with fail
 go_region_with (go_at_call 33;refine(S.o).mono ?_;rintro e ae ⟨rfl,d,g⟩)
 all_goals
  have K2:=O d;have R2:=O g;obtain⟨aq,ar,au,av,aw,ax⟩:=x.o ae d;clear d g S K1 R1;have T:=O (G.o.1 _ _ _ 1 [41] rfl K2.o R2.o (by simp at y⊢<;>omega));go_wp2_with fail
  refine(T.o.1).mono ?_;rintro e af ⟨rfl,d,g⟩;have K3:=O d;have R3:=O g;obtain⟨ay,az,b0,b1,b2,b3⟩:=x.o af d;clear d g T K2 R2;have V:=O (a5.o _ _ K3.o R3.o (by simp at y⊢<;>omega));go_wp2_with fail
  refine(V.o).mono ?_;rintro e ag ⟨rfl,d,g⟩;have K4:=O d;have R4:=O g;obtain⟨b4,b5,b6,b7,b8,b9⟩:=x.o ag d;clear d g V K3 R3;have W:=O (G.o.1 _ _ _ 1 [32] rfl K4.o R4.o (by simp at y⊢<;>omega));go_wp2_with fail
  refine(W.o.1).mono ?_;rintro e ah ⟨rfl,d,g⟩;have K5:=O d;have R5:=O g;obtain⟨ba,bb,bc,bd,be,bf⟩:=x.o ah d;clear d g W K4 R4;have X:=O (a3.o _ _ K5.o R5.o (by simp at y⊢<;>omega));go_wp2_with fail
  refine(X.o).mono ?_;rintro e ai ⟨rfl,d,g⟩;have K6:=O d;have R6:=O g;obtain⟨bg,bh,bi,bj,bk,bm⟩:=x.o ai d;clear d g X K5 R5;have HE:=O (a6.o _ _ K6.o R6.o (by simp));clear K6 R6;go_wp2;go_end0;exact HE.o
theorem Z7b{w:lZ}{h:bZ}(K:B<=w.heap.size)(i:Wrt w B a c b h)(x y z:Int)(A:uZ)(v:bZ)(j D C:Int)(t:Option Addr)(u:Nat)(d:bZ)(l:∀k,I No w k->∀g,Wkp B a k g->Calls prog 174 #[U j] g λe L=>e= .returned (.string ⟨d.toArray⟩)/\I No g L)(N:h.length+(d).length<=100000000000000):
 Calls prog 135 #[pV a,.agg #[U 1,U x,U y,U z,.slice t A.length u,.string ⟨v.toArray⟩,U j,U D,U C]] w (D7 w B a c b (h++(d))):=by
 have f:I No w (w.alloc (ndC 1 x y z (.slice t A.length u) v j D C)):=I.alloc No _ _;obtain⟨H,m,o,F⟩:=G9 K i f (d);have M:=fc1 i f 6 rfl;have E:=O (l _ f);clear i f l;go_enter func135,ntmps135;go_wp2_with fail
 go_region_with (first|(go_at_call 174;refine(E.o _ (Wkp.still (I.drewN _ _ 1))).mono ?_;rintro e P ⟨rfl,s⟩)|(go_at_call 30;refine((H.o.1 _ _ _ 1 d rfl ((m.o.trans (Wkp.still (I.drewN _ _ 1))).trans (Wkp.still s)) ((o.o.still (I.drewN _ _ 1)).still s) (by omega)).1).mono ?_;rintro e k ⟨rfl,q,r⟩))
 all_goals
  have n:=O q;have p:=O r;clear q r m o;have G:=O (F.o _ _ n.o p.o (by simp));clear n p;go_wp2;go_end0;exact G.o
theorem Q1b{w:lZ}{f:bZ}(E:B<=w.heap.size)(i:Wrt w B a c b f)(r s t:Int)(u:uZ)(d:bZ)(v y x:Int)(p:Option Addr)(q:Nat)(F:f.length+([34]++d++[34]).length<=100000000000000):
 Calls prog 135 #[pV a,.agg #[U 2,U r,U s,U t,.slice p u.length q,.string ⟨d.toArray⟩,U v,U y,U x]] w (D7 w B a c b (f++([34]++d++[34]))):=by
 have h:I No w (w.alloc (ndC 2 r s t (.slice p u.length q) d v y x)):=I.alloc No _ _;obtain⟨D,k,m,z⟩:=G9 E i h ([34]++d++[34]);have A:=fc1 i h 5 rfl;clear i h;go_enter func135,ntmps135;have j:=O (D.o.2.2 _ _ (w.heap.size+1) 1 [34] (d) [34] (by simp) k.o m.o (by simp at F⊢<;>omega));go_wp2_with fail
 go_region_with (go_at_call 30;refine(j.o.2).mono ?_;rintro e G ⟨rfl,g,o⟩)
 all_goals
  have l:=O g;have n:=O o;obtain⟨H,K⟩:=A.o G g;clear g o j k m;have C:=O (z.o _ _ l.o n.o (by simp));clear l n;go_wp2;go_end0;exact C.o
theorem Q3b{w:lZ}{h:bZ}(K:B<=w.heap.size)(i:Wrt w B a c b h)(x y z:Int)(A:uZ)(v:bZ)(j D C:Int)(t:Option Addr)(u:Nat)(d:bZ)(l:∀k,I No w k->∀g,Wkp B a k g->Calls prog 175 #[.bool (j==1)] g λe L=>e= .returned (.string ⟨d.toArray⟩)/\I No g L)(N:h.length+(d).length<=100000000000000):
 Calls prog 135 #[pV a,.agg #[U 3,U x,U y,U z,.slice t A.length u,.string ⟨v.toArray⟩,U j,U D,U C]] w (D7 w B a c b (h++(d))):=by
 have f:I No w (w.alloc (ndC 3 x y z (.slice t A.length u) v j D C)):=I.alloc No _ _;obtain⟨H,m,o,F⟩:=G9 K i f (d);have M:=fc1 i f 6 rfl;have E:=O (l _ f);clear i f l;go_enter func135,ntmps135;go_wp2_with fail
 go_region_with (first|(go_at_call 175;refine(E.o _ (Wkp.still (I.drewN _ _ 1))).mono ?_;rintro e P ⟨rfl,s⟩)|(go_at_call 30;refine((H.o.1 _ _ _ 1 d rfl ((m.o.trans (Wkp.still (I.drewN _ _ 1))).trans (Wkp.still s)) ((o.o.still (I.drewN _ _ 1)).still s) (by omega)).1).mono ?_;rintro e k ⟨rfl,q,r⟩))
 all_goals
  have n:=O q;have p:=O r;clear q r m o;have G:=O (F.o _ _ n.o p.o (by simp));clear n p;go_wp2;go_end0;exact G.o
theorem Q2b{w:lZ}{d:bZ}(E:B<=w.heap.size)(h:Wrt w B a c b d)(r s t:Int)(u:uZ)(q:bZ)(v y x:Int)(o:Option Addr)(p:Nat)(F:d.length+([110,117,108,108]).length<=100000000000000):
 Calls prog 135 #[pV a,.agg #[U 4,U r,U s,U t,.slice o u.length p,.string ⟨q.toArray⟩,U v,U y,U x]] w (D7 w B a c b (d++([110,117,108,108]))):=by
 have g:I No w (w.alloc (ndC 4 r s t (.slice o u.length p) q v y x)):=I.alloc No _ _;obtain⟨D,j,l,z⟩:=G9 E h g ([110,117,108,108]);have A:=fc1 h g 5 rfl;clear h g;go_enter func135,ntmps135;have i:=O (D.o.1 _ _ (w.heap.size+1) 1 [110,117,108,108] (by simp) j.o l.o (by simp at F⊢<;>omega));go_wp2_with fail
 refine(i.o.1).mono ?_;rintro e G ⟨rfl,f,n⟩;have k:=O f;have m:=O n;obtain⟨H,K⟩:=A.o G f;clear f n i j l;have C:=O (z.o _ _ k.o m.o (by simp));clear k m;go_wp2;go_end0;exact C.o
theorem Z5b{w:lZ}{f:bZ}(E:B<=w.heap.size)(i:Wrt w B a c b f)(r s t:Int)(u:uZ)(d:bZ)(v y x:Int)(p:Option Addr)(q:Nat)(G:f.length+(d).length<=100000000000000):
 Calls prog 135 #[pV a,.agg #[U 5,U r,U s,U t,.slice p u.length q,.string ⟨d.toArray⟩,U v,U y,U x]] w (D7 w B a c b (f++(d))):=by
 have h:I No w (w.alloc (ndC 5 r s t (.slice p u.length q) d v y x)):=I.alloc No _ _;obtain⟨D,k,m,z⟩:=G9 E i h (d);have A:=fc1 i h 5 rfl;clear i h;go_enter func135,ntmps135;have j:=O (D.o.1 _ _ (w.heap.size+1) 1 (d) (by simp) k.o m.o (by omega));go_wp2_with fail
 go_region_with (go_at_call 30;refine(j.o.2).mono ?_;rintro e F ⟨rfl,g,o⟩)
 all_goals
  have l:=O g;have n:=O o;obtain⟨H,K⟩:=A.o F g;clear g o j k m;have C:=O (z.o _ _ l.o n.o (by simp));clear l n;go_wp2;go_end0;exact C.o
theorem N5c{w:lZ}{g:bZ}(G:B<=w.heap.size)(i:Wrt w B a c b g)(m n o:Int)(p:uZ)(l:bZ)(q s r:Int)(j:Option Addr)(k:Nat)(d:bZ)(t:CCs w B a c b 176 #[pV a,.agg #[U 6,U m,U n,U o,.slice j p.length k,.string ⟨l.toArray⟩,U q,U s,U r]] d)(L:g.length+(d).length<=100000000000000):
 Calls prog 135 #[pV a,.agg #[U 6,U m,U n,U o,.slice j p.length k,.string ⟨l.toArray⟩,U q,U s,U r]] w (D7 w B a c b (g++(d))):=by
 have f:I No w (w.alloc (ndC 6 m n o (.slice j p.length k) l q s r)):=I.alloc No _ _;obtain⟨K,v,y,D⟩:=G9 G i f (d);have C:=O (t _ f);have E:=fc1 i f 5 rfl;clear i f t;go_enter func135,ntmps135;have u:=O (C.o _ _ v.o y.o (by omega));go_wp2_with fail
 refine(u.o).mono ?_;rintro e H ⟨rfl,h,A⟩;have x:=O h;have z:=O A;obtain⟨M,N⟩:=E.o H h;clear h A u v y;have F:=O (D.o _ _ x.o z.o (by simp));clear x z;go_wp2;go_end0;exact F.o
theorem Z6b{w:lZ}{g:bZ}(G:B<=w.heap.size)(i:Wrt w B a c b g)(u v x:Int)(l:uZ)(t:bZ)(y A z:Int)(j:Option Addr)(k:Nat)(d:bZ)(m:CCs w B a c b 177 #[pV a,.slice j l.length k] d)(L:g.length+(d).length<=100000000000000):
 Calls prog 135 #[pV a,.agg #[U 10,U u,U v,U x,.slice j l.length k,.string ⟨t.toArray⟩,U y,U A,U z]] w (D7 w B a c b (g++(d))):=by
 have f:I No w (w.alloc (ndC 10 u v x (.slice j l.length k) t y A z)):=I.alloc No _ _;obtain⟨K,o,q,D⟩:=G9 G i f (d);have C:=O (m _ f);have E:=fc1 i f 4 rfl;clear i f m;go_enter func135,ntmps135;have n:=O (C.o _ _ o.o q.o (by omega));go_wp2_with fail
 refine(n.o).mono ?_;rintro e H ⟨rfl,h,s⟩;have p:=O h;have r:=O s;obtain⟨M,N⟩:=E.o H h;clear h s n o q;have F:=O (D.o _ _ p.o r.o (by simp));clear p r;go_wp2;go_end0;exact F.o
theorem Z8b{w:lZ}{g:bZ}(G:B<=w.heap.size)(i:Wrt w B a c b g)(u v x:Int)(l:uZ)(t:bZ)(y A z:Int)(j:Option Addr)(k:Nat)(d:bZ)(m:CCs w B a c b 134 #[pV a,.string ⟨#[91]⟩,.slice j l.length k,.string ⟨#[93]⟩] d)(L:g.length+(d).length<=100000000000000):
 Calls prog 135 #[pV a,.agg #[U 11,U u,U v,U x,.slice j l.length k,.string ⟨t.toArray⟩,U y,U A,U z]] w (D7 w B a c b (g++(d))):=by
 have f:I No w (w.alloc (ndC 11 u v x (.slice j l.length k) t y A z)):=I.alloc No _ _;obtain⟨K,o,q,D⟩:=G9 G i f (d);have C:=O (m _ f);have E:=fc1 i f 4 rfl;clear i f m;go_enter func135,ntmps135;have n:=O (C.o _ _ o.o q.o (by omega));go_wp2_with fail
 refine(n.o).mono ?_;rintro e H ⟨rfl,h,s⟩;have p:=O h;have r:=O s;obtain⟨M,N⟩:=E.o H h;clear h s n o q;have F:=O (D.o _ _ p.o r.o (by simp));clear p r;go_wp2;go_end0;exact F.o
end
