/-
  A part of the proof.
-/
import Derived.Test.YtneelacbkianjaaGreatDoorBindC
set_option maxHeartbeats 16000000
set_option maxRecDepth 100000
namespace Go.Proofs.YtneelacbkianjaaGreatDoor
open Go.Proofs.Tryz
open Go.RowKit Go.Maps
section
variable{b:lZ}{B a:Nat}{c d:Value}{N:List Nd}
theorem Z3c(hN:Nrow b c N)(i:Nat)(hi:i<N.length)(w:lZ)(m:Nat)(F:List Fr)(E:uZ)(h:Bnt b w B a c d m F E)(az:F≠[])(T tb:Nat)(Y qs:List Nt)(ai:S6c N T tb Y N[i] qs)(hC:∀a8∈Y,1<=a8.k->A0a b B a c d N a8)(P:Nat)(b5:m+2 * nNL Y<=P)(hm:P<=100000)(hf:F.length+nNL Y<=100000)(ak:E.length=N.length)(ag:(N[i]).list.length<=100000)(aj:(N[i]).text.length<=1000000)(hk:(N[i]).kind=5\/(N[i]).kind=18)(R:Br)(a4:lookQ (N[i]).text F=none->R= .bad 5 i)(a5:∀j,lookQ (N[i]).text F=some j->R=(Br.ok F [(i,j)]).and λaw=>bnL false aw T Y):
 Calls prog 107 #[pV a,U (i:Int)] w (BnPost b w B a c d N P E R):=by
 have ay:=h.bel;obtain⟨g,S,r,s,rfl,hg,ba,b6,⟨x0,x1,x2,x3,x4,x5,x6,x7,x8⟩,ho,a7⟩:=hN.at h.bel i hi;generalize ah:N[i]=nd at *;obtain⟨l,u,y,z,t,n,A,C,p⟩:=nd;simp only at x0 x1 x2 x3 x4 x5 x6 x7 x8 ho a7 ag aj hk a4 a5;have W:I No w ((w.alloc (.cells #[pV a] 94)).alloc (ndC l u y z (.slice r t.length s) n A C p)):=D3 (I.alloc No _ _) (I.alloc No _ _);have h1:=h.kept W;have ac:((w.alloc (.cells #[pV a] 94)).alloc (ndC l u y z (.slice r t.length s) n A C p)).heap[w.heap.size]? =some (.cells #[pV a] 94 (0,0)):=by
  rw[Below.heap_alloc _ _ _ (by simp)];have:=qY w (.cells #[pV a] 94);simpa using this
 have ad:((w.alloc (.cells #[pV a] 94)).alloc (ndC l u y z (.slice r t.length s) n A C p)).heap[w.heap.size+1]? =some (.cells #[U l,U u,U y,U z,.slice r t.length s,.string ⟨n.toArray⟩,U A,U C,U p] 87 (0,0)):=by
  have:=qY (w.alloc (.cells #[pV a] 94)) (ndC l u y z (.slice r t.length s) n A C p);simpa using this
 have Z:((w.alloc (.cells #[pV a] 94)).alloc (ndC l u y z (.slice r t.length s) n A C p)).cell? (J w.heap.size 0)=some (pV a):=cr ac rfl;have KA:=O (Bkp.still (B:=B) (bb:=a) (tv:=d) W);obtain⟨ap,aq⟩:=h.blk;have ae:=A4 ho W (λ_ _ x=>x);unfold maxLen at b6;have ab:atI N i=p:=by
  unfold atI;rw[lQ,gQ hi,ah];rfl
 have af:i<E.length:=by omega
 obtain⟨f,G,a3,t1,t2,t3,-,-,t4,-,-,-⟩:=h.write i af 0;subst a3;have FI:Hid (∀M,I No ((w.alloc (.cells #[pV a] 94)).alloc (ndC l u y z (.slice r t.length s) n A C p)) M->Calls prog 153 #[pV a,.agg #[U l,U u,U y,U z,.slice r t.length s,.string ⟨n.toArray⟩,U A,U C,U p]] M λe D=>
  (e=gu 5 p/\Hid (BnPost b w B a (.slice (some (J g 0)) N.length S) (.slice (some (J f 0)) E.length G) N P E R (gu 5 p) D))\/
  (∃j,e= .returned (U j)/\(∃am,D.cell? (J f i)=some (U am))/\D.frozen? (J f i)=false/\D.cell? (J a 2)=some (.slice (some (J f 0)) E.length G)/\D.cell? (J w.heap.size 0)=some (pV a)/\(a<D.heap.size/\f<D.heap.size)/\
   Hid (lookQ n F=some j/\Bkp B a (.slice (some (J f 0)) E.length G) w (D.setCell (J f i) (U j))/\Bnt b (D.setCell (J f i) (U j)) B a (.slice (some (J g 0)) N.length S) (.slice (some (J f 0)) E.length G) m F (upd E [(i,j)])/\I (λk=>k=f) ((w.alloc (.cells #[pV a] 94)).alloc (ndC l u y z (.slice r t.length s) n A C p)) (D.setCell (J f i) (U j))))):=by
  intro M ha;have h2:=h1.kept ha;obtain⟨av,ms,hs⟩:=h2.st;have b9:=hs.len;refine(S4c hs (by omega) l u y z r t.length s n A C p aj).mono ?_;rintro e D ⟨V,he⟩;have a2:=D3 ha V;have h3:=h2.kept V;cases X:lookQ n F with
  |none=>
   rw[X]at he;exact .inl ⟨he,KA.o.trans (Bkp.still a2),by rw[a4 X];show gu 5 p=gu 5 (atI N i);rw[ab]⟩
  |some j=>
   rw[X]at he;obtain⟨b8,bb,a3,u1,u2,u3,u4,u5,u6,u7,u8,u9⟩:=h3.write i af j;simp only[Value.slice.injEq,zQ,Addr.mk.injEq,and_true,true_and]at a3;obtain⟨rfl,rfl⟩:=a3;exact .inr ⟨j,he,⟨_,u4⟩,u5,u6,A8 a2 Z,⟨u7,u1⟩,rfl,(KA.o.trans (Bkp.still a2)).trans u8,u9,I.trans (a2.mono λ_ _ x=>x.elim) (I.set D (J f i) _) (λ_ _ x=>x)⟩
 have PB:Hid (∀(j:Int) (D:lZ),Hid (lookQ n F=some j/\Bkp B a (.slice (some (J f 0)) E.length G) w (D.setCell (J f i) (U j))/\Bnt b (D.setCell (J f i) (U j)) B a (.slice (some (J g 0)) N.length S) (.slice (some (J f 0)) E.length G) m F (upd E [(i,j)])/\I (λk=>k=f) ((w.alloc (.cells #[pV a] 94)).alloc (ndC l u y z (.slice r t.length s) n A C p)) (D.setCell (J f i) (U j)))->
  (∀o v,((w.alloc (.cells #[pV a] 94)).alloc (ndC l u y z (.slice r t.length s) n A C p)).cell? (J w.heap.size o)=some v->(D.setCell (J f i) (U j)).cell? (J w.heap.size o)=some v)/\(∀o v,((w.alloc (.cells #[pV a] 94)).alloc (ndC l u y z (.slice r t.length s) n A C p)).cell? (J (w.heap.size+1) o)=some v->(D.setCell (J f i) (U j)).cell? (J (w.heap.size+1) o)=some v)/\
  ∀M,I No (D.setCell (J f i) (U j)) M->Calls prog 39 #[.agg #[U l,U u,U y,U z,.slice r t.length s,.string ⟨n.toArray⟩,U A,U C,U p]] M λe a9=>∃ga gc,e= .returned (.slice ga (px T qs).length gc)/\a9.cell? (J w.heap.size 0)=some (pV a)/\
  Hid (Calls prog 69 #[pV a,.slice ga (px T qs).length gc] a9 (X5b b w B a (.slice (some (J g 0)) N.length S) (.slice (some (J f 0)) E.length G) N P E R))):=by
  rintro j D ⟨X,b3,ax,V⟩;have b0:∀q,w.heap.size<=q->q≠f:=λq hq=>by omega
  have a6:∀q,w.heap.size<=q->∀o v,((w.alloc (.cells #[pV a] 94)).alloc (ndC l u y z (.slice r t.length s) n A C p)).cell? (J q o)=some v->(D.setCell (J f i) (U j)).cell? (J q o)=some v:=λq hq o v e=>by
   have b4:=blt e;have:=V.block q b4 (b0 q hq);unfold World.cell? at *;simp only at *;rw[this];exact e
  refine⟨a6 _ (vQ _),a6 _ (by omega),λM ha=> ?_⟩;rw[a5 j X];refine T8a b3 ax az ai hC (by omega) hf ak r s ?_ ag w.heap.size (a6 _ (vQ _) _ _ Z) P b5 M ha;refine A4 ae V λq hq e=> ?_;have:=a7 q hq;have h5:=(h.fresh (q:=f));have:=h.low.2 f rfl;have:=h.hz;omega
 have cn:∀o v,(#[U l,U u,U y,U z,.slice r t.length s,.string ⟨n.toArray⟩,U A,U C,U p]:Array Value)[o]? =some v->((w.alloc (.cells #[pV a] 94)).alloc (ndC l u y z (.slice r t.length s) n A C p)).cell? (J (w.heap.size+1) o)=some v:=λo v e=>by rw[cell_of_row _ _ o _ _ _ ad];exact e
 have H:=O cn;have au:=t4;clear cn;generalize (px T qs).length=pl at *;clear ak ai hC h1 h ah ac ad ae ho a7 ay hN a4 a5 ab;have n0:((w.alloc (.cells #[pV a] 94)).alloc (ndC l u y z (.slice r t.length s) n A C p)).cell? (J (w.heap.size+1) 0)=some (U l):=H.o 0 _ rfl;have n1:((w.alloc (.cells #[pV a] 94)).alloc (ndC l u y z (.slice r t.length s) n A C p)).cell? (J (w.heap.size+1) 1)=some (U u):=H.o 1 _ rfl;have n2:((w.alloc (.cells #[pV a] 94)).alloc (ndC l u y z (.slice r t.length s) n A C p)).cell? (J (w.heap.size+1) 2)=some (U y):=H.o 2 _ rfl;have n3:((w.alloc (.cells #[pV a] 94)).alloc (ndC l u y z (.slice r t.length s) n A C p)).cell? (J (w.heap.size+1) 3)=some (U z):=H.o 3 _ rfl;have n4:((w.alloc (.cells #[pV a] 94)).alloc (ndC l u y z (.slice r t.length s) n A C p)).cell? (J (w.heap.size+1) 4)=some (.slice r t.length s):=H.o 4 _ rfl;have n5:((w.alloc (.cells #[pV a] 94)).alloc (ndC l u y z (.slice r t.length s) n A C p)).cell? (J (w.heap.size+1) 5)=some (.string ⟨n.toArray⟩):=H.o 5 _ rfl;have n6:((w.alloc (.cells #[pV a] 94)).alloc (ndC l u y z (.slice r t.length s) n A C p)).cell? (J (w.heap.size+1) 6)=some (U A):=H.o 6 _ rfl;have n7:((w.alloc (.cells #[pV a] 94)).alloc (ndC l u y z (.slice r t.length s) n A C p)).cell? (J (w.heap.size+1) 7)=some (U C):=H.o 7 _ rfl;have n8:((w.alloc (.cells #[pV a] 94)).alloc (ndC l u y z (.slice r t.length s) n A C p)).cell? (J (w.heap.size+1) 8)=some (U p):=H.o 8 _ rfl;have l1:w.heap.size+1<((w.alloc (.cells #[pV a] 94)).alloc (ndC l u y z (.slice r t.length s) n A C p)).heap.size:=by simp
 have l2:a<((w.alloc (.cells #[pV a] 94)).alloc (ndC l u y z (.slice r t.length s) n A C p)).heap.size:=by simp;omega
 have l3:f<((w.alloc (.cells #[pV a] 94)).alloc (ndC l u y z (.slice r t.length s) n A C p)).heap.size:=by simp;omega
 have ar:((w.alloc (.cells #[pV a] 94)).alloc (ndC l u y z (.slice r t.length s) n A C p)).cell? (J a 2)=some (.slice (some (J f 0)) E.length G):=A8 W t4;have hg:(l==5)=true\/(l==5)=false/\(l==18)=true:=by
  rcases hk with rfl|rfl
  · exact .inl rfl
  · exact .inr ⟨rfl,rfl⟩
 clear hk;rcases hg with g5|⟨g5,g18⟩;all_goals
  go_enter func107,ntmps107;go_wp2_with fail
  generalize ((w.alloc (.cells #[pV a] 94)).alloc (ndC l u y z (.slice r t.length s) n A C p))=wz at *;try clear x0 x1 x2 x3 x4 x5 x6 x7 x8
  try clear H KA W
  unfold maxLen at t3;rename_i an aK;have ao:Hid (∀(b1 b2:Value) (j:Int) (D:lZ),Hid (lookQ n F=some j/\Bkp B a (.slice (some (J f 0)) E.length G) w (D.setCell (J f i) (U j))/\Bnt b (D.setCell (J f i) (U j)) B a (.slice (some (J g 0)) N.length S) (.slice (some (J f 0)) E.length G) m F (upd E [(i,j)])/\I (λk=>k=f) wz (D.setCell (J f i) (U j)))->
   Exit.inBlock 0 (Exit.then an (bodyPost prog Tryz.f107 (BnPost b w B a (.slice (some (J g 0)) N.length S) (.slice (some (J f 0)) E.length G) N P E R))) Exit.normal { tmps:=#[pV a,U (i:Int),pV w.heap.size,undef,pV (w.heap.size+1),pV a,pV a,pV a,.slice (some (J g 0)) N.length S,U (i:Int),.pointer (some (J g (i * 9))),.agg #[U l,U u,U y,U z,.slice r t.length s,.string ⟨n.toArray⟩,U A,U C,U p],pV (w.heap.size+1),U l,.bool true,b1,b2,pV a,pV a,.pointer (some (J a 2)),.slice (some (J f 0)) E.length G,U (i:Int),pV a,.agg #[U l,U u,U y,U z,.slice r t.length s,.string ⟨n.toArray⟩,U A,U C,U p],U j,.pointer (some (J f i)),undef,undef,undef,undef,undef,undef,undef,undef,undef,undef,undef,undef,undef,undef,undef,undef,undef,undef,undef,undef,undef,undef,undef,undef,undef,undef,undef],defers:=[] } (D.setCell (J f i) (U j))):=by
   intro b1 b2 j D L;obtain⟨al,K,aa⟩:=PB.o j D L;have y0:=al 0 _ Z;have z0:=K 0 _ n0;have z1:=K 1 _ n1;have z2:=K 2 _ n2;have z3:=K 3 _ n3;have z4:=K 4 _ n4;have z5:=K 5 _ n5;have z6:=K 6 _ n6;have z7:=K 7 _ n7;have z8:=K 8 _ n8;have PA:=O aa;have lz:=blt z0;clear al K aa FI PB L n0 n1 n2 n3 n4 n5 n6 n7 n8 Z;generalize D.setCell (J f i) (U j)=wy at *;try clear ap aq ar t4 au
   go_wp2_with fail
   go_region_with (first|(go_at_call 39;refine(PA.o _ (I.drewN _ _ 1)).mono ?_;rintro e D ⟨ga,gc,rfl,b7,L⟩)|(go_at_call 69;refine(Hid.o L).mono ?_;rintro e a9 (⟨er,a8,rfl,H4⟩|⟨rfl,H4⟩);exact⟨rfl,H4.o⟩))
   all_goals go_wp2_with fail
   all_goals go_end0
   all_goals exact H4.o
  clear PB aK;go_region_with (go_at_call 153;refine(FI.o _ (I.drewN _ _ 1)).mono ?_;rintro e D (⟨rfl,L⟩|⟨j,rfl,⟨am,u1⟩,u2,u3,u4,⟨u5,u6⟩,L⟩);exact⟨rfl,L.o⟩)
  all_goals exact ao.o _ _ _ _ L
end
