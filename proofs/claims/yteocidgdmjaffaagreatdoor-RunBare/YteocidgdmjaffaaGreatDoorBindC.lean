/-
  A part of the proof.
-/
import Derived.Test.YteocidgdmjaffaaGreatDoorBindA
set_option maxHeartbeats 0
set_option linter.all false
set_option maxRecDepth 100000
namespace Go.Proofs.YteocidgdmjaffaaGreatDoor
open Go.RowKit Go.Maps
def Xb{w:E}{q}{x y z}{t}(h:w.heap[q]?=some (.cells #[x,y,z] t (0,0)))(v):(w.setCell (J q 2) v).heap[q]?=some (.cells #[x,y,v] t (0,0)):=by
 rw[heap_setCell_same w q 2 _ _ v h];rfl
structure pO(wz w:E)(B bb:Nat)(nv tv:Value)(j:Nat):Prop where
 low:B<=bb
 eo:w.heap[bb]?=some (.cells #[nv,sN,tv] 97 (0,0))
 jh:w.ownsRow wz.heap.size 3 1 tv j (C7 (List.replicate j (-1)))
 P:I (λk=>k=bb) wz w
theorem pO.grow{l w i c}{B a}{f g b}{j}(h:pO l w B a f g j)(d:I No w i)(n:I (λk=>some k=g.ownBlock) i c)(u:c.ownsRow l.heap.size 3 1 b (j+1) (C7 (List.replicate j (-1))++[U (-1)])):pO l (c.setCell (J a 2) b) B a f b (j+1):=by
 have o:=(aI h.eo);have s:=A3 h.jh d (λ_ _ x=>x);have m:i.heap[a]?=some (.cells #[f,sN,g] 97 (0,0)):=by rw[d.block a o id];exact h.eo
 have r:=M4 s m (by decide);have p:c.heap[a]?=some (.cells #[f,sN,g] 97 (0,0)):=by
  rw[n.block a (yQ o d.size) (λe=>r e.symm)];exact m
 have q:=I.set c (J a 2) b;refine⟨h.low,Xb p b,?_,?_⟩
 .grind[C7,List.replicate,List.replicate_succ',A3,M4]
 .refine I.trans (I.trans (I.trans h.P d λ_ _ x=>x.elim) n λk t e=>?_) q λ_ _ x=>x;have:=(h.jh.lt k e.symm).1;omega
def pO.done{w0 b w:E}{B c}{g l}{j}(h:pO b w B c g l j)(m:w0.heap.size<=B)(d:B<=b.heap.size)(f:Below w0.heap.size w0 b):cM w0 w B c g l 0 [] (List.replicate j (-1)):=by
 have n:=h.low;refine⟨m,kQ d h.P.size,f.trans (I.ek h.P (λk _ e=>by omega) f.size),sN,[],h.low,h.eo,kW _ _ _ _,?_,rfl,by simp,by simp,λi a _=>by grind⟩;have:=C8 h.jh d;grind
open Go.Proofs.Tryz
section
variable{d:E}{B a:Nat}{c b:Value}{N:List C}
def Fs(L:cV d c N)(i)(hi:i<N.length)(w)(m)(u)(F)(h:cM d w B a c b m u F)(a7:u≠[])(v tb)(k Z)(V:uJ N v tb k N[i] Z)(H:∀p∈k,1<=p.k->X7 d B a c b N p)(x)(a8:m+2*aA k<=x)(hm:x<=100000)(hf:u.length+aA k<=100000)(W:F.length=N.length)(S:(N[i]).M.length<=100000)(R:(N[i]).x≠5/\(N[i]).x≠18/\(N[i]).x≠17/\(N[i]).x≠16/\(N[i]).x≠6/\(N[i]).x≠26):
 Calls prog 100 #[pV a,U i] w (aG d w B a c b N x F (bB false u v k)):=by
 have a6:=h.jg;obtain⟨ag,nc,f,g,rfl,hg,ah,a9,⟨x0,x1,x2,x3,x4,x5,x6,x7,x8⟩,D,T⟩:=L.at h.jg i hi;generalize aa:N[i]=nd at*;obtain⟨e,n,o,q,j,l,r,t,s⟩:=nd;simp only at x0 x1 x2 x3 x4 x5 x6 x7 x8 D T S R;have A:I No w ((w.alloc (.cells #[pV a] 92)).alloc (aL e n o q (.slice f j.length g) l r t s)):=B6 (I.alloc No _ _) (I.alloc No _ _);have G:=h.kept A;have M:((w.alloc (.cells #[pV a] 92)).alloc (aL e n o q (.slice f j.length g) l r t s)).heap[w.heap.size]?=some (.cells #[pV a] 92 (0,0)):=by
  rw[Below.heap_alloc _ _ _ (by simp)];have:=yY w (.cells #[pV a] 92);simpa using this
 have a5:((w.alloc (.cells #[pV a] 92)).alloc (aL e n o q (.slice f j.length g) l r t s)).heap[w.heap.size+1]?=some (.cells #[U e,U n,U o,U q,.slice f j.length g,.string ⟨l.toArray⟩,U r,U t,U s] 85 (0,0)):=by
  have:=yY (w.alloc (.cells #[pV a] 92)) (aL e n o q (.slice f j.length g) l r t s);simpa using this
 have a3:((w.alloc (.cells #[pV a] 92)).alloc (aL e n o q (.slice f j.length g) l r t s)).cell? (J w.heap.size 0)=some (pV a):=cr M rfl;have KA:=O (cH.y (B:=B) (bb:=a) (tv:=b) A);obtain⟨ad,ae⟩:=h.eo;have P:=A3 D A (λ_ _ ac=>ac);unfold maxLen at a9;obtain⟨k5,ak,aj,ai,k6,ab⟩:=R;have am:(e==6)=false:=by simp[k6]
 have al:(e==26)=false:=by simp[ab]
 have z:=O (λa2 ha=>GI KA.u (l0:=[]) G a7 V H (by omega) hf W f g P S w.heap.size a3 x a8 a2 ha);rw[Br.and_zero]at z;simp only[fE]at z;generalize bB false u v k=RR at*;generalize (px v Z).length=pl at*;clear W V H G h aa M a5 P D T a6 L;go_in;go_wp2_with fail;go_region_with (first|(go_at_call 40;refine(z.u _ (I.drewN _ _ 1)).mono ?_;rintro a4 an ⟨ga,gc,rfl,af,H3⟩)|(go_at_call 62;refine(Hid.u H3).mono ?_;rintro a4 ao (⟨er,p,rfl,y⟩|⟨rfl,y⟩);exact⟨rfl,y.u⟩));all_goals go_wp2_with fail
 all_goals go_end0
 all_goals exact y.u
theorem sX{w:E}{k}{e}{g f}(h:w.ownsRow k 3 1 (.slice (some (J g 0)) e.length f) e.length (C7 e))(i)(j):(w.setCell (J g i) (U j)).ownsRow k 3 1 (.slice (some (J g 0)) e.length f) e.length (C7 (e.set i j)):=by
 obtain⟨s,_⟩|⟨r,q,m,l,n,u,p,o,t,v⟩:=h.2
 .grind
 .simp at l;obtain⟨rfl,rfl⟩:=l;refine⟨by simp[C7],.inr ⟨g,f,m.setIfInBounds i (U j),rfl,n,?_,p,o,by grind,?_⟩⟩
  .grind[heap_setCell_same]
  simp_all[Nat.mul_one,Array.toList_setIfInBounds,List.take_set,C7,List.map_set]
def cM.write{w}{m}{q}{l}(h:cM d w B a c b m q l)(i)(V)(j):∃g n,b=.slice (some (J g 0)) l.length n/\g<w.heap.size/\l.length<=n/\n<=maxLen/\w.cell? (J g i)=some (U l[i])/\w.frozen? (J g i)=false/\w.cell? (J a 2)=some b/\a<w.heap.size/\
 cH B a b w (w.setCell (J g i) (U j))/\cM d (w.setCell (J g i) (U j)) B a c b m q (l.set i j):=by
 obtain⟨u,M,f⟩:=h.st;obtain⟨R,n,H⟩:=B8 f.jh;subst H;obtain⟨g,rfl,G,D,x,y,z⟩:=D4 f.jh (by omega);have A:=z i (U l[i]) (by grind[C7]);obtain⟨_,S,r⟩:=A9 f.jh g rfl;have o:I (λk=>k=g) w (w.setCell (J g i) (U j)):=I.set w (J g i) _;have p:cH B a (.slice (some (J g 0)) l.length n) w (w.setCell (J g i) (U j)):=o.mono λk _ e=>⟨e ▸ G,.inr (.inl (by rw[e];rfl))⟩;have P:a≠g:=λe=>M4 f.jh f.eo (by decide) (by rw[e];rfl);refine⟨g,n,rfl,D,x,y,A,frozen_of_row w g i _ _ r,cr f.eo rfl,(aI f.eo),p,?_⟩;refine⟨h.hz,kQ h.le p.size,h.jg.trans ((p.below h.le).mono h.hz),u,M,f.low,?_,?_,?_,f.len,f.nd,f.ge,λL t v=>?_⟩
 .rw[o.block a (aI f.eo) P];exact f.eo
 .exact A3 f.ar o (λT F e=>ND f.ar f.jh (by decide) F (by rw[e];rfl))
 .have:=sX f.jh i j;grind
 .have s:=f.fr L t v;refine s.P o λe=>s.eu (e ▸ r)
def Df(hN:cV d c N)(i)(hi:i<N.length)(w)(ad)(y)(D)(h:cM d w B a c b ad y D)(a4:y≠[])(x tb)(A V)(aa:uJ N x tb A N[i] V)(hC:∀a5∈A,1<=a5.k->X7 d B a c b N a5)(z)(al:ad+1+2*aA A<=z)(hm:z<=100000)(hf:y.length+aA A<=100000)(ac:D.length=N.length)(a9:(N[i]).M.length<=100000)(ab:(N[i]).text.length<=1000000)(ay:i<=100000)(hk:(N[i]).x=16)(R)(hR:R=bB false (G8 y (N[i]).text i) x A):
 Calls prog 100 #[pV a,U i] w (aG d w B a c b N z D R):=by
 have aj:=h.jg;obtain⟨ag,nc,g,j,rfl,hg,az,am,⟨x0,x1,x2,x3,x4,x5,x6,x7,x8⟩,ho,T⟩:=hN.at h.jg i hi;generalize an:N[i]=nd at*;obtain⟨v,m,n,o,k,f,p,s,r⟩:=nd;simp only at x0 x1 x2 x3 x4 x5 x6 x7 x8 ho T a9 ab hk hR;have a3:I No w ((w.alloc (.cells #[pV a] 92)).alloc (aL v m n o (.slice g k.length j) f p s r)):=B6 (I.alloc No _ _) (I.alloc No _ _);have L:=h.kept a3;have M:((w.alloc (.cells #[pV a] 92)).alloc (aL v m n o (.slice g k.length j) f p s r)).heap[w.heap.size]?=some (.cells #[pV a] 92 (0,0)):=by
  rw[Below.heap_alloc _ _ _ (by simp)];have:=yY w (.cells #[pV a] 92);simpa using this
 have P:((w.alloc (.cells #[pV a] 92)).alloc (aL v m n o (.slice g k.length j) f p s r)).heap[w.heap.size+1]?=some (.cells #[U v,U m,U n,U o,.slice g k.length j,.string ⟨f.toArray⟩,U p,U s,U r] 85 (0,0)):=by
  have:=yY (w.alloc (.cells #[pV a] 92)) (aL v m n o (.slice g k.length j) f p s r);simpa using this
 have aw:((w.alloc (.cells #[pV a] 92)).alloc (aL v m n o (.slice g k.length j) f p s r)).cell? (J w.heap.size 0)=some (pV a):=cr M rfl;have KA:=O (cH.y (B:=B) (bb:=a) (tv:=b) a3);obtain⟨ar,au⟩:=h.eo;have a8:=A3 ho a3 (λ_ _ aq=>aq);unfold maxLen at am;subst hk;have ao:=T2 y f (i:Int) a4;have OW:Hid (∀G,I No ((w.alloc (.cells #[pV a] 92)).alloc (aL 16 m n o (.slice g k.length j) f p s r)) G->Calls prog 146 #[pV a] G λe F=>∃q,e=.returned (.map (some q))/\F.cell? (J (w.heap.size+1) 5)=some (.string ⟨f.toArray⟩)/\w.heap.size+1<F.heap.size/\∃u,(Instr.mapUpdate 182 (.map (some q)) (.string ⟨f.toArray⟩) (U (i:Int))).run prog F=.ok () u/\
  u.heap[w.heap.size]?=some (.cells #[pV a] 92 (0,0))/\u.heap[w.heap.size+1]?=some (.cells #[U 16,U m,U n,U o,.slice g k.length j,.string ⟨f.toArray⟩,U p,U s,U r] 85 (0,0))/\Hid (∀H,I No u H->Calls prog 40 #[.agg #[U 16,U m,U n,U o,.slice g k.length j,.string ⟨f.toArray⟩,U p,U s,U r]] H λe a6=>∃Z gc,e=.returned (.slice Z (px x V).length gc)/\a6.cell? (J w.heap.size 0)=some (pV a)/\
  Hid (Calls prog 62 #[pV a,.slice Z (px x V).length gc] a6 (wE d w B a (.slice (some (J ag 0)) N.length nc) b N z D R)))):=by
  intro G ha;refine(WO L a4 (by omega) (by omega) f ab (i:Int) ⟨by omega,by omega⟩ G ha).mono ?_;rintro e F ⟨q,rfl,hc,-,u,hu,S,ai⟩;obtain⟨y1,y2⟩:=L.tv M (by decide);obtain⟨z1,z2⟩:=L.tv P (by decide);have a7:F.cell? (J (w.heap.size+1) 5)=some (.string ⟨f.toArray⟩):=A4 hc (by simp);have q0:=S.other M (by decide) y1 y2;refine⟨q,rfl,a7,blt a7,u,hu,q0,S.other P (by decide) z1 z2,λH ah=>?_⟩;have hP:=GI (l0:=[]) (ts:=D) (KA.u.trans S) ai (O0 a4 ao) aa hC (by omega) (by omega) ac g j (S.row a8 (λe=>?_) (λg' ak e=>?_)) a9 w.heap.size (cr q0 rfl) z al H ah
  .rw[Br.and_zero,<-hR]at hP;exact hP
  .have:=T _ e;have:=h.low.1;have:=h.hz;omega
  .have:=T _ ak;have:=h.low.2 g' e;have:=h.hz;omega
 have af:((w.alloc (.cells #[pV a] 92)).alloc (aL 16 m n o (.slice g k.length j) f p s r)).cell? (J (w.heap.size+1) 5)=some (.string ⟨f.toArray⟩):=cr P rfl;generalize (px x V).length=pl at*;clear ac aa hC L h an M P a8 ho T aj hN hR;go_in;go_wp2_with fail;go_region_with (go_at_call 146;refine(OW.u _ (I.drewN _ _ 1)).mono ?_;rintro e b0 ⟨q,rfl,d5,dl,t,ap,ae,l,PA⟩);all_goals
  have av:t.cell? (J w.heap.size 0)=some (pV a):=cr ae rfl;have n0:t.cell? (J (w.heap.size+1) 0)=some (U 16):=cr l rfl;have n1:t.cell? (J (w.heap.size+1) 1)=some (U m):=cr l rfl;have n2:t.cell? (J (w.heap.size+1) 2)=some (U n):=cr l rfl;have n3:t.cell? (J (w.heap.size+1) 3)=some (U o):=cr l rfl;have n4:t.cell? (J (w.heap.size+1) 4)=some (.slice g k.length j):=cr l rfl;have n5:t.cell? (J (w.heap.size+1) 5)=some (.string ⟨f.toArray⟩):=cr l rfl;have n6:t.cell? (J (w.heap.size+1) 6)=some (U p):=cr l rfl;have n7:t.cell? (J (w.heap.size+1) 7)=some (U s):=cr l rfl;have n8:t.cell? (J (w.heap.size+1) 8)=some (U r):=cr l rfl;have ln:=(aI l);clear OW ap d5 dl ae l af;go_wp2_with fail;go_region_with (first|(go_at_call 40;refine(PA.u _ (I.drewN _ _ 1)).mono ?_;rintro e u ⟨Z,gc,rfl,ax,H3⟩)|(go_at_call 62;refine(Hid.u H3).mono ?_;rintro e a6 (⟨er,a5,rfl,W⟩|⟨rfl,W⟩);exact⟨rfl,W.u⟩));all_goals go_wp2_with fail
  all_goals go_end0
  all_goals exact W.u
theorem aG.set{w n e}{m i}{k}{f}{l}{x}{j}(p:cH B a b w e)(h:cM d e B a c b m (G8 f x j) (cQ k l))(q:m<=i)(g:I No e n):aG d w B a c b N i k ((Br.ok f l).jb x j) (rT) n:=by
 have h:=h.kept g;obtain⟨o,s,r⟩:=h.st;exact⟨p.trans (cH.y g),rfl,h.hz,h.le,h.jg,o,s,r.more q⟩
def Qp(hN:cV d c N)(G)(n k nE)(b7:n<N.length)(hI:k<=100000)(b8:(N[n]).x=G)(w)(m)(j)(v)(i)(aq:cM d w B a c b m j v)(F:j≠[])(hm:m+2+2*nE<=100000)(hf:j.length<=100000)(hx:i.length<=1000000)
 (L) (P M) (H T V) (W Z s) (ax:s=cI N k) (R:List Fr->Br) (ap:∀f D l,f≠[]->R f=.ok D l->D.length=f.length)
 (HA:∀(h) (m1) (f) (g),cM d h B a c b m1 f v->f.length=j.length->m1<=m+1->B<=g->g≠a->b.ownBlock≠some g->h.ownsRow 0 3 1 (.slice (some (J g 0)) 1 1) 1 (C7 [n])->Calls prog 62 #[pV a,.slice (some (J g 0)) 1 1] h (aG d h B a c b N (m1+2*nE) v (R f))):
 Calls prog 145 #[pV a,U k,.agg #[U H,U n,U T,U V,.slice L P M,.string ⟨i.toArray⟩,U W,U Z,U s]] w (aG d w B a c b N (m+2+2*nE) v (if (iT j i).isSome then .bad 6 k else (R (if G=6 then G8 j i k else j)).jb i k)):=by
 have ab:=I.alloc No w (aL H (n:Int) T V (.slice L P M) i W Z s);have aa:=yY w (aL H (n:Int) T V (.slice L P M) i W Z s);have h1:=aq.kept ab;have bc:w.heap.size<(w.alloc (aL H (n:Int) T V (.slice L P M) i W Z s)).heap.size:=by simp
 obtain⟨x1,x2⟩:=h1.tv aa (by decide);have A:Hid (∀h,cH B a b (w.alloc (aL H (n:Int) T V (.slice L P M) i W Z s)) h->h.cell? (J w.heap.size 1)=some (U (n:Int))/\h.cell? (J w.heap.size 5)=some (.string ⟨i.toArray⟩)/\h.cell? (J w.heap.size 8)=some (U s)/\w.heap.size<h.heap.size):=λh p=>by
  have hb:=p.other aa (by decide) x1 x2;exact⟨cr hb rfl,cr hb rfl,cr hb rfl,(aI hb)⟩
 have FN:Hid (∀h m f o,cM d h B a c b m f o->∃g S,c=.slice (some (J g 0)) N.length S/\g<h.heap.size/\N.length<=S/\S<=maxLen/\h.cell? (J g (n*9))=some (U G)/\h.cell? (J a 0)=some c/\a<h.heap.size):=λh m f o p=>by
  obtain⟨g,S,bm,bn,e1,e2,e3,e4,e5,_,_⟩:=hN.at p.jg n b7;obtain⟨b1,b2⟩:=p.eo;grind
 have OW:Hid (∀h m1 f o,cM d h B a c b m1 f o->f.length=j.length->m1<=100000->cH B a b (w.alloc (aL H (n:Int) T V (.slice L P M) i W Z s)) h->∀a2,I No h a2->
  Calls prog 146 #[pV a] a2 λe x=>∃q,e=.returned (.map (some q))/\I No h x/\(x.cell? (J w.heap.size 5)=some (.string ⟨i.toArray⟩)/\w.heap.size<x.heap.size)/\(Instr.lookup 182 (.map (some q)) (.string ⟨i.toArray⟩) true).run prog x=.ok (.tuple #[U ((iT f i).getD 0),.bool (iT f i).isSome]) x/\
  ∃t,(Instr.mapUpdate 182 (.map (some q)) (.string ⟨i.toArray⟩) (U (k:Int))).run prog x=.ok () t/\Hid (cH B a b h t/\cM d t B a c b (m1+1) (G8 f i (k:Int)) o)):=λh m1 f o p hl bb b9 a2 h2=>by
  refine(WO p (O0 F hl) (by omega) bb i hx (k:Int) ⟨by omega,by omega⟩ a2 h2).mono ?_;rintro e x ⟨q,rfl,hc,r,t,hu,ay⟩;have:=A.u x (b9.trans (cH.y hc));exact⟨q,rfl,hc,⟨this.2.1,this.2.2.2⟩,r,t,hu,ay⟩
 have HG:=O Y0;have az:=O ax;clear ax;have a3:=O (cH.y (B:=B) (bb:=a) (tv:=b) ab);have H1:=O h1;have ai:=O HA;have am:=O ap;have aj:Hid (∀h m f o,cM d h B a c b m f o->B<=h.heap.size):=λh m f o p=>p.le;have ak:Hid (∀(h:E),(h.alloc (.cells #[U (n:Int)] 3)).ownsRow 0 3 1 (.slice (some (J h.heap.size 0)) 1 1) 1 (C7 [(n:Int)])):=λh=>rM (w:=h) (base:=0) (wQ _) [(n:Int)] (by simp);have a6:Hid (∀h m f o,cM d h B a c b m f o->h.heap.size≠a/\b.ownBlock≠some h.heap.size):=λh m f o p=>by
  obtain⟨av,ms,hs⟩:=p.st;have:=(aI hs.eo);refine⟨by omega,λe=>?_⟩;have:=(hs.jh.lt _ e).2;omega
 generalize ar:(if (iT j i).isSome then Br.bad 6 k else (R (if G=6 then G8 j i (k:Int) else j)).jb i (k:Int))=RR;have al:=O ar;obtain⟨b0,c5,c8,-⟩:=A.u _ (cH.refl _ _ _ _);have b6:j.length=j.length:=rfl;have an:=O (OW.u _ m j v h1 rfl (by omega) (cH.refl _ _ _ _));obtain⟨b1,b2⟩:=h1.eo;clear ab aa h1 aq ar HA ap x1 x2 b6 hN b8;generalize b4:(iT j i).isSome=bl at*;generalize (iT j i).getD 0=zz at*;clear b4;go_in;go_wp2_with fail;go_region_with (go_at_call 146;refine(an.u _ (I.drewN _ _ 1)).mono ?_;rintro e y ⟨q,rfl,ac,⟨d5,dl⟩,ba,-⟩);all_goals
  have K1:=O (cH.y (B:=B) (bb:=a) (tv:=b) ac);have B1:=O (H1.u.kept ac);obtain⟨e1,e5,e8,el⟩:=A.u y K1.u;clear an ba b0 c5 c8 b1 b2 bc ac;cases bl with
  |true=>
   have r:=al.u;rw[wY rfl]at r;subst r;go_wp2_with fail;refine(HG.u _ 6 s).mono ?_;rintro e be ⟨rfl,aw⟩;exact⟨rfl,(a3.u.trans K1.u).trans (cH.y aw),show gu 6 s=gu 6 (cI N k) by rw[az.u]⟩
  |false=>
   have r:=al.u;rw[zY (by decide)]at r;obtain⟨g,S,rfl,g1,g2,g3,g4,g5,g6⟩:=FN.u y _ _ _ B1.u;unfold maxLen at g3;by_cases a7:G=6
   .rw[wY a7]at r;subst a7;subst r;have ao:=O (OW.u y m j v B1.u rfl (by omega) K1.u);go_wp2_with fail;go_region;all_goals go_wp2_with fail
    all_goals go_region_with (go_at_call 146;refine(ao.u _ (B6 (I.drewN _ _ 1) (I.drewN _ _ 1))).mono ?_;rintro e be ⟨q2,rfl,aw,⟨b3,fl⟩,-,t,af,H3⟩)
    all_goals
     have ad:=K1.u.trans H3.u.1;have au:=H3.u.2;obtain⟨bh,-,-,bi⟩:=A.u t ad;have K3:=O ad;have B3:=O au;clear ad au af b3 fl e1 e5 e8 el ao;have A2:=O (ai.u (t.alloc (.cells #[U (n:Int)] 3)) (m+1) (G8 j i (k:Int)) t.heap.size (B3.u.kept (I.alloc No _ _)) (T2 j i (k:Int) F) (by omega) (aj.u _ _ _ _ B3.u) (a6.u _ _ _ _ B3.u).1 (a6.u _ _ _ _ B3.u).2 (ak.u _));have KX:=O ((K3.u).trans (cH.y (B:=B) (bb:=a) (tv:=b) (I.alloc No t (.cells #[U (n:Int)] 3))));have SX:=O (λD l e=>(am.u (G8 j i (k:Int)) D l (O0 F (T2 j i (k:Int) F)) e).trans (T2 j i (k:Int) F));generalize a9:R (G8 j i (k:Int))=Rf at*;clear a9;go_wp2_with fail;refine A2.u.mono ?_;rintro e ah ⟨a4,a5⟩;have u:=O (KX.u.trans a4);clear a4 A2 KX;cases Rf with
     |bad er ag=>
      obtain rfl:e=gu er (cI N ag):=a5;exact⟨rfl,a3.u.trans u.u,rfl⟩
     |ok f l=>
      obtain⟨rfl,z⟩:=a5;have ae:=SX.u f l rfl;obtain⟨bd,p5,-,pl⟩:=A.u ah u.u;have a8:=O (OW.u _ _ f (cQ v l) z ae (by omega) u.u);obtain⟨q1,q2⟩:=z.eo;clear z SX;go_wp2_with fail;go_region_with (go_at_call 146;refine(a8.u _ (I.drewN _ _ 1)).mono ?_;rintro e bf ⟨q,rfl,b5,⟨r5,rl⟩,-,bg,af,H6⟩);all_goals go_wp2_with fail
      all_goals go_end0
      all_goals exact aG.set (a3.u.trans (u.u.trans H6.u.1)) H6.u.2 (by omega) (I.refl _ _)
   .rw[zY a7]at r;have bj:(G==6)=false:=by simp[a7]
    subst r;have FD:Hid (cM d y.drew B a (.slice (some (J g 0)) N.length S) b m j v):=B1.u.kept (I.drewN _ _ 1);have KD:=O (K1.u.trans (cH.y (B:=B) (bb:=a) (tv:=b) (I.drewN No y 1)));go_wp2_with fail;go_region;all_goals
     have A2:=O (ai.u (y.drew.alloc (.cells #[U (n:Int)] 3)) (m) (j) y.drew.heap.size (FD.u.kept (I.alloc No _ _)) (rfl) (by omega) (aj.u _ _ _ _ FD.u) (a6.u _ _ _ _ FD.u).1 (a6.u _ _ _ _ FD.u).2 (ak.u _));have KX:=O ((KD.u).trans (cH.y (B:=B) (bb:=a) (tv:=b) (I.alloc No y.drew (.cells #[U (n:Int)] 3))));have SX:=O (λD l e=>(am.u (j) D l (O0 F (rfl)) e).trans (rfl));generalize a9:R (j)=Rf at*;clear a9;go_wp2_with fail;refine A2.u.mono ?_;rintro e ah ⟨a4,a5⟩;have u:=O (KX.u.trans a4);clear a4 A2 KX;cases Rf with
     |bad er ag=>
      obtain rfl:e=gu er (cI N ag):=a5;exact⟨rfl,a3.u.trans u.u,rfl⟩
     |ok f l=>
      obtain⟨rfl,z⟩:=a5;have ae:=SX.u f l rfl;obtain⟨bd,p5,-,pl⟩:=A.u ah u.u;have a8:=O (OW.u _ _ f (cQ v l) z ae (by omega) u.u);obtain⟨q1,q2⟩:=z.eo;clear z SX;go_wp2_with fail;go_region_with (go_at_call 146;refine(a8.u _ (I.drewN _ _ 1)).mono ?_;rintro e bf ⟨q,rfl,b5,⟨r5,rl⟩,-,bg,af,H6⟩);all_goals go_wp2_with fail
      all_goals go_end0
      all_goals exact aG.set (a3.u.trans (u.u.trans H6.u.1)) H6.u.2 (by omega) (I.refl _ _)
def Fx(L:cV d c N)(i)(hi:i<N.length)(w)(m)(e)(y)(h:cM d w B a c b m e y)(ac:e≠[])(W)(x H)(af:x<N.length)(a5:(N[x]).x=W)(hm:m+2+2*H<=100000)(hf:e.length<=100000)(T:(N[i]).text.length<=1000000)(ae:i<=100000)(P:(N[i]).x=17)(V:(N[i]).a=x)(F:List Fr->Br)(a2:∀f f' a7,f≠[]->F f=.ok f' a7->f'.length=f.length)
 (Z:∀(z) (m1) (f) (g),cM d z B a c b m1 f y->f.length=e.length->m1<=m+1->B<=g->g≠a->b.ownBlock≠some g->z.ownsRow 0 3 1 (.slice (some (J g 0)) 1 1) 1 (C7 [x])->Calls prog 62 #[pV a,.slice (some (J g 0)) 1 1] z (aG d z B a c b N (m1+2*H) y (F f))) (R) (A:R=if (iT e (N[i]).text).isSome then .bad 6 i else (F (if W=6 then G8 e (N[i]).text i else e)).jb (N[i]).text i):
 Calls prog 100 #[pV a,U i] w (aG d w B a c b N (m+2+2*H) y R):=by
 have ab:=h.jg;have a3:=L;have D:cI N i=(N[i]).at':=by
  unfold cI;rw[lQ,gQ hi];rfl
 obtain⟨g,nc,j,k,rfl,hg,am,ag,⟨x0,x1,x2,x3,x4,x5,x6,x7,x8⟩,G,S⟩:=L.at h.jg i hi;generalize ah:N[i]=nd at D T P V A x0 x1 x2 x3 x4 x5 x6 x7 x8 G S;obtain⟨t,u,o,p,l,n,q,s,r⟩:=nd;simp only at x0 x1 x2 x3 x4 x5 x6 x7 x8 G S T P V A;have M:I No w ((w.alloc (.cells #[pV a] 92)).alloc (aL t u o p (.slice j l.length k) n q s r)):=B6 (I.alloc No _ _) (I.alloc No _ _);have h1:=h.kept M;have a4:((w.alloc (.cells #[pV a] 92)).alloc (aL t u o p (.slice j l.length k) n q s r)).heap[w.heap.size]?=some (.cells #[pV a] 92 (0,0)):=by
  rw[Below.heap_alloc _ _ _ (by simp)];have:=yY w (.cells #[pV a] 92);simpa using this
 have aa:((w.alloc (.cells #[pV a] 92)).alloc (aL t u o p (.slice j l.length k) n q s r)).heap[w.heap.size+1]?=some (.cells #[U t,U u,U o,U p,.slice j l.length k,.string ⟨n.toArray⟩,U q,U s,U r] 85 (0,0)):=by
  have:=yY (w.alloc (.cells #[pV a] 92)) (aL t u o p (.slice j l.length k) n q s r);simpa using this
 have al:((w.alloc (.cells #[pV a] 92)).alloc (aL t u o p (.slice j l.length k) n q s r)).cell? (J w.heap.size 0)=some (pV a):=cr a4 rfl;have KA:=O (cH.y (B:=B) (bb:=a) (tv:=b) M);obtain⟨aj,ak⟩:=h.eo;have ad:=A3 G M (λ_ _ ai=>ai);unfold maxLen at ag;subst P;subst V;simp only at D;have HI:=O (Qp a3 W x i H af ae a5 _ m e y n h1 ac hm hf T j l.length k 17 o p q s r D.symm F a2 Z);rw[<-A]at HI;generalize a9:R=RR at*;clear a9 Z a2 A h1 h ah a4 aa ad G S ab L a3 D a5;go_in;go_wp2_with fail;refine HI.u.mono ?_;rintro a8 an v;have v:=aG.after KA.u v;have a6:=v.2;cases RR with
 |bad er i=>
  obtain rfl:a8=gu er (cI N i):=a6;exact⟨rfl,v⟩
 |ok f a7=>
  obtain⟨rfl,-⟩:=a6;have HP:=O v;go_wp2;go_end0;exact HP.u
def Tu(P:cV d c N)(i)(hi:i<N.length)(w)(m)(D)(M)(h:cM d w B a c b m D M)(e)(o)(V)(n)(f)(a6:∀p∈e,p.k=16/\X7 d B a c b N p)(a7:∀p∈f,1<=p.k/\X7 d B a c b N p)(z tb)(he:cY N z tb (e++[.ty o,.nd 26 V n f]))(hm:m+2*(aA e+aA f)<=100000)(hf:D.length+1+(aA e+aA f)<=100000)(a8:M.length=N.length)(aa:N.length<=100000)(T:(N[i]).x=6)(L:(N[i]).a=((z+aA e+aA f:Nat)))(G:(N[i]).M=px z e)(R)(hR:R=(bB true (D++[Fr.no]) z (e++[.ty o,.nd 26 V n f])).pop):
 Calls prog 100 #[pV a,U i] w (aG d w B a c b N (m+2*(aA e+aA f)) M R):=by
 have ad:=h.jg;have a2:=P;obtain⟨al,nc,g,j,rfl,hg,am,ae,⟨x0,x1,x2,x3,x4,x5,x6,x7,x8⟩,H,F⟩:=P.at h.jg i hi;generalize af:N[i]=nd at T L G x0 x1 x2 x3 x4 x5 x6 x7 x8 H F;obtain⟨x,y,r,s,k,q,t,v,u⟩:=nd;simp only at x0 x1 x2 x3 x4 x5 x6 x7 x8 H F T L G;have S:I No w ((w.alloc (.cells #[pV a] 92)).alloc (aL x y r s (.slice g k.length j) q t v u)):=B6 (I.alloc No _ _) (I.alloc No _ _);have Z:=h.kept S;have a3:((w.alloc (.cells #[pV a] 92)).alloc (aL x y r s (.slice g k.length j) q t v u)).heap[w.heap.size]?=some (.cells #[pV a] 92 (0,0)):=by
  rw[Below.heap_alloc _ _ _ (by simp)];have:=yY w (.cells #[pV a] 92);simpa using this
 have ac:((w.alloc (.cells #[pV a] 92)).alloc (aL x y r s (.slice g k.length j) q t v u)).heap[w.heap.size+1]?=some (.cells #[U x,U y,U r,U s,.slice g k.length j,.string ⟨q.toArray⟩,U t,U v,U u] 85 (0,0)):=by
  have:=yY (w.alloc (.cells #[pV a] 92)) (aL x y r s (.slice g k.length j) q t v u);simpa using this
 have aj:((w.alloc (.cells #[pV a] 92)).alloc (aL x y r s (.slice g k.length j) q t v u)).cell? (J w.heap.size 0)=some (pV a):=cr a3 rfl;have KA:=O (cH.y (B:=B) (bb:=a) (tv:=b) S);obtain⟨ah,ai⟩:=h.eo;have a4:=A3 H S (λ_ _ ag=>ag);unfold maxLen at ae;subst T;have W:=O (A3c a2 e o V n f a6 a7 z tb _ m D M he Z hm hf a8 aa g j k G a4 F 6 r s ⟨q.toArray⟩ t v u);rw[<-hR,<-L]at W;generalize ab:R=RR at*;generalize m+2*(aA e+aA f)=mm at*;clear ab hR Z h af a3 ac a4 H F ad P a2 a6 a7 he L G a8;go_in;go_wp2_with fail;refine W.u.mono ?_;rintro a9 an A;have A:=aG.after KA.u A;have a5:=A.2;cases RR with
 |bad er i=>
  obtain rfl:a9=gu er (cI N i):=a5;exact⟨rfl,A⟩
 |ok ak l=>
  obtain⟨rfl,-⟩:=a5;have HP:=O A;go_wp2;go_end0;exact HP.u
def SC(L:cV d c N)(i)(hi:i<N.length)(w)(m)(u)(H)(h:cM d w B a c b m u H)(f)(a5:∀a7∈f,1<=a7.k/\X7 d B a c b N a7)(x tb)(Z:cY N x tb f)(hm:m+2*aA f<=100000)(hf:u.length+1+aA f<=100000)(a6:H.length=N.length)(T:(N[i]).x=26)(F:(N[i]).M=px x f)(R)(W:R=(bB false (u++[Fr.no]) x f).pop):
 Calls prog 100 #[pV a,U i] w (aG d w B a c b N (m+2*aA f) H R):=by
 have ac:=h.jg;have aa:=L;obtain⟨a9,nc,g,j,rfl,hg,al,ad,⟨x0,x1,x2,x3,x4,x5,x6,x7,x8⟩,G,D⟩:=L.at h.jg i hi;generalize ae:N[i]=nd at T F x0 x1 x2 x3 x4 x5 x6 x7 x8 G D;obtain⟨v,o,p,q,k,n,r,t,s⟩:=nd;simp only at x0 x1 x2 x3 x4 x5 x6 x7 x8 G D T F;have S:I No w ((w.alloc (.cells #[pV a] 92)).alloc (aL v o p q (.slice g k.length j) n r t s)):=B6 (I.alloc No _ _) (I.alloc No _ _);have z:=h.kept S;have A:((w.alloc (.cells #[pV a] 92)).alloc (aL v o p q (.slice g k.length j) n r t s)).heap[w.heap.size]?=some (.cells #[pV a] 92 (0,0)):=by
  rw[Below.heap_alloc _ _ _ (by simp)];have:=yY w (.cells #[pV a] 92);simpa using this
 have P:((w.alloc (.cells #[pV a] 92)).alloc (aL v o p q (.slice g k.length j) n r t s)).heap[w.heap.size+1]?=some (.cells #[U v,U o,U p,U q,.slice g k.length j,.string ⟨n.toArray⟩,U r,U t,U s] 85 (0,0)):=by
  have:=yY (w.alloc (.cells #[pV a] 92)) (aL v o p q (.slice g k.length j) n r t s);simpa using this
 have ai:((w.alloc (.cells #[pV a] 92)).alloc (aL v o p q (.slice g k.length j) n r t s)).cell? (J w.heap.size 0)=some (pV a):=cr A rfl;have KA:=O (cH.y (B:=B) (bb:=a) (tv:=b) S);obtain⟨ag,ah⟩:=h.eo;have a2:=A3 G S (λ_ _ af=>af);unfold maxLen at ad;subst T;have a3:u++[Fr.no]≠[]:=by simp
 have V:=O (WH 149 (λ_ _=>by rfl) z (by omega) (m+2*aA f) (bB false (u++[Fr.no]) x f) (Sl.small (T9 _ _ _ _ a3) (by omega)) (pV w.heap.size) (pV (w.heap.size+1)) (λa8 M hb=>by
  obtain⟨y1,y2⟩:=z.tv A (by decide);obtain⟨z1,z2⟩:=z.tv P (by decide);have ak:=h.low;have hz:=h.hz;refine Tj f a5 x tb a8 m (u++[Fr.no]) H Z hb a3 hm (by grind) a6 g j k F ?_ D _ _ (M.other A (by decide) y1 y2) 26 o p q ⟨n.toArray⟩ r t s (M.other P (by decide) z1 z2);refine M.row a2 (λe=>?_) (λa9 hg e=>?_)<;>grind));rw[<-W]at V;generalize ab:R=RR at*;generalize m+2*aA f=mm at*;clear ab W z h ae A P a2 G D ac L aa a5 Z F a6;go_in;go_wp2_with fail;refine V.u.mono ?_;rintro e am y;have y:=aG.after KA.u y;have a4:=y.2;cases RR with
 |bad er i=>
  obtain rfl:e=gu er (cI N i):=a4;exact⟨rfl,y⟩
 |ok aj l=>
  obtain⟨rfl,-⟩:=a4;have HP:=O y;go_wp2;go_end0;exact HP.u
end
