/-
  A part of the proof.
-/
import Derived.Test.YtneelacbkianjaaGreatDoorBindA
set_option maxHeartbeats 16000000
set_option maxRecDepth 100000
namespace Go.Proofs.YtneelacbkianjaaGreatDoor
open Go.RowKit Go.Maps
theorem O1d{w:lZ}{q:Nat}{x y z:Value}{t:TypeId}(h:w.heap[q]? =some (.cells #[x,y,z] t (0,0)))(v:Value):(w.setCell (J q 2) v).heap[q]? =some (.cells #[x,y,v] t (0,0)):=by
 rw[heap_setCell_same w q 2 _ _ v h];rfl
structure Bmk(wz w:lZ)(B bb:Nat)(nv tv:Value)(j:Nat):Prop where
 low:B<=bb
 blk:w.heap[bb]? =some (.cells #[nv,sN,tv] 99 (0,0))
 tos:w.ownsRow wz.heap.size 3 1 tv j (C8 (List.replicate j (-1)))
 chg:I (λk=>k=bb) wz w
theorem Bmk.grow{m w l b:lZ}{B a:Nat}{i d c:Value}{j:Nat}(h:Bmk m w B a i d j)(f:I No w l)(q:I (λk=>some k=d.ownBlock) l b)(r:b.ownsRow m.heap.size 3 1 c (j+1) (C8 (List.replicate j (-1))++[U (-1)])):Bmk m (b.setCell (J a 2) c) B a i c (j+1):=by
 have s:=(ltG h.blk);have v:=A4 h.tos f (λ_ _ x=>x);have n:l.heap[a]? =some (.cells #[i,sN,d] 99 (0,0)):=by rw[f.block a s id];exact h.blk
 have u:d.ownBlock≠some a:=Q6 v n (by decide);have o:b.heap[a]? =some (.cells #[i,sN,d] 99 (0,0)):=by
  rw[q.block a (yQ s f.size) (λe=>u e.symm)];exact n
 have p:I (λk=>k=a) b (b.setCell (J a 2) c):=I.set b (J a 2) c;refine⟨h.low,O1d o c, ?_, ?_⟩
 · have e:C8 (List.replicate (j+1) (-1))=C8 (List.replicate j (-1))++[U (-1)]:=by
    simp[C8,List.replicate_succ']
   rw[e];exact A4 r p (λg t e=>Q6 r o (by decide) (e ▸ t))
 · refine I.trans (I.trans (I.trans h.chg f λ_ _ x=>x.elim) q λk y e=> ?_) p λ_ _ x=>x;have:=(h.tos.lt k e.symm).1;omega
theorem Bmk.done{w0 b w:lZ}{B c:Nat}{g l:Value}{j:Nat}(h:Bmk b w B c g l j)(m:w0.heap.size<=B)(d:B<=b.heap.size)(f:Below w0.heap.size w0 b):Bnt w0 w B c g l 0 [] (List.replicate j (-1)):=by
 have n:=h.low;refine⟨m,kQ d h.chg.size,f.trans (I.toBelow h.chg (λk _ e=>by omega) f.size),sN,[],h.low,h.blk,kW _ _ _ _, ?_,rfl,by simp,by simp,λi a _=>by simp at a⟩;have:=C9 h.tos d;simpa using this
open Go.Proofs.Tryz
section
variable{c:lZ}{B a:Nat}{d b:Value}{N:List Nd}
theorem Z5c(H:Nrow c d N)(i:Nat)(hi:i<N.length)(w:lZ)(m:Nat)(v:List Fr)(E:uZ)(h:Bnt c w B a d b m v E)(a4:v≠[])(x tb:Nat)(l V:List Nt)(S:S6c N x tb l N[i] V)(G:∀p∈l,1<=p.k->A0a c B a d b N p)(y:Nat)(a5:m+2 * nNL l<=y)(hm:y<=100000)(hf:v.length+nNL l<=100000)(T:E.length=N.length)(P:(N[i]).list.length<=100000)(M:(N[i]).kind≠5/\(N[i]).kind≠18/\(N[i]).kind≠17/\(N[i]).kind≠16/\(N[i]).kind≠6/\(N[i]).kind≠26):
 Calls prog 107 #[pV a,U (i:Int)] w (BnPost c w B a d b N y E (bnL false v x l)):=by
 have a3:=h.bel;obtain⟨ag,nc,g,j,rfl,hg,ah,a6,⟨x0,x1,x2,x3,x4,x5,x6,x7,x8⟩,D,R⟩:=H.at h.bel i hi;generalize a7:N[i]=nd at *;obtain⟨f,o,q,r,k,n,s,u,t⟩:=nd;simp only at x0 x1 x2 x3 x4 x5 x6 x7 x8 D R P M;have C:I No w ((w.alloc (.cells #[pV a] 94)).alloc (ndC f o q r (.slice g k.length j) n s u t)):=D3 (I.alloc No _ _) (I.alloc No _ _);have F:=h.kept C;have K:((w.alloc (.cells #[pV a] 94)).alloc (ndC f o q r (.slice g k.length j) n s u t)).heap[w.heap.size]? =some (.cells #[pV a] 94 (0,0)):=by
  rw[Below.heap_alloc _ _ _ (by simp)];have:=qY w (.cells #[pV a] 94);simpa using this
 have a2:((w.alloc (.cells #[pV a] 94)).alloc (ndC f o q r (.slice g k.length j) n s u t)).heap[w.heap.size+1]? =some (.cells #[U f,U o,U q,U r,.slice g k.length j,.string ⟨n.toArray⟩,U s,U u,U t] 87 (0,0)):=by
  have:=qY (w.alloc (.cells #[pV a] 94)) (ndC f o q r (.slice g k.length j) n s u t);simpa using this
 have Z:((w.alloc (.cells #[pV a] 94)).alloc (ndC f o q r (.slice g k.length j) n s u t)).cell? (J w.heap.size 0)=some (pV a):=cr K rfl;have X:=O (Bkp.still (B:=B) (bb:=a) (tv:=b) C);obtain⟨ad,ae⟩:=h.blk;have L:=A4 D C (λ_ _ ac=>ac);unfold maxLen at a6;obtain⟨k5,aa,a9,a8,k6,ab⟩:=M;have am:(f==5)=false:=by simp[k5]
 have ak:(f==18)=false:=by simp[aa]
 have aj:(f==17)=false:=by simp[a9]
 have ai:(f==16)=false:=by simp[a8]
 have an:(f==6)=false:=by simp[k6]
 have al:(f==26)=false:=by simp[ab]
 have A:=O (λY ha=>T8a X.o (l0:=[]) F a4 S G (by omega) hf T g j L P w.heap.size Z y a5 Y ha);rw[Br.and_zero]at A;simp only[nvl]at A;generalize bnL false v x l=RR at *;generalize (px x V).length=pl at *;clear T S G F h a7 K a2 L D R a3 H;go_enter func107,ntmps107;go_wp2_with fail
 go_region_with (first|(go_at_call 39;refine(A.o _ (I.drewN _ _ 1)).mono ?_;rintro e ao ⟨ga,gc,rfl,af,W⟩)|(go_at_call 69;refine(Hid.o W).mono ?_;rintro e ap (⟨er,p,rfl,z⟩|⟨rfl,z⟩);exact⟨rfl,z.o⟩))
 all_goals go_wp2_with fail
 all_goals go_end0
 all_goals exact z.o
theorem H7a{w:lZ}{k:Nat}{e:uZ}{g f:Nat}(h:w.ownsRow k 3 1 (.slice (some (J g 0)) e.length f) e.length (C8 e))(i:Nat)(j:Int):(w.setCell (J g i) (U j)).ownsRow k 3 1 (.slice (some (J g 0)) e.length f) e.length (C8 (e.set i j)):=by
 rcases h.2 with ⟨o,_⟩|⟨v,u,n,m,p,r,t,s,q,l⟩
 · simp at o
 · simp only[Value.slice.injEq,zQ,Addr.mk.injEq,and_true,true_and]at m;obtain⟨rfl,rfl⟩:=m;refine⟨by simp[C8],.inr ⟨g,f,n.setIfInBounds i (U j),rfl,p, ?_,t,s,by simpa using q, ?_⟩⟩
   · rw[heap_setCell_same w g i _ _ _ r]
   · rw[Nat.mul_one]at l⊢;rw[Array.toList_setIfInBounds,List.take_set,l];simp[C8,List.map_set]
theorem Bnt.write{w:lZ}{m:Nat}{q:List Fr}{l:uZ}(h:Bnt c w B a d b m q l)(i:Nat)(F:i<l.length)(j:Int):∃g n,b= .slice (some (J g 0)) l.length n/\g<w.heap.size/\l.length<=n/\n<=maxLen/\w.cell? (J g i)=some (U l[i])/\w.frozen? (J g i)=false/\w.cell? (J a 2)=some b/\a<w.heap.size/\
 Bkp B a b w (w.setCell (J g i) (U j))/\Bnt c (w.setCell (J g i) (U j)) B a d b m q (l.set i j):=by
 obtain⟨u,K,f⟩:=h.st;obtain⟨M,n,G⟩:=B9 f.tos;subst G;obtain⟨g,rfl,E,C,x,y,z⟩:=F5 f.tos (by omega);have A:=z i (U l[i]) (by simp[C8,F]);obtain⟨_,P,r⟩:=A9 f.tos g rfl;have o:I (λk=>k=g) w (w.setCell (J g i) (U j)):=I.set w (J g i) _;have p:Bkp B a (.slice (some (J g 0)) l.length n) w (w.setCell (J g i) (U j)):=o.mono λk _ e=>⟨e ▸ E,.inr (.inl (by rw[e];rfl))⟩;have L:a≠g:=λe=>Q6 f.tos f.blk (by decide) (by rw[e];rfl);refine⟨g,n,rfl,C,x,y,A,frozen_of_row w g i _ _ r,cr f.blk rfl,(ltG f.blk),p, ?_⟩;refine⟨h.hz,kQ h.le p.size,h.bel.trans ((p.below h.le).mono h.hz),u,K,f.low, ?_, ?_, ?_,f.len,f.nd,f.ge,λH t v=> ?_⟩
 · rw[o.block a (ltG f.blk) L];exact f.blk
 · exact A4 f.ar o (λR D e=>A7b f.ar f.tos (by decide) D (by rw[e];rfl))
 · have:=H7a f.tos i j;simpa using this
 · have s:=f.fr H t v;refine s.chg o λe=>s.notcells (e ▸ r)
theorem B6c(hN:Nrow c d N)(i:Nat)(hi:i<N.length)(w:lZ)(ab:Nat)(u:List Fr)(D:uZ)(h:Bnt c w B a d b ab u D)(Y:u≠[])(y tb:Nat)(C P:List Nt)(a8:S6c N y tb C N[i] P)(hC:∀a3∈C,1<=a3.k->A0a c B a d b N a3)(A:Nat)(aj:ab+1+2 * nNL C<=A)(hm:A<=100000)(hf:u.length+nNL C<=100000)(aa:D.length=N.length)(a7:(N[i]).list.length<=100000)(a9:(N[i]).text.length<=1000000)(aw:i<=100000)(hk:(N[i]).kind=16)(R:Br)(W:R=bnL false (I8 u (N[i]).text (i:Int)) y C):
 Calls prog 107 #[pV a,U (i:Int)] w (BnPost c w B a d b N A D R):=by
 have ah:=h.bel;obtain⟨ae,nc,g,j,rfl,hg,ax,ak,⟨x0,x1,x2,x3,x4,x5,x6,x7,x8⟩,Z,M⟩:=hN.at h.bel i hi;generalize al:N[i]=nd at *;obtain⟨x,m,n,o,k,f,p,s,r⟩:=nd;simp only at x0 x1 x2 x3 x4 x5 x6 x7 x8 Z M a7 a9 hk W;have X:I No w ((w.alloc (.cells #[pV a] 94)).alloc (ndC x m n o (.slice g k.length j) f p s r)):=D3 (I.alloc No _ _) (I.alloc No _ _);have H:=h.kept X;have K:((w.alloc (.cells #[pV a] 94)).alloc (ndC x m n o (.slice g k.length j) f p s r)).heap[w.heap.size]? =some (.cells #[pV a] 94 (0,0)):=by
  rw[Below.heap_alloc _ _ _ (by simp)];have:=qY w (.cells #[pV a] 94);simpa using this
 have z:((w.alloc (.cells #[pV a] 94)).alloc (ndC x m n o (.slice g k.length j) f p s r)).heap[w.heap.size+1]? =some (.cells #[U x,U m,U n,U o,.slice g k.length j,.string ⟨f.toArray⟩,U p,U s,U r] 87 (0,0)):=by
  have:=qY (w.alloc (.cells #[pV a] 94)) (ndC x m n o (.slice g k.length j) f p s r);simpa using this
 have au:((w.alloc (.cells #[pV a] 94)).alloc (ndC x m n o (.slice g k.length j) f p s r)).cell? (J w.heap.size 0)=some (pV a):=cr K rfl;have KA:=O (Bkp.still (B:=B) (bb:=a) (tv:=b) X);obtain⟨ap,aq⟩:=h.blk;have a6:=A4 Z X (λ_ _ ao=>ao);unfold maxLen at ak;subst hk;have am:(I8 u f (i:Int)).length=u.length:=U5 u f (i:Int) Y;have OW:Hid (∀F,I No ((w.alloc (.cells #[pV a] 94)).alloc (ndC 16 m n o (.slice g k.length j) f p s r)) F->Calls prog 155 #[pV a] F λe E=>∃q,e= .returned (.map (some q))/\E.cell? (J (w.heap.size+1) 5)=some (.string ⟨f.toArray⟩)/\w.heap.size+1<E.heap.size/\∃v,(Instr.mapUpdate 177 (.map (some q)) (.string ⟨f.toArray⟩) (U (i:Int))).run prog E= .ok () v/\
  v.heap[w.heap.size]? =some (.cells #[pV a] 94 (0,0))/\v.heap[w.heap.size+1]? =some (.cells #[U 16,U m,U n,U o,.slice g k.length j,.string ⟨f.toArray⟩,U p,U s,U r] 87 (0,0))/\Hid (∀G,I No v G->Calls prog 39 #[.agg #[U 16,U m,U n,U o,.slice g k.length j,.string ⟨f.toArray⟩,U p,U s,U r]] G λe a4=>∃T V,e= .returned (.slice T (px y P).length V)/\a4.cell? (J w.heap.size 0)=some (pV a)/\
  Hid (Calls prog 69 #[pV a,.slice T (px y P).length V] a4 (X5b c w B a (.slice (some (J ae 0)) N.length nc) b N A D R)))):=by
  intro F ha;refine(I8c H Y (by omega) (by omega) f a9 (i:Int) ⟨by omega,by omega⟩ F ha).mono ?_;rintro e E ⟨q,rfl,hc,-,v,hu,L,ag⟩;obtain⟨y1,y2⟩:=H.tv K (by decide);obtain⟨z1,z2⟩:=H.tv z (by decide);have a5:E.cell? (J (w.heap.size+1) 5)=some (.string ⟨f.toArray⟩):=A8 hc (cr z rfl);have q0:=L.other K (by decide) y1 y2;refine⟨q,rfl,a5,blt a5,v,hu,q0,L.other z (by decide) z1 z2,λG af=> ?_⟩;have hP:=T8a (l0:=[]) (ts:=D) (KA.o.trans L) ag (S6 Y am) a8 hC (by omega) (by omega) aa g j (L.row a6 (λe=> ?_) (λg' ai e=> ?_)) a7 w.heap.size (cr q0 rfl) A aj G af
  · rw[Br.and_zero,<-W]at hP;exact hP
  · have:=M _ e;have:=h.low.1;have:=h.hz;omega
  · have:=M _ ai;have:=h.low.2 g' e;have:=h.hz;omega
 have ad:((w.alloc (.cells #[pV a] 94)).alloc (ndC 16 m n o (.slice g k.length j) f p s r)).cell? (J (w.heap.size+1) 5)=some (.string ⟨f.toArray⟩):=cr z rfl;generalize (px y P).length=pl at *;clear aa a8 hC H h al K z a6 Z M ah hN W;go_enter func107,ntmps107;go_wp2_with fail
 go_region_with (go_at_call 155;refine(OW.o _ (I.drewN _ _ 1)).mono ?_;rintro e ay ⟨q,rfl,d5,dl,t,an,ac,l,PA⟩)
 all_goals
  have ar:t.cell? (J w.heap.size 0)=some (pV a):=cr ac rfl;have n0:t.cell? (J (w.heap.size+1) 0)=some (U 16):=cr l rfl;have n1:t.cell? (J (w.heap.size+1) 1)=some (U m):=cr l rfl;have n2:t.cell? (J (w.heap.size+1) 2)=some (U n):=cr l rfl;have n3:t.cell? (J (w.heap.size+1) 3)=some (U o):=cr l rfl;have n4:t.cell? (J (w.heap.size+1) 4)=some (.slice g k.length j):=cr l rfl;have n5:t.cell? (J (w.heap.size+1) 5)=some (.string ⟨f.toArray⟩):=cr l rfl;have n6:t.cell? (J (w.heap.size+1) 6)=some (U p):=cr l rfl;have n7:t.cell? (J (w.heap.size+1) 7)=some (U s):=cr l rfl;have n8:t.cell? (J (w.heap.size+1) 8)=some (U r):=cr l rfl;have ln:=(ltG l);clear OW an d5 dl ac l ad;go_wp2_with fail
  go_region_with (first|(go_at_call 39;refine(PA.o _ (I.drewN _ _ 1)).mono ?_;rintro e v ⟨T,V,rfl,av,H3⟩)|(go_at_call 69;refine(Hid.o H3).mono ?_;rintro e a4 (⟨er,a3,rfl,S⟩|⟨rfl,S⟩);exact⟨rfl,S.o⟩))
  all_goals go_wp2_with fail
  all_goals go_end0
  all_goals exact S.o
theorem BnPost.set{w n e:lZ}{m i:Nat}{k:uZ}{f:List Fr}{l:List (Nat×Int)}{x:bZ}{j:Int}(p:Bkp B a b w e)(h:Bnt c e B a d b m (I8 f x j) (upd k l))(q:m<=i)(g:I No e n):BnPost c w B a d b N i k ((Br.ok f l).setF x j) (rT) n:=by
 have h:=h.kept g;obtain⟨o,s,r⟩:=h.st;exact⟨p.trans (Bkp.still g),rfl,h.hz,h.le,h.bel,o,s,r.more q⟩
theorem H6e(hN:Nrow c d N)(F:Int)(n k nE:Nat)(b7:n<N.length)(hI:k<=100000)(aw:(N[n]).kind=F)(w:lZ)(m:Nat)(j:List Fr)(v:uZ)(i:bZ)(ap:Bnt c w B a d b m j v)(E:j≠[])(hm:m+2+2 * nE<=100000)(hf:j.length<=100000)(hx:i.length<=1000000)
 (H:Option Addr) (L K:Nat) (G M P:Int) (S T s:Int) (ax:s=atI N k) (R:List Fr->Br) (ao:∀f D l,f≠[]->R f= .ok D l->D.length=f.length)
 (HA:∀(h:lZ) (m1:Nat) (f:List Fr) (g:Nat),Bnt c h B a d b m1 f v->f.length=j.length->m1<=m+1->B<=g->g≠a->b.ownBlock≠some g->h.ownsRow 0 3 1 (.slice (some (J g 0)) 1 1) 1 (C8 [(n:Int)])->Calls prog 69 #[pV a,.slice (some (J g 0)) 1 1] h (BnPost c h B a d b N (m1+2 * nE) v (R f))):
 Calls prog 154 #[pV a,U (k:Int),.agg #[U G,U (n:Int),U M,U P,.slice H L K,.string ⟨i.toArray⟩,U S,U T,U s]] w (BnPost c w B a d b N (m+2+2 * nE) v (if (H4a j i).isSome then .bad 6 k else (R (if F=6 then I8 j i (k:Int) else j)).setF i (k:Int))):=by
 have aa:=I.alloc No w (ndC G (n:Int) M P (.slice H L K) i S T s);have a9:=qY w (ndC G (n:Int) M P (.slice H L K) i S T s);have h1:=ap.kept aa;have bb:w.heap.size<(w.alloc (ndC G (n:Int) M P (.slice H L K) i S T s)).heap.size:=by simp
 obtain⟨x1,x2⟩:=h1.tv a9 (by decide);have C:Hid (∀h,Bkp B a b (w.alloc (ndC G (n:Int) M P (.slice H L K) i S T s)) h->h.cell? (J w.heap.size 1)=some (U (n:Int))/\h.cell? (J w.heap.size 5)=some (.string ⟨i.toArray⟩)/\h.cell? (J w.heap.size 8)=some (U s)/\w.heap.size<h.heap.size):=λh p=>by
  have hb:=p.other a9 (by decide) x1 x2;exact⟨cr hb rfl,cr hb rfl,cr hb rfl,(ltG hb)⟩
 have FN:Hid (∀h m f o,Bnt c h B a d b m f o->∃g A,d= .slice (some (J g 0)) N.length A/\g<h.heap.size/\N.length<=A/\A<=maxLen/\h.cell? (J g (n * 9))=some (U F)/\h.cell? (J a 0)=some d/\a<h.heap.size):=λh m f o p=>by
  obtain⟨g,A,bj,bk,e1,e2,e3,e4,e5,_,_⟩:=hN.at p.bel n b7;obtain⟨b1,b2⟩:=p.blk;exact⟨g,A,e1,e2,e3,e4,by rw[e5.1,aw],b1,b2⟩
 have OW:Hid (∀h m1 f o,Bnt c h B a d b m1 f o->f.length=j.length->m1<=100000->Bkp B a b (w.alloc (ndC G (n:Int) M P (.slice H L K) i S T s)) h->∀a2,I No h a2->
  Calls prog 155 #[pV a] a2 λe x=>∃q,e= .returned (.map (some q))/\I No h x/\(x.cell? (J w.heap.size 5)=some (.string ⟨i.toArray⟩)/\w.heap.size<x.heap.size)/\(Instr.lookup 177 (.map (some q)) (.string ⟨i.toArray⟩) true).run prog x= .ok (.tuple #[U ((H4a f i).getD 0),.bool (H4a f i).isSome]) x/\
  ∃t,(Instr.mapUpdate 177 (.map (some q)) (.string ⟨i.toArray⟩) (U (k:Int))).run prog x= .ok () t/\Hid (Bkp B a b h t/\Bnt c t B a d b (m1+1) (I8 f i (k:Int)) o)):=λh m1 f o p hl ba b8 a2 h2=>by
  refine(I8c p (S6 E hl) (by omega) ba i hx (k:Int) ⟨by omega,by omega⟩ a2 h2).mono ?_;rintro e x ⟨q,rfl,hc,r,t,hu,ay⟩;have:=C.o x (b8.trans (Bkp.still hc));exact⟨q,rfl,hc,⟨this.2.1,this.2.2.2⟩,r,t,hu,ay⟩
 have HG:=O B1a;have az:=O ax;clear ax;have X:=O (Bkp.still (B:=B) (bb:=a) (tv:=b) aa);have H1:=O h1;have ah:=O HA;have al:=O ao;have ai:Hid (∀h m f o,Bnt c h B a d b m f o->B<=h.heap.size):=λh m f o p=>p.le;have aj:Hid (∀(h:lZ),(h.alloc (.cells #[U (n:Int)] 3)).ownsRow 0 3 1 (.slice (some (J h.heap.size 0)) 1 1) 1 (C8 [(n:Int)])):=λh=>F1a (w:=h) (base:=0) (wQ _) [(n:Int)] (by simp);have a5:Hid (∀h m f o,Bnt c h B a d b m f o->h.heap.size≠a/\b.ownBlock≠some h.heap.size):=λh m f o p=>by
  obtain⟨av,ms,hs⟩:=p.st;have:=(ltG hs.blk);refine⟨by omega,λe=> ?_⟩;have:=(hs.tos.lt _ e).2;omega
 generalize aq:(if (H4a j i).isSome then Br.bad 6 k else (R (if F=6 then I8 j i (k:Int) else j)).setF i (k:Int))=RR;have ak:=O aq;obtain⟨b0,c5,c8,-⟩:=C.o _ (Bkp.refl _ _ _ _);have b6:j.length=j.length:=rfl;have am:=O (OW.o _ m j v h1 rfl (by omega) (Bkp.refl _ _ _ _));obtain⟨b1,b2⟩:=h1.blk;clear aa a9 h1 ap aq HA ao x1 x2 b6 hN aw;generalize b4:(H4a j i).isSome=bl at *;generalize (H4a j i).getD 0=zz at *;clear b4;go_enter func154,ntmps154;go_wp2_with fail
 go_region_with (go_at_call 155;refine(am.o _ (I.drewN _ _ 1)).mono ?_;rintro e y ⟨q,rfl,ab,⟨d5,dl⟩,b9,-⟩)
 all_goals
  have Y:=O (Bkp.still (B:=B) (bb:=a) (tv:=b) ab);have B1:=O (H1.o.kept ab);obtain⟨e1,e5,e8,el⟩:=C.o y Y.o;clear am b9 b0 c5 c8 b1 b2 bb ab;cases bl with
  |true=>
   have r:=ak.o;rw[rY rfl]at r;subst r;go_wp2_with fail
   refine(HG.o _ 6 s).mono ?_;rintro e bd ⟨rfl,au⟩;exact⟨rfl,(X.o.trans Y.o).trans (Bkp.still au),show gu 6 s=gu 6 (atI N k) by rw[az.o]⟩
  |false=>
   have r:=ak.o;rw[yY (by decide)]at r;obtain⟨g,A,rfl,g1,g2,g3,g4,g5,g6⟩:=FN.o y _ _ _ B1.o;unfold maxLen at g3;by_cases a6:F=6
   · rw[rY a6]at r;subst a6;subst r;have an:=O (OW.o y m j v B1.o rfl (by omega) Y.o);go_wp2_with fail
     go_region
     all_goals go_wp2_with fail
     all_goals go_region_with (go_at_call 155;refine(an.o _ (D3 (I.drewN _ _ 1) (I.drewN _ _ 1))).mono ?_;rintro e bd ⟨q2,rfl,au,⟨b3,fl⟩,-,t,ae,H3⟩)
     all_goals
      have ac:=Y.o.trans H3.o.1;have ar:=H3.o.2;obtain⟨bg,-,-,bh⟩:=C.o t ac;have K3:=O ac;have B3:=O ar;clear ac ar ae b3 fl e1 e5 e8 el an;have V:=O (ah.o (t.alloc (.cells #[U (n:Int)] 3)) (m+1) (I8 j i (k:Int)) t.heap.size (B3.o.kept (I.alloc No _ _)) (U5 j i (k:Int) E) (by omega) (ai.o _ _ _ _ B3.o) (a5.o _ _ _ _ B3.o).1 (a5.o _ _ _ _ B3.o).2 (aj.o _));have Z:=O ((K3.o).trans (Bkp.still (B:=B) (bb:=a) (tv:=b) (I.alloc No t (.cells #[U (n:Int)] 3))));have SX:=O (λD l e=>(al.o (I8 j i (k:Int)) D l (S6 E (U5 j i (k:Int) E)) e).trans (U5 j i (k:Int) E));generalize a8:R (I8 j i (k:Int))=Rf at *;clear a8;go_wp2_with fail
      refine V.o.mono ?_;rintro e ag ⟨a3,a4⟩;have u:=O (Z.o.trans a3);clear a3 V Z;cases Rf with
      |bad er af=>
       obtain rfl:e=gu er (atI N af):=a4;exact⟨rfl,X.o.trans u.o,rfl⟩
      |ok f l=>
       obtain⟨rfl,z⟩:=a4;have ad:=SX.o f l rfl;obtain⟨bc,p5,-,pl⟩:=C.o ag u.o;have a7:=O (OW.o _ _ f (upd v l) z ad (by omega) u.o);obtain⟨q1,q2⟩:=z.blk;clear z SX;go_wp2_with fail
       go_region_with (go_at_call 155;refine(a7.o _ (I.drewN _ _ 1)).mono ?_;rintro e be ⟨q,rfl,b5,⟨r5,rl⟩,-,bf,ae,W⟩)
       all_goals go_wp2_with fail
       all_goals go_end0
       all_goals exact BnPost.set (X.o.trans (u.o.trans W.o.1)) W.o.2 (by omega) (I.refl _ _)
   · rw[yY a6]at r;have bi:(F==6)=false:=by simp[a6]
     subst r;have FD:Hid (Bnt c y.drew B a (.slice (some (J g 0)) N.length A) b m j v):=B1.o.kept (I.drewN _ _ 1);have KD:=O (Y.o.trans (Bkp.still (B:=B) (bb:=a) (tv:=b) (I.drewN No y 1)));go_wp2_with fail
     go_region
     all_goals
      have V:=O (ah.o (y.drew.alloc (.cells #[U (n:Int)] 3)) (m) (j) y.drew.heap.size (FD.o.kept (I.alloc No _ _)) (rfl) (by omega) (ai.o _ _ _ _ FD.o) (a5.o _ _ _ _ FD.o).1 (a5.o _ _ _ _ FD.o).2 (aj.o _));have Z:=O ((KD.o).trans (Bkp.still (B:=B) (bb:=a) (tv:=b) (I.alloc No y.drew (.cells #[U (n:Int)] 3))));have SX:=O (λD l e=>(al.o (j) D l (S6 E (rfl)) e).trans (rfl));generalize a8:R (j)=Rf at *;clear a8;go_wp2_with fail
      refine V.o.mono ?_;rintro e ag ⟨a3,a4⟩;have u:=O (Z.o.trans a3);clear a3 V Z;cases Rf with
      |bad er af=>
       obtain rfl:e=gu er (atI N af):=a4;exact⟨rfl,X.o.trans u.o,rfl⟩
      |ok f l=>
       obtain⟨rfl,z⟩:=a4;have ad:=SX.o f l rfl;obtain⟨bc,p5,-,pl⟩:=C.o ag u.o;have a7:=O (OW.o _ _ f (upd v l) z ad (by omega) u.o);obtain⟨q1,q2⟩:=z.blk;clear z SX;go_wp2_with fail
       go_region_with (go_at_call 155;refine(a7.o _ (I.drewN _ _ 1)).mono ?_;rintro e be ⟨q,rfl,b5,⟨r5,rl⟩,-,bf,ae,W⟩)
       all_goals go_wp2_with fail
       all_goals go_end0
       all_goals exact BnPost.set (X.o.trans (u.o.trans W.o.1)) W.o.2 (by omega) (I.refl _ _)
theorem Z4c(H:Nrow c d N)(i:Nat)(hi:i<N.length)(w:lZ)(m:Nat)(e:List Fr)(y:uZ)(h:Bnt c w B a d b m e y)(ab:e≠[])(T:Int)(x E:Nat)(ae:x<N.length)(a4:(N[x]).kind=T)(hm:m+2+2 * E<=100000)(hf:e.length<=100000)(P:(N[i]).text.length<=1000000)(ad:i<=100000)(L:(N[i]).kind=17)(S:(N[i]).a=(x:Int))(F:List Fr->Br)(X:∀f Y a6,f≠[]->F f= .ok Y a6->Y.length=f.length)
 (V:∀(z:lZ) (m1:Nat) (f:List Fr) (g:Nat),Bnt c z B a d b m1 f y->f.length=e.length->m1<=m+1->B<=g->g≠a->b.ownBlock≠some g->z.ownsRow 0 3 1 (.slice (some (J g 0)) 1 1) 1 (C8 [(x:Int)])->Calls prog 69 #[pV a,.slice (some (J g 0)) 1 1] z (BnPost c z B a d b N (m1+2 * E) y (F f))) (R:Br) (A:R=if (H4a e (N[i]).text).isSome then .bad 6 i else (F (if T=6 then I8 e (N[i]).text (i:Int) else e)).setF (N[i]).text (i:Int)):
 Calls prog 107 #[pV a,U (i:Int)] w (BnPost c w B a d b N (m+2+2 * E) y R):=by
 have aa:=h.bel;have a2:=H;have C:atI N i=(N[i]).at':=by
  unfold atI;rw[lQ,gQ hi];rfl
 obtain⟨g,nc,j,k,rfl,hg,al,af,⟨x0,x1,x2,x3,x4,x5,x6,x7,x8⟩,D,M⟩:=H.at h.bel i hi;generalize ag:N[i]=nd at C P L S A x0 x1 x2 x3 x4 x5 x6 x7 x8 D M;obtain⟨u,v,o,p,l,n,q,s,r⟩:=nd;simp only at x0 x1 x2 x3 x4 x5 x6 x7 x8 D M P L S A;have K:I No w ((w.alloc (.cells #[pV a] 94)).alloc (ndC u v o p (.slice j l.length k) n q s r)):=D3 (I.alloc No _ _) (I.alloc No _ _);have Z:=h.kept K;have a3:((w.alloc (.cells #[pV a] 94)).alloc (ndC u v o p (.slice j l.length k) n q s r)).heap[w.heap.size]? =some (.cells #[pV a] 94 (0,0)):=by
  rw[Below.heap_alloc _ _ _ (by simp)];have:=qY w (.cells #[pV a] 94);simpa using this
 have a9:((w.alloc (.cells #[pV a] 94)).alloc (ndC u v o p (.slice j l.length k) n q s r)).heap[w.heap.size+1]? =some (.cells #[U u,U v,U o,U p,.slice j l.length k,.string ⟨n.toArray⟩,U q,U s,U r] 87 (0,0)):=by
  have:=qY (w.alloc (.cells #[pV a] 94)) (ndC u v o p (.slice j l.length k) n q s r);simpa using this
 have ak:((w.alloc (.cells #[pV a] 94)).alloc (ndC u v o p (.slice j l.length k) n q s r)).cell? (J w.heap.size 0)=some (pV a):=cr a3 rfl;have W:=O (Bkp.still (B:=B) (bb:=a) (tv:=b) K);obtain⟨ai,aj⟩:=h.blk;have ac:=A4 D K (λ_ _ ah=>ah);unfold maxLen at af;subst L;subst S;simp only at C;have G:=O (H6e a2 T x i E ae ad a4 _ m e y n Z ab hm hf P j l.length k 17 o p q s r C.symm F X V);rw[<-A]at G;generalize a8:R=RR at *;clear a8 V X A Z h ag a3 a9 ac D M aa H a2 C a4;go_enter func107,ntmps107;go_wp2_with fail
 refine G.o.mono ?_;rintro a7 am t;have t:=BnPost.after W.o t;have a5:=t.2;cases RR with
 |bad er i=>
  obtain rfl:a7=gu er (atI N i):=a5;exact⟨rfl,t⟩
 |ok f a6=>
  obtain⟨rfl,-⟩:=a5;have HP:=O t;clear t G W;go_wp2;go_end0;exact HP.o
theorem Q4d(K:Nrow c d N)(i:Nat)(hi:i<N.length)(w:lZ)(m:Nat)(A:List Fr)(G:uZ)(h:Bnt c w B a d b m A G)(e:List Nt)(o:Option Tr)(P:bZ)(n:Int)(f:List Nt)(a3:∀p∈e,p.k=16/\A0a c B a d b N p)(a4:∀p∈f,1<=p.k/\A0a c B a d b N p)(z tb:Nat)(Y:EmL N z tb (e++[.ty o,.nd 26 P n f]))(hm:m+2 * (nNL e+nNL f)<=100000)(hf:A.length+1+(nNL e+nNL f)<=100000)(a5:G.length=N.length)(a7:N.length<=100000)(M:(N[i]).kind=6)(F:(N[i]).a=((z+nNL e+nNL f:Nat):Int))(D:(N[i]).list=px z e)(R:Br)(W:R=(bnL true (A++[Fr.no]) z (e++[.ty o,.nd 26 P n f])).pop):
 Calls prog 107 #[pV a,U (i:Int)] w (BnPost c w B a d b N (m+2 * (nNL e+nNL f)) G R):=by
 have aa:=h.bel;have V:=K;obtain⟨ai,nc,g,j,rfl,hg,aj,ab,⟨x0,x1,x2,x3,x4,x5,x6,x7,x8⟩,E,C⟩:=K.at h.bel i hi;generalize ac:N[i]=nd at M F D x0 x1 x2 x3 x4 x5 x6 x7 x8 E C;obtain⟨x,y,q,r,k,l,s,u,t⟩:=nd;simp only at x0 x1 x2 x3 x4 x5 x6 x7 x8 E C M F D;have L:I No w ((w.alloc (.cells #[pV a] 94)).alloc (ndC x y q r (.slice g k.length j) l s u t)):=D3 (I.alloc No _ _) (I.alloc No _ _);have T:=h.kept L;have X:((w.alloc (.cells #[pV a] 94)).alloc (ndC x y q r (.slice g k.length j) l s u t)).heap[w.heap.size]? =some (.cells #[pV a] 94 (0,0)):=by
  rw[Below.heap_alloc _ _ _ (by simp)];have:=qY w (.cells #[pV a] 94);simpa using this
 have a9:((w.alloc (.cells #[pV a] 94)).alloc (ndC x y q r (.slice g k.length j) l s u t)).heap[w.heap.size+1]? =some (.cells #[U x,U y,U q,U r,.slice g k.length j,.string ⟨l.toArray⟩,U s,U u,U t] 87 (0,0)):=by
  have:=qY (w.alloc (.cells #[pV a] 94)) (ndC x y q r (.slice g k.length j) l s u t);simpa using this
 have ag:((w.alloc (.cells #[pV a] 94)).alloc (ndC x y q r (.slice g k.length j) l s u t)).cell? (J w.heap.size 0)=some (pV a):=cr X rfl;have S:=O (Bkp.still (B:=B) (bb:=a) (tv:=b) L);obtain⟨ae,af⟩:=h.blk;have Z:=A4 E L (λ_ _ ad=>ad);unfold maxLen at ab;subst M;have H:=O (D4c V e o P n f a3 a4 z tb _ m A G Y T hm hf a5 a7 g j k D Z C 6 q r ⟨l.toArray⟩ s u t);rw[<-W,<-F]at H;generalize a8:R=RR at *;generalize m+2 * (nNL e+nNL f)=mm at *;clear a8 W T h ac X a9 Z E C aa K V a3 a4 Y F D a5;go_enter func107,ntmps107;go_wp2_with fail
 refine H.o.mono ?_;rintro a6 al v;have v:=BnPost.after S.o v;have a2:=v.2;cases RR with
 |bad er i=>
  obtain rfl:a6=gu er (atI N i):=a2;exact⟨rfl,v⟩
 |ok ah ak=>
  obtain⟨rfl,-⟩:=a2;have HP:=O v;clear v H S;go_wp2;go_end0;exact HP.o
theorem T1b(H:Nrow c d N)(i:Nat)(hi:i<N.length)(w:lZ)(m:Nat)(u:List Fr)(F:uZ)(h:Bnt c w B a d b m u F)(f:List Nt)(a2:∀a4∈f,1<=a4.k/\A0a c B a d b N a4)(z tb:Nat)(V:EmL N z tb f)(hm:m+2 * nNL f<=100000)(hf:u.length+1+nNL f<=100000)(a3:F.length=N.length)(P:(N[i]).kind=26)(D:(N[i]).list=px z f)(R:Br)(T:R=(bnL false (u++[Fr.no]) z f).pop):
 Calls prog 107 #[pV a,U (i:Int)] w (BnPost c w B a d b N (m+2 * nNL f) F R):=by
 have a8:=h.bel;have a6:=H;obtain⟨g,nc,j,k,rfl,W,ai,aa,⟨x0,x1,x2,x3,x4,x5,x6,x7,x8⟩,E,v⟩:=H.at h.bel i hi;generalize ab:N[i]=nd at P D x0 x1 x2 x3 x4 x5 x6 x7 x8 E v;obtain⟨y,o,p,q,l,n,r,t,s⟩:=nd;simp only at x0 x1 x2 x3 x4 x5 x6 x7 x8 E v P D;have M:I No w ((w.alloc (.cells #[pV a] 94)).alloc (ndC y o p q (.slice j l.length k) n r t s)):=D3 (I.alloc No _ _) (I.alloc No _ _);have A:=h.kept M;have C:((w.alloc (.cells #[pV a] 94)).alloc (ndC y o p q (.slice j l.length k) n r t s)).heap[w.heap.size]? =some (.cells #[pV a] 94 (0,0)):=by
  rw[Below.heap_alloc _ _ _ (by simp)];have:=qY w (.cells #[pV a] 94);simpa using this
 have L:((w.alloc (.cells #[pV a] 94)).alloc (ndC y o p q (.slice j l.length k) n r t s)).heap[w.heap.size+1]? =some (.cells #[U y,U o,U p,U q,.slice j l.length k,.string ⟨n.toArray⟩,U r,U t,U s] 87 (0,0)):=by
  have:=qY (w.alloc (.cells #[pV a] 94)) (ndC y o p q (.slice j l.length k) n r t s);simpa using this
 have af:((w.alloc (.cells #[pV a] 94)).alloc (ndC y o p q (.slice j l.length k) n r t s)).cell? (J w.heap.size 0)=some (pV a):=cr C rfl;have S:=O (Bkp.still (B:=B) (bb:=a) (tv:=b) M);obtain⟨ad,ae⟩:=h.blk;have X:=A4 E M (λ_ _ ac=>ac);unfold maxLen at aa;subst P;have Y:u++[Fr.no]≠[]:=by simp
 have G:=O (J6c 158 (λ_ _=>by go_simp) A (N:=N) (by omega) (m+2 * nNL f) (bnL false (u++[Fr.no]) z f) (Sl.small (W4 _ _ _ _ Y) (by omega)) (pV w.heap.size) (pV (w.heap.size+1)) (λa5 K hb=>by
  obtain⟨y1,y2⟩:=A.tv C (by decide);obtain⟨z1,z2⟩:=A.tv L (by decide);have a9:=h.low;have hz:=h.hz;refine O9c f a2 z tb a5 m (u++[Fr.no]) F V hb Y hm (by simp;omega) a3 j k l D ?_ v _ _ (K.other C (by decide) y1 y2) 26 o p q ⟨n.toArray⟩ r t s (K.other L (by decide) z1 z2);refine K.row X (λe=> ?_) (λg W e=> ?_)
  · have:=v _ e;omega
  · have:=v _ W;have:=a9.2 g e
    omega))
 rw[<-T]at G;have ah:=mkf;generalize a7:R=RR at *;generalize m+2 * nNL f=mm at *;clear a7 T A h ab C L X E v a8 H a6 a2 V D a3;go_enter func107,ntmps107;go_wp2_with fail
 refine G.o.mono ?_;rintro e ak x;have x:=BnPost.after S.o x;have Z:=x.2;cases RR with
 |bad er i=>
  obtain rfl:e=gu er (atI N i):=Z;exact⟨rfl,x⟩
 |ok ag aj=>
  obtain⟨rfl,-⟩:=Z;have HP:=O x;clear x G S;go_wp2;go_end0;exact HP.o
end
