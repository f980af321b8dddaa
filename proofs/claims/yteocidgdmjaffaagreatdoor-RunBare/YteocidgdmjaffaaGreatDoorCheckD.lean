/-
  A part of the proof.
-/
import Derived.Test.YteocidgdmjaffaaGreatDoorDaw
set_option maxHeartbeats 0
set_option linter.all false
set_option maxRecDepth 100000
namespace Go.Proofs.YteocidgdmjaffaaGreatDoor
open Go.Proofs.Tryz
open Go.RowKit Go.Maps
section
variable{n w:E}{c:Cx}{b h j m:Nat}{k p f:Value}{o:Int}{Z:List Ty}{l:bZ}{a:Of}{i:Nat}{g:FuncId}{e:Array Value}{R:List (Int×Tr)->E->Prop}{d:Ending->E->Prop}
def Lx(v:cP n c b h j m k f)(T:fU c Z l a i)(r:mC n c b h j m k p o f Z l a i g e R d)(A)(B:c.N[i].x=7)(hd:(aX a c.N[i].a).k=5\/((aX a c.N[i].a).k=9/\c.N[i].M.length=(aX a c.N[i].a).ks.tail.length))(z:R [] w):
 Calls prog 29 #[pV b,U i,.func (.func g) #[] e] w λq H=>((∃x y,q=gu x y)/\d q H)\/(q=rT/\∃L,aM c a i=some L/\R L H):=by
 have t:=r.st _ _ z;obtain⟨oa,oc,a9,fz,q0,q1,q2,q3,q4,q5,q6,qp,qo⟩:=t.cell;obtain⟨a6,nc,F,G,a5,hg,a7,a4,⟨x0,x1,x2,x3,x4,x5,x6,x7,x8⟩,a3,-⟩:=(v.fg t.P).at (Below.refl _ _) i A;have s:Hid (∀u,I No w u->_):=λu D=>xm v T r A B hd F G (A3 a3 D (λ_ _ x=>x)) (r.y _ _ _ z D);unfold maxLen at a4;unfold fE at s;generalize a8:c.N[i]=nd at*;obtain⟨kd,va,vb,vc,ls,tx,vn,vt,vp⟩:=nd;subst a5;simp only at*;subst B;have M:=O (I.alloc No w (aL 7 va vb vc (.slice F ls.length G) tx vn vt vp));go_in;go_wp2_with fail;refine(s.u _ M.u).mono ?_;rintro q aa (⟨⟨x,y,rfl⟩,W⟩|⟨rfl,L,V,a2⟩)
 .have P:=O W;exact⟨rfl,.inl ⟨⟨x,y,rfl⟩,P.u⟩⟩
 .have S:=O a2;have N:=O V;go_wp2;go_end0;exact .inr ⟨rfl,_,N.u,S.u⟩
def OT(q:cP n c b h j m k f)(r:fU c Z l a i)(t:mC n c b h j m k p o f Z l a i g e R d)(u)(P:c.N[i].x=7->(aX a c.N[i].a).k=5\/((aX a c.N[i].a).k=9/\c.N[i].M.length=(aX a c.N[i].a).ks.tail.length))(N:c.N[i].x=24->c.fn.getD i 0≠-1)(s:R [] w):
 Calls prog 29 #[pV b,U i,.func (.func g) #[] e] w λv M=>((∃x y,v=gu x y)/\d v M)\/(v=rT/\∃L,aM c a i=some L/\R L M):=by
 by_cases A:c.N[i].x=7
 .exact Lx q r t u A (P A) s
 by_cases B:c.N[i].x=14
 .exact Zo q r t u B s
 by_cases D:c.N[i].x=17/\c.N[i].ty≠-1
 .exact Zq q r t u D.1 D.2 s
 by_cases F:c.N[i].x=18
 .exact Zr q r t u F s
 by_cases G:c.N[i].x=19
 .exact Zs q r t u G s
 by_cases H:c.N[i].x=20
 .exact Zu q r t u H s
 by_cases z:c.N[i].x=24
 .exact Zw q r t u z (N z) s
 exact Ls q r t u ⟨A,B,λS=>by
  omega,F,G,H,z⟩ s
end
section
variable{n w:E}{c:Cx}{b e f m:Nat}{k q j:Value}{o:Int}{Z:List Ty}{g:bZ}{d:Of}{i:Nat}
def Pi(B:cP n c b e f m k j)(h:aS n w c b e f m k q o j Z g)(G:i<c.N.length){s l}(z:w.heap[s]?=some (.cells #[pV b] 43 (0,0)))(A:w.heap[l]?=some (.cells #[U i] 3 (0,0)))
 (p:Nat) (H:Lk c Z g d p) (a) (F:a<(tl c Z).length):
 Calls prog 116 #[U p,U a,pV s,pV l] w (kX n w c b e f m k q o j Z g i (D8 (aX d p) (tr (tl c Z) a))):=by
 obtain⟨S,r,L,y,N,P,R⟩:=H;have:p=S:=by omega
 subst this;have u:=O (OZ B h i G p L r N P a F);rw[R]at u;have V:w.cell? (J s 0)=some (pV b):=cr z rfl;have W:w.cell? (J l 0)=some (U (i:Int)):=cr A rfl;generalize D8 (aX d p) (tr (tl c Z) a)=T at*;go_in;go_wp2_with fail;refine u.u.mono ?_;rintro y a2 M;obtain⟨rfl,rfl,t⟩|⟨rfl,rfl,t,D⟩:=kX.part M
 .exact⟨rfl,t,rfl⟩
 .have v:=O t;have x:=O D;go_wp2;go_end0;exact⟨v.u,rfl,x.u⟩
def Ju(n s:E)(c:Cx)(b e f m:Nat)(k q:Value)(o:Int)(j:Value)(Z:List Ty)(g:bZ)(d:Of)(i p h:Nat)(l:List (Int×Tr))(u:E):Prop:=
 I (λr=>r=f) s u/\aS n u c b e f m k q o j Z g/\u.heap[p]?=some (.cells #[pV b] 43 (0,0))/\u.heap[h]?=some (.cells #[U i] 3 (0,0))/\∀a∈l,D8 (aX d a.1) a.2=true
def Xo(F:cP n c b e f m k j)(G:fU c Z g d i)(M:i<c.N.length)(D)(z y):
 mC n c b e f m k q o j Z g d i 116 #[pV z,pV y] (Ju n D c b e f m k q o j Z g d i z y) (λA u=>A=gu 9 (cI c.N i)/\I (λN=>N=f) D u/\U3 c d i=false) where
 cf _ _:=by go_simp
 st l u h:=h.2.1;y l u v h r:=⟨h.1.trans r (λ_ _ x=>x.elim),h.2.1.y r,J4 r h.2.2.1,J4 r h.2.2.2.1,h.2.2.2.2⟩;gy l u v h r t:=⟨h.1.trans r (λ_ _ x=>x),t,h.2.1.eo r h.2.2.1,h.2.1.eo r h.2.2.2.1,h.2.2.2.2⟩;bad l u v h r hn:=⟨rfl,h.1.trans r (λ_ _ x=>x),by grind[U3]⟩;tell l u L x p a h hx hp ha hL2 hm _:=by
  have B:=G.pe x hx;rw[hp]at B;refine(Pi F h.2.1 M h.2.2.1 h.2.2.2.1 p B a ha).mono ?_;intro A v s;obtain⟨rfl,H,r⟩|⟨rfl,H,r,t⟩:=kX.part s
  .refine .inl ⟨⟨_,_,rfl⟩,rfl,h.1.trans r (λ_ _ x=>x),?_⟩;grind[U3]
  .refine .inr ⟨rfl,⟨h.1.trans r (λ_ _ x=>x),t,h.2.1.eo r h.2.2.1,h.2.1.eo r h.2.2.2.1,λP s=>?_⟩,h.2.1.kc r⟩;obtain s|s:=qW.1 s
   .exact h.2.2.2.2 P s
   grind
def QY(r:cP n c b e f m k j)(s:fU c Z g d i)(h:aS n w c b e f m k q o j Z g)(t)(D:c.N[i].x=7->(aX d c.N[i].a).k=5\/((aX d c.N[i].a).k=9/\c.N[i].M.length=(aX d c.N[i].a).ks.tail.length))(B:c.N[i].x=24->c.fn.getD i 0≠-1):
 Calls prog 73 #[pV b,U i] w (kX n w c b e f m k q o j Z g i (U3 c d i)):=by
 have l:I No w ((w.alloc (.cells #[pV b] 43)).alloc (.cells #[U i] 3)):=B6 (I.alloc _ _ _) (I.alloc _ _ _);have z:((w.alloc (.cells #[pV b] 43)).alloc (.cells #[U i] 3)).heap[w.heap.size]?=some (.cells #[pV b] 43 (0,0)):=(Below.heap_alloc _ _ _ (by simp)).trans (yY w _);have A:((w.alloc (.cells #[pV b] 43)).alloc (.cells #[U i] 3)).heap[w.heap.size+1]?=some (.cells #[U i] 3 (0,0)):=by
  have:=yY (w.alloc (.cells #[pV b] 43)) (.cells #[U i] 3);simpa using this
 have v:=O (OT r s (Xo r s t ((w.alloc (.cells #[pV b] 43)).alloc (.cells #[U i] 3)) w.heap.size (w.heap.size+1)) t D B ⟨I.refl _ _,h.y l,z,A,λT S=>by grind⟩);have p:=O l;go_in;go_wp2_with fail;refine v.u.mono ?_;rintro R P (⟨⟨x,y,M⟩,G⟩|⟨rfl,L,F,a⟩)
 .subst M;have H:=O G;exact⟨rfl,(p.u.mono (λ_ _ x=>x.elim)).trans H.u.2.1 (λ_ _ x=>x),by rw[H.u.2.2];exact H.u.1⟩
 .have u:Hid (kX n w c b e f m k q o j Z g i (U3 c d i) (rT) P):=by
   have N:U3 c d i=true:=by
    unfold U3;rw[F];exact List.all_eq_true.2 a.2.2.2.2
   rw[N];exact⟨(p.u.mono (λ_ _ x=>x.elim)).trans a.1 (λ_ _ x=>x),rfl,a.2.1⟩
  go_wp2;go_end0;exact u.u
def sj(M:cP n c b e f m k j)(hL:fU c Z g d i)(h:aS n w c b e f m k q o j Z g)(hi)(hk:c.N[i].x=7):
 Calls prog 74 #[pV b,U i] w (rG n w c b e f m k q o j Z g i (kY c d i)):=by
 have hf:=M.ok.ep i hi;obtain⟨oa,oc,bd,fz,q0,q1,q2,q3,q4,q5,P,qp,qo⟩:=h.cell;obtain⟨p,r,hp,ab,hr,B,a5⟩:=hL.pe _ (hf.k7 hk).1;obtain⟨go,rfl,ba,bb,bc,av,A,-⟩:=qo p hp;rw[hr]at A;obtain⟨b6,nc,D,F,aq,hg,b9,ap,⟨x0,x1,x2,x3,x4,x5,x6,x7,x8⟩,-,-⟩:=(M.fg h.P).at (Below.refl _ _) i hi;have hT:=h.ts;unfold maxLen at ap av;obtain⟨b4,hs⟩:=h.jf;obtain⟨L,ct,fa,fc,ad,ae,z0,z1,z2,z3,z4,-,aa⟩:=LS r w B hs;have HG:=O aa;have HW:Hid (∀u,I No w u->_):=λu hu=>uU M (h.y hu) i hi;have am:(tl c Z)[r].x=(aX d c.N[i].a).k:=by rw[<-a5,iH hT B]
 have an:(tl c Z)[r].x=9->(aX d c.N[i].a).ks=tr (tl c Z) (tl c Z)[r].ew.toNat::(tl c Z)[r].M.map λx=>tr (tl c Z) x.toNat:=λa=>by
  rw[<-a5,oD hT B,wY (.inr a),wR hT B (by omega)];simp
 have a2:Hid ((tl c Z)[r].x=9->c.N[i].M.length=(tl c Z)[r].M.length->∀u,I No w u->_):=λa z u hu=>QY M hL (h.y hu) hi (λ_=>.inr ⟨by omega,by grind⟩) (λb7=>by omega);have H0:=O h;have E5:Hid ((tl c Z)[r].x=5->kY c d i=some (tr (tl c Z) r)):=λy=>by
  simp_all[kY,B9,wY]
 have H:Hid ((tl c Z)[r].x≠5->((tl c Z)[r].x≠9\/c.N[i].M.length≠(tl c Z)[r].M.length)->kY c d i=none):=λy hn=>by
  unfold kY;grind[B9]
 have E9:Hid ((tl c Z)[r].x=9->c.N[i].M.length=(tl c Z)[r].M.length->(kY c d i=if U3 c d i=true then some (tr (tl c Z) (tl c Z)[r].ew.toNat) else none)/\0<=(tl c Z)[r].ew/\(tl c Z)[r].ew<r):=λa z=>by
  refine⟨?_,(hT r B).of (.inr a)⟩;unfold kY;grind[B9]
 have a9:=O B;rw[ab]at x1;clear qp qo h hr hs M hL ab a5 hf aa am an;generalize U3 c d i=b5 at*;generalize kY c d i=FT at*;generalize c.N[i]=nd at*;generalize (tl c Z)[r]=b1 at*;obtain⟨kd,va,V,W,v,T,vn,vt,vp⟩:=nd;obtain⟨R,tf,S,a3⟩:=b1;subst aq;simp only at*;subst hk;have t:=I.alloc No w (aL 7 p V W (.slice D v.length F) T vn vt vp);have nb:=yY w (aL 7 p V W (.slice D v.length F) T vn vt vp);have n1:(w.alloc (aL 7 p V W (.slice D v.length F) T vn vt vp)).cell? (J w.heap.size 1)=some (U p):=cr nb rfl;have n4:(w.alloc (aL 7 p V W (.slice D v.length F) T vn vt vp)).cell? (J w.heap.size 4)=some (.slice D v.length F):=cr nb rfl;replace q3:=A4 t q3;replace P:=A4 t P;replace A:=A4 t A;replace z0:=A4 t z0;replace z1:=A4 t z1;replace z2:=A4 t z2;replace z3:=A4 t z3;replace z4:=A4 t z4;have aw:=blt q3;have ak:=blt A;have ao:=blt z0;have b0:=blt z1;have ar:=blt n1;simp only at aw ak ao b0 ar;have af:=O t;go_in;go_wp2;generalize (w.alloc (aL 7 p V W (.slice D v.length F) T vn vt vp))=ai at*;go_cut [6] (λv6 wc=>∃N:Nat,v6=pV N/\Hid (I No ai wc)/\wc.cell? (J N 0)=some (U R)/\wc.cell? (J N 2)=some (.slice ad S.length ae)/\wc.cell? (J N 3)=some (U a3));case first=>
  go_region_held3 (λs=>s.cell? (J b 3)=some (pV e)/\s.cell? (J b 6)=some (.slice (some (J go 0)) g.length oc)/\s.cell? (J go p)=some (U r)/\s.cell? (J w.heap.size 1)=some (U p)/\
   s.cell? (J e 0)=some (.slice (some (J L 0)) (tl c Z).length ct)/\s.cell? (J L (r*4))=some (U R)/\s.cell? (J L (r*4+1))=some (.slice fa tf.length fc)/\s.cell? (J L (r*4+2))=some (.slice ad S.length ae)/\s.cell? (J L (r*4+3))=some (U a3))
   (go_keep)
   (first
    |((go_at_call 79;go_split_ands;refine(HG.u _ (by omega) (by omega) (by omega) (by omega) (by omega)).mono ?_;rintro a4 s ⟨rfl,rfl⟩)));all_goals go_wp2
  all_goals go_meet
  all_goals exact⟨_,rfl,B6 (B6 (I.alloc No _ _) (I.alloc No _ _)) (I.drewN No _ 1),by simp,by simp,by simp⟩
 case rest=>
  obtain⟨N,rfl,G,t0,t2,t3⟩:=hcut;have l:=O (B6 af.u G.u);replace P:=A4 G.u P;replace A:=A4 G.u A;replace n1:=A4 G.u n1;replace n4:=A4 G.u n4;have ax:=blt P;have al:=blt A;have au:=blt n1;have az:=blt t0;simp only at ax al au az;by_cases y:R=5
  .have e5:=O (E5.u y);subst y;go_wp2;go_quiet (fail);go_wp2;go_ret;exact⟨(B6 l.u (I.drewN No _ _)).mono (λ_ _ x=>x.elim),by rw[e5.u];exact⟨H0.u.y (B6 l.u (I.drewN No _ _)),r,rfl,a9.u,rfl⟩⟩
  by_cases a:R=9
  .by_cases z:v.length=S.length
   .obtain⟨e9,a6,ac⟩:=E9.u a z;have a8:=O e9;have HF:=O (a2.u a z _ l.u);subst a;have aj:((v.length:Int)!=(S.length:Int))=false:=by simp[z]
    have HQ:=O ac;have ah:=O a6;clear E5 E9 H a2 e9 y z a6 ac;go_wp2_with fail;refine HF.u.mono ?_;intro a4 bg hq;obtain⟨rfl,rfl,hc⟩|⟨rfl,rfl,hc,hC⟩:=kX.part hq
    .exact⟨rfl,(l.u.mono (λ_ _ x=>x.elim)).trans hc (λ_ _ x=>x),by rw[a8.u];rfl⟩
    .have b2:=((H0.u.y l.u).kc hc).cell t3;have ay:=blt b2;simp only at ay;have HC:=O ((l.u.mono (λ_ _ x=>x.elim)).trans hc (λ_ _ x=>x));have ag:=O hC;have a6:=ah.u;obtain⟨a7,rfl⟩:∃a7:Nat,a3=a7:=⟨a3.toNat,by omega⟩;go_wp2_with fail;go_ret;have bf:=a9.u;have be:=HQ.u;exact⟨HC.u,by rw[a8.u];exact⟨ag.u,a7,rfl,by omega,by simp⟩⟩
   .have en:=O (H.u y (.inr z));have HX:=O (HW.u _ l.u);have aj:(((v.length:Nat):Int)!=((S.length:Nat):Int))=true:=by simp;omega
    subst a;clear E5 E9 H a2;go_wp2_with fail;refine HX.u.mono ?_;rintro a4 b3 ⟨rfl,h7⟩;exact⟨rfl,(B6 l.u h7).mono (λ_ _ x=>x.elim),by rw[en.u];rfl⟩
  .have en:=O (H.u y (.inl a));have HX:=O (HW.u _ l.u);have b8:(R !=9)=true:=by simpa using a
   clear E5 E9 H a2;go_wp2_with fail;refine HX.u.mono ?_;rintro a4 b3 ⟨rfl,h7⟩;exact⟨rfl,(B6 l.u h7).mono (λ_ _ x=>x.elim),by rw[en.u];rfl⟩
def Qm(y:cP n c b e f m k j)(W:fU c Z g d i)(h:aS n w c b e f m k q o j Z g)(H)(hk:c.N[i].x≠7):
 Calls prog 45 #[pV b,U i] w λp R=>(c.N[i].x=24/\c.fn.getD i 0=-1/\p=gu 4 (cI c.N i)/\I No w R)\/(¬(c.N[i].x=24/\c.fn.getD i 0=-1)/\kX n w c b e f m k q o j Z g i (U3 c d i) p R):=by
 obtain⟨oa,oc,ae,fz,q0,q1,q2,q3,q4,q5,q6,qp,qo⟩:=h.cell;obtain⟨a9,nc,la,lc,a6,hg,ad,a5,⟨x0,x1,x2,x3,x4,x5,x6,x7,x8⟩,-,-⟩:=(y.fg h.P).at (Below.refl _ _) i H;have G:=y.fn h.P;obtain⟨fa,a8,P⟩:=B8 G;rw[P]at G q5;have ab:=y.ok.rq;obtain⟨gf,a4,-,ac,aa,a2,a3⟩:=D4 G (by omega);have y0:=a3 i (U (c.fn.getD i 0)) (by grind[lQ,gQ,C7]);subst a4;have V:cI c.N i=c.N[i].at':=by unfold cI;rw[lQ,gQ H];rfl
 have M:Hid (¬(c.N[i].x=24/\c.fn.getD i 0=-1)->∀u,I No w u->_):=λr u hu=>QY y W (h.y hu) H (λh=>absurd h hk) (λv p=>r ⟨v,p⟩);have T:Hid (∀u,I No w u->_):=λu _=>Y0 u 4 c.N[i].at';unfold maxLen at a5 a2;rw[V];generalize U3 c d i=a7 at*;generalize c.fn.getD i 0=D at*;generalize c.N[i]=nd at*;obtain⟨z,va,vb,vc,ls,tx,vn,vt,vp⟩:=nd;subst a6 P;simp only at*;have l:=O (I.alloc No w (aL z va vb vc (.slice la ls.length lc) tx vn vt vp));by_cases v:z=24
 .by_cases N:D=-1
  .subst v N;have t:=O (T.u _ l.u);go_in;go_wp2_with fail;refine t.u.mono ?_;rintro p S ⟨rfl,a⟩;exact⟨rfl,.inl ⟨by simp,by simp,rfl,B6 l.u a⟩⟩
  .have r:¬(z=24/\D=-1):=λx=>N x.2;have t:=O (M.u r _ l.u);have s:=O r;subst v;go_in;go_wp2_with fail;refine t.u.mono ?_;intro p S L;obtain⟨rfl,rfl,a⟩|⟨rfl,rfl,a,F⟩:=kX.part L
   .exact⟨rfl,.inr ⟨s.u,(l.u.mono (λ_ _ x=>x.elim)).trans a (λ_ _ x=>x),rfl⟩⟩
   .have A:=O a;have B:=O F;go_wp2;go_end0;exact .inr ⟨s.u,(l.u.mono (λ_ _ x=>x.elim)).trans A.u (λ_ _ x=>x),rfl,B.u⟩
 .have r:¬(z=24/\D=-1):=λx=>v x.1;have t:=O (M.u r _ l.u);have s:=O r;go_in;go_wp2_with fail;refine t.u.mono ?_;intro p S L;obtain⟨rfl,rfl,a⟩|⟨rfl,rfl,a,F⟩:=kX.part L
  .exact⟨rfl,.inr ⟨s.u,(l.u.mono (λ_ _ x=>x.elim)).trans a (λ_ _ x=>x),rfl⟩⟩
  .have A:=O a;have B:=O F;go_wp2;go_end0;exact .inr ⟨s.u,(l.u.mono (λ_ _ x=>x.elim)).trans A.u (λ_ _ x=>x),rfl,B.u⟩
end
