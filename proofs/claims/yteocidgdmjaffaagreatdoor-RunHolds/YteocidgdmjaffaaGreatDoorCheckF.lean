/-
  A part of the proof.
-/
import Derived.Test.YteocidgdmjaffaaGreatDoorCheckD
import Derived.Test.YteocidgdmjaffaaGreatDoorDob
set_option maxHeartbeats 0
set_option linter.all false
set_option maxRecDepth 100000
namespace Go.Proofs.YteocidgdmjaffaaGreatDoor
open Go.Proofs.Tryz
open Go.RowKit Go.Maps
section
variable{e w:E}{c:Cx}{a f g h:Nat}{k m j:Value}{l:Int}{Z:List Ty}{d:bZ}{b:Of}{i:Nat}
def hJ(e w:E)(c:Cx)(a f g h:Nat)(k m:Value)(l:Int)(j:Value)(Z:List Ty)(d:bZ)(i:Nat)(o:Option Tr)(p:Ending)(n:E):Prop:=match o with
 |none=>p=gu 9 (cI c.N i)/\KG w n/\I (SW e a f g) e n
 |some t=>lL e w c a f g h k m l j Z d t p n
def KG.kc{n o}(p:KC n o):KG n o:=⟨p.1,λq r s t x _ _=>p.2 q r s t x⟩
def BG{u}{x}(n:I No w u)(o:aS e u c a f g h k m l j Z d)(p:x<(tl c Z).length):lL e w c a f g h k m l j Z d (tr (tl c Z) x) (.returned (U x)) u:=
 ⟨x,[],rfl,by simp,by grind,by simp,by grind,KG.y n⟩
def lL.back{u o}{t}{n}(B:I No w u)(q:lL e u c a f g h k m l j Z d t n o):lL e w c a f g h k m l j Z d t n o:=by
 obtain⟨x,p,r,s,v,y,z,A⟩:=q;exact⟨x,p,r,s,v,y,z,(KG.y B).trans A⟩
def wD{u v}{o}{n}(A:I No w u)(p:aS e u c a f g h k m l j Z d)(y:rG e u c a f g h k m l j Z d i o n v):hJ e w c a f g h k m l j Z d i o n v:=by
 obtain⟨q,s⟩:=y;have r:=(KG.y A).trans (KG.kc (p.kc q));cases o with
 |none=>exact⟨s,r,p.o7 q⟩
 |some t=>
  obtain⟨B,x,z,D,F⟩:=s;exact⟨x,[],z,by simp,by grind,by grind,by grind,r⟩
theorem hJ.part{o}{n}{s}(p:hJ e w c a f g h k m l j Z d i o n s):(∃q r,n=gu q r)\/∃x:Nat,n=.returned (U x):=by
 cases o with
 |none=>exact .inl ⟨_,_,p.1⟩
 |some t=>
  obtain⟨x,u,v,_⟩:=p;grind
def zH(x:cP e c a f g h k j)(n:aS e w c a f g h k m l j Z d)(t)(p)(u:c.N[i].x=1/\ p=1 \/c.N[i].x=2/\ p=3 \/c.N[i].x=3/\ p=2 \/c.N[i].x=4/\ p=4):
 Calls prog 46 #[pV a,U i] w (hJ e w c a f g h k m l j Z d i (D7 c b i)):=by
 obtain⟨oa,oc,a6,fz,q0,q1,q2,q3,q4,q5,q6,N,qo⟩:=n.cell;obtain⟨a3,nc,G,H,A,hg,a4,z,⟨x0,x1,x2,x3,x4,x5,x6,x7,x8⟩,a2,-⟩:=(x.fg n.P).at (Below.refl _ _) i t;unfold maxLen at z;have v:D7 c b i=some (dV p):=by
  unfold D7;rw[B9 t];obtain⟨o,rfl⟩|⟨o,rfl⟩|⟨o,rfl⟩|⟨o,rfl⟩:=u<;>simp[o]
 have r:=N p (by omega) (by omega);have B:=lE n.ts (k:=p) (by omega) (by omega);have y:c.T.length+p-1<(tl c Z).length:=by rw[S9];omega
 rw[v];generalize a5:c.N[i]=M at*;obtain⟨F,R,S,T,L,P,V,vt,W⟩:=M;simp only at*;subst A;have q:=O (I.alloc No w (aL F R S T (.slice G L.length H) P V vt W));have s:=O (BG q.u (n.y q.u) y);rw[B]at s;replace r:=A4 q.u r;have D:=blt r;simp only at D;obtain⟨rfl,rfl⟩|⟨rfl,rfl⟩|⟨rfl,rfl⟩|⟨rfl,rfl⟩:=u<;>
  (go_in;go_wp2;go_ret;exact s.u)
def Nx(q:cP e c a f g h k j)(R:fU c Z d b i)(n:aS e w c a f g h k m l j Z d)(p)(t:c.N[i].x=7):
 Calls prog 46 #[pV a,U i] w (hJ e w c a f g h k m l j Z d i (D7 c b i)):=by
 have hf:=q.ok.ep i p;obtain⟨oa,oc,a8,fz,q0,q1,q2,q3,q4,q5,q6,qp,qo⟩:=n.cell;have hT:=n.ts;obtain⟨a5,nc,v,x,T,hg,a6,S,⟨x0,x1,x2,x3,x4,x5,x6,x7,x8⟩,a2,-⟩:=(q.fg n.P).at (Below.refl _ _) i p;unfold maxLen at S;have s:D7 c b i=kY c b i:=by
  unfold D7;rw[B9 p];simp[t]
 have N:Hid (∀u,I No w u->Calls prog 74 #[pV a,U i] u (hJ e w c a f g h k m l j Z d i (D7 c b i))):=λu r=>by
  rw[s];exact(sj q R (n.y r) p (by omega)).mono (λP w' o=>wD r (n.y r) o)
 clear s;generalize D7 c b i=W at*;have H0:=O n;generalize a7:c.N[i]=V at*;obtain⟨kd,A,B,D,y,z,F,H,G⟩:=V;simp only at*;subst t;subst T;have L:=O (I.alloc No w (aL 7 A B D (.slice v y.length x) z F H G));have nb:=yY w (aL 7 A B D (.slice v y.length x) z F H G);go_in;go_wp2_with fail;refine(N.u _ L.u).mono ?_;intro P a9 o;obtain⟨a3,a4,rfl⟩|⟨aa,rfl⟩:=o.part
 .exact⟨rfl,o⟩
 .have M:=O o;go_wp2;go_ret;exact M.u
def Od(q:cP e c a f g h k j)(S:fU c Z d b i)(n:aS e w c a f g h k m l j Z d)(p)(t:c.N[i].x=8):
 Calls prog 46 #[pV a,U i] w (hJ e w c a f g h k m l j Z d i (D7 c b i)):=by
 have T:=q.ok.ep i p;obtain⟨oa,oc,ac,fz,q0,q1,q2,q3,q4,q5,q6,qp,qo⟩:=n.cell;have hT:=n.ts;obtain⟨a9,nc,x,y,W,hg,aa,V,⟨x0,x1,x2,x3,x4,x5,x6,x7,x8⟩,a6,-⟩:=(q.fg n.P).at (Below.refl _ _) i p;unfold maxLen at V;have s:D7 c b i=J7 b c.N[i]:=by
  unfold D7;rw[B9 p];simp[t]
 obtain⟨a4,a5,hp,v,hr,a2,a3⟩:=S.pe _ (T.k1 (by omega));have P:Hid (∀u,I No w u->Calls prog 52 #[pV a,U i] u (hJ e w c a f g h k m l j Z d i (D7 c b i))):=λu r=>by
  rw[s];exact(VQ q (n.y r) i p a4 hp v a5 hr a2 a3.symm).mono (λR w' o=>wD r (n.y r) o)
 clear s v;generalize D7 c b i=FT at*;have H0:=O n;generalize ab:c.N[i]=nd at*;obtain⟨kd,B,D,F,z,A,G,L,H⟩:=nd;simp only at*;subst t;subst W;have M:=O (I.alloc No w (aL 8 B D F (.slice x z.length y) A G L H));have nb:=yY w (aL 8 B D F (.slice x z.length y) A G L H);go_in;go_wp2_with fail;refine(P.u _ M.u).mono ?_;intro R ad o;obtain⟨a7,a8,rfl⟩|⟨ae,rfl⟩:=o.part
 .exact⟨rfl,o⟩
 .have N:=O o;go_wp2;go_ret;exact N.u
def Oh(q:cP e c a f g h k j)(t:fU c Z d b i)(n:aS e w c a f g h k m l j Z d)(p)(x:c.N[i].x=9):
 Calls prog 46 #[pV a,U i] w (hJ e w c a f g h k m l j Z d i (D7 c b i)):=by
 have v:=q.ok.ep i p;obtain⟨oa,oc,ah,fz,q0,q1,q2,q3,q4,q5,q6,qp,qo⟩:=n.cell;have hT:=n.ts;obtain⟨ae,nc,A,B,a2,hg,af,W,⟨x0,x1,x2,x3,x4,x5,x6,x7,x8⟩,ab,-⟩:=(q.fg n.P).at (Below.refl _ _) i p;unfold maxLen at W;have s:D7 c b i=J2 b c.N[i]:=by
  unfold D7;rw[B9 p];simp[x]
 obtain⟨a9,aa,hp,y,hr,a5,a7⟩:=t.pe _ (v.k2 (by omega)).1;obtain⟨p',r',a3,z,a4,a6,a8⟩:=t.pe _ (v.k2 (by omega)).2;have T:Hid (∀u,I No w u->Calls prog 53 #[pV a,U i] u (hJ e w c a f g h k m l j Z d i (D7 c b i))):=λu r=>by
  rw[s];exact(WS q (n.y r) i p a9 hp y aa hr a5 a7.symm p' a3 z r' a4 a6 a8.symm).mono (λV w' o=>wD r (n.y r) o)
 clear s y z;generalize D7 c b i=FT at*;have H0:=O n;generalize ag:c.N[i]=nd at*;obtain⟨kd,G,H,L,D,F,M,P,N⟩:=nd;simp only at*;subst x;subst a2;have R:=O (I.alloc No w (aL 9 G H L (.slice A D.length B) F M P N));have nb:=yY w (aL 9 G H L (.slice A D.length B) F M P N);go_in;go_wp2_with fail;refine(T.u _ R.u).mono ?_;intro V ai o;obtain⟨ac,ad,rfl⟩|⟨aj,rfl⟩:=o.part
 .exact⟨rfl,o⟩
 .have S:=O o;go_wp2;go_ret;exact S.u
def uj(q:cP e c a f g h k j)(t:fU c Z d b i)(n:aS e w c a f g h k m l j Z d)(p)(x:c.N[i].x=12):
 Calls prog 46 #[pV a,U i] w (hJ e w c a f g h k m l j Z d i (D7 c b i)):=by
 have v:=q.ok.ep i p;obtain⟨oa,oc,a8,fz,q0,q1,q2,q3,q4,q5,q6,qp,qo⟩:=n.cell;have hT:=n.ts;obtain⟨a5,nc,y,z,V,hg,a6,T,⟨x0,x1,x2,x3,x4,x5,x6,x7,x8⟩,a2,-⟩:=(q.fg n.P).at (Below.refl _ _) i p;unfold maxLen at T;have s:D7 c b i=qP b c.N[i]:=by
  unfold D7;rw[B9 p];simp[x]
 have R:Hid (∀u,I No w u->Calls prog 77 #[pV a,U i] u (hJ e w c a f g h k m l j Z d i (D7 c b i))):=λu r=>by
  rw[s];exact(Xk q (n.y r) i p (t.pe _ (v.k2 (by omega)).1) (t.pe _ (v.k2 (by omega)).2)).mono (λS w' o=>wD r (n.y r) o)
 clear s;generalize D7 c b i=FT at*;have H0:=O n;generalize a7:c.N[i]=W at*;obtain⟨kd,D,F,G,A,B,H,M,L⟩:=W;simp only at*;subst x;subst V;have N:=O (I.alloc No w (aL 12 D F G (.slice y A.length z) B H M L));have nb:=yY w (aL 12 D F G (.slice y A.length z) B H M L);go_in;go_wp2_with fail;refine(R.u _ N.u).mono ?_;intro S a9 o;obtain⟨a3,a4,rfl⟩|⟨aa,rfl⟩:=o.part
 .exact⟨rfl,o⟩
 .have P:=O o;go_wp2;go_ret;exact P.u
def um(q:cP e c a f g h k j)(R:fU c Z d b i)(n:aS e w c a f g h k m l j Z d)(p)(t:c.N[i].x=13):
 Calls prog 46 #[pV a,U i] w (hJ e w c a f g h k m l j Z d i (D7 c b i)):=by
 have S:=q.ok.ep i p;obtain⟨oa,oc,a8,fz,q0,q1,q2,q3,q4,q5,q6,qp,qo⟩:=n.cell;have hT:=n.ts;obtain⟨a5,nc,v,x,V,hg,a6,T,⟨x0,x1,x2,x3,x4,x5,x6,x7,x8⟩,a2,-⟩:=(q.fg n.P).at (Below.refl _ _) i p;unfold maxLen at T;have s:D7 c b i=qL b c.N[i]:=by
  unfold D7;rw[B9 p];simp[t]
 have N:Hid (∀u,I No w u->Calls prog 78 #[pV a,U i] u (hJ e w c a f g h k m l j Z d i (D7 c b i))):=λu r=>by
  rw[s];exact(Uv q (n.y r) i p (R.pe _ (S.k1 (by omega)))).mono (λP w' o=>wD r (n.y r) o)
 clear s;generalize D7 c b i=FT at*;have H0:=O n;generalize a7:c.N[i]=W at*;obtain⟨kd,A,B,D,y,z,F,H,G⟩:=W;simp only at*;subst t;subst V;have L:=O (I.alloc No w (aL 13 A B D (.slice v y.length x) z F H G));have nb:=yY w (aL 13 A B D (.slice v y.length x) z F H G);go_in;go_wp2_with fail;refine(N.u _ L.u).mono ?_;intro P a9 o;obtain⟨a3,a4,rfl⟩|⟨aa,rfl⟩:=o.part
 .exact⟨rfl,o⟩
 .have M:=O o;go_wp2;go_ret;exact M.u
def Nc(o:cP e c a f g h k j)(W:fU c Z d b i)(n:aS e w c a f g h k m l j Z d)(q)(t:c.N[i].x=5):
 Calls prog 46 #[pV a,U i] w (hJ e w c a f g h k m l j Z d i (D7 c b i)):=by
 have hf:=o.ok.ep i q;obtain⟨oa,oc,af,fz,q0,q1,q2,q3,x,q5,q6,qp,qo⟩:=n.cell;have hT:=n.ts;have ab:=o.ok.fh;obtain⟨aa,nc,z,A,a7,hg,ad,a6,⟨x0,x1,x2,x3,x4,x5,x6,x7,x8⟩,a9,-⟩:=(o.fg n.P).at (Below.refl _ _) i q;unfold maxLen at a6;have R:D7 c b i=some (V9 c b (c.ts.getD i 0)):=by
  unfold D7;rw[B9 q];simp[t]
 obtain⟨v,a0,hj,a5,ag,a2,a3,a4⟩:=W.has _ (o.ok.ob.tg i q (.inl t));have S:Hid (∀u,I No w u->(Instr.lookup 46 (.map (some h)) (U i) false).run prog u=.ok (U v) u):=λu p=>by
  have hm:=(o.nm (n.y p).P).get i (by omega);rw[hm];unfold mL;grind
 have V:Hid (∀u,I No w u->Calls prog 51 #[pV a,U v] u λs P=>s=.returned (U a0)/\lL e w c a f g h k m l j Z d (V9 c b (c.ts.getD i 0)) (.returned (U a0)) P):=λu p=>by
  refine(LX o (n.y p) v a5 a4).mono ?_;rintro s P ⟨rfl,y⟩;refine⟨by grind,?_⟩;rw[<-a3];exact BG (B6 p y) (n.y (B6 p y)) a2
 rw[R];have H0:=O n;generalize ae:c.N[i]=nd at*;obtain⟨kd,F,G,H,B,D,L,N,M⟩:=nd;simp only at*;subst t;subst a7;have r:=O (I.alloc No w (aL 5 F G H (.slice z B.length A) D L N M));have nb:=yY w (aL 5 F G H (.slice z B.length A) D L N M);have ac:=S.u _ r.u;replace x:=A4 r.u x;have a8:=blt x;simp only at a8;go_in;go_wp2_with fail;refine(V.u _ r.u).mono ?_;rintro s ah ⟨rfl,hq⟩;have T:=O hq;go_wp2;go_ret;exact T.u
def Nq(u:cP e c a f g h k j)(_hL:fU c Z d b i)(n:aS e w c a f g h k m l j Z d)(r)(v:c.N[i].x=6)(y:Lk c Z d b i):
 Calls prog 46 #[pV a,U i] w (hJ e w c a f g h k m l j Z d i (D7 c b i)):=by
 have hf:=u.ok.ep i r;obtain⟨oa,oc,aa,fz,q0,q1,q2,q3,q4,q5,s,qp,V⟩:=n.cell;have hT:=n.ts;obtain⟨a4,nc,P,R,B,hg,a5,A,⟨x0,x1,x2,x3,x4,x5,x6,x7,x8⟩,a2,-⟩:=(u.fg n.P).at (Below.refl _ _) i r;unfold maxLen at A;have x:D7 c b i=some (aX b i):=by
  unfold D7;rw[B9 r];simp[v]
 obtain⟨p,ab,G,a3,L,M,N⟩:=y;obtain rfl:i=p:=by omega
 obtain⟨go,F,a7,a8,a9,D,q,-⟩:=V i G;subst F;rw[L]at q;unfold maxLen at D;rw[x];have H0:=O n;generalize a6:c.N[i]=T at*;obtain⟨kd,va,vb,vc,S,W,vn,vt,vp⟩:=T;simp only at*;subst v;subst B;have o:=O (I.alloc No w (aL 6 va vb vc (.slice P S.length R) W vn vt vp));have t:=O (BG o.u (n.y o.u) M);rw[N]at t;replace s:=A4 o.u s;replace q:=A4 o.u q;have H:=blt s;have z:=blt q;simp only at H z;go_in;go_wp2;go_ret;exact t.u
def uq(r:cP e c a f g h k j)(P:fU c Z d b i)(n:aS e w c a f g h k m l j Z d)(p)(q:c.N[i].x=14):
 Calls prog 46 #[pV a,U i] w (hJ e w c a f g h k m l j Z d i (D7 c b i)):=by
 have S:=r.ok.ep i p;obtain⟨oa,oc,a6,fz,q0,q1,q2,q3,q4,q5,q6,qp,qo⟩:=n.cell;have hT:=n.ts;obtain⟨a3,nc,t,v,V,hg,a4,T,⟨x0,x1,x2,x3,x4,x5,x6,x7,x8⟩,a2,-⟩:=(r.fg n.P).at (Below.refl _ _) i p;unfold maxLen at T;have H:D7 c b i=some (tr c.T c.N[i].ty.toNat):=by
  unfold D7;rw[B9 p];simp[q]
 obtain⟨o,N,R,W⟩:=P.wt _ (S.ld q).2;rw[H,<-W];have M:Hid (∀u,I No w u->lL e w c a f g h k m l j Z d (tr (tl c Z) o) (.returned (U o)) u):=λu s=>BG s (n.y s) R;rw[N]at x7;have H0:=O n;generalize a5:c.N[i]=nd at*;obtain⟨kd,z,A,B,x,y,D,vt,F⟩:=nd;simp only at*;subst q;subst V;have G:=O (I.alloc No w (aL 14 z A B (.slice t x.length v) y D o F));have nb:=yY w (aL 14 z A B (.slice t x.length v) y D o F);have L:=O (M.u _ G.u);go_in;go_wp2;go_ret;exact L.u
def tq(p:cP e c a f g h k j)(hL:fU c Z d b i)(o:aS e w c a f g h k m l j Z d)(s)(q:c.N[i].x=10)(hN:(tl c Z).length+2<=4000):
 Calls prog 46 #[pV a,U i] w (hJ e w c a f g h k m l j Z d i (D7 c b i)):=by
 have A:=p.ok.ep i s;obtain⟨oa,oc,af,fz,q0,q1,q2,q3,q4,q5,q6,qp,qo⟩:=o.cell;have hT:=o.ts;obtain⟨aa,nc,v,y,a4,hg,ad,a3,⟨x0,x1,x2,x3,x4,x5,x6,x7,x8⟩,a2,-⟩:=(p.fg o.P).at (Below.refl _ _) i s;unfold maxLen at a3;have D:D7 c b i=some (wA c.N b c.N[i]):=by
  unfold D7;rw[B9 s];simp[q]
 have F:∀x∈c.N[i].M,∃n:Nat,x=n/\∃t:n<c.N.length,Lk c Z d b c.N[n].a/\Q8 c.N[n].text:=λx L=>by
  obtain⟨n,rfl,ab,t,ac⟩:=(A.l6 q).1 x L;have H:=(A.l6 q).2.2 n L;rw[B9 t]at H;obtain⟨a7,z,hy,a6,a5⟩:=(p.ok.ep n t).k1 (by omega);exact⟨n,rfl,t,hL.pe _ ⟨a7,z,by omega,a6,a5⟩,H⟩
 have G:Hid (∀u,I No w u->Calls prog 75 #[pV a,fE c.N[i] v y] u (hJ e w c a f g h k m l j Z d i (D7 c b i))):=λu B=>by
  rw[D];exact(Gs p (o.y B) c.N[i] F (A.l6 q).2.1 (p.ok.ls i s) v y (A3 a2 B (λ_ _ x=>x)) (by omega)).mono (λz w' r=>lL.back B r)
 clear D F;generalize D7 c b i=FT at*;unfold fE at G;have H0:=O o;generalize ae:c.N[i]=nd at*;obtain⟨kd,P,R,S,M,N,T,W,V⟩:=nd;simp only at*;subst q;subst a4;have A1:=O (I.alloc No w (aL 10 P R S (.slice v M.length y) N T W V));have nb:=yY w (aL 10 P R S (.slice v M.length y) N T W V);go_in;go_wp2_with fail;refine(G.u _ A1.u).mono ?_;intro z ag r;obtain⟨a8,a9,rfl⟩|⟨x,rfl⟩:=r.part
 .exact⟨rfl,r⟩
 .have HQ:=O r;go_wp2;go_ret;exact HQ.u
def uf(s:cP e c a f g h k j)(V:fU c Z d b i)(n:aS e w c a f g h k m l j Z d)(p)(t:c.N[i].x=11)(W:(tl c Z).length+2<=4000)(A:dF (c.N[i].M.map (aX b))<=25000000):
 Calls prog 46 #[pV a,U i] w (hJ e w c a f g h k m l j Z d i (D7 c b i)):=by
 have hf:=s.ok.ep i p;obtain⟨oa,oc,a9,fz,q0,q1,q2,q3,q4,q5,q6,qp,qo⟩:=n.cell;have hT:=n.ts;obtain⟨a6,nc,q,r,a3,hg,a7,a2,⟨x0,x1,x2,x3,x4,x5,x6,x7,x8⟩,R,-⟩:=(s.fg n.P).at (Below.refl _ _) i p;unfold maxLen at a2;have y:D7 c b i=some (yE b c.N[i]):=by
  unfold D7;rw[B9 p];simp[t]
 have z:Hid (∀u,I No w u->Calls prog 76 #[pV a,fE c.N[i] q r] u (hJ e w c a f g h k m l j Z d i (D7 c b i))):=λu v=>by
  rw[y];exact(Kh (n.y v) c.N[i] (λx hx=>V.pe x (hf.nt t x hx)) (s.ok.ls i p) q r (A3 R v (λ_ _ x=>x)) A W).mono (λT w' o=>lL.back v o)
 clear y A;generalize D7 c b i=FT at*;unfold fE at z;have H0:=O n;generalize a8:c.N[i]=nd at*;obtain⟨kd,F,G,H,B,D,L,N,M⟩:=nd;simp only at*;subst t;subst a3;have P:=O (I.alloc No w (aL 11 F G H (.slice q B.length r) D L N M));have nb:=yY w (aL 11 F G H (.slice q B.length r) D L N M);go_in;go_wp2_with fail;refine(z.u _ P.u).mono ?_;intro T aa o;obtain⟨a4,a5,rfl⟩|⟨x,rfl⟩:=o.part
 .exact⟨rfl,o⟩
 .have S:=O o;go_wp2;go_ret;exact S.u
def vu(p:cP e c a f g h k j)(r:fU c Z d b i)(o:aS e w c a f g h k m l j Z d)(q)(u:aO c.N[i].x)(t:c.N[i].x=6->Lk c Z d b i)(s:(tl c Z).length+2<=4000)(v:c.N[i].x=11->dF (c.N[i].M.map (aX b))<=25000000):
 Calls prog 46 #[pV a,U i] w (hJ e w c a f g h k m l j Z d i (D7 c b i)):=by
 obtain⟨x,y⟩:=u;have:c.N[i].x=1\/c.N[i].x=2\/c.N[i].x=3\/c.N[i].x=4\/c.N[i].x=5\/c.N[i].x=6\/c.N[i].x=7\/c.N[i].x=8\/c.N[i].x=9\/c.N[i].x=10\/c.N[i].x=11\/c.N[i].x=12\/c.N[i].x=13\/c.N[i].x=14:=by omega
 obtain n|n|n|n|n|n|n|n|n|n|n|n|n|n:=this
 .exact zH p o q 1 (.inl ⟨n,rfl⟩)
 .exact zH p o q 3 (.inr (.inl ⟨n,rfl⟩))
 .exact zH p o q 2 (.inr (.inr (.inl ⟨n,rfl⟩)))
 .exact zH p o q 4 (.inr (.inr (.inr ⟨n,rfl⟩)))
 .exact Nc p r o q n
 .exact Nq p r o q n (t n)
 .exact Nx p r o q n
 .exact Od p r o q n
 .exact Oh p r o q n
 .exact tq p r o q n s
 .exact uf p r o q n s (v n)
 .exact uj p r o q n
 .exact um p r o q n
 .exact uq p r o q n
end
section
variable{j w:E}{c:Cx}{d e g i:Nat}{h l f:Value}{k:Int}{Z:List Ty}{b:bZ}{m:Of}
def KE(j w:E)(c:Cx)(d e g i:Nat)(h l:Value)(k:Int)(f:Value)(Z:List Ty)(b:bZ)(t:Tr)(o:Ending)(n:E):Prop:=
 ∃(x:Nat) (a:List Ty),o=.returned (U x)/\a.length<=1/\x<(tl c (Z++a)).length/\tr (tl c (Z++a)) x=t/\aS j n c d e g i h l k f (Z++a) b/\KG w n
def SH(c:Cx)(Z:List Ty)(b:bZ)(x:Int):Prop:=∃(n a:Nat),x=n/\n<c.N.length/\(aC c.N n).x=16/\iQ c b n=a/\a<(tl c Z).length/\tr (tl c Z) a=V9 c [] x
def Cv(p:jD c)(u:aU (tl c Z)){z}{x}(t:Pk c.N z 16 x):SH c Z b x:=by
 obtain⟨n,rfl,_,o,v⟩:=t;have s:=B9 o;have r:(aC c.N n).x=16:=by rw[s];exact v
 have q:=nJ p n;by_cases y:(aC c.N n).ty=-1
 .refine⟨n,c.T.length+4,rfl,o,r,?_,by grind[S9],?_⟩
  .simp_all[iQ,zY]
  .have:=lE u (k:=5) (by omega) (by omega);simp_all[V9,zY,dV,Z5]
 .obtain q|⟨a,e2,ha,_⟩:=q
  .omega
  .refine⟨n,a,rfl,o,r,?_,by grind[S9],?_⟩
   .simp_all[iQ,wY]
   .unfold V9;rw[wY y,FL p.ok ha,e2];rfl
def A2c(hB:cP j c d e g i h f)(B:aS j w c d e g i h l k f Z b)(p)(P:∀ x∈p.M,SH c Z b x)(b5:∃ a:Nat,sG c p=a/\ a<(tl c Z).length/\ tr (tl c Z) a=jJ c.T p)(hn:p.M.length<=1200)(D)(F)(ag:w.ownsRow 0 3 1 (.slice D p.M.length F) p.M.length (C7 p.M))(hN:(tl c Z).length+1<=4000):
 Calls prog 72 #[pV d,fE p D F] w (KE j w c d e g i h l k f Z b (lV c p)):=by
 obtain⟨r,b3,b4,an⟩:=b5;have a2:Hid (∀u,I No w u->_):=λu z=>SY (B.y z) p D F;rw[b3]at a2;have a8:Hid (lV c p=.nd 9 [] (tr (tl c Z) r::p.M.map (V9 c []))):=by
  show _=_;unfold lV;rw[an]
 unfold fE at*;generalize lV c p=FT at*;obtain⟨kd,va,vb,vc,o,tx,vn,vt,vp⟩:=p;simp only at*;obtain⟨i0,aw,b7,b8,b9⟩:=info_parts Tryz.fm;have hT:=B.ts;have H0:=O B;have HO:=O ag;have HL:=O P;have a9:Hid (∀u n,I No w u->n<c.N.length->(aC c.N n).x=16->_):=λu n z hj hk=>LX hB (B.y z) n hj (λ_ bf=>by omega);have ah:∀n,n<=o.length->∀x∈((o.take n).map λx=>iQ c b x.toNat),0<=x/\x<((tl c Z).length:Int):=λn _ x R=>by
  obtain⟨bd,hy,rfl⟩:=qZ.1 R;obtain⟨S,a,rfl,_,_,ha,ae,_⟩:=P bd (List.mem_of_mem_take hy);grind
 have ai:(o.map λx=>iQ c b x.toNat).map (λx=>tr (tl c Z) x.toNat)=o.map (V9 c []):=by
  rw[List.map_map];refine List.map_congr_left λx R=>?_;obtain⟨S,a,rfl,_,_,ha,ae,ht⟩:=P x R;simp only[Function.comp_apply,tQ,ha];exact ht
 have aa:Hid (dP ⟨9,[],o.map (λx=>iQ c b x.toNat),(r:Int)⟩ (tl c Z).length):=.inr (.inr (.inr (.inl ⟨rfl,rfl,Int.natCast_nonneg r,Int.ofNat_lt.2 b4,λx R=>ah o.length (vQ _) x (by grind)⟩)));have au:Hid (tr (tl c Z++[⟨9,[],o.map (λx=>iQ c b x.toNat),(r:Int)⟩]) (tl c Z).length=FT):=by
  show _=_;rw[sJ hT aa.u,a8.u,<-ai];simp
 obtain⟨oa,oc,bn,fz,q0,q1,q2,q3,q4,q5,q6,qp,qo⟩:=B.cell;have aq:=O q3;have A1:=I.alloc No w (aL kd va vb vc (.slice D o.length F) tx vn vt vp);have nb:=yY w (aL kd va vb vc (.slice D o.length F) tx vn vt vp);have W:=O A1;have NB:=O nb;clear B ag P ah ai an qp qo q0 q1 q2 q3 q4 q5 q6 fz A1 nb hB hT a8;go_in;go_wp2_with fail;refine(a2.u _ W.u).mono ?_;rintro s V ⟨rfl,a4⟩;have C2:=O (B6 W.u a4);have ao:=J4 a4 NB.u;have n4:V.cell? (J w.heap.size 4)=some (.slice D o.length F):=cr ao rfl;have ak:=blt n4;simp only at ak;have hz:=yY V (.cells #[U 9,sN,sN,U (r:Int)] 81);have Z0:=O hz;have C3:=O (B6 C2.u (I.alloc No V (.cells #[U 9,sN,sN,U (r:Int)] 81)));have bp:=C2.u.size;clear a4 hz ao a2 NB W;go_wp2_with fail;generalize bq:V.heap.size=q at*;go_loopw [15] (λa7 wr=>∃(n:Nat) (t:Option Addr) (v:Nat),n<=o.length/\a7=U (n:Int)/\Hid (I No w wr)/\Hid (wr.heap[q]?=some (.cells #[U 9,sN,.slice t n v,U (r:Int)] 81 (0,0)))/\Hid (wr.ownsRow w.heap.size 3 1 (.slice t n v) n (C7 ((o.take n).map λx=>iQ c b x.toNat)))) (λa7 _=>o.length-(intOf a7).toNat);case atStart=>exact⟨0,none,0,wQ _,rfl,C3.u,Z0.u,kW _ _ _ _⟩
 case round=>
  clear Z0 C3 n4 ak;obtain⟨n,t,v,hj,rfl,CR,y,A⟩:=hrel;have br:=CR.u.size;have bo:=(aI y.u);by_cases a5:n<o.length
  .obtain⟨g2,b1,bg,bh,b0,v0⟩:=D6 (A3 HO.u CR.u (λ_ _ x=>x)) a5;subst b1;obtain⟨S,a,s,ay,az,a6,ae,b6⟩:=HL.u o[n] (mQ a5);have HT:Hid ((o.take (n+1)).map (λx=>iQ c b x.toNat)=(o.take n).map (λx=>iQ c b x.toNat)++[(a:Int)]):=by
    show _=_;rw[nQ a5,iY,List.map_singleton,s,tQ,a6]
   obtain⟨a3,ad⟩:∃a3,a3=(o.take n).map (λx=>iQ c b x.toNat):=⟨_,rfl⟩;rw[<-ad]at A HT;clear ad;have HH:Hid (∀u,I No wr u->Calls prog 51 #[pV d,U (S:Int)] u λs T=>s=.returned (U (a:Int))/\I No u T):=λu z=>by
    have:=a9.u u S (B6 CR.u z) ay az;rw[a6]at this;exact this
   rw[s]at v0;have d0:wr.cell? (J q 2)=some (.slice t n v):=cr y.u rfl;have aj:=M4 A.u y.u (by decide);unfold maxLen at b0;clear s a6 b6;go_wp2_with fail;go_region_law (first
    | (refine step_append_lies _ (by rfl) _ _ _ (by rfl) w.heap.size 3 i0 (U 0) 1 8 underlying54 aw b7 b8 b9 rfl (by omega) (.slice t n v) n (C7 a3) (by rfl) ((A3 A.u M.u (λ_ _ x=>x)).alloc _) (J G.heap.size 0) 1 1 [U (a:Int)] (by rfl) (by rfl) (World.news_of_block (cs:=#[U (a:Int)]) (t:=3) (fr:=(0,0)) (yY G _)) (by simp [Value.oneCell']) (by omega) (by grind[maxLen]) (by omega) (by simp;omega) (G.heap.size+1) (by simp) ?_;intro gg be ap al N av bi;have z4:ap.cell? (J q 2)=some (.slice t n v):=by rw[N.cell_far _ (by simp;omega) (Ne.symm aj)];exact I4 am zc
       have y4:ap.frozen? (J q 2)=false:=by rw[N.frozen_far _ (by simp;omega) (Ne.symm aj)];exact S6 am (zf 2))
    |(go_simp;refine (HH.u _ (I.drewN _ _ 1)).mono ?_;rintro s G ⟨rfl,hc⟩;have M:=O (B6 (I.drewN No wr 1) hc);have L:=J4 M.u y.u;have zc:G.cell? (J q 2)=some (.slice t n v):=(cr L rfl);have zf:=λba=>frozen_of_row G _ ba _ _ L;have am:=(aI L);have bj:=M.u.size;clear hc L));all_goals
    have H:=O (zV (o:=2) (n0:=w.heap.size) (w:=w) y.u (by omega) A.u (by decide) (I.ek CR.u (λ_ _ x=>x.elim) (vQ _)) (vQ _) (B6 M.u (I.alloc No G (.cells #[U (a:Int)] 3))) N al);clear al N av;go_wp2_with fail;go_roundw;case rel=>exact⟨n+1,_,_,by omega,by go_num,(I.below H.u.2.2.2.1).mono (λbs hk x=>by omega),H.u.2.2.2.2.2.1,(show World.ownsRow _ _ _ _ _ _ _ from by rw[HT.u,Q9];exact H.u.2.2.2.2.1)⟩
    grind[intOf]
  .have ax:n=o.length:=by omega
   subst ax;rw[jZ]at A;have bb:=A4 CR.u aq.u;have b2:=blt bb;simp only at b2;have d0:wr.cell? (J q 0)=some (U 9):=cr y.u rfl;have d1:wr.cell? (J q 1)=some (sN):=cr y.u rfl;have d2:wr.cell? (J q 2)=some (.slice t o.length v):=cr y.u rfl;have d3:wr.cell? (J q 3)=some (U (r:Int)):=cr y.u rfl;have H:Hid (∀u,I No wr u->Calls prog 25 #[pV e,.agg #[U 9,sN,.slice t o.length v,U (r:Int)]] u λs T=>s=.returned (U ((tl c Z).length:Int))/\aS j T c d e g i h l k f (Z++[⟨9,[],o.map (λx=>iQ c b x.toNat),(r:Int)⟩]) b/\KG u T):=λu z=>
    FX (H0.u.y (B6 CR.u z)) ⟨9,[],o.map (λx=>iQ c b x.toNat),(r:Int)⟩ none t 0 0 o.length v (kW _ _ _ _) (by
     have:=C8 (A3 A.u z (λ_ _ x=>x)) (wQ _);grind) (λ_ _ ab hg=>by grind[Value.ownBlock]) (H0.u.re (KG.y (B6 CR.u z)) (λab hg=>(A.u.lt ab hg).1)) aa.u ⟨by grind,by simp⟩ hN;clear a9 HL HO;go_wp2_with fail;go_region_with (go_at_call 25;refine(H.u _ (I.drewN _ _ 1)).mono ?_;rintro s bc ⟨rfl,ac,af⟩);all_goals
    have HQ:Hid (KE j w c d e g i h l k f Z b FT (.returned (U ((tl c Z).length:Int))) bc):=by
     refine⟨(tl c Z).length,[⟨9,[],o.map (λx=>iQ c b x.toNat),(r:Int)⟩],rfl,by simp,by grind[nL,qQ,List.length_singleton],by rw[<-nL];exact au.u,ac,(KG.y (B6 CR.u (I.drewN _ _ 1))).trans af⟩
    clear ac af;go_wp2_with fail;go_ret;exact HQ.u
end
def fZ.pg{T}{c}{b}(h:fZ T c b):fZ T (c++[-1]) (b++[none]):=by
 refine⟨by simp[h.len],λi o a=>?_⟩;by_cases d:i<b.length
 .rw[List.getElem?_append_left d]at a;have:=h.at' i o a;grind
 .rw[List.getElem?_append_right (by omega)]at a;have e:i=b.length:=by
   have:=(List.getElem?_eq_some_iff.1 a).1;simp at this;omega
  subst e;simp at a;subst a;rw[<-h.len];simp
def fZ.o8{T}{c}{b}(h:fZ T c b){r}{t}(f:r<T.length)(g:tr T r=t):fZ T (c++[(r:Int)]) (b++[some t]):=by
 refine⟨by simp[h.len],λi o a=>?_⟩;by_cases d:i<b.length
 .rw[List.getElem?_append_left d]at a;have:=h.at' i o a;grind
 .rw[List.getElem?_append_right (by omega)]at a;have e:i=b.length:=by
   have:=(List.getElem?_eq_some_iff.1 a).1;simp at this;omega
  subst e;simp at a;subst a;refine⟨r,?_,f,g⟩;rw[<-h.len];simp
def mK(c){j}(h):(iL c).take (j+1)=(iL c).take j++[if c.N[j].x=6 then some (lV c c.N[j]) else none]:=by
 grind[iL,uZ,nQ]
section
variable{d w:E}{c:Cx}{b f g h:Nat}{j k e:Value}{i:Int}
def Jw(hB:cP d c b f g h j e)(a6:aS d w c b f g h j k i e [] []):
 Calls prog 43 #[pV b] w λab w'=>ab=rT/\∃Z n,Z.length<=c.N.length/\fZ (tl c Z) n (iL c)/\aS d w' c b f g h j k i e Z n/\KQ w w':=by
 obtain⟨oa,oc,b8,fz,q0,q1,q2,q3,q4,q5,q,qp,qo⟩:=a6.cell;have b3:=hB.ok.fh;have b4:=hB.ok.jr;obtain⟨i0,ae,ah,ai,aj⟩:=info_parts Tryz.fm;have H0:=O a6;have z:=O hB;obtain⟨na,S,a7⟩:∃na S,j=.slice na c.N.length S:=by
  obtain⟨nx,hn,_⟩:=hB.fg a6.P;grind[B8]
 subst a7;have am:Hid (fZ (tl c []) [] ((iL c).take 0)):=⟨rfl,λa3 ba ho=>by grind⟩;go_in;go_wp2;go_loopw [11] (λa9 wr=>∃(l:Nat) (Z:List Ty) (n:bZ),l<=c.N.length/\a9=U l/\Z.length<=l/\Hid (fZ (tl c Z) n ((iL c).take l))/\Hid (aS d wr c b f g h (.slice na c.N.length S) k i e Z n)/\Hid (KQ w wr)) (λa9 _=>c.N.length-(intOf a9).toNat);case atStart=>exact⟨0,[],[],wQ _,rfl,by simp,am,H0,KQ.refl _⟩
 case round=>
  obtain⟨l,Z,n,hj,rfl,hZ,s,p,V⟩:=hrel;by_cases a2:l<c.N.length
  .obtain⟨ad,b0,P,R,a7,hg,b5,av,⟨x0,x1,x2,x3,x4,x5,x6,x7,x8⟩,au,-⟩:=(z.u.fg p.u.P).at (Below.refl _ _) l a2;have aw:na=some (J ad 0)/\S=b0:=by
    injection a7 with e1 e2 e3;exact⟨e1,e3⟩
   obtain⟨rfl,rfl⟩:=aw;have b7:n.length<=1200:=by
    rw[s.u.len,List.length_take];omega
   have hT:=p.u.ts;have hf:=z.u.ok.ep l a2;have ar:=z.u.ok.ls l a2;have hN:(tl c Z).length+1<=4000:=by rw[S9];omega
   have T:Hid (c.N[l].x=6->∀u,I No wr u->Calls prog 72 #[pV b,fE c.N[l] P R] u (KE d u c b f g h (.slice (some (J ad 0)) c.N.length S) k i e Z n (lV c c.N[l]))):=λt u m=>by
    obtain⟨ao,ac,b2⟩:=hf.k6 t;refine A2c z.u (p.u.y m) c.N[l] (λx hx=>Cv z.u.ok hT (ao x hx)) ?_ ar P R (A3 au m (λ_ _ x=>x)) hN;unfold sG jJ;by_cases ht:c.N[l].ty=-1
    .refine⟨c.T.length+4,by omega,by grind[S9],?_⟩;have:=lE hT (k:=5) (by omega) (by omega);grind[dV,Z5]
    .obtain ac|⟨a,e2,ha,_⟩:=ac
     .omega
     .refine⟨a,by omega,by grind[S9],?_⟩;rw[FL z.u.ok.ok ha,e2];simp
   have W:=O (mK c a2);unfold fE at T;generalize b6:c.N[l]=nd at*;obtain⟨N,va,vb,vc,ls,tx,vn,vt,vp⟩:=nd;simp only at*;unfold maxLen at av;have A:=O (I.alloc No wr (aL N va vb vc (.slice P ls.length R) tx vn vt vp));have o:=yY wr (aL N va vb vc (.slice P ls.length R) tx vn vt vp);have n0:=cell_of_row _ _ 0 _ _ _ o;have n1:=cell_of_row _ _ 1 _ _ _ o;have n2:=cell_of_row _ _ 2 _ _ _ o;have n3:=cell_of_row _ _ 3 _ _ _ o;have n4:=cell_of_row _ _ 4 _ _ _ o;have n5:=cell_of_row _ _ 5 _ _ _ o;have n6:=cell_of_row _ _ 6 _ _ _ o;have n7:=cell_of_row _ _ 7 _ _ _ o;have n8:=cell_of_row _ _ 8 _ _ _ o;by_cases t:N=6
   .have HX:=O (T.u t _ A.u);subst t;have aa:Hid ((iL c).take (l+1)=(iL c).take l++[some (lV c ⟨6,va,vb,vc,ls,tx,vn,vt,vp⟩)]):=W.u;clear T W;go_wp2_with fail;refine HX.u.mono ?_;rintro ab u ⟨x,a5,rfl,hX,af,ag,hC,hk⟩;have r:=O hC;have a4:Hid (KQ w u):=(V.u.trans (.y A.u)).trans (.kg hk);have an:Hid (fZ (tl c (Z++a5)) (n++[(x:Int)]) ((iL c).take (l+1))):=by
     have hm:=s.u.more p.u.ts a5;rw[nL]at hm;show fZ _ _ _;rw[aa.u];exact hm.o8 af ag
    have ap:(Z++a5).length<=l+1:=by rw[qQ];omega
    clear hC hk hX af ag HX A n0 n1 n2 n3 n4 n5 n6 n7 n8 x0 x1 x2 x3 x4 x5 x6 x7 x8 aa s p V;obtain⟨ov,ak,G,y,-⟩:=r.u.st;obtain⟨oa,oc,rfl⟩:=B8 y;have q:u.cell? (J b 6)=some (.slice oa n.length oc):=cr G rfl;have a8:=blt q;simp only at a8;have ax:=r.u.P.size;have B:=O (y.alloc (.cells #[U (x:Int)] 3));have D:=O q;clear G y;go_wp2_with (at_builtin;go_loud (refine wpList_append_own_at _ rfl _ _ 54 rfl d.heap.size 3 i0 (U 0) 1 8 underlying54 ae ah ai aj rfl (by decide) _ _ _ rfl B.u (J u.heap.size 0) 1 1 [U (x:Int)] rfl rfl ?c1 ?c2 ?c3 ?c4 ?c5 ?_));case c1=>
     intro a3 u m;match a3,m with
     |0,m=>simp_all[Addr.add]
    case c2=>intro u m;simp at m;subst m;rfl
    case c3=>grind[maxLen]
    case c4=>omega
    case c5=>simp;omega
    intro v' b1 v H _ F;obtain⟨xa,xc,rfl⟩:=B8 v;obtain⟨k0,ay,az,L,M⟩:=r.u.push D.u (I.alloc No _ _) H v F (by omega);have K3:=O L;have K4:=O (a4.u.trans M);clear L M v H F B q D;go_wp2_with fail;grind[intOf]
   .have g6:(N==6)=false:=by simpa using t
    have r:=O (p.u.y A.u);have a4:Hid (KQ w _):=V.u.trans (.y A.u);have an:Hid (fZ (tl c Z) (n++[-1]) ((iL c).take (l+1))):=by
     show fZ _ _ _;rw[W.u,zY t];exact s.u.pg
    have ap:Z.length<=l+1:=by omega
    have b9:=p.u.P.size;clear T W s t;obtain⟨ov,ak,G,y,-⟩:=r.u.st;obtain⟨oa,oc,rfl⟩:=B8 y;have q:(wr.alloc (aL N va vb vc (.slice P ls.length R) tx vn vt vp)).cell? (J b 6)=some (.slice oa n.length oc):=cr G rfl;have a8:=blt q;simp only at a8;have ax:=r.u.P.size;have B:=O (y.alloc (.cells #[U (-1)] 3));have D:=O q;clear G y;go_wp2_with (at_builtin;go_loud (refine wpList_append_own_at _ rfl _ _ 54 rfl d.heap.size 3 i0 (U 0) 1 8 underlying54 ae ah ai aj rfl (by decide) _ _ _ rfl B.u (J (wr.heap.size+1) 0) 1 1 [U (-1)] rfl rfl ?c1 ?c2 ?c3 ?c4 ?c5 ?_));case c1=>
     intro a3 u m;match a3,m with
     |0,m=>simp_all[Addr.add]
    case c2=>intro u m;simp at m;subst m;rfl
    case c3=>grind[maxLen]
    case c4=>omega
    case c5=>simp;omega
    intro v' b1 v H _ F;obtain⟨xa,xc,rfl⟩:=B8 v;obtain⟨k0,ay,az,L,M⟩:=r.u.push D.u (I.alloc No _ _) H v F (by simp);have K3:=O L;have K4:=O (a4.u.trans M);clear L M v H F B q D;go_wp2_with fail;go_roundw;case rel=>grind
    case measure=>simp[intOf];omega
  .have aq:l=c.N.length:=by omega
   subst aq;have al:Hid (fZ (tl c Z) n (iL c)):=by
    have:(iL c).take c.N.length=iL c:=by
     rw[List.take_of_length_le];unfold iL;rw[uZ];omega
    have h2:=s.u;rw[this]at h2;exact h2
   clear s;go_wp2_with fail;go_end0;exact⟨rfl,Z,n,hZ,al.u,p.u,V.u⟩
end
def Cd(w:E)(d)(j)(k)(b)(a:b=decide (1<=d.x/\d.x<=14)):
 Calls prog 44 #[fE d j k] w λe t=>e=.returned (.bool b)/\I No w t:=by
 unfold fE;obtain⟨g,n,o,p,l,m,q,s,r⟩:=d;simp only at*;have f:=O (I.alloc No w (aL g n o p (.slice j l.length k) m q s r));by_cases h:1<=g
 .by_cases i:g<=14
  .have c:b=true:=by rw[a];simp[h,i]
   subst c;clear a;go_in;go_wp2;go_ret;exact⟨rfl,f.u⟩
  .have c:b=false:=by rw[a];simp[i]
   subst c;clear a;go_in;go_wp2;go_ret;exact⟨rfl,f.u⟩
 .have c:b=false:=by rw[a];simp[h]
  subst c;clear a;go_in;go_wp2;go_ret;exact⟨rfl,f.u⟩
section
variable{a w:E}{c:Cx}{b d e h:Nat}{g j f:Value}{i:Int}
def vD(a w:E)(c:Cx)(b d e h:Nat)(g j:Value)(i:Int)(f:Value)(r:(Int×Nat) ⊕ Of)(l:Ending)(k:E):Prop:=KQ w k/\I (SW a b d e) a k/\match r with
 |.inl (n,o)=>l=gu n (cI c.N o)
 |.inr p=>l=rT/\∃Z m,Z.length<=3*c.N.length/\fZ (tl c Z) m p/\aS a k c b d e h g j i f Z m
def Xe{k}{n}{Z}{q}(y:cP a c b d e h g f)(B:fU c Z q n k)(l:aS a w c b d e h g j i f Z q)(v)(A:¬(1<=c.N[k].x/\c.N[k].x<=14)):
 Calls prog 45 #[pV b,U k] w λp o=>KQ w o/\I (SW a b d e) a o/\((∃r,jB c n k=.inl r/\p=gu r (cI c.N k))\/(jB c n k=.inr none/\p=rT/\aS a o c b d e h g j i f Z q)):=by
 have F:jB c n k=if c.N[k].x=24/\c.fn.getD k 0=-1 then .inl 4 else if U3 c n k=true then .inr none else .inl 9:=by
  unfold jB;rw[B9 v];exact zY A
 refine(Qm y B l v (by omega)).mono ?_;rintro p o (⟨s,t,x,u⟩|⟨s,t⟩)
 .exact⟨.y u,(l.y u).P,.inl ⟨4,by grind,x⟩⟩
 .rw[F,zY s];obtain⟨rfl,D,m⟩|⟨rfl,D,m,z⟩:=kX.part t
  .exact⟨.kg (.kc (l.kc m)),l.o7 m,.inl ⟨9,by grind,rfl⟩⟩
  .exact⟨.kg (.kc (l.kc m)),l.o7 m,.inr ⟨by grind,rfl,z⟩⟩
def Oj{k}{n}{Z}{D}(z:cP a c b d e h g f)(L:fZ (tl c Z) D n)(A:yJ c n k)(S:qN n)(F:aS a w c b d e h g j i f Z D)(B)(H:1<=c.N[k].x/\c.N[k].x<=14)(R:(tl c Z).length+2<=4000):
 Calls prog 46 #[pV b,U k] w λp o=>KG w o/\I (SW a b d e) a o/\((D7 c n k=none/\p=gu 9 (cI c.N k))\/∃(t:Tr) (x:Nat) (l:List Ty),D7 c n k=some t/\p=.returned (U x)/\l.length<=2/\x<(tl c (Z++l)).length/\tr (tl c (Z++l)) x=t/\aS a o c b d e h g j i f (Z++l) D):=by
 have P:=DW z.ok F.ts L A (vQ k);refine(vu z P F B H (λy=>?_) R (λN=>Zj z.ok A S B N)).mono ?_
 .obtain⟨t,T⟩:=A.ex k B H (.inr y);obtain⟨r,q,s,u,v⟩:=aS.look L T;exact⟨k,r,q,rfl,s,u,v⟩
 .intro p o m;cases M:D7 c n k with
  |none=>
   rw[M]at m;exact⟨m.2.1,m.2.2,.inl ⟨rfl,m.1⟩⟩
  |some t=>
   rw[M]at m;obtain⟨x,l,q,s,u,v,G,y⟩:=m;exact⟨y,G.P,.inr ⟨t,x,l,rfl,q,s,u,v,G⟩⟩
end
