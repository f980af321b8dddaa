/-
  A part of the proof.
-/
import Derived.Test.YtjhlphgdgpebfaaGreatDoorCheckB
import Derived.Test.YtjhlphgdgpebfaaGreatDoorUnionA
set_option maxHeartbeats 0
set_option linter.all false
set_option maxRecDepth 100000
namespace Go.Proofs.YtjhlphgdgpebfaaGreatDoor
open Go renaming Value->χ,Calls->μ,maxLen->Γ,cell_of_row->á,wpList_append_own_at->Ö
open Ending renaming returned->π
open Go.Proofs.Tryz renaming prog->η,underlying63->ü
open RowKit.Below renaming refl->ë
open Value renaming slice->Y
open List renaming length->Q,getElem?_append_right->Ï,getElem?_eq_some_iff->À
open Option renaming some->C
open Go.Proofs.Tryz
open Go.RowKit Go.Maps
section
variable{e w:E}{c:Cx}{a f g h:Nat}{k m j:χ}{l:Int}{Z:List Ty}{d:uZ}{b:Of}{i:Nat}
def jF(e w:E)(c:Cx)(a f g h:Nat)(k m:χ)(l:Int)(j:χ)(Z:List Ty)(d:uZ)(i:Nat)(o:Option Tr)(p:Ending)(n:E):Prop:=match o with
 |none=>p=gu 9 (cW c.N i)/\KG w n/\I (SW e a f g) e n
 |C t=>oH e w c a f g h k m l j Z d t p n
def KG.kc{n o}(p:KC n o):KG n o:=⟨p.1,λq r s t x _ _=>p.2 q r s t x⟩
def GL{u}{x}(n:I No w u)(o:aW e u c a f g h k m l j Z d)(p:x<Q (tl c Z)):oH e w c a f g h k m l j Z d (tr (tl c Z) x) (π<|U x) u:=
 ⟨x,[],K,ι,θ,ι,θ,KG.y n⟩
def oH.back{u o}{t}{n}(B:I No w u)(q:oH e u c a f g h k m l j Z d t n o):oH e w c a f g h k m l j Z d t n o:=by
 obtain⟨x,p,r,s,v,y,z,A⟩:=q;exact⟨x,p,r,s,v,y,z,(KG.y B).trans A⟩
def EG{u v}{o}{n}(A:I No w u)(p:aW e u c a f g h k m l j Z d)(y:vH e u c a f g h k m l j Z d i o n v):jF e w c a f g h k m l j Z d i o n v:=by
 obtain⟨q,s⟩:=y;have r:=(KG.y A).trans<|KG.kc<|p.kc q;cases o with
 |none=>exact⟨s,r,p.q9 q⟩
 |some t=>
  obtain⟨B,x,z,D,F⟩:=s;exact⟨x,[],z,ι,θ,θ,θ,r⟩
theorem jF.part{o}{n}{s}(p:jF e w c a f g h k m l j Z d i o n s):(∃q r,n=gu q r)\/∃x:Nat,n=π (U x):=by
 cases o with
 |none=>exact .inl ⟨_,_,p.1⟩
 |some t=>
  obtain⟨x,u,v,_⟩:=p;grind
def JP(x:dO e c a f g h k j)(n:aW e w c a f g h k m l j Z d)(t)(p)(u:c.N[i].x=1/\ p=1 \/c.N[i].x=2/\ p=3 \/c.N[i].x=3/\ p=2 \/c.N[i].x=4/\ p=4):
 μ η 57 #[pV a,U i] w (jF e w c a f g h k m l j Z d i<|F6 c b i):=by
 obtain⟨oa,oc,a6,fz,q0,q1,q2,q3,q4,q5,q6,N,qo⟩:=n.cell;obtain⟨a3,nc,G,H,A,hg,a4,z,⟨x0,x1,x2,x3,x4,x5,x6,x7,x8⟩,a2,-⟩:=(x.fx n.P).at (ë _ _) i t;unfold Γ at z;have v:F6 c b i=C (eV p):=by
  unfold F6;rw[B7 t];obtain⟨o,rfl⟩|⟨o,rfl⟩|⟨o,rfl⟩|⟨o,rfl⟩:=u<;>simp[o]
 have r:=N p W W;have B:=nG n.ts (k:=p) W W;have y:Q c.T+p-1<Q (tl c Z):=by rw[U8];omega
 rw[v];generalize a5:c.N[i]=M at*;obtain⟨F,R,S,T,L,P,vn,vt,vp⟩:=M;simp only at*;subst A;have q:=O<|I.alloc No w<|aM F R S T (Y G (Q L) H) P vn vt vp;have s:=O<|GL q.u (n.y q.u) y;rw[B]at s;replace r:=A4 q.u r;have D:=blt r;simp only at D;obtain⟨rfl,rfl⟩|⟨rfl,rfl⟩|⟨rfl,rfl⟩|⟨rfl,rfl⟩:=u<;>
  (go_in;go_wp2;go_ret;exact s.u)
def Ĕ(q:dO e c a f g h k j)(R:gV c Z d b i)(n:aW e w c a f g h k m l j Z d)(p)(t:c.N[i].x=7):
 μ η 57 #[pV a,U i] w (jF e w c a f g h k m l j Z d i<|F6 c b i):=by
 have hf:=q.ok.ew i p;obtain⟨oa,oc,a8,fz,q0,q1,q2,q3,q4,q5,q6,qp,qo⟩:=n.cell;have hT:=n.ts;obtain⟨a5,nc,v,x,T,hg,a6,S,⟨x0,x1,x2,x3,x4,x5,x6,x7,x8⟩,a2,-⟩:=(q.fx n.P).at (ë _ _) i p;unfold Γ at S;have s:F6 c b i=nD c b i:=by
  unfold F6;rw[B7 p];simp[t]
 have N:Hid (∀u,I No w u->μ η 99 #[pV a,U i] u (jF e w c a f g h k m l j Z d i<|F6 c b i)):=λu r=>by
  rw[s];exact(Pd q R (n.y r) p W).mono λP w' o=>EG r (n.y r) o
 clear s;generalize F6 c b i=FT at*;have H0:=O n;generalize a7:c.N[i]=nd at*;obtain⟨kd,A,B,D,y,z,F,H,G⟩:=nd;simp only at*;subst t;subst T;have L:=O<|I.alloc No w<|aM 7 A B D (Y v (Q y) x) z F H G;have nb:=rY w<|aM 7 A B D (Y v (Q y) x) z F H G;go_in;go_wp2_with fail;refine(N.u _ L.u).mono ?_;intro P a9 o;obtain⟨a3,a4,rfl⟩|⟨aa,rfl⟩:=o.part
 .exact⟨K,o⟩
 .have M:=O o;go_wp2;go_ret;exact M.u
def Ė(q:dO e c a f g h k j)(S:gV c Z d b i)(n:aW e w c a f g h k m l j Z d)(p)(t:c.N[i].x=8):
 μ η 57 #[pV a,U i] w (jF e w c a f g h k m l j Z d i<|F6 c b i):=by
 have T:=q.ok.ew i p;obtain⟨oa,oc,ae,fz,q0,q1,q2,q3,q4,q5,q6,qp,qo⟩:=n.cell;have hT:=n.ts;obtain⟨ab,nc,x,y,a3,hg,ac,a2,⟨x0,x1,x2,x3,x4,x5,x6,x7,x8⟩,a8,-⟩:=(q.fx n.P).at (ë _ _) i p;unfold Γ at a2;have s:F6 c b i=N9 b c.N[i]:=by
  unfold F6;rw[B7 p];simp[t]
 obtain⟨a6,a7,hp,v,hr,a4,a5⟩:=S.pe _ (T.k1 W);have P:Hid (∀u,I No w u->μ η 71 #[pV a,U i] u (jF e w c a f g h k m l j Z d i<|F6 c b i)):=λu r=>by
  rw[s];exact(XP q (n.y r) i p a6 hp v a7 hr a4 a5.symm).mono λR w' o=>EG r (n.y r) o
 clear s v;generalize F6 c b i=FT at*;have H0:=O n;generalize ad:c.N[i]=nd at*;obtain⟨kd,B,D,F,z,A,G,L,H⟩:=nd;simp only at*;subst t;subst a3;have M:=O<|I.alloc No w<|aM 8 B D F (Y x (Q z) y) A G L H;have nb:=rY w<|aM 8 B D F (Y x (Q z) y) A G L H;go_in;go_wp2_with fail;refine(P.u _ M.u).mono ?_;intro R af o;obtain⟨a9,aa,rfl⟩|⟨ag,rfl⟩:=o.part
 .exact⟨K,o⟩
 .have N:=O o;go_wp2;go_ret;exact N.u
def Ę(q:dO e c a f g h k j)(t:gV c Z d b i)(n:aW e w c a f g h k m l j Z d)(p)(x:c.N[i].x=9):
 μ η 57 #[pV a,U i] w (jF e w c a f g h k m l j Z d i<|F6 c b i):=by
 have v:=q.ok.ew i p;obtain⟨oa,oc,aj,fz,q0,q1,q2,q3,q4,q5,q6,qp,qo⟩:=n.cell;have hT:=n.ts;obtain⟨ag,nc,A,B,a4,hg,ah,a3,⟨x0,x1,x2,x3,x4,x5,x6,x7,x8⟩,ad,-⟩:=(q.fx n.P).at (ë _ _) i p;unfold Γ at a3;have s:F6 c b i=M3 b c.N[i]:=by
  unfold F6;rw[B7 p];simp[x]
 obtain⟨ab,ac,hp,y,hr,a7,a9⟩:=t.pe _ (v.k2 W).1;obtain⟨p',r',a5,z,a6,a8,aa⟩:=t.pe _ (v.k2 W).2;have T:Hid (∀u,I No w u->μ η 72 #[pV a,U i] u (jF e w c a f g h k m l j Z d i<|F6 c b i)):=λu r=>by
  rw[s];exact(YV q (n.y r) i p ab hp y ac hr a7 a9.symm p' a5 z r' a6 a8 aa.symm).mono λa2 w' o=>EG r (n.y r) o
 clear s y z;generalize F6 c b i=FT at*;have H0:=O n;generalize ai:c.N[i]=nd at*;obtain⟨kd,G,H,L,D,F,M,P,N⟩:=nd;simp only at*;subst x;subst a4;have R:=O<|I.alloc No w<|aM 9 G H L (Y A (Q D) B) F M P N;have nb:=rY w<|aM 9 G H L (Y A (Q D) B) F M P N;go_in;go_wp2_with fail;refine(T.u _ R.u).mono ?_;intro a2 ak o;obtain⟨ae,af,rfl⟩|⟨al,rfl⟩:=o.part
 .exact⟨K,o⟩
 .have S:=O o;go_wp2;go_ret;exact S.u
def Ul(q:dO e c a f g h k j)(t:gV c Z d b i)(n:aW e w c a f g h k m l j Z d)(p)(x:c.N[i].x=12):
 μ η 57 #[pV a,U i] w (jF e w c a f g h k m l j Z d i<|F6 c b i):=by
 have v:=q.ok.ew i p;obtain⟨oa,oc,a9,fz,q0,q1,q2,q3,q4,q5,q6,qp,qo⟩:=n.cell;have hT:=n.ts;obtain⟨a6,nc,y,z,a2,hg,a7,T,⟨x0,x1,x2,x3,x4,x5,x6,x7,x8⟩,a3,-⟩:=(q.fx n.P).at (ë _ _) i p;unfold Γ at T;have s:F6 c b i=uR b c.N[i]:=by
  unfold F6;rw[B7 p];simp[x]
 have R:Hid (∀u,I No w u->μ η 102 #[pV a,U i] u (jF e w c a f g h k m l j Z d i<|F6 c b i)):=λu r=>by
  rw[s];exact(D2f q (n.y r) i p (t.pe _ (v.k2 W).1)<|t.pe _ (v.k2 W).2).mono λS w' o=>EG r (n.y r) o
 clear s;generalize F6 c b i=FT at*;have H0:=O n;generalize a8:c.N[i]=nd at*;obtain⟨kd,D,F,G,A,B,H,M,L⟩:=nd;simp only at*;subst x;subst a2;have N:=O<|I.alloc No w<|aM 12 D F G (Y y (Q A) z) B H M L;have nb:=rY w<|aM 12 D F G (Y y (Q A) z) B H M L;go_in;go_wp2_with fail;refine(R.u _ N.u).mono ?_;intro S aa o;obtain⟨a4,a5,rfl⟩|⟨ab,rfl⟩:=o.part
 .exact⟨K,o⟩
 .have P:=O o;go_wp2;go_ret;exact P.u
def Um(q:dO e c a f g h k j)(R:gV c Z d b i)(n:aW e w c a f g h k m l j Z d)(p)(t:c.N[i].x=13):
 μ η 57 #[pV a,U i] w (jF e w c a f g h k m l j Z d i<|F6 c b i):=by
 have S:=q.ok.ew i p;obtain⟨oa,oc,a9,fz,q0,q1,q2,q3,q4,q5,q6,qp,qo⟩:=n.cell;have hT:=n.ts;obtain⟨a6,nc,v,x,a2,hg,a7,T,⟨x0,x1,x2,x3,x4,x5,x6,x7,x8⟩,a3,-⟩:=(q.fx n.P).at (ë _ _) i p;unfold Γ at T;have s:F6 c b i=uL b c.N[i]:=by
  unfold F6;rw[B7 p];simp[t]
 have N:Hid (∀u,I No w u->μ η 103 #[pV a,U i] u (jF e w c a f g h k m l j Z d i<|F6 c b i)):=λu r=>by
  rw[s];exact(ŭ q (n.y r) i p<|R.pe _<|S.k1 W).mono λP w' o=>EG r (n.y r) o
 clear s;generalize F6 c b i=FT at*;have H0:=O n;generalize a8:c.N[i]=nd at*;obtain⟨kd,A,B,D,y,z,F,H,G⟩:=nd;simp only at*;subst t;subst a2;have L:=O<|I.alloc No w<|aM 13 A B D (Y v (Q y) x) z F H G;have nb:=rY w<|aM 13 A B D (Y v (Q y) x) z F H G;go_in;go_wp2_with fail;refine(N.u _ L.u).mono ?_;intro P aa o;obtain⟨a4,a5,rfl⟩|⟨ab,rfl⟩:=o.part
 .exact⟨K,o⟩
 .have M:=O o;go_wp2;go_ret;exact M.u
def č(o:dO e c a f g h k j)(hL:gV c Z d b i)(n:aW e w c a f g h k m l j Z d)(q)(t:c.N[i].x=5):
 μ η 57 #[pV a,U i] w (jF e w c a f g h k m l j Z d i<|F6 c b i):=by
 have hf:=o.ok.ew i q;obtain⟨oa,oc,af,fz,q0,q1,q2,q3,x,q5,q6,qp,qo⟩:=n.cell;have hT:=n.ts;have ab:=o.ok.fp;obtain⟨aa,nc,z,A,a7,hg,ad,a6,⟨x0,x1,x2,x3,x4,x5,x6,x7,x8⟩,a9,-⟩:=(o.fx n.P).at (ë _ _) i q;unfold Γ at a6;have R:F6 c b i=C (Z5 c b<|c.ts.getD i 0):=by
  unfold F6;rw[B7 q];simp[t]
 obtain⟨v,a0,hj,a5,ag,a2,a3,a4⟩:=hL.has _<|o.ok.mw.tg i q<|.inl t;have S:Hid (∀u,I No w u->(Instr.lookup 46 (.map<|C h) (U i) false).run η u=.ok (U v) u):=λu p=>by
  have hm:=(o.nm (n.y p).P).get i W;rw[hm];unfold lS;grind
 have HX:Hid (∀u,I No w u->μ η 70 #[pV a,U v] u λs P=>s=π (U a0)/\oH e w c a f g h k m l j Z d (Z5 c b<|c.ts.getD i 0) (π<|U a0) P):=λu p=>by
  refine(OD o (n.y p) v a5 a4).mono ?_;rintro s P ⟨rfl,y⟩;refine⟨θ,?_⟩;rw[<-a3];exact GL (B6 p y) (n.y<|B6 p y) a2
 rw[R];have H0:=O n;generalize ae:c.N[i]=nd at*;obtain⟨kd,F,G,H,B,D,L,N,M⟩:=nd;simp only at*;subst t;subst a7;have r:=O<|I.alloc No w<|aM 5 F G H (Y z (Q B) A) D L N M;have nb:=rY w<|aM 5 F G H (Y z (Q B) A) D L N M;have ac:=S.u _ r.u;replace x:=A4 r.u x;have a8:=blt x;simp only at a8;go_in;go_wp2_with fail;refine(HX.u _ r.u).mono ?_;rintro s ah ⟨rfl,hq⟩;have T:=O hq;go_wp2;go_ret;exact T.u
def đ(u:dO e c a f g h k j)(_hL:gV c Z d b i)(n:aW e w c a f g h k m l j Z d)(r)(v:c.N[i].x=6)(y:Lk c Z d b i):
 μ η 57 #[pV a,U i] w (jF e w c a f g h k m l j Z d i<|F6 c b i):=by
 have hf:=u.ok.ew i r;obtain⟨oa,oc,aa,fz,q0,q1,q2,q3,q4,q5,s,qp,qo⟩:=n.cell;have hT:=n.ts;obtain⟨a4,nc,P,R,B,hg,a5,A,⟨x0,x1,x2,x3,x4,x5,x6,x7,x8⟩,a2,-⟩:=(u.fx n.P).at (ë _ _) i r;unfold Γ at A;have x:F6 c b i=C (bB b i):=by
  unfold F6;rw[B7 r];simp[v]
 obtain⟨p,ab,G,a3,L,M,N⟩:=y;obtain rfl:i=p:=W;obtain⟨go,F,a7,a8,a9,D,q,-⟩:=qo i G;subst F;rw[L]at q;unfold Γ at D;rw[x];have H0:=O n;generalize a6:c.N[i]=T at*;obtain⟨kd,va,vb,vc,S,tx,vn,vt,vp⟩:=T;simp only at*;subst v;subst B;have o:=O<|I.alloc No w<|aM 6 va vb vc (Y P (Q S) R) tx vn vt vp;have t:=O<|GL o.u (n.y o.u) M;rw[N]at t;replace s:=A4 o.u s;replace q:=A4 o.u q;have H:=blt s;have z:=blt q;simp only at H z;go_in;go_wp2;go_ret;exact t.u
def Uq(r:dO e c a f g h k j)(P:gV c Z d b i)(n:aW e w c a f g h k m l j Z d)(p)(q:c.N[i].x=14):
 μ η 57 #[pV a,U i] w (jF e w c a f g h k m l j Z d i<|F6 c b i):=by
 have S:=r.ok.ew i p;obtain⟨oa,oc,a8,fz,q0,q1,q2,q3,q4,q5,q6,qp,qo⟩:=n.cell;have hT:=n.ts;obtain⟨a5,nc,t,v,a2,hg,a6,T,⟨x0,x1,x2,x3,x4,x5,x6,x7,x8⟩,a4,-⟩:=(r.fx n.P).at (ë _ _) i p;unfold Γ at T;have H:F6 c b i=C (tr c.T c.N[i].ty.toNat):=by
  unfold F6;rw[B7 p];simp[q]
 obtain⟨o,N,R,a3⟩:=P.wt _ (S.l6 q).2;rw[H,<-a3];have M:Hid (∀u,I No w u->oH e w c a f g h k m l j Z d (tr (tl c Z) o) (π<|U o) u):=λu s=>GL s (n.y s) R;rw[N]at x7;have H0:=O n;generalize a7:c.N[i]=nd at*;obtain⟨kd,z,A,B,x,y,D,vt,F⟩:=nd;simp only at*;subst q;subst a2;have G:=O<|I.alloc No w<|aM 14 z A B (Y t (Q x) v) y D o F;have nb:=rY w<|aM 14 z A B (Y t (Q x) v) y D o F;have L:=O<|M.u _ G.u;go_in;go_wp2;go_ret;exact L.u
def Uh(p:dO e c a f g h k j)(hL:gV c Z d b i)(o:aW e w c a f g h k m l j Z d)(s)(q:c.N[i].x=10)(hN:Q (tl c Z)+2<=4000):
 μ η 57 #[pV a,U i] w (jF e w c a f g h k m l j Z d i<|F6 c b i):=by
 have A:=p.ok.ew i s;obtain⟨oa,oc,af,fz,q0,q1,q2,q3,q4,q5,q6,qp,qo⟩:=o.cell;have hT:=o.ts;obtain⟨aa,nc,v,y,a4,hg,ad,a3,⟨x0,x1,x2,x3,x4,x5,x6,x7,x8⟩,a2,-⟩:=(p.fx o.P).at (ë _ _) i s;unfold Γ at a3;have D:F6 c b i=C (DK c.N b c.N[i]):=by
  unfold F6;rw[B7 s];simp[q]
 have F:∀x∈c.N[i].M,∃n:Nat,x=n/\∃t:n<Q c.N,Lk c Z d b c.N[n].a/\S6 c.N[n].text:=λx L=>by
  obtain⟨n,rfl,ab,t,ac⟩:=(A.mz q).1 x L;have H:=(A.mz q).2.2 n L;rw[B7 t]at H;obtain⟨a7,z,hy,a6,a5⟩:=(p.ok.ew n t).k1 W;exact⟨n,K,t,hL.pe _ ⟨a7,z,W,a6,a5⟩,H⟩
 have G:Hid (∀u,I No w u->μ η 100 #[pV a,eE c.N[i] v y] u (jF e w c a f g h k m l j Z d i<|F6 c b i)):=λu B=>by
  rw[D];exact(vw p (o.y B) c.N[i] F (A.mz q).2.1 (p.ok.ls i s) v y (A3 a2 B λ_ _ x=>x) W).mono λz w' r=>oH.back B r
 clear D F;generalize F6 c b i=FT at*;unfold eE at G;have H0:=O o;generalize ae:c.N[i]=nd at*;obtain⟨kd,P,R,S,M,N,T,vt,vp⟩:=nd;simp only at*;subst q;subst a4;have A1:=O<|I.alloc No w<|aM 10 P R S (Y v (Q M) y) N T vt vp;have nb:=rY w<|aM 10 P R S (Y v (Q M) y) N T vt vp;go_in;go_wp2_with fail;refine(G.u _ A1.u).mono ?_;intro z ag r;obtain⟨a8,a9,rfl⟩|⟨x,rfl⟩:=r.part
 .exact⟨K,r⟩
 .have HQ:=O r;go_wp2;go_ret;exact HQ.u
def Uj(s:dO e c a f g h k j)(hL:gV c Z d b i)(n:aW e w c a f g h k m l j Z d)(p)(t:c.N[i].x=11)(hN:Q (tl c Z)+2<=4000)(A:dW (c.N[i].M.map<|bB b)<=25000000):
 μ η 57 #[pV a,U i] w (jF e w c a f g h k m l j Z d i<|F6 c b i):=by
 have hf:=s.ok.ew i p;obtain⟨oa,oc,a9,fz,q0,q1,q2,q3,q4,q5,q6,qp,qo⟩:=n.cell;have hT:=n.ts;obtain⟨a6,nc,q,r,a3,hg,a7,a2,⟨x0,x1,x2,x3,x4,x5,x6,x7,x8⟩,R,-⟩:=(s.fx n.P).at (ë _ _) i p;unfold Γ at a2;have y:F6 c b i=C (BL b c.N[i]):=by
  unfold F6;rw[B7 p];simp[t]
 have z:Hid (∀u,I No w u->μ η 101 #[pV a,eE c.N[i] q r] u (jF e w c a f g h k m l j Z d i<|F6 c b i)):=λu v=>by
  rw[y];exact(xo (n.y v) c.N[i] (λx hx=>hL.pe x<|hf.ny t x hx) (s.ok.ls i p) q r (A3 R v λ_ _ x=>x) A hN).mono λT w' o=>oH.back v o
 clear y A;generalize F6 c b i=FT at*;unfold eE at z;have H0:=O n;generalize a8:c.N[i]=nd at*;obtain⟨kd,F,G,H,B,D,L,N,M⟩:=nd;simp only at*;subst t;subst a3;have P:=O<|I.alloc No w<|aM 11 F G H (Y q (Q B) r) D L N M;have nb:=rY w<|aM 11 F G H (Y q (Q B) r) D L N M;go_in;go_wp2_with fail;refine(z.u _ P.u).mono ?_;intro T aa o;obtain⟨a4,a5,rfl⟩|⟨x,rfl⟩:=o.part
 .exact⟨K,o⟩
 .have S:=O o;go_wp2;go_ret;exact S.u
def Ru(p:dO e c a f g h k j)(r:gV c Z d b i)(o:aW e w c a f g h k m l j Z d)(q)(u:aP c.N[i].x)(t:c.N[i].x=6->Lk c Z d b i)(s:Q (tl c Z)+2<=4000)(v:c.N[i].x=11->dW (c.N[i].M.map<|bB b)<=25000000):
 μ η 57 #[pV a,U i] w (jF e w c a f g h k m l j Z d i<|F6 c b i):=by
 obtain⟨x,y⟩:=u;have:c.N[i].x=1\/c.N[i].x=2\/c.N[i].x=3\/c.N[i].x=4\/c.N[i].x=5\/c.N[i].x=6\/c.N[i].x=7\/c.N[i].x=8\/c.N[i].x=9\/c.N[i].x=10\/c.N[i].x=11\/c.N[i].x=12\/c.N[i].x=13\/c.N[i].x=14:=W;obtain n|n|n|n|n|n|n|n|n|n|n|n|n|n:=this
 .exact JP p o q 1<|.inl ⟨n,K⟩
 .exact JP p o q 3<|.inr<|.inl ⟨n,K⟩
 .exact JP p o q 2<|.inr<|.inr<|.inl ⟨n,K⟩
 .exact JP p o q 4<|.inr<|.inr<|.inr ⟨n,K⟩
 .exact č p r o q n
 .exact đ p r o q n<|t n
 .exact Ĕ p r o q n
 .exact Ė p r o q n
 .exact Ę p r o q n
 .exact Uh p r o q n s
 .exact Uj p r o q n s<|v n
 .exact Ul p r o q n
 .exact Um p r o q n
 .exact Uq p r o q n
end
section
variable{j w:E}{c:Cx}{d e g i:Nat}{h l f:χ}{k:Int}{Z:List Ty}{b:uZ}{m:Of}
def UC(j w:E)(c:Cx)(d e g i:Nat)(h l:χ)(k:Int)(f:χ)(Z:List Ty)(b:uZ)(t:Tr)(o:Ending)(n:E):Prop:=
 ∃(x:Nat) (a:List Ty),o=π (U x)/\Q a<=1/\x<Q (tl c<|Z++a)/\tr (tl c<|Z++a) x=t/\aW j n c d e g i h l k f (Z++a) b/\KG w n
def ZS(c:Cx)(Z:List Ty)(b:uZ)(x:Int):Prop:=∃(n a:Nat),x=n/\n<Q c.N/\(aA c.N n).x=16/\kF c b n=a/\a<Q (tl c Z)/\tr (tl c Z) a=Z5 c [] x
def Xa(p:jG c)(u:aX<|tl c Z){z}{x}(t:Pk c.N z 16 x):ZS c Z b x:=by
 obtain⟨n,rfl,_,o,v⟩:=t;have s:=B7 o;have r:(aA c.N n).x=16:=by rw[s];exact v
 have q:=pW p n;by_cases y:(aA c.N n).ty=-1
 .refine⟨n,Q c.T+4,K,o,r,?_,by grind[U8],?_⟩
  .simp_all[kF,wY]
  .have:=nG u (k:=5) W W;simp_all[Z5,wY,eV,iM]
 .obtain q|⟨a,e2,ha,_⟩:=q
  .omega
  .refine⟨n,a,K,o,r,?_,by grind[U8],?_⟩
   .simp_all[kF,yY]
   .unfold Z5;rw[yY y,TI p.ok ha,e2];rfl
def vu(hB:dO j c d e g i h f)(B:aW j w c d e g i h l k f Z b)(p)(P:∀ x∈p.M,ZS c Z b x)(b7:∃ a:Nat,wU c p=a/\ a<Q (tl c Z)/\ tr (tl c Z) a=lJ c.T p)(hn:Q p.M<=1200)(D)(F)(ai:w.ownsRow 0 3 1 (Y D (Q p.M) F) (Q p.M)<|C8 p.M)(hN:Q (tl c Z)+1<=4000):
 μ η 97 #[pV d,eE p D F] w (UC j w c d e g i h l k f Z b<|oO c p):=by
 obtain⟨r,b5,b6,ap⟩:=b7;have a4:Hid (∀u,I No w u->_):=λu z=>VZ (B.y z) p D F;rw[b5]at a4;have aa:Hid (oO c p=.nd 9 [] (tr (tl c Z) r::p.M.map (Z5 c []))):=by
  show _=_;unfold oO;rw[ap]
 unfold eE at*;generalize oO c p=FT at*;obtain⟨kd,va,vb,vc,o,tx,vn,vt,vp⟩:=p;simp only at*;obtain⟨i0,ay,b9,ba,bb⟩:=info_parts Tryz.fy;have hT:=B.ts;have H0:=O B;have HO:=O ai;have HL:=O P;have ab:Hid (∀u n,I No w u->n<Q c.N->(aA c.N n).x=16->_):=λu n z hj hk=>OD hB (B.y z) n hj (λ_ bh=>W);have aj:∀n,n<=Q o->∀x∈((o.take n).map λx=>kF c b x.toNat),0<=x/\x<(Q (tl c Z):Int):=λn _ x R=>by
  obtain⟨bf,hy,rfl⟩:=kZ.1 R;obtain⟨S,a,rfl,_,_,ha,ag,_⟩:=P bf<|List.mem_of_mem_take hy;grind
 have ak:(o.map λx=>kF c b x.toNat).map (λx=>tr (tl c Z) x.toNat)=o.map (Z5 c []):=by
  rw[List.map_map];refine List.map_congr_left λx R=>?_;obtain⟨S,a,rfl,_,_,ha,ag,ht⟩:=P x R;simp only[Function.comp_apply,tQ,ha];exact ht
 have ac:Hid (eJ ⟨9,[],o.map λx=>kF c b x.toNat,(r:Int)⟩ (Q (tl c Z))):=.inr (.inr<|.inr<|.inl ⟨K,K,Int.natCast_nonneg r,Int.ofNat_lt.2 b6,λx R=>aj (Q o) (vQ _) x θ⟩);have aw:Hid (tr (tl c Z++[⟨9,[],o.map λx=>kF c b x.toNat,(r:Int)⟩]) (Q (tl c Z))=FT):=by
  show _=_;rw[wG hT ac.u,aa.u,<-ak];simp
 obtain⟨oa,oc,bp,fz,q0,q1,q2,q3,q4,q5,q6,qp,qo⟩:=B.cell;have av:=O q3;have A1:=I.alloc No w<|aM kd va vb vc (Y D (Q o) F) tx vn vt vp;have nb:=rY w<|aM kd va vb vc (Y D (Q o) F) tx vn vt vp;have a3:=O A1;have NB:=O nb;clear B ai P aj ak ap qp qo q0 q1 q2 q3 q4 q5 q6 fz A1 nb hB hT aa;go_in;go_wp2_with fail;refine(a4.u _ a3.u).mono ?_;rintro s a2 ⟨rfl,a6⟩;have C2:=O<|B6 a3.u a6;have aq:=D9 a6 NB.u;have n4:a2.cell? (J w.heap.size 4)=C (Y D (Q o) F):=cr aq K;have am:=blt n4;simp only at am;have hz:=rY a2<|.cells #[U 9,sN,sN,U (r:Int)] 88;have Z0:=O hz;have C3:=O<|B6 C2.u<|I.alloc No a2<|.cells #[U 9,sN,sN,U (r:Int)] 88;have br:=C2.u.size;clear a6 hz aq a4 NB a3;go_wp2_with fail;generalize bs:a2.heap.size=q at*;go_loopw [15] (λa9 wr=>∃(n:Nat) (t:Option Addr) (v:Nat),n<=Q o/\a9=U (n:Int)/\Hid (I No w wr)/\Hid (wr.heap[q]?=C (.cells #[U 9,sN,Y t n v,U (r:Int)] 88 (0,0)))/\Hid (wr.ownsRow w.heap.size 3 1 (Y t n v) n<|C8<|(o.take n).map λx=>kF c b x.toNat)) (λa9 _=>Q o-(intOf a9).toNat);case atStart=>exact⟨0,none,0,wQ _,K,C3.u,Z0.u,kW _ _ _ _⟩
 case round=>
  clear Z0 C3 n4 am;obtain⟨n,t,v,hj,rfl,CR,y,A⟩:=hrel;have bt:=CR.u.size;have bq:=(aG y.u);by_cases a7:n<Q o
  .obtain⟨g2,b3,bi,bj,b2,v0⟩:=D6 (A3 HO.u CR.u λ_ _ x=>x) a7;subst b3;obtain⟨S,a,s,b0,b1,a8,ag,b8⟩:=HL.u o[n]<|mQ a7;have HT:Hid ((o.take<|n+1).map (λx=>kF c b x.toNat)=(o.take n).map (λx=>kF c b x.toNat)++[(a:Int)]):=by
    show _=_;rw[nQ a7,zY,List.map_singleton,s,tQ,a8]
   obtain⟨a5,af⟩:∃a5,a5=(o.take n).map (λx=>kF c b x.toNat):=⟨_,K⟩;rw[<-af]at A HT;clear af;have HH:Hid (∀u,I No wr u->μ η 70 #[pV d,U (S:Int)] u λs T=>s=π (U (a:Int))/\I No u T):=λu z=>by
    have:=ab.u u S (B6 CR.u z) b0 b1;rw[a8]at this;exact this
   rw[s]at v0;have d0:wr.cell? (J q 2)=C (Y t n v):=cr y.u K;have al:=I6 A.u y.u ε;unfold Γ at b2;clear s a8 b8;go_wp2_with fail;go_region_law (first
    | (refine step_append_lies _ Θ _ _ _ Θ w.heap.size 3 i0 (U 0) 1 8 ü ay b9 ba bb K W (Y t n v) n (C8 a5) Θ ((A3 A.u M.u λ_ _ x=>x).alloc _) (J G.heap.size 0) 1 1 [U (a:Int)] Θ Θ (World.news_of_block (cs:=#[U (a:Int)]) (t:=3) (fr:=(0,0))<|rY G _) (by simp [Value.oneCell']) W Ä W (by simp;omega) (G.heap.size+1) ι ?_;intro gg bg au an N ax bn;have z4:au.cell? (J q 2)=C (Y t n v):=by rw[N.cell_far _ à<|Ne.symm al];exact I9 ao zc
       have y4:au.frozen? (J q 2)=false:=by rw[N.frozen_far _ à<|Ne.symm al];exact U4 ao<|zf 2)
    |(go_simp;refine (HH.u _<|I.drewN _ _ 1).mono ?_;rintro s G ⟨rfl,hc⟩;have M:=O<|B6 (I.drewN No wr 1) hc;have L:=D9 M.u y.u;have zc:G.cell? (J q 2)=C (Y t n v):=(cr L K);have zf:=λbc=>frozen_of_row G _ bc _ _ L;have ao:=(aG L);have bo:=M.u.size;clear hc L));all_goals
    have H:=O (KL (o:=2) (n0:=w.heap.size) (w:=w) y.u W A.u ε (I.ep CR.u (λ_ _ x=>x.elim)<|vQ _) (vQ _) (B6 M.u<|I.alloc No G<|.cells #[U (a:Int)] 3) N an);clear an N ax;go_wp2_with fail;go_roundw;case rel=>exact⟨n+1,_,_,W,ç,(I.below H.u.2.2.2.1).mono λbu hk x=>W,H.u.2.2.2.2.2.1,(show World.ownsRow _ _ _ _ _ _ _ from by rw[HT.u,T4];exact H.u.2.2.2.2.1)⟩
    grind[intOf]
  .have az:n=Q o:=W;subst az;rw[vZ]at A;have bd:=A4 CR.u av.u;have b4:=blt bd;simp only at b4;have d0:wr.cell? (J q 0)=C (U 9):=cr y.u K;have d1:wr.cell? (J q 1)=C (sN):=cr y.u K;have d2:wr.cell? (J q 2)=C (Y t (Q o) v):=cr y.u K;have d3:wr.cell? (J q 3)=C (U (r:Int)):=cr y.u K;have H:Hid (∀u,I No wr u->μ η 28 #[pV e,.agg #[U 9,sN,Y t (Q o) v,U (r:Int)]] u λs T=>s=π (U (Q (tl c Z):Int))/\aW j T c d e g i h l k f (Z++[⟨9,[],o.map λx=>kF c b x.toNat,(r:Int)⟩]) b/\KG u T):=λu z=>
    RK (H0.u.y<|B6 CR.u z) ⟨9,[],o.map λx=>kF c b x.toNat,(r:Int)⟩ none t 0 0 (Q o) v (kW _ _ _ _) (by
     have:=C7 (A3 A.u z λ_ _ x=>x)<|wQ _;grind) (λ_ _ ad hg=>by grind[Value.ownBlock]) (H0.u.sw (KG.y<|B6 CR.u z) λad hg=>(A.u.lt ad hg).1) ac.u ⟨θ,ι⟩ hN;clear ab HL HO;go_wp2_with fail;go_region_with (go_at_call 28;refine(H.u _<|I.drewN _ _ 1).mono ?_;rintro s be ⟨rfl,ae,ah⟩);all_goals
    have HQ:Hid (UC j w c d e g i h l k f Z b FT (π<|U (Q (tl c Z):Int)) be):=by
     refine⟨Q (tl c Z),[⟨9,[],o.map λx=>kF c b x.toNat,(r:Int)⟩],K,ι,by grind[pY,qQ,List.length_singleton],by rw[<-pY];exact aw.u,ae,(KG.y<|B6 CR.u<|I.drewN _ _ 1).trans ah⟩
    clear ae ah;go_wp2_with fail;go_ret;exact HQ.u
end
def gZ.rk{T}{c}{b}(h:gZ T c b):gZ T (c++[-1]) (b++[none]):=by
 refine⟨by simp[h.len],λi o a=>?_⟩;by_cases d:i<Q b
 .rw[List.getElem?_append_left d]at a;have:=h.at' i o a;grind
 .rw[Ï W]at a;have e:i=Q b:=by
   have:=(À.1 a).1;simp at this;omega
  subst e;simp at a;subst a;rw[<-h.len];simp
def gZ.re{T}{c}{b}(h:gZ T c b){r}{t}(f:r<Q T)(g:tr T r=t):gZ T (c++[(r:Int)]) (b++[C t]):=by
 refine⟨by simp[h.len],λi o a=>?_⟩;by_cases d:i<Q b
 .rw[List.getElem?_append_left d]at a;have:=h.at' i o a;grind
 .rw[Ï W]at a;have e:i=Q b:=by
   have:=(À.1 a).1;simp at this;omega
  subst e;simp at a;subst a;refine⟨r,?_,f,g⟩;rw[<-h.len];simp
def pD(c){j}(h):(kA c).take (j+1)=(kA c).take j++[if c.N[j].x=6 then C (oO c c.N[j]) else none]:=by
 grind[kA,lZ,nQ]
section
variable{d w:E}{c:Cx}{b f g h:Nat}{j k e:χ}{i:Int}
def B6c(hB:dO d c b f g h j e)(a6:aW d w c b f g h j k i e [] []):
 μ η 54 #[pV b] w λab w'=>ab=rT/\∃Z n,Q Z<=Q c.N/\gZ (tl c Z) n (kA c)/\aW d w' c b f g h j k i e Z n/\KQ w w':=by
 obtain⟨oa,oc,b8,fz,q0,q1,q2,q3,q4,q5,q,qp,qo⟩:=a6.cell;have b3:=hB.ok.fp;have b4:=hB.ok.jz;obtain⟨i0,ae,ah,ai,aj⟩:=info_parts Tryz.fy;have H0:=O a6;have z:=O hB;obtain⟨na,S,a7⟩:∃na S,j=Y na (Q c.N) S:=by
  obtain⟨nx,hn,_⟩:=hB.fx a6.P;grind[B8]
 subst a7;have am:Hid (gZ (tl c []) []<|(kA c).take 0):=⟨K,λa3 ba ho=>θ⟩;go_in;go_wp2;go_loopw [11] (λa9 wr=>∃(l:Nat) (Z:List Ty) (n:uZ),l<=Q c.N/\a9=U l/\Q Z<=l/\Hid (gZ (tl c Z) n<|(kA c).take l)/\Hid (aW d wr c b f g h (Y na (Q c.N) S) k i e Z n)/\Hid (KQ w wr)) (λa9 _=>Q c.N-(intOf a9).toNat);case atStart=>exact⟨0,[],[],wQ _,K,ι,am,H0,KQ.refl _⟩
 case round=>
  obtain⟨l,Z,n,hj,rfl,hZ,s,p,HK⟩:=hrel;by_cases a2:l<Q c.N
  .obtain⟨ad,b0,P,R,a7,hg,b5,av,⟨x0,x1,x2,x3,x4,x5,x6,x7,x8⟩,au,-⟩:=(z.u.fx p.u.P).at (ë _ _) l a2;have aw:na=C (J ad 0)/\S=b0:=by
    injection a7 with e1 e2 e3;exact⟨e1,e3⟩
   obtain⟨rfl,rfl⟩:=aw;have b7:Q n<=1200:=by
    rw[s.u.len,List.length_take];omega
   have hT:=p.u.ts;have hf:=z.u.ok.ew l a2;have ar:=z.u.ok.ls l a2;have hN:Q (tl c Z)+1<=4000:=by rw[U8];omega
   have T:Hid (c.N[l].x=6->∀u,I No wr u->μ η 97 #[pV b,eE c.N[l] P R] u (UC d u c b f g h (Y (C<|J ad 0) (Q c.N) S) k i e Z n<|oO c c.N[l])):=λt u m=>by
    obtain⟨ao,ac,b2⟩:=hf.k6 t;refine vu z.u (p.u.y m) c.N[l] (λx hx=>Xa z.u.ok hT<|ao x hx) ?_ ar P R (A3 au m λ_ _ x=>x) hN;unfold wU lJ;by_cases ht:c.N[l].ty=-1
    .refine⟨Q c.T+4,W,by grind[U8],?_⟩;have:=nG hT (k:=5) W W;grind[eV,iM]
    .obtain ac|⟨a,e2,ha,_⟩:=ac
     .omega
     .refine⟨a,W,by grind[U8],?_⟩;rw[TI z.u.ok.ok ha,e2];simp
   have HT:=O<|pD c a2;unfold eE at T;generalize b6:c.N[l]=nd at*;obtain⟨N,va,vb,vc,ls,tx,vn,vt,vp⟩:=nd;simp only at*;unfold Γ at av;have A:=O<|I.alloc No wr<|aM N va vb vc (Y P (Q ls) R) tx vn vt vp;have o:=rY wr<|aM N va vb vc (Y P (Q ls) R) tx vn vt vp;have n0:=á _ _ 0 _ _ _ o;have n1:=á _ _ 1 _ _ _ o;have n2:=á _ _ 2 _ _ _ o;have n3:=á _ _ 3 _ _ _ o;have n4:=á _ _ 4 _ _ _ o;have n5:=á _ _ 5 _ _ _ o;have n6:=á _ _ 6 _ _ _ o;have n7:=á _ _ 7 _ _ _ o;have n8:=á _ _ 8 _ _ _ o;by_cases t:N=6
   .have HX:=O<|T.u t _ A.u;subst t;have aa:Hid ((kA c).take (l+1)=(kA c).take l++[C<|oO c ⟨6,va,vb,vc,ls,tx,vn,vt,vp⟩]):=HT.u;clear T HT;go_wp2_with fail;refine HX.u.mono ?_;rintro ab u ⟨x,a5,rfl,hX,af,ag,hC,hk⟩;have r:=O hC;have a4:Hid (KQ w u):=(HK.u.trans<|.y A.u).trans<|.kg hk;have an:Hid (gZ (tl c<|Z++a5) (n++[(x:Int)])<|(kA c).take<|l+1):=by
     have hm:=s.u.more p.u.ts a5;rw[pY]at hm;show gZ _ _ _;rw[aa.u];exact hm.re af ag
    have ap:Q (Z++a5)<=l+1:=by rw[qQ];omega
    clear hC hk hX af ag HX A n0 n1 n2 n3 n4 n5 n6 n7 n8 x0 x1 x2 x3 x4 x5 x6 x7 x8 aa s p HK;obtain⟨ov,ak,G,y,-⟩:=r.u.st;obtain⟨oa,oc,rfl⟩:=B8 y;have q:u.cell? (J b 6)=C (Y oa (Q n) oc):=cr G K;have a8:=blt q;simp only at a8;have ax:=r.u.P.size;have B:=O<|y.alloc<|.cells #[U (x:Int)] 3;have D:=O q;clear G y;go_wp2_with (at_builtin;go_loud (refine Ö _ K _ _ 63 K d.heap.size 3 i0 (U 0) 1 8 ü ae ah ai aj K ε _ _ _ K B.u (J u.heap.size 0) 1 1 [U (x:Int)] K K ?c1 ?c2 ?c3 ?c4 ?c5 ?_));case c1=>
     intro a3 u m;match a3,m with
     |0,m=>simp_all[Addr.add]
    case c2=>intro u m;simp at m;subst m;rfl
    case c3=>grind[Γ]
    case c4=>omega
    case c5=>simp;omega
    intro v' b1 v H _ F;obtain⟨xa,xc,rfl⟩:=B8 v;obtain⟨k0,ay,az,L,M⟩:=r.u.push D.u (I.alloc No _ _) H v F W;have K3:=O L;have K4:=O<|a4.u.trans M;clear L M v H F B q D;go_wp2_with fail;grind[intOf]
   .have g6:(N==6)=false:=by simpa using t
    have r:=O<|p.u.y A.u;have a4:Hid (KQ w _):=HK.u.trans<|.y A.u;have an:Hid (gZ (tl c Z) (n++[-1])<|(kA c).take<|l+1):=by
     show gZ _ _ _;rw[HT.u,wY t];exact s.u.rk
    have ap:Q Z<=l+1:=W;have b9:=p.u.P.size;clear T HT s t;obtain⟨ov,ak,G,y,-⟩:=r.u.st;obtain⟨oa,oc,rfl⟩:=B8 y;have q:(wr.alloc<|aM N va vb vc (Y P (Q ls) R) tx vn vt vp).cell? (J b 6)=C (Y oa (Q n) oc):=cr G K;have a8:=blt q;simp only at a8;have ax:=r.u.P.size;have B:=O<|y.alloc<|.cells #[U<|-1] 3;have D:=O q;clear G y;go_wp2_with (at_builtin;go_loud (refine Ö _ K _ _ 63 K d.heap.size 3 i0 (U 0) 1 8 ü ae ah ai aj K ε _ _ _ K B.u (J (wr.heap.size+1) 0) 1 1 [U<|-1] K K ?c1 ?c2 ?c3 ?c4 ?c5 ?_));case c1=>
     intro a3 u m;match a3,m with
     |0,m=>simp_all[Addr.add]
    case c2=>intro u m;simp at m;subst m;rfl
    case c3=>grind[Γ]
    case c4=>omega
    case c5=>simp;omega
    intro v' b1 v H _ F;obtain⟨xa,xc,rfl⟩:=B8 v;obtain⟨k0,ay,az,L,M⟩:=r.u.push D.u (I.alloc No _ _) H v F ι;have K3:=O L;have K4:=O<|a4.u.trans M;clear L M v H F B q D;go_wp2_with fail;go_roundw;case rel=>grind
    case measure=>simp[intOf];omega
  .have aq:l=Q c.N:=W;subst aq;have al:Hid (gZ (tl c Z) n<|kA c):=by
    have:(kA c).take (Q c.N)=kA c:=by
     rw[List.take_of_length_le];unfold kA;rw[lZ];omega
    have h2:=s.u;rw[this]at h2;exact h2
   clear s;go_wp2_with fail;go_end0;exact⟨K,Z,n,hZ,al.u,p.u,HK.u⟩
end
def xv(w:E)(d)(j)(k)(b)(a:b=decide (1<=d.x/\d.x<=14)):
 μ η 55 #[eE d j k] w λe t=>e=π (.bool b)/\I No w t:=by
 unfold eE;obtain⟨g,n,o,p,l,m,q,s,r⟩:=d;simp only at*;have f:=O<|I.alloc No w<|aM g n o p (Y j (Q l) k) m q s r;by_cases h:1<=g
 .by_cases i:g<=14
  .have c:b=true:=by rw[a];simp[h,i]
   subst c;clear a;go_in;go_wp2;go_ret;exact⟨K,f.u⟩
  .have c:b=false:=by rw[a];simp[i]
   subst c;clear a;go_in;go_wp2;go_ret;exact⟨K,f.u⟩
 .have c:b=false:=by rw[a];simp[h]
  subst c;clear a;go_in;go_wp2;go_ret;exact⟨K,f.u⟩
section
variable{a w:E}{c:Cx}{b d e h:Nat}{g j f:χ}{i:Int}
def zL(a w:E)(c:Cx)(b d e h:Nat)(g j:χ)(i:Int)(f:χ)(r:(Int×Nat) ⊕ Of)(l:Ending)(k:E):Prop:=KQ w k/\I (SW a b d e) a k/\match r with
 |.inl (n,o)=>l=gu n (cW c.N o)
 |.inr p=>l=rT/\∃Z m,Q Z<=3*Q c.N/\gZ (tl c Z) m p/\aW a k c b d e h g j i f Z m
def D4f{k}{n}{Z}{q}(y:dO a c b d e h g f)(B:gV c Z q n k)(l:aW a w c b d e h g j i f Z q)(v)(A:¬(1<=c.N[k].x/\c.N[k].x<=14)):
 μ η 56 #[pV b,U k] w λp o=>KQ w o/\I (SW a b d e) a o/\((∃r,kS c n k=.inl r/\p=gu r (cW c.N k))\/(kS c n k=.inr none/\p=rT/\aW a o c b d e h g j i f Z q)):=by
 have F:kS c n k=if c.N[k].x=24/\c.fn.getD k 0=-1 then .inl 4 else if Y1 c n k=true then .inr none else .inl 9:=by
  unfold kS;rw[B7 v];exact wY A
 refine(Sa y B l v W).mono ?_;rintro p o (⟨s,t,x,u⟩|⟨s,t⟩)
 .exact⟨.y u,(l.y u).P,.inl ⟨4,θ,x⟩⟩
 .rw[F,wY s];obtain⟨rfl,D,m⟩|⟨rfl,D,m,z⟩:=nI.part t
  .exact⟨.kg<|.kc<|l.kc m,l.q9 m,.inl ⟨9,θ,K⟩⟩
  .exact⟨.kg<|.kc<|l.kc m,l.q9 m,.inr ⟨θ,K,z⟩⟩
def AM{k}{n}{Z}{D}(z:dO a c b d e h g f)(L:gZ (tl c Z) D n)(A:EJ c n k)(S:uU n)(F:aW a w c b d e h g j i f Z D)(B)(H:1<=c.N[k].x/\c.N[k].x<=14)(R:Q (tl c Z)+2<=4000):
 μ η 57 #[pV b,U k] w λp o=>KG w o/\I (SW a b d e) a o/\((F6 c n k=none/\p=gu 9 (cW c.N k))\/∃(t:Tr) (x:Nat) (l:List Ty),F6 c n k=C t/\p=π (U x)/\Q l<=2/\x<Q (tl c<|Z++l)/\tr (tl c<|Z++l) x=t/\aW a o c b d e h g j i f (Z++l) D):=by
 have P:=RG z.ok F.ts L A<|vQ k;refine(Ru z P F B H (λy=>?_) R λN=>A5f z.ok A S B N).mono ?_
 .obtain⟨t,T⟩:=A.ex k B H<|.inr y;obtain⟨r,q,s,u,v⟩:=aW.look L T;exact⟨k,r,q,K,s,u,v⟩
 .intro p o m;cases M:F6 c n k with
  |none=>
   rw[M]at m;exact⟨m.2.1,m.2.2,.inl ⟨K,m.1⟩⟩
  |some t=>
   rw[M]at m;obtain⟨x,l,q,s,u,v,G,y⟩:=m;exact⟨y,G.P,.inr ⟨t,x,l,K,q,s,u,v,G⟩⟩
end
