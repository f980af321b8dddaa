/-
  A part of the proof.
-/
import Derived.Test.YtllclkcjdhoohaaGreatDoorCheckB
import Derived.Test.YtllclkcjdhoohaaGreatDoorWriteA
import Derived.Test.YtllclkcjdhoohaaGreatDoorBindD
set_option maxHeartbeats 0
set_option linter.all false
set_option maxRecDepth 100000
namespace Go.Proofs.YtllclkcjdhoohaaGreatDoor
open _root_.Array renaming size->V
open Bool renaming false->κ,true->τ
open Go renaming Value->υ,Ending->ò,Calls->μ,maxLen->Δ,info_parts->ý,frozen_of_row->æ,cell_of_row->ä,results->ã,heap_setCell_same->ð,bodyPost_ret->ç
open Ending renaming returned->π
open Obj renaming cells->γ
open Go.Proofs.Tryz renaming prog->ε
open RowKit renaming Below->á
open RowKit.Below renaming refl->ñ,heap_alloc->ÿ
open Value renaming slice->Y,ownBlock->Θ
open World renaming ownsRow->ρ,cell?->δ,news_of_block->Ó,cell?_of_block->Ë,setCell->σ,alloc->ω
open I renaming alloc->ν,drewN->Ψ,ep->ô,trans->Ã,set->é
open List renaming length->Q,length_singleton->Û,getElem?_eq_some_iff->Î,replicate->ó
open Option renaming some->C
open Go.Proofs.Tryz
open Go.RowKit Go.Maps
section
variable{e w:E}{c:Cx}{a f g h:Nat}{k m j:υ}{l:Int}{Z:List Ty}{d:uZ}{b:Of}{i:Nat}
def jF(e w:E)(c:Cx)(a f g h:Nat)(k m:υ)(l:Int)(j:υ)(Z:List Ty)(d:uZ)(i:Nat)(o:Option Tr)(p:ò)(n:E):Prop:=match o with
 |none=>p=gu 9 (cW c.N i)/\KG w n/\I (SW e a f g) e n
 |C t=>oH e w c a f g h k m l j Z d t p n
def KG.kc{n o}(p:KC n o):KG n o:=⟨p.1,λq r s t x _ _=>p.2 q r s t x⟩
def GL{u}{x}(n:I No w u)(o:aW e u c a f g h k m l j Z d)(p:x<Q (tl c Z)):oH e w c a f g h k m l j Z d (tr (tl c Z) x) (π<|U x) u:=
 ⟨x,[],K,θ,η,θ,η,KG.y n⟩
def oH.back{u o}{t}{n}(B:I No w u)(q:oH e u c a f g h k m l j Z d t n o):oH e w c a f g h k m l j Z d t n o:=by
 obtain⟨x,p,r,s,v,y,z,A⟩:=q;exact⟨x,p,r,s,v,y,z,(KG.y B).trans A⟩
def EG{u v}{o}{n}(A:I No w u)(p:aW e u c a f g h k m l j Z d)(y:vH e u c a f g h k m l j Z d i o n v):jF e w c a f g h k m l j Z d i o n v:=by
 obtain⟨q,s⟩:=y;have r:=(KG.y A).trans<|KG.kc<|p.kc q;cases o with
 |none=>exact⟨s,r,p.q9 q⟩
 |some t=>
  obtain⟨B,x,z,D,F⟩:=s;exact⟨x,[],z,θ,η,η,η,r⟩
theorem jF.part{o}{n}{s}(p:jF e w c a f g h k m l j Z d i o n s):(∃q r,n=gu q r)\/∃x:Nat,n=π (U x):=by
 cases o with
 |none=>exact .inl ⟨_,_,p.1⟩
 |some t=>
  obtain⟨x,u,v,_⟩:=p;grind
def JP(x:dO e c a f g h k j)(n:aW e w c a f g h k m l j Z d)(t)(p)(u:c.N[i].x=1/\ p=1 \/c.N[i].x=2/\ p=3 \/c.N[i].x=3/\ p=2 \/c.N[i].x=4/\ p=4):
 μ ε 111 #[pV a,U i] w (jF e w c a f g h k m l j Z d i<|F6 c b i):=by
 obtain⟨oa,oc,a6,fz,q0,q1,q2,q3,q4,q5,q6,N,qo⟩:=n.cell;obtain⟨a3,nc,G,H,A,hg,a4,z,⟨x0,x1,x2,x3,x4,x5,x6,x7,x8⟩,a2,-⟩:=(x.fx n.P).at (ñ _ _) i t;unfold Δ at z;have v:F6 c b i=C (eV p):=by
  unfold F6;rw[B7 t];obtain⟨o,rfl⟩|⟨o,rfl⟩|⟨o,rfl⟩|⟨o,rfl⟩:=u<;>simp[o]
 have r:=N p W W;have B:=nG n.ts (k:=p) W W;have y:Q c.T+p-1<Q (tl c Z):=by rw[U8];omega
 rw[v];generalize a5:c.N[i]=M at*;obtain⟨F,R,S,T,L,P,vn,vt,vp⟩:=M;simp only at*;subst A;have q:=O<|ν No w<|aM F R S T (Y G (Q L) H) P vn vt vp;have s:=O<|GL q.u (n.y q.u) y;rw[B]at s;replace r:=A4 q.u r;have D:=blt r;simp only at D;obtain⟨rfl,rfl⟩|⟨rfl,rfl⟩|⟨rfl,rfl⟩|⟨rfl,rfl⟩:=u<;>
  (go_in;go_wp2;go_ret;exact s.u)
def Ĕ(q:dO e c a f g h k j)(R:gV c Z d b i)(n:aW e w c a f g h k m l j Z d)(p)(t:c.N[i].x=7):
 μ ε 111 #[pV a,U i] w (jF e w c a f g h k m l j Z d i<|F6 c b i):=by
 have hf:=q.ok.ew i p;obtain⟨oa,oc,a8,fz,q0,q1,q2,q3,q4,q5,q6,qp,qo⟩:=n.cell;have hT:=n.ts;obtain⟨a5,nc,v,x,T,hg,a6,S,⟨x0,x1,x2,x3,x4,x5,x6,x7,x8⟩,a2,-⟩:=(q.fx n.P).at (ñ _ _) i p;unfold Δ at S;have s:F6 c b i=nD c b i:=by
  unfold F6;rw[B7 p];simp[t]
 have N:Hid (∀u,I No w u->μ ε 170 #[pV a,U i] u (jF e w c a f g h k m l j Z d i<|F6 c b i)):=λu r=>by
  rw[s];exact(Pd q R (n.y r) p W).mono λP w' o=>EG r (n.y r) o
 clear s;generalize F6 c b i=FT at*;have H0:=O n;generalize a7:c.N[i]=nd at*;obtain⟨kd,A,B,D,y,z,F,H,G⟩:=nd;simp only at*;subst t;subst T;have L:=O<|ν No w<|aM 7 A B D (Y v (Q y) x) z F H G;have nb:=rY w<|aM 7 A B D (Y v (Q y) x) z F H G;go_in;go_wp2_with fail;refine(N.u _ L.u).mono ?_;intro P a9 o;obtain⟨a3,a4,rfl⟩|⟨aa,rfl⟩:=o.part
 .exact⟨K,o⟩
 .have M:=O o;go_wp2;go_ret;exact M.u
def Ė(q:dO e c a f g h k j)(S:gV c Z d b i)(n:aW e w c a f g h k m l j Z d)(p)(t:c.N[i].x=8):
 μ ε 111 #[pV a,U i] w (jF e w c a f g h k m l j Z d i<|F6 c b i):=by
 have T:=q.ok.ew i p;obtain⟨oa,oc,ae,fz,q0,q1,q2,q3,q4,q5,q6,qp,qo⟩:=n.cell;have hT:=n.ts;obtain⟨ab,nc,x,y,a3,hg,ac,a2,⟨x0,x1,x2,x3,x4,x5,x6,x7,x8⟩,a8,-⟩:=(q.fx n.P).at (ñ _ _) i p;unfold Δ at a2;have s:F6 c b i=N9 b c.N[i]:=by
  unfold F6;rw[B7 p];simp[t]
 obtain⟨a6,a7,hp,v,hr,a4,a5⟩:=S.pe _ (T.k1 W);have P:Hid (∀u,I No w u->μ ε 149 #[pV a,U i] u (jF e w c a f g h k m l j Z d i<|F6 c b i)):=λu r=>by
  rw[s];exact(XP q (n.y r) i p a6 hp v a7 hr a4 a5.symm).mono λR w' o=>EG r (n.y r) o
 clear s v;generalize F6 c b i=FT at*;have H0:=O n;generalize ad:c.N[i]=nd at*;obtain⟨kd,B,D,F,z,A,G,L,H⟩:=nd;simp only at*;subst t;subst a3;have M:=O<|ν No w<|aM 8 B D F (Y x (Q z) y) A G L H;have nb:=rY w<|aM 8 B D F (Y x (Q z) y) A G L H;go_in;go_wp2_with fail;refine(P.u _ M.u).mono ?_;intro R af o;obtain⟨a9,aa,rfl⟩|⟨ag,rfl⟩:=o.part
 .exact⟨K,o⟩
 .have N:=O o;go_wp2;go_ret;exact N.u
def Ę(q:dO e c a f g h k j)(t:gV c Z d b i)(n:aW e w c a f g h k m l j Z d)(p)(x:c.N[i].x=9):
 μ ε 111 #[pV a,U i] w (jF e w c a f g h k m l j Z d i<|F6 c b i):=by
 have v:=q.ok.ew i p;obtain⟨oa,oc,aj,fz,q0,q1,q2,q3,q4,q5,q6,qp,qo⟩:=n.cell;have hT:=n.ts;obtain⟨ag,nc,A,B,a4,hg,ah,a3,⟨x0,x1,x2,x3,x4,x5,x6,x7,x8⟩,ad,-⟩:=(q.fx n.P).at (ñ _ _) i p;unfold Δ at a3;have s:F6 c b i=M3 b c.N[i]:=by
  unfold F6;rw[B7 p];simp[x]
 obtain⟨ab,ac,hp,y,hr,a7,a9⟩:=t.pe _ (v.k2 W).1;obtain⟨p',r',a5,z,a6,a8,aa⟩:=t.pe _ (v.k2 W).2;have T:Hid (∀u,I No w u->μ ε 150 #[pV a,U i] u (jF e w c a f g h k m l j Z d i<|F6 c b i)):=λu r=>by
  rw[s];exact(YV q (n.y r) i p ab hp y ac hr a7 a9.symm p' a5 z r' a6 a8 aa.symm).mono λa2 w' o=>EG r (n.y r) o
 clear s y z;generalize F6 c b i=FT at*;have H0:=O n;generalize ai:c.N[i]=nd at*;obtain⟨kd,G,H,L,D,F,M,P,N⟩:=nd;simp only at*;subst x;subst a4;have R:=O<|ν No w<|aM 9 G H L (Y A (Q D) B) F M P N;have nb:=rY w<|aM 9 G H L (Y A (Q D) B) F M P N;go_in;go_wp2_with fail;refine(T.u _ R.u).mono ?_;intro a2 ak o;obtain⟨ae,af,rfl⟩|⟨al,rfl⟩:=o.part
 .exact⟨K,o⟩
 .have S:=O o;go_wp2;go_ret;exact S.u
def Ul(q:dO e c a f g h k j)(t:gV c Z d b i)(n:aW e w c a f g h k m l j Z d)(p)(x:c.N[i].x=12):
 μ ε 111 #[pV a,U i] w (jF e w c a f g h k m l j Z d i<|F6 c b i):=by
 have v:=q.ok.ew i p;obtain⟨oa,oc,a9,fz,q0,q1,q2,q3,q4,q5,q6,qp,qo⟩:=n.cell;have hT:=n.ts;obtain⟨a6,nc,y,z,a2,hg,a7,T,⟨x0,x1,x2,x3,x4,x5,x6,x7,x8⟩,a3,-⟩:=(q.fx n.P).at (ñ _ _) i p;unfold Δ at T;have s:F6 c b i=uR b c.N[i]:=by
  unfold F6;rw[B7 p];simp[x]
 have R:Hid (∀u,I No w u->μ ε 173 #[pV a,U i] u (jF e w c a f g h k m l j Z d i<|F6 c b i)):=λu r=>by
  rw[s];exact(D2f q (n.y r) i p (t.pe _ (v.k2 W).1)<|t.pe _ (v.k2 W).2).mono λS w' o=>EG r (n.y r) o
 clear s;generalize F6 c b i=FT at*;have H0:=O n;generalize a8:c.N[i]=nd at*;obtain⟨kd,D,F,G,A,B,H,M,L⟩:=nd;simp only at*;subst x;subst a2;have N:=O<|ν No w<|aM 12 D F G (Y y (Q A) z) B H M L;have nb:=rY w<|aM 12 D F G (Y y (Q A) z) B H M L;go_in;go_wp2_with fail;refine(R.u _ N.u).mono ?_;intro S aa o;obtain⟨a4,a5,rfl⟩|⟨ab,rfl⟩:=o.part
 .exact⟨K,o⟩
 .have P:=O o;go_wp2;go_ret;exact P.u
def Um(q:dO e c a f g h k j)(R:gV c Z d b i)(n:aW e w c a f g h k m l j Z d)(p)(t:c.N[i].x=13):
 μ ε 111 #[pV a,U i] w (jF e w c a f g h k m l j Z d i<|F6 c b i):=by
 have S:=q.ok.ew i p;obtain⟨oa,oc,a9,fz,q0,q1,q2,q3,q4,q5,q6,qp,qo⟩:=n.cell;have hT:=n.ts;obtain⟨a6,nc,v,x,a2,hg,a7,T,⟨x0,x1,x2,x3,x4,x5,x6,x7,x8⟩,a3,-⟩:=(q.fx n.P).at (ñ _ _) i p;unfold Δ at T;have s:F6 c b i=uL b c.N[i]:=by
  unfold F6;rw[B7 p];simp[t]
 have N:Hid (∀u,I No w u->μ ε 174 #[pV a,U i] u (jF e w c a f g h k m l j Z d i<|F6 c b i)):=λu r=>by
  rw[s];exact(ŭ q (n.y r) i p<|R.pe _<|S.k1 W).mono λP w' o=>EG r (n.y r) o
 clear s;generalize F6 c b i=FT at*;have H0:=O n;generalize a8:c.N[i]=nd at*;obtain⟨kd,A,B,D,y,z,F,H,G⟩:=nd;simp only at*;subst t;subst a2;have L:=O<|ν No w<|aM 13 A B D (Y v (Q y) x) z F H G;have nb:=rY w<|aM 13 A B D (Y v (Q y) x) z F H G;go_in;go_wp2_with fail;refine(N.u _ L.u).mono ?_;intro P aa o;obtain⟨a4,a5,rfl⟩|⟨ab,rfl⟩:=o.part
 .exact⟨K,o⟩
 .have M:=O o;go_wp2;go_ret;exact M.u
def č(o:dO e c a f g h k j)(hL:gV c Z d b i)(n:aW e w c a f g h k m l j Z d)(q)(t:c.N[i].x=5):
 μ ε 111 #[pV a,U i] w (jF e w c a f g h k m l j Z d i<|F6 c b i):=by
 have hf:=o.ok.ew i q;obtain⟨oa,oc,af,fz,q0,q1,q2,q3,x,q5,q6,qp,qo⟩:=n.cell;have hT:=n.ts;have ab:=o.ok.fp;obtain⟨aa,nc,z,A,a7,hg,ad,a6,⟨x0,x1,x2,x3,x4,x5,x6,x7,x8⟩,a9,-⟩:=(o.fx n.P).at (ñ _ _) i q;unfold Δ at a6;have R:F6 c b i=C (Z5 c b<|c.ts.getD i 0):=by
  unfold F6;rw[B7 q];simp[t]
 obtain⟨v,a0,hj,a5,ag,a2,a3,a4⟩:=hL.has _<|o.ok.mw.tg i q<|.inl t;have S:Hid (∀u,I No w u->(Instr.lookup 64 (.map<|C h) (U i) κ).run ε u=.ok (U v) u):=λu p=>by
  have hm:=(o.nm (n.y p).P).get i W;rw[hm];unfold lS;grind
 have HX:Hid (∀u,I No w u->μ ε 148 #[pV a,U v] u λs P=>s=π (U a0)/\oH e w c a f g h k m l j Z d (Z5 c b<|c.ts.getD i 0) (π<|U a0) P):=λu p=>by
  refine(OD o (n.y p) v a5 a4).mono ?_;rintro s P ⟨rfl,y⟩;refine⟨η,?_⟩;rw[<-a3];exact GL (B6 p y) (n.y<|B6 p y) a2
 rw[R];have H0:=O n;generalize ae:c.N[i]=nd at*;obtain⟨kd,F,G,H,B,D,L,N,M⟩:=nd;simp only at*;subst t;subst a7;have r:=O<|ν No w<|aM 5 F G H (Y z (Q B) A) D L N M;have nb:=rY w<|aM 5 F G H (Y z (Q B) A) D L N M;have ac:=S.u _ r.u;replace x:=A4 r.u x;have a8:=blt x;simp only at a8;go_in;go_wp2_with fail;refine(HX.u _ r.u).mono ?_;rintro s ah ⟨rfl,hq⟩;have T:=O hq;go_wp2;go_ret;exact T.u
def đ(u:dO e c a f g h k j)(_hL:gV c Z d b i)(n:aW e w c a f g h k m l j Z d)(r)(v:c.N[i].x=6)(y:Lk c Z d b i):
 μ ε 111 #[pV a,U i] w (jF e w c a f g h k m l j Z d i<|F6 c b i):=by
 have hf:=u.ok.ew i r;obtain⟨oa,oc,aa,fz,q0,q1,q2,q3,q4,q5,s,qp,qo⟩:=n.cell;have hT:=n.ts;obtain⟨a4,nc,P,R,B,hg,a5,A,⟨x0,x1,x2,x3,x4,x5,x6,x7,x8⟩,a2,-⟩:=(u.fx n.P).at (ñ _ _) i r;unfold Δ at A;have x:F6 c b i=C (bB b i):=by
  unfold F6;rw[B7 r];simp[v]
 obtain⟨p,ab,G,a3,L,M,N⟩:=y;obtain rfl:i=p:=W;obtain⟨go,F,a7,a8,a9,D,q,-⟩:=qo i G;subst F;rw[L]at q;unfold Δ at D;rw[x];have H0:=O n;generalize a6:c.N[i]=T at*;obtain⟨kd,va,vb,vc,S,tx,vn,vt,vp⟩:=T;simp only at*;subst v;subst B;have o:=O<|ν No w<|aM 6 va vb vc (Y P (Q S) R) tx vn vt vp;have t:=O<|GL o.u (n.y o.u) M;rw[N]at t;replace s:=A4 o.u s;replace q:=A4 o.u q;have H:=blt s;have z:=blt q;simp only at H z;go_in;go_wp2;go_ret;exact t.u
def Uq(r:dO e c a f g h k j)(P:gV c Z d b i)(n:aW e w c a f g h k m l j Z d)(p)(q:c.N[i].x=14):
 μ ε 111 #[pV a,U i] w (jF e w c a f g h k m l j Z d i<|F6 c b i):=by
 have S:=r.ok.ew i p;obtain⟨oa,oc,a8,fz,q0,q1,q2,q3,q4,q5,q6,qp,qo⟩:=n.cell;have hT:=n.ts;obtain⟨a5,nc,t,v,a2,hg,a6,T,⟨x0,x1,x2,x3,x4,x5,x6,x7,x8⟩,a4,-⟩:=(r.fx n.P).at (ñ _ _) i p;unfold Δ at T;have H:F6 c b i=C (tr c.T c.N[i].ty.toNat):=by
  unfold F6;rw[B7 p];simp[q]
 obtain⟨o,N,R,a3⟩:=P.wt _ (S.l6 q).2;rw[H,<-a3];have M:Hid (∀u,I No w u->oH e w c a f g h k m l j Z d (tr (tl c Z) o) (π<|U o) u):=λu s=>GL s (n.y s) R;rw[N]at x7;have H0:=O n;generalize a7:c.N[i]=nd at*;obtain⟨kd,z,A,B,x,y,D,vt,F⟩:=nd;simp only at*;subst q;subst a2;have G:=O<|ν No w<|aM 14 z A B (Y t (Q x) v) y D o F;have nb:=rY w<|aM 14 z A B (Y t (Q x) v) y D o F;have L:=O<|M.u _ G.u;go_in;go_wp2;go_ret;exact L.u
def Uh(p:dO e c a f g h k j)(hL:gV c Z d b i)(o:aW e w c a f g h k m l j Z d)(s)(q:c.N[i].x=10)(hN:Q (tl c Z)+2<=4000):
 μ ε 111 #[pV a,U i] w (jF e w c a f g h k m l j Z d i<|F6 c b i):=by
 have A:=p.ok.ew i s;obtain⟨oa,oc,af,fz,q0,q1,q2,q3,q4,q5,q6,qp,qo⟩:=o.cell;have hT:=o.ts;obtain⟨aa,nc,v,y,a4,hg,ad,a3,⟨x0,x1,x2,x3,x4,x5,x6,x7,x8⟩,a2,-⟩:=(p.fx o.P).at (ñ _ _) i s;unfold Δ at a3;have D:F6 c b i=C (DK c.N b c.N[i]):=by
  unfold F6;rw[B7 s];simp[q]
 have F:∀x∈c.N[i].M,∃n:Nat,x=n/\∃t:n<Q c.N,Lk c Z d b c.N[n].a/\S6 c.N[n].text:=λx L=>by
  obtain⟨n,rfl,ab,t,ac⟩:=(A.mz q).1 x L;have H:=(A.mz q).2.2 n L;rw[B7 t]at H;obtain⟨a7,z,hy,a6,a5⟩:=(p.ok.ew n t).k1 W;exact⟨n,K,t,hL.pe _ ⟨a7,z,W,a6,a5⟩,H⟩
 have G:Hid (∀u,I No w u->μ ε 171 #[pV a,eE c.N[i] v y] u (jF e w c a f g h k m l j Z d i<|F6 c b i)):=λu B=>by
  rw[D];exact(vw p (o.y B) c.N[i] F (A.mz q).2.1 (p.ok.ls i s) v y (A3 a2 B Ξ) W).mono λz w' r=>oH.back B r
 clear D F;generalize F6 c b i=FT at*;unfold eE at G;have H0:=O o;generalize ae:c.N[i]=nd at*;obtain⟨kd,P,R,S,M,N,T,vt,vp⟩:=nd;simp only at*;subst q;subst a4;have A1:=O<|ν No w<|aM 10 P R S (Y v (Q M) y) N T vt vp;have nb:=rY w<|aM 10 P R S (Y v (Q M) y) N T vt vp;go_in;go_wp2_with fail;refine(G.u _ A1.u).mono ?_;intro z ag r;obtain⟨a8,a9,rfl⟩|⟨x,rfl⟩:=r.part
 .exact⟨K,r⟩
 .have HQ:=O r;go_wp2;go_ret;exact HQ.u
def Uj(s:dO e c a f g h k j)(hL:gV c Z d b i)(n:aW e w c a f g h k m l j Z d)(p)(t:c.N[i].x=11)(hN:Q (tl c Z)+2<=4000)(A:dW (c.N[i].M.map<|bB b)<=25000000):
 μ ε 111 #[pV a,U i] w (jF e w c a f g h k m l j Z d i<|F6 c b i):=by
 have hf:=s.ok.ew i p;obtain⟨oa,oc,a9,fz,q0,q1,q2,q3,q4,q5,q6,qp,qo⟩:=n.cell;have hT:=n.ts;obtain⟨a6,nc,q,r,a3,hg,a7,a2,⟨x0,x1,x2,x3,x4,x5,x6,x7,x8⟩,R,-⟩:=(s.fx n.P).at (ñ _ _) i p;unfold Δ at a2;have y:F6 c b i=C (BL b c.N[i]):=by
  unfold F6;rw[B7 p];simp[t]
 have z:Hid (∀u,I No w u->μ ε 172 #[pV a,eE c.N[i] q r] u (jF e w c a f g h k m l j Z d i<|F6 c b i)):=λu v=>by
  rw[y];exact(xo (n.y v) c.N[i] (λx hx=>hL.pe x<|hf.ny t x hx) (s.ok.ls i p) q r (A3 R v Ξ) A hN).mono λT w' o=>oH.back v o
 clear y A;generalize F6 c b i=FT at*;unfold eE at z;have H0:=O n;generalize a8:c.N[i]=nd at*;obtain⟨kd,F,G,H,B,D,L,N,M⟩:=nd;simp only at*;subst t;subst a3;have P:=O<|ν No w<|aM 11 F G H (Y q (Q B) r) D L N M;have nb:=rY w<|aM 11 F G H (Y q (Q B) r) D L N M;go_in;go_wp2_with fail;refine(z.u _ P.u).mono ?_;intro T aa o;obtain⟨a4,a5,rfl⟩|⟨x,rfl⟩:=o.part
 .exact⟨K,o⟩
 .have S:=O o;go_wp2;go_ret;exact S.u
def Ru(p:dO e c a f g h k j)(r:gV c Z d b i)(o:aW e w c a f g h k m l j Z d)(q)(u:aP c.N[i].x)(t:c.N[i].x=6->Lk c Z d b i)(s:Q (tl c Z)+2<=4000)(v:c.N[i].x=11->dW (c.N[i].M.map<|bB b)<=25000000):
 μ ε 111 #[pV a,U i] w (jF e w c a f g h k m l j Z d i<|F6 c b i):=by
 obtain⟨x,y⟩:=u;have:c.N[i].x=1\/c.N[i].x=2\/c.N[i].x=3\/c.N[i].x=4\/c.N[i].x=5\/c.N[i].x=6\/c.N[i].x=7\/c.N[i].x=8\/c.N[i].x=9\/c.N[i].x=10\/c.N[i].x=11\/c.N[i].x=12\/c.N[i].x=13\/c.N[i].x=14:=W;obtain n|n|n|n|n|n|n|n|n|n|n|n|n|n:=this
 .exact JP p o q 1<|.inl ⟨n,K⟩
 .exact JP p o q 3<|.inr<|.inl ⟨n,K⟩
 .exact JP p o q 2<|.inr<|.inr<|.inl ⟨n,K⟩
 .exact JP p o q 4<|.inr<|.inr<|.inr ⟨n,K⟩
 .exact č p r o q n
 .exact đ p r o q n<|t n
 .exact Ĕ p r o q n
 .exact Ė p r o q n
 .exact Ę p r o q n
 .exact Uh p r o q n s
 .exact Uj p r o q n s<|v n
 .exact Ul p r o q n
 .exact Um p r o q n
 .exact Uq p r o q n
end
section
variable{j w:E}{c:Cx}{d e g i:Nat}{h l f:υ}{k:Int}{Z:List Ty}{b:uZ}{m:Of}
def UC(j w:E)(c:Cx)(d e g i:Nat)(h l:υ)(k:Int)(f:υ)(Z:List Ty)(b:uZ)(t:Tr)(o:ò)(n:E):Prop:=
 ∃(x:Nat) (a:List Ty),o=π (U x)/\Q a<=1/\x<Q (tl c<|Z++a)/\tr (tl c<|Z++a) x=t/\aW j n c d e g i h l k f (Z++a) b/\KG w n
def ZS(c:Cx)(Z:List Ty)(b:uZ)(x:Int):Prop:=∃(n a:Nat),x=n/\n<Q c.N/\(aA c.N n).x=16/\kF c b n=a/\a<Q (tl c Z)/\tr (tl c Z) a=Z5 c [] x
def Xa(p:jG c)(u:aX<|tl c Z){z}{x}(t:Pk c.N z 16 x):ZS c Z b x:=by
 obtain⟨n,rfl,_,o,v⟩:=t;have s:=B7 o;have r:(aA c.N n).x=16:=by rw[s];exact v
 have q:=pW p n;by_cases y:(aA c.N n).ty=-1
 .refine⟨n,Q c.T+4,K,o,r,?_,by grind[U8],?_⟩
  .simp_all[kF,wY]
  .have:=nG u (k:=5) W W;simp_all[Z5,wY,eV,iM]
 .obtain q|⟨a,e2,ha,_⟩:=q
  .omega
  .refine⟨n,a,K,o,r,?_,by grind[U8],?_⟩
   .simp_all[kF,yY]
   .unfold Z5;rw[yY y,TI p.ok ha,e2];rfl
def vu(hB:dO j c d e g i h f)(B:aW j w c d e g i h l k f Z b)(p)(P:∀ x∈p.M,ZS c Z b x)(b7:∃ a:Nat,wU c p=a/\ a<Q (tl c Z)/\ tr (tl c Z) a=lJ c.T p)(hn:Q p.M<=1200)(D)(F)(ai:ρ w 0 3 1 (Y D (Q p.M) F) (Q p.M)<|C8 p.M)(hN:Q (tl c Z)+1<=4000):
 μ ε 168 #[pV d,eE p D F] w (UC j w c d e g i h l k f Z b<|oO c p):=by
 obtain⟨r,b5,b6,ap⟩:=b7;have a4:Hid (∀u,I No w u->_):=λu z=>VZ (B.y z) p D F;rw[b5]at a4;have aa:Hid (oO c p=.nd 9 [] (tr (tl c Z) r::p.M.map (Z5 c []))):=by
  show _=_;unfold oO;rw[ap]
 unfold eE at*;generalize oO c p=FT at*;obtain⟨kd,va,vb,vc,o,tx,vn,vt,vp⟩:=p;simp only at*;obtain⟨i0,ay,b9,ba,bb⟩:=ý Tryz.fy;have hT:=B.ts;have H0:=O B;have HO:=O ai;have HL:=O P;have ab:Hid (∀u n,I No w u->n<Q c.N->(aA c.N n).x=16->_):=λu n z hj hk=>OD hB (B.y z) n hj (λ_ bh=>W);have aj:∀n,n<=Q o->∀x∈((o.take n).map λx=>kF c b x.toNat),0<=x/\x<(Q (tl c Z):Int):=λn _ x R=>by
  obtain⟨bf,hy,rfl⟩:=kZ.1 R;obtain⟨S,a,rfl,_,_,ha,ag,_⟩:=P bf<|List.mem_of_mem_take hy;grind
 have ak:(o.map λx=>kF c b x.toNat).map (λx=>tr (tl c Z) x.toNat)=o.map (Z5 c []):=by
  rw[List.map_map];refine List.map_congr_left λx R=>?_;obtain⟨S,a,rfl,_,_,ha,ag,ht⟩:=P x R;simp only[Function.comp_apply,tQ,ha];exact ht
 have ac:Hid (eJ ⟨9,[],o.map λx=>kF c b x.toNat,(r:Int)⟩ (Q (tl c Z))):=.inr (.inr<|.inr<|.inl ⟨K,K,Int.natCast_nonneg r,Int.ofNat_lt.2 b6,λx R=>aj (Q o) (vQ _) x η⟩);have aw:Hid (tr (tl c Z++[⟨9,[],o.map λx=>kF c b x.toNat,(r:Int)⟩]) (Q (tl c Z))=FT):=by
  show _=_;rw[wG hT ac.u,aa.u,<-ak];simp
 obtain⟨oa,oc,bp,fz,q0,q1,q2,q3,q4,q5,q6,qp,qo⟩:=B.cell;have av:=O q3;have A1:=ν No w<|aM kd va vb vc (Y D (Q o) F) tx vn vt vp;have nb:=rY w<|aM kd va vb vc (Y D (Q o) F) tx vn vt vp;have a3:=O A1;have NB:=O nb;clear B ai P aj ak ap qp qo q0 q1 q2 q3 q4 q5 q6 fz A1 nb hB hT aa;go_in;go_wp2_with fail;refine(a4.u _ a3.u).mono ?_;rintro s a2 ⟨rfl,a6⟩;have C2:=O<|B6 a3.u a6;have aq:=D9 a6 NB.u;have n4:δ a2 (J (V w.heap) 4)=C (Y D (Q o) F):=cr aq K;have am:=blt n4;simp only at am;have hz:=rY a2<|γ #[U 9,sN,sN,U (r:Int)] 99;have Z0:=O hz;have C3:=O<|B6 C2.u<|ν No a2<|γ #[U 9,sN,sN,U (r:Int)] 99;have br:=C2.u.size;clear a6 hz aq a4 NB a3;go_wp2_with fail;generalize bs:V a2.heap=q at*;go_loopw [15] (λa9 wr=>∃(n:Nat) (t:Option Addr) (v:Nat),n<=Q o/\a9=U (n:Int)/\Hid (I No w wr)/\Hid (wr.heap[q]?=C (γ #[U 9,sN,Y t n v,U (r:Int)] 99 (0,0)))/\Hid (wr.ownsRow (V w.heap) 3 1 (Y t n v) n<|C8<|(o.take n).map λx=>kF c b x.toNat)) (λa9 _=>Q o-(intOf a9).toNat);case atStart=>exact⟨0,none,0,wQ _,K,C3.u,Z0.u,kW _ _ _ _⟩
 case round=>
  clear Z0 C3 n4 am;obtain⟨n,t,v,hj,rfl,CR,y,A⟩:=hrel;have bt:=CR.u.size;have bq:=(aG y.u);by_cases a7:n<Q o
  .obtain⟨g2,b3,bi,bj,b2,v0⟩:=D6 (A3 HO.u CR.u Ξ) a7;subst b3;obtain⟨S,a,s,b0,b1,a8,ag,b8⟩:=HL.u o[n]<|mQ a7;have HT:Hid ((o.take<|n+1).map (λx=>kF c b x.toNat)=(o.take n).map (λx=>kF c b x.toNat)++[(a:Int)]):=by
    show _=_;rw[nQ a7,zY,List.map_singleton,s,tQ,a8]
   obtain⟨a5,af⟩:∃a5,a5=(o.take n).map (λx=>kF c b x.toNat):=⟨_,K⟩;rw[<-af]at A HT;clear af;have HH:Hid (∀u,I No wr u->μ ε 148 #[pV d,U (S:Int)] u λs T=>s=π (U (a:Int))/\I No u T):=λu z=>by
    have:=ab.u u S (B6 CR.u z) b0 b1;rw[a8]at this;exact this
   rw[s]at v0;have d0:wr.cell? (J q 2)=C (Y t n v):=cr y.u K;have al:=I6 A.u y.u ζ;unfold Δ at b2;clear s a8 b8;go_wp2_with fail;go_region_law (first
    | (refine step_append_lies _ Ω _ _ _ Ω (V w.heap) 3 i0 (U 0) 1 8 underlying80 ay b9 ba bb K W (Y t n v) n (C8 a5) Ω ((A3 A.u M.u λ_ _ x=>x).alloc _) (J (V G.heap) 0) 1 1 [U (a:Int)] Ω Ω (Ó (cs:=#[U (a:Int)]) (t:=3) (fr:=(0,0))<|rY G _) (by simp [Value.oneCell']) W Ñ W (by simp;omega) (V G.heap+1) θ ?_;intro gg bg au an N ax bn;have z4:δ au (J q 2)=C (Y t n v):=by rw[N.cell_far _ â<|Ne.symm al];exact I9 ao zc
       have y4:au.frozen? (J q 2)=κ:=by rw[N.frozen_far _ â<|Ne.symm al];exact U4 ao<|zf 2)
    |(go_simp;refine (HH.u _<|Ψ _ _ 1).mono ?_;rintro s G ⟨rfl,hc⟩;have M:=O<|B6 (Ψ No wr 1) hc;have L:=D9 M.u y.u;have zc:G.cell? (J q 2)=C (Y t n v):=(cr L K);have zf:=λbc=>æ G _ bc _ _ L;have ao:=(aG L);have bo:=M.u.size;clear hc L));all_goals
    have H:=O (KL (o:=2) (n0:=V w.heap) (w:=w) y.u W A.u ζ (ô CR.u å<|vQ _) (vQ _) (B6 M.u<|ν No G<|γ #[U (a:Int)] 3) N an);clear an N ax;go_wp2_with fail;go_roundw;case rel=>exact⟨n+1,_,_,W,ï,(I.below H.u.2.2.2.1).mono λbu hk x=>W,H.u.2.2.2.2.2.1,(show ρ _ _ _ _ _ _ _ from by rw[HT.u,T4];exact H.u.2.2.2.2.1)⟩
    grind[intOf]
  .have az:n=Q o:=W;subst az;rw[vZ]at A;have bd:=A4 CR.u av.u;have b4:=blt bd;simp only at b4;have d0:wr.cell? (J q 0)=C (U 9):=cr y.u K;have d1:wr.cell? (J q 1)=C (sN):=cr y.u K;have d2:wr.cell? (J q 2)=C (Y t (Q o) v):=cr y.u K;have d3:wr.cell? (J q 3)=C (U (r:Int)):=cr y.u K;have H:Hid (∀u,I No wr u->μ ε 58 #[pV e,.agg #[U 9,sN,Y t (Q o) v,U (r:Int)]] u λs T=>s=π (U (Q (tl c Z):Int))/\aW j T c d e g i h l k f (Z++[⟨9,[],o.map λx=>kF c b x.toNat,(r:Int)⟩]) b/\KG u T):=λu z=>
    RK (H0.u.y<|B6 CR.u z) ⟨9,[],o.map λx=>kF c b x.toNat,(r:Int)⟩ none t 0 0 (Q o) v (kW _ _ _ _) (by
     have:=C7 (A3 A.u z Ξ)<|wQ _;grind) (λ_ _ ad hg=>by grind[Θ]) (H0.u.sw (KG.y<|B6 CR.u z) λad hg=>(A.u.lt ad hg).1) ac.u ⟨η,θ⟩ hN;clear ab HL HO;go_wp2_with fail;go_region_with (go_at_call 58;refine(H.u _<|Ψ _ _ 1).mono ?_;rintro s be ⟨rfl,ae,ah⟩);all_goals
    have HQ:Hid (UC j w c d e g i h l k f Z b FT (π<|U (Q (tl c Z):Int)) be):=by
     refine⟨Q (tl c Z),[⟨9,[],o.map λx=>kF c b x.toNat,(r:Int)⟩],K,θ,by grind[pY,qQ,Û],by rw[<-pY];exact aw.u,ae,(KG.y<|B6 CR.u<|Ψ _ _ 1).trans ah⟩
    clear ae ah;go_wp2_with fail;go_ret;exact HQ.u
end
def gZ.rk{T}{c}{b}(h:gZ T c b):gZ T (c++[-1]) (b++[none]):=by
 refine⟨by simp[h.len],λi o a=>?_⟩;by_cases d:i<Q b
 .rw[List.getElem?_append_left d]at a;have:=h.at' i o a;grind
 .rw[List.getElem?_append_right W]at a;have e:i=Q b:=by
   have:=(Î.1 a).1;simp at this;omega
  subst e;simp at a;subst a;rw[<-h.len];simp
def gZ.re{T}{c}{b}(h:gZ T c b){r}{t}(f:r<Q T)(g:tr T r=t):gZ T (c++[(r:Int)]) (b++[C t]):=by
 refine⟨by simp[h.len],λi o a=>?_⟩;by_cases d:i<Q b
 .rw[List.getElem?_append_left d]at a;have:=h.at' i o a;grind
 .rw[List.getElem?_append_right W]at a;have e:i=Q b:=by
   have:=(Î.1 a).1;simp at this;omega
  subst e;simp at a;subst a;refine⟨r,?_,f,g⟩;rw[<-h.len];simp
def pD(c){j}(h):(kA c).take (j+1)=(kA c).take j++[if c.N[j].x=6 then C (oO c c.N[j]) else none]:=by
 grind[kA,lZ,nQ]
section
variable{d w:E}{c:Cx}{b f g h:Nat}{j k e:υ}{i:Int}
def B6c(hB:dO d c b f g h j e)(a6:aW d w c b f g h j k i e [] []):
 μ ε 108 #[pV b] w λab w'=>ab=rT/\∃Z n,Q Z<=Q c.N/\gZ (tl c Z) n (kA c)/\aW d w' c b f g h j k i e Z n/\KQ w w':=by
 obtain⟨oa,oc,b8,fz,q0,q1,q2,q3,q4,q5,q,qp,qo⟩:=a6.cell;have b3:=hB.ok.fp;have b4:=hB.ok.jz;obtain⟨i0,ae,ah,ai,aj⟩:=ý Tryz.fy;have H0:=O a6;have z:=O hB;obtain⟨na,S,a7⟩:∃na S,j=Y na (Q c.N) S:=by
  obtain⟨nx,hn,_⟩:=hB.fx a6.P;grind[B8]
 subst a7;have am:Hid (gZ (tl c []) []<|(kA c).take 0):=⟨K,λa3 ba ho=>η⟩;go_in;go_wp2;go_loopw [11] (λa9 wr=>∃(l:Nat) (Z:List Ty) (n:uZ),l<=Q c.N/\a9=U l/\Q Z<=l/\Hid (gZ (tl c Z) n<|(kA c).take l)/\Hid (aW d wr c b f g h (Y na (Q c.N) S) k i e Z n)/\Hid (KQ w wr)) (λa9 _=>Q c.N-(intOf a9).toNat);case atStart=>exact⟨0,[],[],wQ _,K,θ,am,H0,KQ.refl _⟩
 case round=>
  obtain⟨l,Z,n,hj,rfl,hZ,s,p,HK⟩:=hrel;by_cases a2:l<Q c.N
  .obtain⟨ad,b0,P,R,a7,hg,b5,av,⟨x0,x1,x2,x3,x4,x5,x6,x7,x8⟩,au,-⟩:=(z.u.fx p.u.P).at (ñ _ _) l a2;have aw:na=C (J ad 0)/\S=b0:=by
    injection a7 with e1 e2 e3;exact⟨e1,e3⟩
   obtain⟨rfl,rfl⟩:=aw;have b7:Q n<=1200:=by
    rw[s.u.len,List.length_take];omega
   have hT:=p.u.ts;have hf:=z.u.ok.ew l a2;have ar:=z.u.ok.ls l a2;have hN:Q (tl c Z)+1<=4000:=by rw[U8];omega
   have T:Hid (c.N[l].x=6->∀u,I No wr u->μ ε 168 #[pV b,eE c.N[l] P R] u (UC d u c b f g h (Y (C<|J ad 0) (Q c.N) S) k i e Z n<|oO c c.N[l])):=λt u m=>by
    obtain⟨ao,ac,b2⟩:=hf.k6 t;refine vu z.u (p.u.y m) c.N[l] (λx hx=>Xa z.u.ok hT<|ao x hx) ?_ ar P R (A3 au m Ξ) hN;unfold wU lJ;by_cases ht:c.N[l].ty=-1
    .refine⟨Q c.T+4,W,by grind[U8],?_⟩;have:=nG hT (k:=5) W W;grind[eV,iM]
    .obtain ac|⟨a,e2,ha,_⟩:=ac
     .omega
     .refine⟨a,W,by grind[U8],?_⟩;rw[TI z.u.ok.ok ha,e2];simp
   have HT:=O<|pD c a2;unfold eE at T;generalize b6:c.N[l]=nd at*;obtain⟨N,va,vb,vc,ls,tx,vn,vt,vp⟩:=nd;simp only at*;unfold Δ at av;have A:=O<|ν No wr<|aM N va vb vc (Y P (Q ls) R) tx vn vt vp;have o:=rY wr<|aM N va vb vc (Y P (Q ls) R) tx vn vt vp;have n0:=ä _ _ 0 _ _ _ o;have n1:=ä _ _ 1 _ _ _ o;have n2:=ä _ _ 2 _ _ _ o;have n3:=ä _ _ 3 _ _ _ o;have n4:=ä _ _ 4 _ _ _ o;have n5:=ä _ _ 5 _ _ _ o;have n6:=ä _ _ 6 _ _ _ o;have n7:=ä _ _ 7 _ _ _ o;have n8:=ä _ _ 8 _ _ _ o;by_cases t:N=6
   .have HX:=O<|T.u t _ A.u;subst t;have aa:Hid ((kA c).take (l+1)=(kA c).take l++[C<|oO c ⟨6,va,vb,vc,ls,tx,vn,vt,vp⟩]):=HT.u;clear T HT;go_wp2_with fail;refine HX.u.mono ?_;rintro ab u ⟨x,a5,rfl,hX,af,ag,hC,hk⟩;have r:=O hC;have a4:Hid (KQ w u):=(HK.u.trans<|.y A.u).trans<|.kg hk;have an:Hid (gZ (tl c<|Z++a5) (n++[(x:Int)])<|(kA c).take<|l+1):=by
     have hm:=s.u.more p.u.ts a5;rw[pY]at hm;show gZ _ _ _;rw[aa.u];exact hm.re af ag
    have ap:Q (Z++a5)<=l+1:=by rw[qQ];omega
    clear hC hk hX af ag HX A n0 n1 n2 n3 n4 n5 n6 n7 n8 x0 x1 x2 x3 x4 x5 x6 x7 x8 aa s p HK;obtain⟨ov,ak,G,y,-⟩:=r.u.st;obtain⟨oa,oc,rfl⟩:=B8 y;have q:δ u (J b 6)=C (Y oa (Q n) oc):=cr G K;have a8:=blt q;simp only at a8;have ax:=r.u.P.size;have B:=O<|y.alloc<|γ #[U (x:Int)] 3;have D:=O q;clear G y;go_wp2_with (at_builtin;go_loud (refine wpList_append_own_at _ K _ _ 80 K (V d.heap) 3 i0 (U 0) 1 8 underlying80 ae ah ai aj K ζ _ _ _ K B.u (J (V u.heap) 0) 1 1 [U (x:Int)] K K ?c1 ?c2 ?c3 ?c4 ?c5 ?_));case c1=>
     intro a3 u m;match a3,m with
     |0,m=>simp_all[Addr.add]
    case c2=>intro u m;simp at m;subst m;rfl
    case c3=>grind[Δ]
    case c4=>omega
    case c5=>simp;omega
    intro v' b1 v H _ F;obtain⟨xa,xc,rfl⟩:=B8 v;obtain⟨k0,ay,az,L,M⟩:=r.u.push D.u (ν No _ _) H v F W;have K3:=O L;have K4:=O<|a4.u.trans M;clear L M v H F B q D;go_wp2_with fail;grind[intOf]
   .have g6:(N==6)=κ:=by simpa using t
    have r:=O<|p.u.y A.u;have a4:Hid (KQ w _):=HK.u.trans<|.y A.u;have an:Hid (gZ (tl c Z) (n++[-1])<|(kA c).take<|l+1):=by
     show gZ _ _ _;rw[HT.u,wY t];exact s.u.rk
    have ap:Q Z<=l+1:=W;have b9:=p.u.P.size;clear T HT s t;obtain⟨ov,ak,G,y,-⟩:=r.u.st;obtain⟨oa,oc,rfl⟩:=B8 y;have q:δ (wr.alloc<|aM N va vb vc (Y P (Q ls) R) tx vn vt vp) (J b 6)=C (Y oa (Q n) oc):=cr G K;have a8:=blt q;simp only at a8;have ax:=r.u.P.size;have B:=O<|y.alloc<|γ #[U<|-1] 3;have D:=O q;clear G y;go_wp2_with (at_builtin;go_loud (refine wpList_append_own_at _ K _ _ 80 K (V d.heap) 3 i0 (U 0) 1 8 underlying80 ae ah ai aj K ζ _ _ _ K B.u (J (wr.heap.size+1) 0) 1 1 [U<|-1] K K ?c1 ?c2 ?c3 ?c4 ?c5 ?_));case c1=>
     intro a3 u m;match a3,m with
     |0,m=>simp_all[Addr.add]
    case c2=>intro u m;simp at m;subst m;rfl
    case c3=>grind[Δ]
    case c4=>omega
    case c5=>simp;omega
    intro v' b1 v H _ F;obtain⟨xa,xc,rfl⟩:=B8 v;obtain⟨k0,ay,az,L,M⟩:=r.u.push D.u (ν No _ _) H v F θ;have K3:=O L;have K4:=O<|a4.u.trans M;clear L M v H F B q D;go_wp2_with fail;go_roundw;case rel=>grind
    case measure=>simp[intOf];omega
  .have aq:l=Q c.N:=W;subst aq;have al:Hid (gZ (tl c Z) n<|kA c):=by
    have:(kA c).take (Q c.N)=kA c:=by
     rw[List.take_of_length_le];unfold kA;rw[lZ];omega
    have h2:=s.u;rw[this]at h2;exact h2
   clear s;go_wp2_with fail;go_end0;exact⟨K,Z,n,hZ,al.u,p.u,HK.u⟩
end
def xv(w:E)(d)(j)(k)(b)(a:b=decide (1<=d.x/\d.x<=14)):
 μ ε 109 #[eE d j k] w λe t=>e=π (.bool b)/\I No w t:=by
 unfold eE;obtain⟨g,n,o,p,l,m,q,s,r⟩:=d;simp only at*;have f:=O<|ν No w<|aM g n o p (Y j (Q l) k) m q s r;by_cases h:1<=g
 .by_cases i:g<=14
  .have c:b=τ:=by rw[a];simp[h,i]
   subst c;clear a;go_in;go_wp2;go_ret;exact⟨K,f.u⟩
  .have c:b=κ:=by rw[a];simp[i]
   subst c;clear a;go_in;go_wp2;go_ret;exact⟨K,f.u⟩
 .have c:b=κ:=by rw[a];simp[h]
  subst c;clear a;go_in;go_wp2;go_ret;exact⟨K,f.u⟩
section
variable{a w:E}{c:Cx}{b d e h:Nat}{g j f:υ}{i:Int}
def zL(a w:E)(c:Cx)(b d e h:Nat)(g j:υ)(i:Int)(f:υ)(r:(Int×Nat) ⊕ Of)(l:ò)(k:E):Prop:=KQ w k/\I (SW a b d e) a k/\match r with
 |.inl (n,o)=>l=gu n (cW c.N o)
 |.inr p=>l=rT/\∃Z m,Q Z<=3*Q c.N/\gZ (tl c Z) m p/\aW a k c b d e h g j i f Z m
def D4f{k}{n}{Z}{q}(y:dO a c b d e h g f)(B:gV c Z q n k)(l:aW a w c b d e h g j i f Z q)(v)(A:¬(1<=c.N[k].x/\c.N[k].x<=14)):
 μ ε 110 #[pV b,U k] w λp o=>KQ w o/\I (SW a b d e) a o/\((∃r,kS c n k=.inl r/\p=gu r (cW c.N k))\/(kS c n k=.inr none/\p=rT/\aW a o c b d e h g j i f Z q)):=by
 have F:kS c n k=if c.N[k].x=24/\c.fn.getD k 0=-1 then .inl 4 else if Y1 c n k=τ then .inr none else .inl 9:=by
  unfold kS;rw[B7 v];exact wY A
 refine(Sa y B l v W).mono ?_;rintro p o (⟨s,t,x,u⟩|⟨s,t⟩)
 .exact⟨.y u,(l.y u).P,.inl ⟨4,η,x⟩⟩
 .rw[F,wY s];obtain⟨rfl,D,m⟩|⟨rfl,D,m,z⟩:=nI.part t
  .exact⟨.kg<|.kc<|l.kc m,l.q9 m,.inl ⟨9,η,K⟩⟩
  .exact⟨.kg<|.kc<|l.kc m,l.q9 m,.inr ⟨η,K,z⟩⟩
def AM{k}{n}{Z}{D}(z:dO a c b d e h g f)(L:gZ (tl c Z) D n)(A:EJ c n k)(S:uU n)(F:aW a w c b d e h g j i f Z D)(B)(H:1<=c.N[k].x/\c.N[k].x<=14)(R:Q (tl c Z)+2<=4000):
 μ ε 111 #[pV b,U k] w λp o=>KG w o/\I (SW a b d e) a o/\((F6 c n k=none/\p=gu 9 (cW c.N k))\/∃(t:Tr) (x:Nat) (l:List Ty),F6 c n k=C t/\p=π (U x)/\Q l<=2/\x<Q (tl c<|Z++l)/\tr (tl c<|Z++l) x=t/\aW a o c b d e h g j i f (Z++l) D):=by
 have P:=RG z.ok F.ts L A<|vQ k;refine(Ru z P F B H (λy=>?_) R λN=>A5f z.ok A S B N).mono ?_
 .obtain⟨t,T⟩:=A.ex k B H<|.inr y;obtain⟨r,q,s,u,v⟩:=aW.look L T;exact⟨k,r,q,K,s,u,v⟩
 .intro p o m;cases M:F6 c n k with
  |none=>
   rw[M]at m;exact⟨m.2.1,m.2.2,.inl ⟨K,m.1⟩⟩
  |some t=>
   rw[M]at m;obtain⟨x,l,q,s,u,v,G,y⟩:=m;exact⟨y,G.P,.inr ⟨t,x,l,K,q,s,u,v,G⟩⟩
end
abbrev sL(a:Option Addr)(n c:Nat):υ:=Y a n c
abbrev fB:Obj:=γ #[U 0,U 0] 25
def nW(w:E)(o):(w.alloc o).heap[V w.heap]?=C o:=rY w o
open Go.RowKit Go.Maps
section
variable{b w:E}{c:Cx}{a d e g:Nat}{j i f:υ}{h:Int}
def zL.bad{m}{k}{l}(n:KQ w l)(o:I (SW b a d e) b l)(p:W5 c (k+1)=.inl (m,k))(q:k<Q c.N):zL b w c a d e g j i h f (mW c) (gu m<|cW c.N k) l:=by
 refine⟨n,o,?_⟩;grind[mW,DD]
def zp(T:dO b c a d e g j f)(an:aW b w c a d e g j i h f [] []):
 μ ε 59 #[pV a] w (zL b w c a d e g j i h f<|mW c):=by
 have c9:=T.ok.fp;have ca:=T.ok.jz;have az:=O<|B6c T an;have S:=O T;obtain⟨na,nc,ae⟩:∃na nc,j=sL na (Q c.N) nc:=by
  obtain⟨nx,hn,_⟩:=T.fx an.P;grind[B8]
 subst ae;clear an T;go_in;go_wp2_with fail;refine az.u.mono ?_;rintro A cg ⟨rfl,Z1,c3,bp,bb,ao,ba⟩;obtain⟨oa,oc,ag,fz,q0,q1,q2,q3,q4,q5,F,qp,R⟩:=ao.cell;have b4:=O bb;have ax:=O ao;have b0:=O ba;clear bb ao ba az fz q1 q2 q3 q4 q5 F qp R;go_wp2_with fail;go_loopw [12] (λau wr=>∃(k:Nat) (l:Of) (Z:List Ty) (p:uZ),k<=Q c.N/\au=U (k:Int)/\Q Z<=Q c.N+2*k/\Hid (W5 c k=.inr l)/\Hid (gZ (tl c Z) p l)/\Hid (aW b wr c a d e g (sL na (Q c.N) nc) i h f Z p)/\Hid (KQ w wr)) (λau _=>Q c.N-(intOf au).toNat);case atStart=>exact⟨0,kA c,Z1,c3,wQ _,K,W,K,b4,ax,b0⟩
 case round=>
  clear b4 ax b0 q0 bp ag;obtain⟨k,l,Z,p,hj,rfl,hZ,M,L,s,H⟩:=hrel;by_cases D:k<Q c.N
  .obtain⟨am,bz,la,lc,ae,hg,cb,bs,⟨x0,x1,x2,x3,x4,x5,x6,x7,x8⟩,-,-⟩:=(S.u.fx s.u.P).at (ñ _ _) k D;have bt:na=C (J am 0)/\nc=bz:=by
    injection ae with e1 e2 e3;exact⟨e1,e3⟩
   obtain⟨rfl,rfl⟩:=bt;clear ae;have hI:=FV c k l hj M.u;have hW:=RM S.u.ok k l hj M.u;have hN:Q (tl c Z)+2<=4000:=by rw[U8];omega
   have G:Hid (W5 c (k+1)=match kS c l k with
    |.inl A=>.inl (A,k)
    |.inr none=>.inr l
    |.inr (C t)=>.inr<|l.set k<|C t):=by
    show _=_;rw[W5,M.u];rfl
   have a8:Hid (∀(u:E) (al:Bool),al=decide (1<=c.N[k].x/\c.N[k].x<=14)->_):=λu al o=>xv u c.N[k] la lc al o;have HS:Hid (¬(1<=c.N[k].x/\c.N[k].x<=14)->∀u,I No wr u->_):=λz u hu=>D4f S.u (RG S.u.ok s.u.ts L.u hI<|vQ k) (s.u.y hu) D z;have HX:Hid ((1<=c.N[k].x/\c.N[k].x<=14)->∀u,I No wr u->_):=λz u hu=>AM S.u L.u hI hW (s.u.y hu) D z hN;have aj:Hid (∀t,F6 c l k=C t->sz t<=1000000):=λt ht=>Us S.u.ok hI D ht;have ah:Hid ((1<=c.N[k].x/\c.N[k].x<=14)->kS c l k=match F6 c l k with
    |none=>.inl 9
    |C t=>if 300<sz t then .inl 2 else .inr<|C t):=λz=>by
    unfold kS;grind[B7]
   have ac:Hid (c.N[k].at'=cW c.N k):=by
    show _=_;unfold cW;rw[lQ,gQ D];rfl
   unfold eE at a8;have be:k<Q p:=by rw[L.u.len,hI.len];exact D
   clear hI hW;generalize bu:c.N[k]=nd at*;obtain⟨kd,va,vb,vc,ls,tx,vn,vt,vp⟩:=nd;simp only at*;clear bu;unfold Δ at bs;have A1:=O<|ν No wr<|aM kd va vb vc (sL la (Q ls) lc) tx vn vt vp;have q:=nW wr<|aM kd va vb vc (sL la (Q ls) lc) tx vn vt vp;have NB:=O q;have n0:=ä _ _ 0 _ _ _ q;have n1:=ä _ _ 1 _ _ _ q;have n2:=ä _ _ 2 _ _ _ q;have n3:=ä _ _ 3 _ _ _ q;have n4:=ä _ _ 4 _ _ _ q;have n5:=ä _ _ 5 _ _ _ q;have n6:=ä _ _ 6 _ _ _ q;have n7:=ä _ _ 7 _ _ _ q;have n8:=ä _ _ 8 _ _ _ q;clear q;by_cases z:1<=kd/\kd<=14
   .have b7:=O<|HX.u z;have a6:=O<|ah.u z;have a9:Hid (∀u,_):=λu=>a8.u u τ η;clear HS HX ah a8 z;go_wp2_with fail;refine(a9.u _).mono ?_;rintro A a5 ⟨rfl,a2⟩;have r:=O<|B6 A1.u a2;have b9:=O<|D9 a2 NB.u;have ad:=O<|s.u.y r.u;clear a2 A1 NB n0 n1 n2 n3 n4 n5 n6 n7 n8 x0 x1 x2 x3 x4 x5 x6 x7 x8 a9;obtain⟨oa,oc,ag,fz,q0,q1,q2,q3,q4,q5,F,qp,R⟩:=ad.u.cell;obtain⟨N,ar,bd,ap,aq,af,y0,yf⟩:=R k be;subst ar;have b3:=O F;have b2:Hid (∃v,a5.heap[a]?=C (γ v 96 (0,0))):=by
     obtain⟨ov,aw,o,_⟩:=ad.u.st;exact⟨_,o⟩
    have ai:Hid (∃v,a5.heap[N]?=C (γ v 3 (0,0))):=by
     obtain⟨ov,aw,o,hr,_⟩:=ad.u.st;rw[ä _ a 6 _ _ _ o]at F;have e6:=xZ F;have bm:ov=Y (C<|J N 0) (Q p) oc:=e6;subst bm;obtain⟨_,c5,hh⟩:=A9 hr N K;exact⟨_,hh⟩
    have b8:=O y0;unfold Δ at af;clear fz q0 q1 q2 q3 q4 q5 qp R;have c8:(k:Int)<(Q p:Int):=W;go_wp2_with fail;go_cut [] from 13 to 48 (λwc=>∃(t:Tr) (x:Nat) (n:List Ty),Hid (F6 c l k=C t)/\Q n<=2/\Hid (x<Q (tl c<|Z++n)/\tr (tl c<|Z++n) x=t/\aW b wc c a d e g (Y (C<|J am 0) (Q c.N) nc) i h f (Z++n) (p.set k (x:Int))/\KQ a5 wc));case first=>
     go_region_with (go_at_call 111;refine(b7.u _<|B6 r.u<|Ψ _ _ 1).mono ?_;rintro A av ⟨m,ab,⟨B,rfl⟩|⟨t,x,n,B,rfl,hX,a4,P,y⟩⟩;exact⟨K,zL.bad ((H.u.trans<|.y<|B6 r.u<|Ψ _ _ 1).trans<|.kg m) ab (by rw[G.u,a6.u,B]) D⟩;have cf:=b2.u.elim λv o=>(Ë<|(m.2 a v _ _ o ζ ζ).trans o.symm).trans b3.u;have y5:=ai.u.elim λv o=>(Ë<|(m.2 N v _ _ o ζ ζ).trans o.symm).trans b8.u;have cj:=ai.u.elim λv o=>æ av N k v _ (m.2 N v _ _ o ζ ζ);have c7:=yQ ap m.1;have a7:Hid (F6 c l k=C t/\x<Q (tl c<|Z++n)/\tr (tl c<|Z++n) x=t/\aW b av c a d e g (Y (C<|J am 0) (Q c.N) nc) i h f (Z++n) p/\KG a5 av):=⟨B,a4,P,y,(KG.y<|Ψ No a5 1).trans m⟩;clear B a4 P y m ab);all_goals
      have b6:=O<|a7.u.2.2.2.1.set (g:=N) (oc:=oc) W k (x:Int);go_wp2_with fail;go_meet;exact⟨t,x,n,a7.u.1,hX,a7.u.2.1,a7.u.2.2.1,b6.u.1,(KQ.kg a7.u.2.2.2.2).trans b6.u.2⟩
    case rest=>
     obtain⟨t,x,n,aa,hX,HF⟩:=hcut;obtain⟨a4,P,y,m⟩:=HF.u;clear HF F y0 yf b3 ag bd ap aq af ai b8 b2;obtain⟨cd,ce,ag,fz,q0,q1,q2,q3,q4,q5,F,qp,R⟩:=y.cell;obtain⟨c6,ar,bd,ap,aq,af,y0,-⟩:=R k ù;subst ar;rw[List.getElem_set_self]at y0;have n8:δ wc (J wr.heap.size 8)=C (U vp):=by
      rw[ä _ _ 8 _ _ _<|m.2 _ _ _ _ b9.u ζ ζ ζ ζ];rfl
     have bv:=blt n8;have bw:=blt F;have bq:=blt y0;simp only at bv bw bq;rw[List.length_set]at F aq;unfold Δ at af;have HZ:Hid (∀u,I No wc u->_):=λu hu=>(y.y hu).jr.elim λaw bx=>ğ x u a4 bx (by rw[P];exact aj.u t aa.u);rw[P]at HZ;have b1:=O<|(H.u.trans<|.y r.u).trans m;have ay:=O y;have bi:Hid (gZ (tl c<|Z++n) (p.set k (x:Int))<|l.set k<|C t):=by
      have hm:=L.u.more s.u.ts n;rw[pY]at hm;exact hm.set a4 P
     have bo:Q (Z++n)<=Q c.N+2*(k+1):=by rw[qQ];omega
     clear y m a4 P qp R fz q0 q1 q2 q4 q5 b7 H s L r b9 aj ad;by_cases h3:300<sz t
     .have ak:Hid (W5 c (k+1)=.inl (2,k)):=by
       show _=_;rw[G.u,a6.u,aa.u];simp only[yY h3]
      have bf:Hid (vp=cW c.N k):=ac.u;have bn:(300:Int)<(sz t:Int):=W;clear G a6 aa M ac h3;go_wp2_with fail;go_region_with (go_at_call 112;refine(HZ.u _<|Ψ _ _ 1).mono ?_;rintro A c4 ⟨rfl,a3⟩;have cc:=A4 a3 n8;have C6:=O<|B6 (Ψ No wc 1) a3;clear a3);all_goals
       go_wp2_with fail;refine(zM _ 2 vp).mono ?_;rintro A ci ⟨rfl,bc⟩;refine⟨K,?_⟩;rw[bf.u];exact zL.bad (b1.u.trans<|.y<|B6 C6.u bc) (ay.u.y<|B6 C6.u bc).P ak.u D
     .have ak:Hid (W5 c (k+1)=.inr (l.set k<|C t)):=by
       show _=_;rw[G.u,a6.u,aa.u];simp only[wY h3]
      have bn:¬(300:Int)<(sz t:Int):=W;clear G a6 aa M ac h3;go_wp2_with fail;go_region_with (go_at_call 112;refine(HZ.u _<|Ψ _ _ 1).mono ?_;rintro A c4 ⟨rfl,a3⟩;have C6:=O<|B6 (Ψ No wc 1) a3;clear a3);all_goals
       go_wp2_with fail;go_roundw;case rel=>exact⟨k+1,l.set k<|C t,Z++n,p.set k (x:Int),W,ï,bo,ak,bi,ay.u.y C6.u,b1.u.trans<|.y C6.u⟩
       grind[intOf]
   .have b5:=O<|HS.u z;have a9:Hid (∀u,_):=λu=>a8.u u κ η;clear HS HX ah a8 z aj ac be;go_wp2_with fail;refine(a9.u _).mono ?_;rintro A a5 ⟨rfl,a2⟩;have r:=O<|B6 A1.u a2;clear a2 A1 NB n0 n1 n2 n3 n4 n5 n6 n7 n8 x0 x1 x2 x3 x4 x5 x6 x7 x8 a9;go_wp2_with fail;refine(b5.u _ r.u).mono ?_;rintro A ch ⟨m,ab,⟨er,B,rfl⟩|⟨B,rfl,y⟩⟩
    .refine⟨K,zL.bad ((H.u.trans<|.y r.u).trans m) ab ?_ D⟩;rw[G.u,B]
    .have bj:Hid (W5 c (k+1)=.inr l):=by
      show _=_;rw[G.u,B]
     have bg:=O y;have bh:=O<|(H.u.trans<|.y r.u).trans m;clear y m ab B G M s H r b5;go_wp2_with fail;go_roundw;case rel=>exact⟨k+1,l,Z,p,W,ï,W,bj,L,bg,bh⟩
     case measure=>simp[intOf];omega
  .have br:k=Q c.N:=W;subst br;go_wp2_with fail;go_end0;refine⟨H.u,s.u.P,?_⟩;have:mW c=.inr l:=M.u;rw[this];exact⟨K,Z,p,W,L.u,s.u⟩
end
section
variable{b w:E}{c:Cx}{a d e h:Nat}{g j f:υ}{i:Int}{Z:List Ty}{k:uZ}
def aW.pn{u}(z:aW b w c a d e h g j i f Z k){q}{v}{l}{y}(n:I (λm=>m=q) w u)(H:w.heap[q]?=C (γ v l y))(B:l≠96/\l≠169/\l≠99/\l≠139/\l≠3)(T:V b.heap<=q):aW b u c a d e h g j i f Z k:=by
 obtain⟨A,⟨ov,D,t,L,p⟩,F⟩:=z;have M:∀{m:Nat} {r:Array υ} {o:TypeId} {s:Nat×Nat},w.heap[m]?=C (γ r o s)->l≠o->m≠q:=λ{m r o s} G hx S=>η;refine⟨A.trans n λm G x=>W,⟨ov,D,?_,A3 L n λP R x=>?_,p.P n (p.gm.P n λx=>?_) ?_ λ_ x _=>x⟩,F⟩
 .rw[n.block a (aG t)<|M t B.1];omega
 .grind[A9]
 .have N:=x;subst N;exact p.gm.tag _ _ _ H
 grind
def TF(b w:E)(c:Cx)(a d e h:Nat)(g j:υ)(i:Int)(f:υ)(r:(Int×Nat) ⊕ Of)(m:ò)(l:E):Prop:=KQ w l/\I (SW b a d e) b l/\match r with
 |.inl (n,o)=>m=π (.agg #[U n,U<|cW c.N o])
 |.inr p=>m=π (.agg #[U 0,U 0])/\∃Z k,Q Z<=3*Q c.N/\gZ (tl c Z) k p/\aW b l c a d e h g j i f Z k
theorem KQ.own{m o p}{q}(n:KQ m o)(D:V m.heap<=q)(r:I (λl=>l=q) o p):KQ m p:=
 ⟨kQ n.1 r.size,λl s t u x v y z A=>by
  have B:=(aG x);rw[r.block l (yQ B n.1) W];exact n.2 l s t u x v y z A⟩
def C5c(hB:dO b c a d e h g f)(F:aW b w c a d e h g j i f [] []):
 μ ε 40 #[.func (.func 59) #[pV a] #[]] w (TF b w c a d e h g j i f<|mW c):=by
 have L:=ν No w<|fB;have S:=zp hB<|F.y L;have a4:=nW w<|fB;have N:=F.P.size;have R:Hid (∀q,KQ (w.alloc<|fB) q->q.heap[V w.heap]?=C (fB)/\KQ w q):=λq G=>⟨G.2 _ _ _ _ a4 ζ ζ ζ ζ,(KQ.y L).trans G⟩;generalize mW c=a3 at*;go_enter_defers func40,ntmps40;go_wp2_with fail;refine S.mono ?_;rintro t l ⟨v,a6,M⟩;have a2:=O a6;obtain⟨m,a5⟩:=R.u l v;have q0:δ l (J (V w.heap) 0)=C (U 0):=cr m K;have q1:δ l (J (V w.heap) 1)=C (U 0):=cr m K;have hz:=(aG m);have a9:=λa7=>æ l _ a7 _ _ m;have s:=O m;have D:=O a5;cases a3 with
 |inl p=>
  obtain⟨r,o⟩:=p;obtain rfl:t=gu r (cW c.N o):=M;unfold gu;refine leaves_cons (f:=80) (args:=#[pV (V w.heap)]) θ (by simp[go_sem]) ?_;refine(FQ (V w.heap) r (cW c.N o) 0 0 [] _ q0 q1 a9).mono ?_;rintro t u' aa ⟨rfl,rfl,H,z,A⟩;have KX:TF b w c a d e h g j i f (.inl (r,o)) (π<|.agg #[U r,U<|cW c.N o]) aa:=⟨D.u.own (vQ _)<|H.mono λy v x=>W,a2.u.trans H λy v x=>W,K⟩;generalize cW c.N o=pa at*;simp[Leaves,settle,ã,results40,go_sem,z,A];omega
 |inr a8=>
  obtain⟨rfl,Z,k,hZ,hR,hC⟩:=M;have T:=O hR;have B:=O hC;go_wp2;refine leaves_cons (f:=80) (args:=#[pV (V w.heap)]) θ (by simp[go_sem]) ?_;refine(OP (V w.heap) _).mono ?_;rintro t u' ab ⟨rfl,rfl,n⟩;have s1:=ð l (V w.heap) 0 _ _ (U 0) s.u;have P:=ð _ (V w.heap) 1 _ _ (U 0) s1;have z:=A4 n (show δ _ (J (V w.heap) 0)=C (U 0) from cr P K);have A:=A4 n (show δ _ (J (V w.heap) 1)=C (U 0) from cr P K);have u:I (λy=>y=V w.heap) l (σ (σ l (J (V w.heap) 0)<|U 0) (J (V w.heap) 1)<|U 0):=Ã (é l (J (V w.heap) 0) _) (é _ (J (V w.heap) 1) _) Ξ;have KX:TF b w c a d e h g j i f (.inr a8) (π<|.agg #[U 0,U 0]) ab:=⟨(D.u.own (vQ _) u).trans<|.y n,((B.u.pn u s.u ζ N).y n).P,K,Z,k,hZ,T.u,(B.u.pn u s.u ζ N).y n⟩;simp[Leaves,settle,ã,results40,go_sem,z,A];omega
end
def GO(l:bZ)(w:E)(e:ò)(o:E):Prop:=á (V w.heap) w o/\
 ((∃g p v,iX l g p/\e=π (.tuple #[v,.agg #[U g,U p]]))\/
  ∃N T a k,fQ l N T a k/\∃f b c d n j q i h Z m,á (V w.heap) w f/\V w.heap<=b/\V w.heap<=c/\V w.heap<=d/\dO f (aQ N T a) b c d n j h/\
   e=π (.tuple #[pV b,.agg #[U 0,U 0]])/\Q Z<=3*Q N/\gZ (tl (aQ N T a) Z) m k/\aW f o (aQ N T a) b c d n j q i h Z m/\i=Q N-1)
def MI(s)(w:E)(a6:s.size<=Δ):μ ε 29 #[.string s] w (GO s.data.toList w):=by
 have ck:=O λA=>Ns s A a6;have br:=O λA=>Eg s A a6;have dq:=nW w<|fB;clear a6;have cx:∀(A:E) (g p:Int),g≠0->á (V (w.alloc<|fB).heap) (w.alloc<|fB) A->A.heap[V w.heap]?=C (fB)/\á (V w.heap) w A:=λA g p _ aa=>
  ⟨by rw[aa.block _ θ];omega,(ô (ν No w _) å<|vQ _).trans<|aa.mono θ⟩;have az:=O cx;clear dq cx;go_in;go_wp2_with fail;refine(ck.u _).mono ?_;clear ck;rintro e A ⟨aa,hq⟩;have e4:(∃g p,(g≠0/\iX s.data.toList g p)/\e=π (.tuple #[sN,.agg #[U g,U p]]))\/∃N am ps fs S ad an,dZ s.data.toList (.inr (N,am))/\bJ N am ps/\kU ps=.ok fs S/\e=π (.tuple #[Y ad (Q (U6 (dG (ó (Q N)<|-1) S) (Q N))) an,.agg #[U 0,U 0]])/\A.ownsRow (V (w.alloc<|fB).heap) 129 2 (Y ad (Q (U6 (dG (ó (Q N)<|-1) S) (Q N))) an) (Q (U6 (dG (ó (Q N)<|-1) S) (Q N))) (S4<|U6 (dG (ó (Q N)<|-1) S) (Q N)):=by
  obtain⟨g,p,B,h0,Z⟩|⟨N,am,ps,B,Z,h3⟩:=hq
  .exact .inl ⟨g,p,⟨B,B,.inl h0⟩,Z⟩
  .cases hb:kU ps with
   |bad g i=>rw[hb]at h3;exact .inl ⟨g,_,⟨h3.1,h3.1,.inr ⟨N,am,ps,B,Z,.inl ⟨i,hb,K⟩⟩⟩,h3.2⟩
   |ok fs S=>
    grind
 clear hq;obtain⟨g,p,⟨R,d0⟩,rfl⟩|⟨N,am,ps,fs,S,ad,an,R,hP,cy,rfl,d7⟩:=e4
 .obtain⟨f0,ar⟩:=az.u A g p R aa;have g0:A.cell? (J (V w.heap) 0)=C (U 0):=cr f0 K;have g1:A.cell? (J (V w.heap) 1)=C (U 0):=cr f0 K;have gz:=λaw=>æ A _ aw _ _ f0;have gl:=(aG f0);have ec:(g !=0)=τ:=by simp[R]
  have ag:=O ar;have di:=O d0;clear aa f0 ar az R d0 br;go_wp2_with fail;go_region;all_goals go_wp2_with fail
  all_goals
   have a9:I (λk=>k=V w.heap) A (σ (A.setCell (J (V w.heap) 0)<|U g) (J (V w.heap) 1)<|U p):=Ã (é A (J (V w.heap) 0) _) (é _ (J (V w.heap) 1) _) Ξ;have hR:GO s.data.toList w (π<|.tuple #[.pointer none,.agg #[U g,U p]]) _:=⟨ag.u.trans<|ô (Ã a9 (B6 (ν No _<|γ #[U g,U p] 25)<|Ψ No _ 1) å) (λk _ e=>W) ag.u.size,.inl ⟨g,p,_,di.u,K⟩⟩;exact ç (v:=.tuple #[.pointer none,.agg #[U g,U p]]) (by simp[ã,results29,go_sem,g0,g1,gl]) K hR
 .obtain⟨f0,ar⟩:=az.u A 1 0 ζ aa;have cb:=O f0;have ag:=O ar;have bd:=O R;have G:=O hP;have al:=O cy;have bb:=O d7;have gl:=(aG f0);clear aa f0 ar az R hP cy d7;obtain⟨t,ao⟩:∃t,U6 (dG (ó (Q N)<|-1) S) (Q N)=t:=⟨_,K⟩;have cn:Hid (∀p∈t,(0<=p.1/\p.1<=1000000)/\(0<=p.2/\p.2<=1000000)):=by
   rw[<-ao];exact za G.u al.u
  have bn:Hid (Q t<=1200):=by
   have B:=RU (dG (ó (Q N)<|-1) S) (Q N);have Z:=G.u.fp;show Q t<=1200;rw[<-ao];omega
  rw[ao]at bb⊢;have dg:=O ao;clear ao;obtain⟨bl,bv⟩:∃bl,Q t=bl:=⟨_,K⟩;rw[bv]at bn bb⊢;have bm:=O bv;clear bv;go_wp2_with fail;refine(br.u _).mono ?_;clear br;rintro e T ⟨aq,⟨g,p,B,_⟩|⟨a,b,h,l,m,n,B,rfl,d6,d9⟩⟩
  .exact absurd (B.one bd.u) θ
  .have e1:=B.one bd.u;simp only[Sum.inr.injEq,Prod.mk.injEq]at e1;obtain⟨rfl,rfl⟩:=e1;have c7:=O aq;have cl:=O d6;have ct:=O d9;clear B aq d6 d9;have ei:=@run_makeMap ε;have p3:=nW T<|γ #[sL h (Q a) l,sL m (Q b) n,U<|(Q a:Int)-1] 40;have p4:((T.alloc<|γ #[sL h (Q a) l,sL m (Q b) n,U<|(Q a:Int)-1] 40).alloc<|fB).heap[V T.heap]?=C (γ #[sL h (Q a) l,sL m (Q b) n,U<|(Q a:Int)-1] 40 (0,0)):=by
    rw[ÿ _ _ _ θ];exact p3
   have C3:=O<|B6 (ν No T<|γ #[sL h (Q a) l,sL m (Q b) n,U<|(Q a:Int)-1] 40)<|ν No _<|fB;go_wp2_with fail;generalize (T.alloc<|γ #[sL h (Q a) l,sL m (Q b) n,U<|(Q a:Int)-1] 40).alloc (fB)=o at*;have r0:δ o (J (V T.heap) 0)=C (sL h (Q a) l):=cr p4 K;have de:δ o (J (V T.heap) 1)=C (sL m (Q b) n):=cr p4 K;have r2:δ o (J (V T.heap) 2)=C (U<|(Q a:Int)-1):=cr p4 K;have dx:=(aG p4);have bo:Hid (∀u,I No o u->μ ε 55 #[] u λe z=>∃d q:Nat,e=π (pV d)/\V o.heap<=q/\V o.heap<=d/\V u.heap<=q/\q<V z.heap/\Hid (I No u z)/\Hid (dY z d q 4000 []<|.map [])/\δ z (J d 0)=C (sN)/\δ z (J (V T.heap) 0)=C (sL h (Q a) l)/\δ z (J (V T.heap) 1)=C (sL m (Q b) n)/\δ z (J (V T.heap) 2)=C (U<|(Q a:Int)-1)/\V T.heap<V z.heap):=λu F=>by
    refine(Ŷ u).mono ?_;rintro e z ⟨rfl,hc,a6,hl⟩;have B:=F.size;have Z:=blt hl;simp only at Z;have bx:=B6 F hc;exact⟨_,_,K,B,W,vQ _,W,hc,a6,hl,A4 bx r0,A4 bx de,A4 bx r2,W⟩
   have N3:Hid (cU o (sL h (Q a) l) a):=cl.u.row.eu C3.u λ_ _ _ _ _ _ x=>x;have T3:Hid (sC o (sL m (Q b) n) b):=ct.u.row.eu C3.u λ_ _ _ _ _ _ x=>x;have ay:=B6 (B6 (ν No A _)<|(I.below c7.u).mono λ_ hi x=>W) C3.u;have F3:Hid (o.heap[V w.heap]?=C (fB)):=D9 ay cb.u;have B3:Hid (á (V w.heap) w o):=ag.u.trans<|ô ay å ag.u.size;have O3:Hid (ρ o 0 129 2 (sL ad bl an) bl<|S4 t):=A3 (C7 bb.u<|wQ _) ay Ξ;clear ay;clear p3 p4;go_cut [8] (λv8 wc=>∃c d q f:Nat,v8=pV c/\Hid (I No o wc/\wc.heap[c]?=C (γ #[sL h (Q a) l,sL m (Q b) n,U<|(Q a:Int)-1,pV d,.map<|C f,sN,sN,U 0,U 0,U 0,U 0,U 0,U 0] 96 (0,0))/\dY wc d q 4000 [] (.map [])/\δ wc (J d 0)=C (sN)/\cQ wc f 0 (λ_=>none)/\V o.heap<=c/\V o.heap<=d/\V o.heap<=q/\V o.heap<=f/\f≠q));case first=>
    go_region_with (go_at_call 55;first
     |(refine(bo.u _<|Ψ _ _ 1).mono ?_;rintro e a3 ⟨d,q,rfl,dr,ds,aq,dt,b8,bt,l4,x0,x1,x2,dy⟩)
     |(refine(bo.u _<|B6 (Ψ No o 1)<|ν No o.drew<|.map #[] 0).mono ?_;rintro e a3 ⟨d,q,rfl,dr,ds,aq,dt,b8,bt,l4,x0,x1,x2,dy⟩));all_goals go_wp2_with fail
    all_goals go_meet
    all_goals first
     |exact⟨V a3.heap+1,d,q,V a3.heap,K,B6 (B6 (Ψ No o 1) b8.u)<|B6 (ν No a3<|.map #[] 0)<|ν No _ _,by have:=nW (a3.alloc<|.map #[] 0)<|γ #[sL h (Q a) l,sL m (Q b) n,U<|(Q a:Int)-1,pV d,.map<|C (V a3.heap),sN,sN,U 0,U 0,U 0,U 0,U 0,U 0] 96;simp_all,bt.u.y<|B6 (ν No a3<|.map #[] 0)<|ν No _ _,A4 (B6 (ν No a3<|.map #[] 0)<|ν No _ _) l4,(cQ.new a3).P (ν No _ _) λx=>x,W,W,W,W,W⟩
     |exact⟨V a3.heap,d,q,V o.heap,K,B6 (B6 (B6 (Ψ No o 1)<|ν No o.drew<|.map #[] 0) b8.u)<|ν No _ _,nW a3 _,bt.u.y<|ν No _ _,A4 (ν No _ _) l4,((cQ.new o.drew).P b8.u λx=>x).P (ν No _ _) λx=>x,W,W,W,vQ _,by have bu:=aq;simp only[World.size_alloc]at bu;have Z:V o.drew.heap=V o.heap:=K;omega⟩
   case rest=>
    obtain⟨c,d,q,f,rfl,ca⟩:=hcut;obtain⟨ai,c4,dc,k4,k5,k6,k7,k8,k9,db⟩:=ca.u;have a8:Hid (jR wc a c d q f (sL h (Q a) l) #[sL h (Q a) l,sL m (Q b) n,U<|(Q a:Int)-1,pV d,.map<|C f,sN,sN,U 0,U 0,U 0,U 0,U 0,U 0] [] 0 λ_=>none):=⟨N3.u.eu ai λ_ _ _ _ _ _ x=>x,c4,dc.jr,k5,db⟩;have cv:Hid (sC wc (sL m (Q b) n) b):=T3.u.eu ai λ_ _ _ _ _ _ x=>x;have HF:Hid (wc.heap[V w.heap]?=C (fB)):=D9 ai F3.u;have c8:Hid (á (V w.heap) w wc/\V w.heap<=c/\V w.heap<=d/\V w.heap<=q/\V w.heap<=f):=by
     have:=B3.u.size;exact⟨B3.u.trans<|ô ai å W,W,W,W,W⟩
    have bq:Hid (ρ wc 0 129 2 (sL ad bl an) bl<|S4 t):=A3 O3.u ai Ξ;have cg:=O k4;have z4:δ wc (J c 4)=C (.map<|C f):=cr c4 K;have e6:=blt z4;simp only at e6;have cw:=O z4;have lw:=(aG HF.u);clear ca ai c4 dc k4 k5 k6 k7 k8 k9 db N3 T3 F3 B3 O3 bo C3 c7 cl ct r0 de r2 dx cb ag bb gl z4;go_wp2_with fail;go_loopw [33] (λa2 wr=>∃j:Nat,j<=bl/\a2=U (j:Int)/\Hid (I (λk=>k=f) wc wr/\cQ wr f j (fZ<|t.take j))) (λa2 _=>bl-(intOf a2).toNat);case atStart=>exact⟨0,wQ _,K,I.refl _ _,a8.u.names⟩
    case round=>
     obtain⟨j,hj,rfl,HJ⟩:=hrel;have av:∀{ae:Nat} {cs:Array υ} {e:TypeId} {fz:Nat×Nat},wc.heap[ae]?=C (γ cs e fz)->wr.heap[ae]?=C (γ cs e fz):=λ{ae cs e fz} hq=>by
      rw[HJ.u.1.block ae (aG hq) λx=>by subst x;exact a8.u.names.et hq];omega
     have y4:wr.cell? (J c 4)=C (.map<|C f):=by rw[Ë<|(av a8.u.blk).trans a8.u.blk.symm];exact cw.u
     have e7:=blt y4;simp only at e7;by_cases ee:j<bl
     .have bh:j<Q t:=by have:=bm.u;omega
      obtain⟨g2,dz,-,ed,eb,du,bz⟩:=D5 (A3 bq.u HJ.u.1 (λa5 hg x=>by
       obtain⟨_,bf,hh⟩:=A9 bq.u a5 hg;subst x;exact a8.u.names.et hh)) W;have v0:=bz (j*2) _ (DC t j bh).1;have v1:=bz (j*2+1) _ (DC t j bh).2;subst dz;have rg:=cn.u t[j]<|mQ bh;have bj:Hid (fZ (t.take<|j+1)=λx=>if x=t[j].1 then C t[j].2 else fZ (t.take j) x):=by
       show _=_;rw[nQ bh,CY]
      obtain⟨⟨x,ax⟩,da⟩:∃p,t[j]=p:=⟨_,K⟩;rw[da]at v0 v1 rg bj;simp only at v0 v1 rg bj;unfold Δ at du;obtain⟨df,d8,d4,cz⟩:=((HJ.u.2).P (B6 (ν No wr<|γ #[U x,U ax] 129)<|Ψ No _ 1) λx=>x).put x ax rg.1 (by have:=bn.u;omega) rg.2;have ej:(Instr.mapUpdate 64 (.map<|C f) (U x)<|U ax).run ε (wr.alloc<|γ #[U x,U ax] 129).drew=.ok () df:=d8;have dk:=O d4;have dh:Hid (I (λk=>k=f) wc df):=HJ.u.1.trans (((B6 (ν No wr<|γ #[U x,U ax] 129)<|Ψ No _ 1).mono (S':=λk=>k=f) å).trans cz Ξ) Ξ;clear bz da d4 cz av d8;go_wp2_with fail;go_region;all_goals go_wp2_with fail
      all_goals go_roundw
      all_goals first
       |exact⟨j+1,W,ï,dh.u,(show cQ _ _ _ _ from by rw[bj.u];exact dk.u)⟩
       |grind[intOf]
     .have dw:j=bl:=W;subst dw;have be:Hid (jR wr a c d q f (sL h (Q a) l) #[sL h (Q a) l,sL m (Q b) n,U<|(Q a:Int)-1,pV d,.map<|C f,sN,sN,U 0,U 0,U 0,U 0,U 0,U 0] [] j<|fZ t):=a8.u.put HJ.u.1 (by
       have:=HJ.u.2;rw[List.take_of_length_le<|by rw[bm.u];simp]at this;omega);have cu:Hid (sC wr (sL m (Q b) n) b):=cv.u.eu HJ.u.1 (λae cs e fz hq _ x=>by subst x;exact a8.u.names.et hq);have cf:Hid (wr.heap[V w.heap]?=C (fB)):=av HF.u;have b6:Hid (á (V w.heap) w wr/\V w.heap<=c/\V w.heap<=d/\V w.heap<=q):=by
       obtain⟨b1,b2,b3,b4,b5⟩:=c8.u;exact⟨b1.trans<|ô HJ.u.1 (λk _ x=>W) b1.size,b2,b3,b4⟩
      have cj:Hid (wr.cell? (J d 0)=C (sN)):=by
       obtain⟨y0,yx,au,_⟩:=a8.u.jr.blk;exact(Ë<|(av au).trans au.symm).trans cg.u
      have ce:=O<|VI (T:=b) G.u.ew (yP G.u al.u G.u.tx).ls (by have:=G.u.n;omega) G.u.fp wr _ be.u.ey;have dp:wr.cell? (J c 0)=C (sL h (Q a) l):=cr be.u.blk K;clear a8 cv HF c8 cg cw bq HJ av y4 cn bm;go_wp2_with fail;refine ce.u.mono ?_;clear ce;rintro e H ⟨fv,rfl,ah,c3⟩;obtain⟨v,y,rfl⟩:=B8 c3;have a4:=O<|be.u.y ah;have cp:Hid (sC H (sL m (Q b) n) b):=cu.u.eu ah λ_ _ _ _ _ _ x=>x;have ba:=O<|D9 ah cf.u;have ak:Hid (á (V w.heap) w H/\V w.heap<=c/\V w.heap<=d/\V w.heap<=q):=⟨b6.u.1.trans<|ô ah å b6.u.1.size,b6.u.2⟩;have ch:=O<|A4 ah cj.u;have bp:=O<|C7 c3<|wQ _;have c5:H.cell? (J c 5)=C (sN):=cr a4.u.blk K;have z5:=æ H _ 5 _ _ a4.u.blk;have l5:=blt c5;simp only at l5;clear ah c3 be cu cf b6 cj dp;go_wp2_with fail;have b7:(H.setCell (J c 5)<|sL v (Q a) y).heap[c]?=C (γ (qX (Q b) (sL h (Q a) l) (sL m (Q b) n) ((Q a:Int)-1) d f (sL v (Q a) y) 0) 96 (0,0)):=ð H c 5 _ _ (sL v (Q a) y) a4.u.blk;have ab:I (λx=>x=c) H (H.setCell (J c 5)<|sL v (Q a) y):=é H (J c 5) _;have bc:=O<|a4.u.store ab b7;have cq:Hid (sC (H.setCell (J c 5)<|sL v (Q a) y) (sL m (Q b) n) b):=cp.u.eu ab (λae cs e fz hq he=>a4.u.not ae cs e fz hq η);have cc:Hid ((H.setCell (J c 5)<|sL v (Q a) y).heap[V w.heap]?=C (fB)):=by
       show _=_;rw[ab.block _ (aG ba.u)<|a4.u.not _ _ _ _ ba.u ζ];exact ba.u
      have af:Hid (á (V w.heap) w (H.setCell (J c 5)<|sL v (Q a) y)/\V w.heap<=c/\V w.heap<=d/\V w.heap<=q):=⟨ak.u.1.trans<|ô ab (λk _ x=>by have:=ak.u.2.1;omega) ak.u.1.size,ak.u.2⟩;have cm:Hid (ρ (H.setCell (J c 5)<|sL v (Q a) y) 0 3 1 (sL v (Q a) y) (Q a)<|C8<|kC a):=A3 bp.u ab (λa5 hg x=>by
       obtain⟨_,bf,hh⟩:=A9 bp.u a5 hg;exact a4.u.not _ _ _ _ hh ζ x);have ci:Hid (δ (H.setCell (J c 5)<|sL v (Q a) y) (J d 0)=C (sN)):=by
       obtain⟨y0,yx,au,_⟩:=a4.u.jr.blk;exact(Ë<|ab.block d (aG au)<|a4.u.not _ _ _ _ au ζ).trans ch.u
      clear ab b7 a4 cp ba ak bp ch c5 z5 l5;generalize H.setCell (J c 5) (sL v (Q a) y)=W7 at*;have d1:W7.cell? (J c 1)=C (sL m (Q b) n):=cr bc.u.blk K;have d3:W7.cell? (J c 3)=C (pV d):=cr bc.u.blk K;have l7:=blt d1;simp only at l7;have c6:Hid (∀u,I No W7 u->μ ε 57 #[pV d,sL m (Q b) n] u λe z=>∃a2,e=π (U a2)/\Hid (jR z a c d q f (sL h (Q a) l) (qX (Q b) (sL h (Q a) l) (sL m (Q b) n) ((Q a:Int)-1) d f (sL v (Q a) y) 0) (b++J6.take 0) j (fZ t)/\z.heap[V w.heap]?=C (fB)/\á (V w.heap) w z/\ρ z 0 3 1 (sL v (Q a) y) (Q a) (C8<|kC a))):=λu F=>by
       obtain⟨yx,hy,e5⟩:=cq.u.eu F λ_ _ _ _ _ _ x=>x;have ap:=bc.u.y F;have d5:=A4 F ci.u;refine(Yb u ap.jr (λ_ _=>trivial) b m n yx hy e5 G.u.ok (λek ht=>?_) (by have:=G.u.jz;grind) _ d5 λa5 hg=>by grind[Θ]).mono ?_
       .obtain⟨aj,hn,rfl⟩:=List.mem_iff_getElem.1 ht;have B:=G.u.ls aj hn;refine⟨W,W,?_⟩;exact G.u.of _<|mQ hn
       .rintro e z ⟨rfl,hc,a6,_⟩;rw[E1c]at a6;obtain⟨B,Z,h3⟩:=ap.grow (S':=b++J6.take 0) d5 hc η;refine⟨_,K,B,Z _ _ _ _ (D9 F cc.u) ζ ζ,?_,?_⟩
        .have h4:=af.u;exact(h4.1.trans<|ô F å h4.1.size).trans (ô h3 (λk _ x=>W)<|kQ h4.1.size F.size)
        .have h5:=A3 cm.u F Ξ;refine⟨h5.1,?_⟩;obtain g2|⟨a5,cap,bf,e1,e2,e3,r⟩:=h5.2<;>grind
      go_cut [] (λM=>Hid<|jR M a c d q f (sL h (Q a) l) (qX (Q b) (sL h (Q a) l) (sL m (Q b) n) ((Q a:Int)-1) d f (sL v (Q a) y) 0) (b++J6.take 0) j (fZ t)/\M.heap[V w.heap]?=C (fB)/\á (V w.heap) w M/\M.ownsRow 0 3 1 (sL v (Q a) y) (Q a) (C8<|kC a));case first=>
       go_region_with (go_at_call 57;refine(c6.u _<|Ψ _ _ 1).mono ?_;rintro e M ⟨a2,rfl,L⟩);all_goals go_wp2_with fail
       all_goals go_meet
       all_goals omega
      case rest=>
       clear c6 bc cq cc cm ci d1 d3 l7;go_wp2_with fail;go_loopw [11] (λa2 wr=>∃i:Nat,i<=5/\a2=U ((i:Int)+1)/\Hid (jR wr a c d q f (sL h (Q a) l) (qX (Q b) (sL h (Q a) l) (sL m (Q b) n) ((Q a:Int)-1) d f (sL v (Q a) y) i) (b++J6.take i) j (fZ t)/\wr.heap[V w.heap]?=C (fB)/\á (V w.heap) w wr/\wr.ownsRow 0 3 1 (sL v (Q a) y) (Q a) (C8<|kC a))) (λa2 _=>6-(intOf a2).toNat);case atStart=>grind
       case round=>
        clear hcut;obtain⟨i,hi,rfl,D⟩:=hrel;by_cases d2:i<5
        .have d3:wr.cell? (J c 3)=C (pV d):=cr D.u.1.blk K;have l7:=blt d3;simp only at l7;have dl:Hid (∀u,I No wr u->μ ε 58 #[pV d,.agg #[U<|(i:Int)+1,sN,sN,U 0]] u λe z=>e=π (U ((Q b+i:Nat):Int))/\Hid (jR z a c d q f (sL h (Q a) l) (qX (Q b) (sL h (Q a) l) (sL m (Q b) n) ((Q a:Int)-1) d f (sL v (Q a) y) i) (b++J6.take (i+1)) j (fZ t)/\z.heap[V w.heap]?=C (fB)/\á (V w.heap) w z/\ρ z 0 3 1 (sL v (Q a) y) (Q a) (C8<|kC a))):=λu F=>by
          have ap:=D.u.1.y F;have ef:=G.u.jz;have eg:Q (b++J6.take i)=Q b+i:=by rw[qQ,List.length_take];simp[J6];omega
          refine(KH (t:=⟨(i:Int)+1,[],[],0⟩) u ap.jr none none 0 0 0 0 ⟨_,_,K,kW _ _ _ _,kW _ _ _ _,λa5 hg=>trivial,λa5 hg=>trivial⟩ (.inl ⟨η,η,K,K⟩) W).mono ?_;rintro e z ⟨rfl,⟨a2,hv,hc⟩,a6⟩;have e2:b++J6.take i++[⟨(i:Int)+1,[],[],0⟩]=b++J6.take (i+1):=by
           rw[Qa d2,<-List.append_assoc];rfl
          rw[e2]at a6;obtain⟨B,Z,h3⟩:=ap.grow hv hc a6;refine⟨η,B,Z _ _ _ _ (D9 F D.u.2.1) ζ ζ,?_,?_⟩
          .have h4:=D.u.2.2.1;have h5:=af.u.2;exact(h4.trans<|ô F å h4.size).trans (ô h3 (λk _ x=>W)<|kQ h4.size F.size)
          .have h5:=A3 D.u.2.2.2 F Ξ;refine⟨h5.1,?_⟩;obtain g2|⟨a5,cap,bf,e1,e2,e3,r⟩:=h5.2<;>grind
         go_wp2_with fail;go_region_with (go_at_call 58;refine(dl.u _<|Ψ _ _ 1).mono ?_;rintro e M ⟨rfl,L⟩;have y8:M.cell? (J c<|7+(i+1))=C (U 0):=(by rw[ä _ _ (7+(i+1)) _ _ _ L.u.1.blk];have:i=0\/i=1\/i=2\/i=3\/i=4:=W;obtain rfl|rfl|rfl|rfl|rfl:=this<;>rfl);have z8:=(λaw=>æ M c aw _ _ L.u.1.blk);have l8:=blt y8;simp only at l8);all_goals go_wp2_with fail
         all_goals
          have a9:I (λx=>x=c) M (M.setCell (J c<|7+(i+1))<|U<|(Q b:Int)+(i:Int)):=é M (J c<|7+(i+1)) _;have b9:(M.setCell (J c<|7+(i+1))<|U<|(Q b:Int)+(i:Int)).heap[c]?=C (γ (qX (Q b) (sL h (Q a) l) (sL m (Q b) n) ((Q a:Int)-1) d f (sL v (Q a) y)<|i+1) 96 (0,0)):=by
           have bu:=ð M c (7+(i+1)) _ _ (U<|(Q b:Int)+(i:Int)) L.u.1.blk;have e:=ym (Q b) (sL h (Q a) l) (sL m (Q b) n) ((Q a:Int)-1) d f (sL v (Q a) y) d2;rw[Int.natCast_add]at e;rw[bu,e]
          have P:=af.u.2;have H9:=O (And.intro (L.u.1.store a9 b9) (And.intro (show (M.setCell (J c<|7+(i+1))<|U<|(Q b:Int)+(i:Int)).heap[V w.heap]?=C (fB) by rw[a9.block _ (aG L.u.2.1)<|L.u.1.not _ _ _ _ L.u.2.1 ζ];exact L.u.2.1) (And.intro (L.u.2.2.1.trans<|ô a9 (λk _ x=>W) L.u.2.2.1.size) (A3 L.u.2.2.2 a9 (λa5 hg x=>by obtain⟨_,bf,hh⟩:=A9 L.u.2.2.2 a5 hg;exact L.u.1.not _ _ _ _ hh ζ x)))));grind[intOf]
        .have dv:i=5:=W;subst dv;have bg:=Xm G.u al.u (by rw[dg.u];exact D.u.1) (by have:=bn.u;omega) D.u.2.2.2;have cd:=O<|C5c bg.1 bg.2;have c9:=O bg.1;have eh:=uG;have l7:=(aG D.u.1.blk);clear bg;go_wp2_with fail;refine cd.u.mono ?_;clear cd;rintro e a7 ⟨hk,bi,R⟩;have f9:=hk.2 _ _ _ _ D.u.2.1 ζ ζ ζ ζ;have g0:δ a7 (J (V w.heap) 0)=C (U 0):=cr f9 K;have g1:δ a7 (J (V w.heap) 1)=C (U 0):=cr f9 K;have gz:=λaw=>æ a7 _ aw _ _ f9;have ea:=(aG f9);have P:=af.u.2;have b0:Hid (á (V w.heap) w a7/\V w.heap<=V a7.heap):=⟨TS bi D.u.2.2.1 D.u.2.2.1.size P.1 P.2.1 P.2.2,(TS bi D.u.2.2.1 D.u.2.2.1.size P.1 P.2.1 P.2.2).size⟩;cases ac:mW (aQ a b S) with
         |inl p=>
          obtain⟨g,aj⟩:=p;rw[ac]at R;have e0:e=π (.agg #[U g,U<|cW a aj]):=R;subst e0;have dj:Hid (iX s.data.toList g<|cW a aj):=⟨Pj ac,.inr ⟨a,b,ps,bd.u,G.u,.inr ⟨fs,S,aj,al.u,ac,K⟩⟩⟩;clear hk bi R ac f9 P D af;generalize cW a aj=pa at*;have a9:I (λk=>k=V w.heap) a7 (σ (σ a7 (J (V w.heap) 0)<|U g) (J (V w.heap) 1)<|U pa):=Ã (é a7 (J (V w.heap) 0) _) (é _ (J (V w.heap) 1) _) Ξ;have bs:Hid (GO s.data.toList w (π<|.tuple #[pV c,.agg #[U g,U pa]])<|σ (σ a7 (J (V w.heap) 0)<|U g) (J (V w.heap) 1)<|U pa):=⟨b0.u.1.trans<|ô a9 (λk _ x=>W) b0.u.2,.inl ⟨g,pa,_,dj.u,K⟩⟩;clear a9;go_wp2_with fail;exact ç (v:=.tuple #[pV c,.agg #[U g,U pa]]) (by simp[ã,results29,go_sem,g0,g1]) K bs.u
         |inr e8=>
          rw[ac]at R;obtain⟨e0,dm,e9,hZ,hR,hC⟩:=R;subst e0;have bw:=RZ f9;have bs:Hid (GO s.data.toList w (π<|.tuple #[pV c,.agg #[U 0,U 0]])<|σ (σ a7 (J (V w.heap) 0)<|U 0) (J (V w.heap) 1)<|U 0):=⟨b0.u.1.trans<|ô bw å b0.u.2,.inr ⟨a,b,S,e8,⟨ps,fs,bd.u,G.u,al.u,ac⟩,wr,c,d,q,f,_,_,_,_,dm,e9,D.u.2.2.1,P.1,P.2.1,P.2.2,c9.u,K,hZ,hR,hC.y bw,K⟩⟩;clear hk bi hZ hR hC ac f9 P D af bw c9;go_wp2_with fail;exact ç (v:=.tuple #[pV c,.agg #[U 0,U 0]]) (by simp[ã,results29,go_sem,g0,g1]) K bs.u
section
variable{d w:E}{c:Cx}{b i mb k:Nat}{j yv f:υ}{mn:Int}{Z:List Ty}{e:uZ}{n:Of}{xb gb m:Nat}{g:Gm}
def aW.sa{r}(h:aW d w c b i mb k j yv mn f Z e){q}(a:I (λl=>l=q) w r)(R:∀s u y,w.heap[q]?≠C (γ s u y))(P:q≠mb)(N:V d.heap<=q):aW d r c b i mb k j yv mn f Z e:=by
 obtain⟨A,⟨ov,D,o,G,p⟩,B⟩:=h;have H:∀{l:Nat} {t:Array υ} {v:TypeId} {z:Nat×Nat},w.heap[l]?=C (γ t v z)->l≠q:=λF M=>η;refine⟨A.trans a λl F x=>W,⟨ov,D,?_,A3 G a λg L x=>?_,p.P a (p.gm.P a λx=>?_) ?_ λ_ x _=>x⟩,B⟩
 .rw[a.block b (aG o)<|H o];omega
 .grind[A9]
 .omega
 grind
structure gY(d w:E)(c:Cx)(b i mb k:Nat)(j yv:υ)(mn:Int)(f:υ)(Z:List Ty)(e:uZ)(xb gb m:Nat)(g:Gm):Prop where
 st:aW d w c b i mb k j yv mn f Z e
 blk:w.heap[xb]?=C (γ #[pV b,.map<|C gb] 118 (0,0))
 gs:cQ w gb m g
 low:V d.heap<=gb
 ne:gb≠mb
theorem gY.y{l}(h:gY d w c b i mb k j yv mn f Z e xb gb m g)(a:I No w l):gY d l c b i mb k j yv mn f Z e xb gb m g:=
 ⟨h.st.y a,D9 a h.blk,h.gs.P a λx=>x,h.low,h.ne⟩
def gY.jg{a}(h:gY d w c b i mb k j yv mn f Z e xb gb m g)(l:I (λp=>p=mb) w a)(o:aW d a c b i mb k j yv mn f Z e):gY d a c b i mb k j yv mn f Z e xb gb m g:=
 ⟨o,h.st.blk l h.blk,h.gs.P l h.ne,h.low,h.ne⟩
def gY.more{a}(h:gY d w c b i mb k j yv mn f Z e xb gb m g)(l:m<=a):gY d w c b i mb k j yv mn f Z e xb gb a g:=
 ⟨h.st,h.blk,h.gs.more l,h.low,h.ne⟩
def gY.put{a}{o:Gm}{r}(h:gY d w c b i mb k j yv mn f Z e xb gb m g)(l:I (λt=>t=gb) w a)(s:cQ a gb r o):gY d a c b i mb k j yv mn f Z e xb gb r o/\KC w a:=by
 have p:KC w a:=⟨l.size,λq u v z x=>by
  rw[l.block q (aG x) λy=>by subst y;exact h.gs.et x];omega⟩;exact⟨⟨h.st.sa l (λ_ _ _=>h.gs.et) h.ne h.low,p.2 _ _ _ _ h.blk,s,h.low,h.ne⟩,p⟩
def XX(h:gY d w c b i mb k j yv mn f Z e xb gb m g)(R:m<=100000000)(l:Nat)(hi:l<=1000000)(a)(M:a<Q (tl c Z)):
 μ ε 92 #[pV xb,U l,U a] w λo B=>o=rT/\gY d B c b i mb k j yv mn f Z e xb gb (m+1) (gJ g l<|tr (tl c Z) a)/\KC w B:=by
 obtain⟨a3,S⟩:=h.st.jr;obtain⟨oa,oc,a4,fz,q0,q1,q2,q3,-,-,-,-,-⟩:=h.st.cell;have b0:δ w (J xb 0)=C (pV b):=cr h.blk K;have H:δ w (J xb 1)=C (.map<|C gb):=cr h.blk K;have G:=O h;have A:=KK<|tr (tl c Z) a;have s:=O<|ŀ a w M S;obtain⟨t,T⟩:∃t,tr (tl c Z) a=t:=⟨_,K⟩;rw[T]at A s⊢;obtain⟨v,q⟩:∃v,jJ t=v:=⟨_,K⟩;have x:=O q;rw[q]at A s;go_in;go_wp2_with fail;refine s.u.mono ?_;rintro o D ⟨rfl,y⟩;have L:=A4 y H;have a2:=blt L;simp only at a2;have r:=O<|G.u.y y;have z:=O y;by_cases q:v=127
 .subst q;have p:Hid (gY d D c b i mb k j yv mn f Z e xb gb (m+1)<|gJ g l t):=by
   have o:gJ g l t=g:=by unfold gJ;rw[yY x.u]
   rw[o];exact r.u.more<|Nat.le_succ _
  go_wp2;go_end0;exact⟨K,p.u,KC.y z.u⟩
 .have gv:((v:Int)!=127)=τ:=â;obtain⟨F,a5,P,N⟩:=r.u.gs.put l v W R W;have p:Hid (gY d F c b i mb k j yv mn f Z e xb gb (m+1) (gJ g l t)/\KC D F):=by
   have o:gJ g l t=λu=>if u=(l:Int) then C (v:Int) else g u:=by
    unfold gJ;rw[wY<|by rw[x.u];omega,x.u];rfl
   rw[o];exact r.u.put N P
  go_wp2;go_end0;exact⟨K,p.u.1,(KC.y z.u).trans p.u.2⟩
def D9e(h:gY d w c b i mb k j yv mn f Z e xb gb m g)(hm:m<=100000000){x}(T:w.heap[x]?=C (γ #[pV xb] 153 (0,0)))(p:Nat)(hp:p<=1000000)(hl:Lk c Z e n p)(a)(R:a<Q (tl c Z)):
 μ ε 94 #[U p,U a,pV x] w λo H=>o=rT/\gY d H c b i mb k j yv mn f Z e xb gb (m+1) (sG n g (p,tr (tl c Z) a))/\KC w H:=by
 obtain⟨p',r,a2,o,hr,G,a3⟩:=hl;have:p=p':=W;subst this;have u:=O<|YA h.st p a2 r hr G;have hk:(tl c Z)[r].x=(bB n p).k:=by rw[<-a3,jU h.st.ts G]
 have z:=O λa4 (hu:I No w a4)=>XX (h.y hu) hm p hp a R;have b0:δ w (J xb 0)=C (pV b):=cr h.blk K;have x0:δ w (J x 0)=C (pV xb):=cr T K;have L:=O h;rw[hk]at u;obtain⟨t,ht⟩:∃t,tr (tl c Z) a=t:=⟨_,K⟩;rw[ht]at z⊢;obtain⟨q,F⟩:∃q,(bB n p).k=q:=⟨_,K⟩;have A:=O F;rw[F]at u;go_in;go_wp2_with fail;refine u.u.mono ?_;rintro o a6 ⟨rfl,D⟩;have a5:=A4 D x0;have S:=blt a5;simp only at S;have l:=O D;by_cases B:q=5
 .subst B;have y:sG n g (p,t)=gJ g p t:=by unfold sG;rw[yY A.u]
  have s:=O y;go_wp2_with fail;refine(z.u _ l.u).mono ?_;rintro o a7 ⟨rfl,P,N⟩;have v:=O P;have M:=O N;go_wp2;go_end0;exact⟨K,by rw[s.u];exact v.u,(KC.y l.u).trans M.u⟩
 .have g5:(q==5)=κ:=by simpa using B
  have y:sG n g (p,t)=g:=by unfold sG;rw[wY<|by rw[A.u];omega]
  have s:=O y;have v:=O<|(L.u.y l.u).more<|Nat.le_succ m;go_wp2;go_end0;exact⟨K,by rw[s.u];exact v.u,KC.y l.u⟩
def Xj(d h:E)(c:Cx)(b i mb k:Nat)(j yv:υ)(mn:Int)(f:υ)(Z:List Ty)(e:uZ)(n:Of)(xb gb m:Nat)(g:Gm)(a:Nat)(l:List<|Int×Tr)(u:E):Prop:=
 gY d u c b i mb k j yv mn f Z e xb gb (m+Q l) (l.foldl (sG n) g)/\Q l<=1200/\u.heap[a]?=C (γ #[pV xb] 153 (0,0))/\KC h u
def Yj(y:dO d c b i mb k j f){q}(z:gV c Z e n q)(H:m<=90000000)(F:∃L,aN c n q=C L)(B)(s):
 oU d c b i mb k j yv mn f Z e n q 94 #[pV s] (Xj d B c b i mb k j yv mn f Z e n xb gb m g s) (λ_ _=>False) where
 cf _ _:=ũ;st l u h:=h.1.st;y l u r h hc:=⟨h.1.y hc,h.2.1,D9 hc h.2.2.1,h.2.2.2.trans<|.y hc⟩;jg l u r h hc hC:=⟨h.1.jg hc hC,h.2.1,h.1.st.blk hc h.2.2.1,h.2.2.2.trans<|h.1.st.kc hc⟩;bad l u r h hc hn:=η;tell l u L x p a h hx hp ha hL2 hmem hlen:=by
  have t:=z.pe x hx;rw[hp]at t;have A:p<=1000000:=by
   obtain⟨M,v,_,G,_⟩:=hx;have:=y.ok.fp;omega
  have:=h.2.1;refine(D9e h.1 W h.2.2.1 p A t a ha).mono ?_;rintro v r ⟨rfl,D,o⟩;refine .inr ⟨K,⟨?_,η,o.2 _ _ _ _ h.2.2.1,h.2.2.2.trans o⟩,o⟩;grind
end
section
variable{p w:E}{c:Cx}{d h j o:Nat}{l q e:υ}{k:Int}{Z:List Ty}{b:uZ}{n:Of}{a f m:Nat}{g:Gm}{i:Nat}
def Zu(p w:E)(c:Cx)(d h j o:Nat)(l q:υ)(k:Int)(e:υ)(Z:List Ty)(b:uZ)(a f m:Nat)(g:Gm)(s:ò)(r:E):Prop:=
 s=rT/\gY p r c d h j o l q k e Z b a f (m+1201) g/\KC w r
def Wq(hB:dO p c d h j o l e)(hL:gV c Z b n i)(hD:EC c n i)(A)(af:c.N[i].x=7\/c.N[i].x=8\/c.N[i].x=9->Lk c Z b n i)(L:gY p w c d h j o l q k e Z b a f m g)(hm:m<=80000000):
 μ ε 50 #[pV a,U i] w (Zu p w c d h j o l q k e Z b a f m<|xI c n g i):=by
 have b1:=uG;have az:=hB.ok.fp;have HX:Hid (∀u bx,gY p u c d h j o l q k e Z b a f (m+1) (pQ c n g i)->u.heap[bx]?=C (γ #[pV a] 153 (0,0))->
  μ ε 93 #[pV d,U (i:Int),.func (.func 94) #[] #[pV bx]] u λG w'=>G=rT/\gY p w' c d h j o l q k e Z b a f (m+1201) (xI c n g i)/\KC u w'):=λu bx hu ak=>by
  refine(Iv (w:=u) hB hL (Yj (yv:=q) (mn:=k) (xb:=a) (gb:=f) (m:=m+1) (g:=pQ c n g i) hB hL W hD.asked u bx) A (λy=>by have:=hD.call (by rw[B7 A];exact y);rw[B7 A]at this;exact this) (λy=>hD.ret<|by rw[B7 A];exact y) ⟨hu,wQ _,ak,KC.refl _⟩).mono ?_;rintro G w' (⟨_,av⟩|⟨rfl,aw,ai,B,h2,h3,h4⟩)
  .exact av.elim
  .refine⟨K,?_,h4⟩;unfold xI;rw[ai];exact B.more W
 obtain⟨oa,oc,b5,fz,q0,q1,q2,q3,q4,q5,q6,qp,qo⟩:=L.st.cell;obtain⟨ng,nc,R,S,ap,hg,b2,an,⟨x0,x1,x2,x3,x4,x5,x6,x7,x8⟩,am,-⟩:=(hB.fx L.st.P).at (ñ _ _) i A;have b0:δ w (J a 0)=C (pV d):=cr L.blk K;have b6:=(aG L.blk);have ag:=hB.ok.ew i A;have HG:Hid (∀u (t:Nat),t<Q (tl c Z)->I No w u->_):=λu t ha hu=>XX (L.y hu) W i W t ha;have HS:Hid (∀u,I No w u->gY p u c d h j o l q k e Z b a f (m+1) g):=λu hu=>(L.y hu).more<|Nat.le_succ _;obtain⟨gw,a3⟩:∃gw,pQ c n g i=gw:=⟨_,K⟩;have a5:Hid (c.N[i].x=16->c.N[i].ty≠-1->∃t:Nat,c.N[i].ty=(t:Int)/\t<Q (tl c Z)/\gJ g (i:Int) (tr (tl c Z) t)=gw):=λy D=>by
  obtain⟨t,B,h2,h3⟩:=hL.wt _<|(ag.sk y).resolve_left D;refine⟨t,B,h2,?_⟩;rw[<-a3];unfold pQ;rw[B7 A,yY y,yY D,h3]
 have a6:Hid (c.N[i].x=16->c.N[i].ty=-1->g=gw):=λy D=>by
  rw[<-a3];unfold pQ;rw[B7 A,yY y,wY<|by rw[D];simp]
 have a7:Hid (c.N[i].x=7\/c.N[i].x=8\/c.N[i].x=9->∃(r:Nat) (L:i<Q b),b[i]=(r:Int)/\r<Q (tl c Z)/\gJ g (i:Int) (tr (tl c Z) r)=gw):=λy=>by
  obtain⟨au,r,B,h2,h3,h4,h5⟩:=af y;have:i=au:=W;subst this;refine⟨r,B,h3,h4,?_⟩;rw[<-a3];unfold pQ;rw[B7 A,wY W,yY y,h5]
 have a8:Hid (c.N[i].x≠16->¬(c.N[i].x=7\/c.N[i].x=8\/c.N[i].x=9)->g=gw):=λB h2=>by
  rw[<-a3];unfold pQ;rw[B7 A,wY B,wY h2]
 rw[a3]at HX;have a4:Hid (∀ab (hj:ab<Q b),∃g,oa=C (J g 0)/\g<V w.heap/\Q b<=oc/\oc<=Δ/\δ w (J g ab)=C (U b[ab])):=λab hj=>by
  obtain⟨g,B,h2,h3,h4,h5,h6,_⟩:=qo ab hj;exact⟨g,B,h3,h4,h5,h6⟩
 unfold Δ at an;clear qp qo L hB hL hD af ag a3 am q1 q2 q3 q4 q5 fz;generalize ao:c.N[i]=nd at*;clear ao;obtain⟨z,va,vb,vc,T,tx,vn,vt,vp⟩:=nd;subst ap;simp only at*;by_cases ac:z=16
 .subst ac;by_cases D:vt=-1
  .obtain rfl:=a6.u K D;subst D;clear a5 a6 a7 a8 HG a4;have s:Hid (I No w<|(ω w<|γ #[pV a] 153).alloc<|aM 16 va vb vc (sL R (Q T) S) tx vn (-1) vp):=B6 (ν _ _ _)<|ν _ _ _;have H:((ω w<|γ #[pV a] 153).alloc<|aM 16 va vb vc (sL R (Q T) S) tx vn (-1) vp).heap[V w.heap]?=C (γ #[pV a] 153 (0,0)):=(ÿ _ _ _ θ).trans<|nW w _;have F:=O H;clear H;go_in;go_wp2_with fail;refine(HX.u _ _ (HS.u _ s.u)<|F.u).mono ?_;rintro G a2 ⟨rfl,x,v⟩;have N:=O x;have M:Hid (KC w a2):=(KC.y s.u).trans v;clear x v;go_wp2_with fail;go_end0;exact⟨K,N.u,M.u⟩
  .obtain⟨t,ha,aj,rfl⟩:=a5.u K D;subst ha;have ay:((t:Int)!=-1)=τ:=by first|(simp;done)|(simp;omega)
   clear a5 a6 a7 a8 a4 D;have s:Hid (I No w<|(ω w<|γ #[pV a] 153).alloc<|aM 16 va vb vc (sL R (Q T) S) tx vn (t:Int) vp):=B6 (ν _ _ _)<|ν _ _ _;have H:((ω w<|γ #[pV a] 153).alloc<|aM 16 va vb vc (sL R (Q T) S) tx vn (t:Int) vp).heap[V w.heap]?=C (γ #[pV a] 153 (0,0)):=(ÿ _ _ _ θ).trans<|nW w _;have F:=O H;clear H;go_in;go_wp2_with fail;refine(HG.u _ t aj s.u).mono ?_;rintro G ah ⟨rfl,hP,P⟩;have f0:=P.2 _ _ _ _ F.u;have a9:δ ah (J (V w.heap) 0)=C (pV a):=cr f0 K;have aa:=P.cell<|A4 s.u b0;have l0:=blt a9;have l1:=blt aa;simp only at l0 l1;have HP:=O hP;have HK:=O P;have F0:=O f0;clear hP P f0 HG;go_wp2_with fail;refine(HX.u _ _ (HP.u)<|F0.u).mono ?_;rintro G a2 ⟨rfl,x,v⟩;have N:=O x;have M:Hid (KC w a2):=((KC.y s.u).trans HK.u).trans v;clear x v;go_wp2_with fail;go_end0;exact⟨K,N.u,M.u⟩
 .have ax:(z==16)=κ:=by simpa using ac
  by_cases ad:z=7\/z=8\/z=9
  .obtain⟨r,al,hr,ar,rfl⟩:=a7.u ad;obtain⟨go,rfl,b3,b4,aq,y0⟩:=a4.u i al;rw[hr]at y0;clear a5 a6 a7 a8 a4 hr;unfold Δ at aq;obtain⟨ύ,hW⟩:∃ύ,ύ=(ω w<|γ #[pV a] 153).alloc (aM z va vb vc (sL R (Q T) S) tx vn vt vp):=⟨_,K⟩;have s:Hid (I No w ύ):=by
    rw[hW];exact B6 (ν _ _ _)<|ν _ _ _
   have F:Hid (ύ.heap[V w.heap]?=C (γ #[pV a] 153 (0,0))):=by
    rw[hW];exact(ÿ _ _ _ θ).trans<|nW w _
   have a9:δ ύ (J (V w.heap) 0)=C (pV a):=cr F.u K;have aa:=A4 s.u b0;have ae:=A4 s.u q6;have c3:=A4 s.u y0;have l0:=blt a9;have l1:=blt aa;have l2:=blt ae;have l3:=blt c3;simp only at l0 l1 l2 l3;obtain rfl|rfl|rfl:=ad;all_goals
    go_in;go_wp2_with fail;rw[<-hW];clear x0 x1 x2 x3 x4 x5 x6 x7 x8 q0 q6 b0 y0 hW;go_region_with (go_at_call 92;refine(HG.u _ r ar<|B6 s.u<|Ψ _ _ 1).mono ?_;rintro G ah ⟨rfl,hP,P⟩;have HP:=O hP;have HK:=O P;clear hP P);all_goals
     have f0:=HK.u.2 _ _ _ _ (show ύ.drew.heap[V w.heap]?=C (γ #[pV a] 153 (0,0)) from F.u);have d0:=HK.u.cell a9;have d1:=HK.u.cell aa;have m0:=blt d0;have m1:=blt d1;simp only at m0 m1;have F0:=O f0;clear f0 a9 aa ae c3 l0 l1 l2 l3 HG;go_wp2_with fail;refine(HX.u _ _ (HP.u)<|F0.u).mono ?_;rintro G a2 ⟨rfl,x,v⟩;have N:=O x;have M:Hid (KC w a2):=(((KC.y s.u).trans<|KC.y<|Ψ _ _ 1).trans HK.u).trans v;clear x v;go_wp2_with fail;go_end0;exact⟨K,N.u,M.u⟩
  .obtain rfl:=a8.u ac ad;have g7:(z==7)=κ:=â;have g8:(z==8)=κ:=â;have g9:(z==9)=κ:=â;clear a5 a6 a7 a8 HG a4 ac ad;have s:Hid (I No w<|(ω w<|γ #[pV a] 153).alloc<|aM z va vb vc (sL R (Q T) S) tx vn vt vp):=B6 (ν _ _ _)<|ν _ _ _;have H:((ω w<|γ #[pV a] 153).alloc<|aM z va vb vc (sL R (Q T) S) tx vn vt vp).heap[V w.heap]?=C (γ #[pV a] 153 (0,0)):=(ÿ _ _ _ θ).trans<|nW w _;have F:=O H;clear H;go_in;go_wp2_with fail;refine(HX.u _ _ (HS.u _ s.u)<|F.u).mono ?_;rintro G a2 ⟨rfl,x,v⟩;have N:=O x;have M:Hid (KC w a2):=(KC.y s.u).trans v;clear x v;go_wp2_with fail;go_end0;exact⟨K,N.u,M.u⟩
end
def Tryz.qd:(prog.info? 90).map (λi=>(i.zero,i.size,i.bytes))=C (C<|.agg #[U 0,U 0],2,16):=î
def TR(g):∀j,Q (U5 g j)<=j
 |0=>vQ _
 |j+1=>by
  have:=TR g j;grind[U5,qQ]
section
variable{k w:E}{c:Cx}{d h i j:Nat}{b o e:υ}{l:Int}{Z:List Ty}{n:uZ}{a f m:Nat}{g:Gm}
def Ć(N:dO k c d h i j b e)(u:gY k w c d h i j b o l e Z n a f m g):
 μ ε 51 #[pV a] w λa7 w'=>∃r q,a7=π (Y r (Q (U5 g (Q c.N))) q)/\I No w w'/\ρ w' (V w.heap) 90 2 (Y r (Q (U5 g (Q c.N))) q) (Q (U5 g (Q c.N))) (S4<|U5 g (Q c.N)):=by
 obtain⟨i0,hi,ae,af,ag⟩:=ý Tryz.qd;obtain⟨oa,oc,ak,-,q0,-,-,-,-,-,-,-,-⟩:=u.st.cell;have aj:=N.ok.fp;obtain⟨T,nc,aa⟩:∃T nc,b=sL T (Q c.N) nc:=by
  obtain⟨nx,hn,_⟩:=N.fx u.st.P;grind[B8]
 subst aa;have b0:δ w (J a 0)=C (pV d):=cr u.blk K;have b1:δ w (J a 1)=C (.map<|C f):=cr u.blk K;have a4:=O u.gs;generalize Q c.N=B at*;go_in;go_wp2;go_loopw [16,3] (λv a2 wr=>∃(p:Nat) (r:Option Addr) (q:Nat),p<=B/\v=U p/\a2=Y r (Q (U5 g p)) q/\Hid (I No w wr)/\Hid (wr.ownsRow (V w.heap) 90 2 (Y r (Q (U5 g p)) q) (Q (U5 g p))<|S4<|U5 g p)) (λv _ _=>B-(intOf v).toNat);case atStart=>exact⟨0,none,0,wQ _,K,K,I.refl _ _,kW _ _ _ _⟩
 case round=>
  obtain⟨p,r,q,hj,rfl,rfl,CR,F⟩:=hrel;have al:=CR.u.size;by_cases ai:p<B
  .have A:=(a4.u.P CR.u λx=>x).look p W;have d1:=A4 CR.u b1;have m1:=blt d1;simp only at m1;have ab:=TR g p;have s:Hid (U5 g (p+1)=U5 g p++(match g p with|C v=>[(p,v)]|none=>[])):=by
    show _=_;cases y:g p<;>simp[U5,y]
   obtain⟨z,a8⟩:∃z,U5 g p=z:=⟨_,K⟩;rw[a8]at F s ab⊢;cases y:g p with
   |none=>
    rw[y]at A s;have M:Hid (U5 g (p+1)=z):=by
     show _=_;rw[s.u];simp
    simp at A;go_wp2;go_roundw;case rel=>exact⟨p+1,r,q,W,ï,by rw[M.u],CR,by rw[M.u];omega⟩
    grind[intOf]
   |some D=>
    rw[y]at A s;have H:Hid (U5 g (p+1)=z++[((p:Int),D)]):=s.u;simp at A;have L:=O<|F.u.alloc<|γ #[U p,U D] 90;clear s y;go_wp2_with (at_builtin;refine wpList_append_own _ K _ _ 55 K (V w.heap) 90 i0 (.agg #[U 0,U 0]) 2 16 underlying55 hi ae af ag K ζ _ _ _ K L.u (J wr.heap.size 0) 1 1 [U (p:Int),U D] K K ?c1 ?c2 ?c3 ?c4 ?c5 ?_);case c1=>grind[Ó,rY]
    case c2=>intro a2 S;simp at S;obtain rfl|rfl:=S<;>rfl
    case c3=>grind[Δ]
    case c4=>omega
    case c5=>simp;omega
    intro v' ah G R _;obtain⟨a6,c4,rfl⟩:=B8 G;have a5:=O G;have P:=(ν (λt=>V w.heap<=t) wr<|γ #[U (p:Int),U D] 90).trans (I.grown R) λt hk x=>(A9 L.u t x.symm).1;have a3:Hid (I No w ah):=((CR.u.mono (S':=λt=>V w.heap<=t) å).trans P Ξ).mono (λt hk x=>W);clear G R P;go_wp2_with fail;go_roundw;case rel=>exact⟨p+1,a6,c4,W,ï,by rw[H.u,qQ,Û],a3,(show ρ _ _ _ _ _ _ _ from by rw[H.u,OM,qQ,Û];exact a5.u)⟩
    grind[intOf]
  .have a9:p=B:=W;subst a9;go_wp2_with fail;exact ç (v:=Y r (Q (U5 g p)) q) (by simp[ã,results51,go_sem]) K ⟨r,q,K,CR.u,F.u⟩
end
def SV(l:bZ)(w:E)(e:ò)(g:E):Prop:=á (V w.heap) w g/\
 ((∃f p,iX l f p/\e=π (.tuple #[sN,.agg #[U f,U p]]))\/
  ∃N T a b d c,fQ l N T a b/\e=π (.tuple #[Y d (Q (fS (aQ N T a) b)) c,.agg #[U 0,U 0]])/\ρ g (V w.heap) 90 2 (Y d (Q (fS (aQ N T a) b)) c) (Q (fS (aQ N T a) b)) (S4<|fS (aQ N T a) b))
theorem fQ.ok{l}{N}{T}{a}{c}(h:fQ l N T a c):jG (aQ N T a)/\DQ (aQ N T a) c:=by
 obtain⟨i,e,_,b,d,g⟩:=h;have f:=yP b d b.tx;grind[XT]
def zN(s)(w:E)(ay:s.size<=Δ):μ ε 27 #[.string s] w (SV s.data.toList w):=by
 have HR:=O λa=>MI s a ay;have ab:=nW w<|fB;have b6:=@run_makeMap ε;go_in;go_wp2_with fail;refine(HR.u _).mono ?_;rintro e a ⟨a3,⟨q,p,v,ae,rfl⟩|⟨N,T,d,b,ah,n,f,F,G,qb,nv,yv,mn,P,Z,a7,a2,ai,af,ag,hB,rfl,hZ,hR,hC,-⟩⟩
 .have m:a.heap[V w.heap]?=C (fB):=by
   rw[a3.block _ θ];exact ab
  have R:δ a (J (V w.heap) 0)=C (U 0):=cr m K;have S:δ a (J (V w.heap) 1)=C (U 0):=cr m K;have gz:=λa6=>æ a _ a6 _ _ m;have gl:=(aG m);have b5:(q !=0)=τ:=by simp[ae.1]
  have B:Hid (á (V w.heap) w a):=(ô (ν No w _) å<|vQ _).trans (a3.mono θ);have ak:=O ae;go_wp2;go_region;all_goals go_wp2
  all_goals
   have t:I (λk=>k=V w.heap) a (σ (σ a (J (V w.heap) 0)<|U q) (J (V w.heap) 1)<|U p):=Ã (é a (J (V w.heap) 0) _) (é _ (J (V w.heap) 1) _) Ξ;have hR:SV s.data.toList w (π<|.tuple #[sN,.agg #[U q,U p]]) _:=⟨B.u.trans<|ô (Ã t (B6 (ν No _<|γ #[U q,U p] 25)<|Ψ No _ 1) å) (λk _ e=>W) B.u.size,.inl ⟨q,p,ak.u,K⟩⟩;exact ç (by simp[ã,results27,go_sem,R,S,gl]) K hR
 .have m:a.heap[V w.heap]?=C (fB):=by
   rw[a3.block _ θ];exact ab
  have az:V w.heap+1<=V n.heap:=by have:=a2.size;simpa using this
  have b0:V (w.alloc<|fB).heap=V w.heap+1:=θ;rw[b0]at a2 ai af ag;have B:Hid (∀g,I (SW n f F G) n g->á (V w.heap) w g):=λg an=>(ô (ν No w _) å<|vQ _).trans ((TS an a2 az ai af ag).mono W);obtain⟨au,av⟩:=ah.ok;have al:=O ah;have L:Hid (∀g l i,á (V w.heap) w g->ρ g (V w.heap) 90 2 (Y l (Q (fS (aQ N T d) b)) i) (Q (fS (aQ N T d) b)) (S4<|fS (aQ N T d) b)->SV s.data.toList w (π<|.tuple #[Y l (Q (fS (aQ N T d) b)) i,.agg #[U 0,U 0]]) g):=λg l i hb ho=>⟨hb,.inr ⟨N,T,d,b,l,i,al.u,K,ho⟩⟩;have aq:fS (aQ N T d) b=U5 (pX (aQ N T d) b (Q (aQ N T d).N)) (Q (aQ N T d).N):=K;rw[aq]at L;generalize aQ N T d=c at*;have b7:=au.fp;have H:=O av;have A:=O hB;have a9:=O hR;have a8:=O hC;have aj:=O m;obtain⟨y,z,ax⟩:∃y z,nv=sL y (Q c.N) z:=by
   obtain⟨nx,hn,_⟩:=hB.fx hC.P;grind[B8]
  subst ax;obtain⟨oa,oc,b8,-,q0,-,-,-,-,-,-,-,-⟩:=hC.cell;have M:I No a (((a.alloc<|fB).alloc<|.map #[] 0).alloc<|γ #[pV f,.map<|C<|V a.heap+1] 118):=B6 (B6 (ν _ _ _)<|ν _ _ _)<|ν _ _ _;have bb:=A4 M q0;go_wp2;have b9:=a8.u.P.size;have P0:Hid (gY n (((a.alloc<|fB).alloc<|.map #[] 0).alloc<|γ #[pV f,.map<|C<|V a.heap+1] 118) c f F G qb (sL y (Q c.N) z) yv mn P Z a7 (V a.heap+2) (V a.heap+1) 0<|pX c b 0):=by
   refine⟨a8.u.y M,?_,?_,W,by have:=A.u.lt;omega⟩
   .have:=nW ((a.alloc<|fB).alloc<|.map #[] 0)<|γ #[pV f,.map<|C<|V a.heap+1] 118;simp_all
   .have:=(cQ.new<|a.alloc<|fB).P (ν No _<|γ #[pV f,.map<|C<|V a.heap+1] 118) λx=>x;simp at this;exact this
  have K0:=KC.y M;go_loopw [27] (λv wr=>∃j:Nat,j<=Q c.N/\v=U j/\Hid (gY n wr c f F G qb (sL y (Q c.N) z) yv mn P Z a7 (V a.heap+2) (V a.heap+1) (1201*j)<|pX c b j)/\Hid (KC a wr)) (λv _=>Q c.N-(intOf v).toNat);case atStart=>grind
  case round=>
   obtain⟨j,hj,rfl,o,D⟩:=hrel;by_cases u:j<Q c.N
   .have HN:=O (Wq A.u (RG A.u.ok o.u.st.ts a9.u H.u.inv<|Nat.le_of_lt u) (H.u.dn j u) u (λhk=>by
     obtain⟨bc,ht⟩:=H.u.inv.ex j u (by grind[aP])<|.inl u;obtain⟨b1,h1,h2,h3,h4⟩:=aW.look a9.u ht;exact⟨j,b1,h1,K,h2,h3,h4⟩) o.u W);go_wp2_with fail;refine HN.u.mono ?_;rintro e h ⟨rfl,ap,ao⟩;have b3:Hid (gY n h c f F G qb (sL y (Q c.N) z) yv mn P Z a7 (V a.heap+2) (V a.heap+1) (1201*(j+1))<|pX c b<|j+1):=ap;have b2:=O<|D.u.trans ao;go_wp2;grind[intOf]
   .have aw:j=Q c.N:=W;subst aw;have aa:=O<|Ć A.u o.u;go_wp2_with fail;refine aa.u.mono ?_;rintro e h ⟨l,i,rfl,a4,a5⟩;have r:=D9 a4<|D.u.2 _ _ _ _ aj.u;have R:δ h (J (V w.heap) 0)=C (U 0):=cr r K;have S:δ h (J (V w.heap) 1)=C (U 0):=cr r K;have gz:=λa6=>æ h _ a6 _ _ r;have b4:=(aG r);have t:I (λk=>k=V w.heap) h (σ (σ h (J (V w.heap) 0)<|U 0) (J (V w.heap) 1)<|U 0):=Ã (é h (J (V w.heap) 0) _) (é _ (J (V w.heap) 1) _) Ξ;have ba:=D.u.1;have ar:=O (L.u _ l i ((B.u _ (o.u.st.y a4).P).trans<|ô t (λk _ x=>W) W)<|A3 (C7 a5 W) t λam hg x=>by have:=(a5.lt am hg).1;omega);clear t r L aa a5 a4 o D;generalize Q (U5 (pX c b (Q c.N)) (Q c.N))=bl at*;go_wp2_with fail;exact ç (v:=.tuple #[sL l bl i,.agg #[U 0,U 0]]) (by simp[ã,results27,go_sem,R,S]) K ar.u
def FK(l:bZ)(a p:Int):Prop:=iX l a p\/(a=0/\p=0/\∃N T b c,fQ l N T b c)
def Xi(R:List<|Int×Int):Prop:=Q R<=1200/\(∀p∈R,(0<=p.1/\p.1<=1200)/\1<=p.2/\p.2<127)/\R.Pairwise λp q=>p.1<q.1
def fQ.oj{l}{N}{T}{a}{b}(h:fQ l N T a b):Xi (fS (aQ N T a) b):=by
 obtain⟨q,m,_,d,i,j⟩:=h;have c:=yP d i d.tx;have g:=RM c _ b (vQ _) j;obtain⟨e,f⟩:=ZL (YU c g (Q (aQ N T a).N)) (Q (aQ N T a).N);have n:=TR (pX (aQ N T a) b (Q (aQ N T a).N)) (Q (aQ N T a).N);have o:=c.fp;exact⟨by grind[fS],λp k=>by have:=e p k;omega,f⟩
