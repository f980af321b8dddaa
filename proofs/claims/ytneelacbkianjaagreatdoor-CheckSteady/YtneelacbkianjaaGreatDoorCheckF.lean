/-
  A part of the proof.
-/
import Derived.Test.YtneelacbkianjaaGreatDoorCheckD
import Derived.Test.YtneelacbkianjaaGreatDoorDob
set_option maxHeartbeats 16000000
set_option maxRecDepth 100000
namespace Go.Proofs.YtneelacbkianjaaGreatDoor
open Go.Proofs.Tryz
open Go.RowKit Go.Maps
section
variable{e w:lZ}{c:Cx}{a f g h:Nat}{k m j:Value}{l:Int}{Z:List Ty}{d:uZ}{b:Of}{i:Nat}
def XpQ(e w:lZ)(c:Cx)(a f g h:Nat)(k m:Value)(l:Int)(j:Value)(Z:List Ty)(d:uZ)(i:Nat)(o:Option Tr)(p:Ending)(n:lZ):Prop:=match o with
 |none=>p=gu 9 (atI c.N i)/\KG w n/\I (SW e a f g) e n
 |some t=>GrQ e w c a f g h k m l j Z d t p n
theorem KG.kc{n o:lZ}(p:KC n o):KG n o:=⟨p.1,λq r s t x _ _=>p.2 q r s t x⟩
theorem M5b{u:lZ}{x:Nat}(o:I No w u)(n:Cst e u c a f g h k m l j Z d)(p:x<(tl c Z).length):GrQ e w c a f g h k m l j Z d (tr (tl c Z) x) (.returned (U (x:Int))) u:=
 ⟨x,[],rfl,by simp,by rw[zY];exact p,by rw[zY],by rw[zY];exact n,KG.still o⟩
theorem GrQ.back{u o:lZ}{t:Tr}{n:Ending}(A:I No w u)(p:GrQ e u c a f g h k m l j Z d t n o):GrQ e w c a f g h k m l j Z d t n o:=by
 obtain⟨x,X,q,r,s,v,y,z⟩:=p;exact⟨x,X,q,r,s,v,y,(KG.still A).trans z⟩
theorem Y9a{u n:lZ}{o:Option Tr}{p:Ending}(D:I No w u)(q:Cst e u c a f g h k m l j Z d)(y:ExQ e u c a f g h k m l j Z d i o p n):XpQ e w c a f g h k m l j Z d i o p n:=by
 obtain⟨r,v⟩:=y;have s:KG w n:=(KG.still D).trans (KG.kc (q.kc r));cases o with
 |none=>exact⟨v,s,q.swm r⟩
 |some t=>
  obtain⟨z,x,A,B,C⟩:=v;exact⟨x,[],A,by simp,by rw[zY];exact B,by rw[zY];exact C,by rw[zY];exact z,s⟩
theorem XpQ.part{o:Option Tr}{n:Ending}{u:lZ}(p:XpQ e w c a f g h k m l j Z d i o n u):(∃q r,n=gu q r)\/∃x:Nat,n= .returned (U (x:Int)):=by
 cases o with
 |none=>exact .inl ⟨_,_,p.1⟩
 |some t=>
  obtain⟨x,X,s,_⟩:=p;exact .inr ⟨x,s⟩
theorem Y7a(r : Cbs e c a f g h k j)(n : Cst e w c a f g h k m l j Z d)(u : i < c.N.length)(p : Nat)(x : c.N[i].kind = 1 /\ p = 1 \/ c.N[i].kind = 2 /\ p = 3 \/ c.N[i].kind = 3 /\ p = 2 \/ c.N[i].kind = 4 /\ p = 4) :
    Calls prog 45 #[pV a,U (i:Int)] w (XpQ e w c a f g h k m l j Z d i (F1 c b i)):=by
  obtain⟨oa,oc,a5,fz,q0,W,X,Y,q4,q5,q6,D,qo⟩:=n.cell
  have a3:=r.ok.lenN
  obtain⟨a2,nc,A,B,S,hg,a4,P,⟨x0,x1,x2,x3,x4,x5,x6,x7,x8⟩,N,-⟩:=(r.nrow n.chg).at (Below.refl _ _) i u
  unfold maxLen at P
  have s:F1 c b i=some (plT p):=by
    unfold F1
    rw[F7 u]
    rcases x with ⟨o,rfl⟩|⟨o,rfl⟩|⟨o,rfl⟩|⟨o,rfl⟩<;>simp[o]
  have pk:=D p (by omega) (by omega)
  have y:=D8a n.ts (k:=p) (by omega) (by omega)
  have v:c.T.length+p - 1<(tl c Z).length:=by rw[T8];omega
  rw[s]
  generalize R:c.N[i]=V at *
  obtain⟨z,F,G,H,C,E,K,M,L⟩:=V
  simp only at *
  subst S
  have q:=O (I.alloc No w (ndC z F G H (.slice A C.length B) E K M L))
  have nb:=qY w (ndC z F G H (.slice A C.length B) E K M L)
  have t:=O (M5b q.o (n.still q.o) v)
  rw[y]at t
  replace pk:=A8 q.o pk
  have T:=blt pk
  simp only at T
  clear r n qo N W X Y q4 q5 q6 D y v s R
  rcases x with ⟨rfl,rfl⟩|⟨rfl,rfl⟩|⟨rfl,rfl⟩|⟨rfl,rfl⟩<;>
    (go_enter func45,ntmps45
     go_wp2_with fail
     go_ret
     exact t.o)
theorem U0d(p:Cbs e c a f g h k j)(y:Lks c Z d b i)(n:Cst e w c a f g h k m l j Z d)(q:i<c.N.length)(r:c.N[i].kind=7):
 Calls prog 45 #[pV a,U (i:Int)] w (XpQ e w c a f g h k m l j Z d i (F1 c b i)):=by
 have T:=p.ok.flat i q;obtain⟨oa,oc,a8,R,q0,q1,q2,q3,q4,q5,q6,qp,qo⟩:=n.cell;have S:=n.ts;have a5:=p.ok.lenN;obtain⟨a4,nc,z,A,W,hg,a6,V,⟨x0,x1,x2,x3,x4,x5,x6,x7,x8⟩,M,-⟩:=(p.nrow n.chg).at (Below.refl _ _) i q;unfold maxLen at V;have v:F1 c b i=D0a c b i:=by
  unfold F1;rw[F7 q];simp[r]
 have x:Hid (∀u,I No w u->Calls prog 75 #[pV a,U (i:Int)] u (XpQ e w c a f g h k m l j Z d i (F1 c b i))):=λu s=>by
  rw[v];exact(E3e p y (n.still s) q (by rw[r])).mono (λP w' o=>Y9a s (n.still s) o)
 clear v;generalize F1 c b i=FT at *;have L:=O n;generalize a7:c.N[i]=Y at *;obtain⟨kd,D,E,F,B,C,G,K,H⟩:=Y;simp only at *;subst r;subst W;have t:=O (I.alloc No w (ndC 7 D E F (.slice z B.length A) C G K H));have X:=qY w (ndC 7 D E F (.slice z B.length A) C G K H);clear p y n S qo qp M T q1 q2 q3 q4 q5 q6 R L;go_enter func45,ntmps45;go_wp2_with fail
 refine(x.o _ t.o).mono ?_;intro P a9 o;rcases o.part with ⟨a2,a3,rfl⟩|⟨aa,rfl⟩
 · exact⟨rfl,o⟩
 · have N:=O o;clear o x t X;go_wp2_with fail
   go_ret;exact N.o
theorem T9d(p:Cbs e c a f g h k j)(x:Lks c Z d b i)(n:Cst e w c a f g h k m l j Z d)(q:i<c.N.length)(z:c.N[i].kind=8):
 Calls prog 45 #[pV a,U (i:Int)] w (XpQ e w c a f g h k m l j Z d i (F1 c b i)):=by
 have y:=p.ok.flat i q;obtain⟨oa,oc,ac,T,q0,q1,q2,q3,q4,q5,q6,qp,qo⟩:=n.cell;have V:=n.ts;have a9:=p.ok.lenN;obtain⟨a8,nc,B,C,X,hg,aa,W,⟨x0,x1,x2,x3,x4,x5,x6,x7,x8⟩,P,-⟩:=(p.nrow n.chg).at (Below.refl _ _) i q;unfold maxLen at W;have t:F1 c b i=N9 b c.N[i]:=by
  unfold F1;rw[F7 q];simp[z]
 obtain⟨a4,a5,Y,A,hr,a2,a3⟩:=x.pe _ (y.k1 (by omega));have v:Hid (∀u,I No w u->Calls prog 76 #[pV a,U (i:Int)] u (XpQ e w c a f g h k m l j Z d i (F1 c b i))):=λu r=>by
  rw[t];exact(K3c p (n.still r) i q a4 Y A a5 hr a2 a3.symm).mono (λS w' o=>Y9a r (n.still r) o)
 clear t A;generalize F1 c b i=FT at *;have N:=O n;generalize ab:c.N[i]=nd at *;obtain⟨kd,F,G,H,D,E,K,M,L⟩:=nd;simp only at *;subst z;subst X;have s:=O (I.alloc No w (ndC 8 F G H (.slice B D.length C) E K M L));have nb:=qY w (ndC 8 F G H (.slice B D.length C) E K M L);clear p x n V qo qp P y q1 q2 q3 q4 q5 q6 T N;go_enter func45,ntmps45;go_wp2_with fail
 refine(v.o _ s.o).mono ?_;intro S ad o;rcases o.part with ⟨a6,a7,rfl⟩|⟨ae,rfl⟩
 · exact⟨rfl,o⟩
 · have R:=O o;clear o v s nb;go_wp2_with fail
   go_ret;exact R.o
theorem T8d(p:Cbs e c a f g h k j)(r:Lks c Z d b i)(n:Cst e w c a f g h k m l j Z d)(q:i<c.N.length)(z:c.N[i].kind=9):
 Calls prog 45 #[pV a,U (i:Int)] w (XpQ e w c a f g h k m l j Z d i (F1 c b i)):=by
 have s:=p.ok.flat i q;obtain⟨oa,oc,ag,V,q0,q1,q2,q3,q4,q5,q6,qp,qo⟩:=n.cell;have W:=n.ts;have ad:=p.ok.lenN;obtain⟨ac,nc,C,D,Y,hg,ae,X,⟨x0,x1,x2,x3,x4,x5,x6,x7,x8⟩,R,-⟩:=(p.nrow n.chg).at (Below.refl _ _) i q;unfold maxLen at X;have x:F1 c b i=M8 b c.N[i]:=by
  unfold F1;rw[F7 q];simp[z]
 obtain⟨a8,a9,hp,A,hr,a4,a6⟩:=r.pe _ (s.k2 (by omega)).1;obtain⟨p',r',a2,B,a3,a5,a7⟩:=r.pe _ (s.k2 (by omega)).2;have y:Hid (∀u,I No w u->Calls prog 77 #[pV a,U (i:Int)] u (XpQ e w c a f g h k m l j Z d i (F1 c b i))):=λu t=>by
  rw[x];exact(I2c p (n.still t) i q a8 hp A a9 hr a4 a6.symm p' a2 B r' a3 a5 a7.symm).mono (λT w' o=>Y9a t (n.still t) o)
 clear x A B;generalize F1 c b i=FT at *;have P:=O n;generalize af:c.N[i]=nd at *;obtain⟨kd,G,H,K,E,F,L,N,M⟩:=nd;simp only at *;subst z;subst Y;have v:=O (I.alloc No w (ndC 9 G H K (.slice C E.length D) F L N M));have nb:=qY w (ndC 9 G H K (.slice C E.length D) F L N M);clear p r n W qo qp R s q1 q2 q3 q4 q5 q6 V P;go_enter func45,ntmps45;go_wp2_with fail
 refine(y.o _ v.o).mono ?_;intro T ah o;rcases o.part with ⟨aa,ab,rfl⟩|⟨ai,rfl⟩
 · exact⟨rfl,o⟩
 · have S:=O o;clear o y v nb;go_wp2_with fail
   go_ret;exact S.o
theorem I4d(p:Cbs e c a f g h k j)(r:Lks c Z d b i)(n:Cst e w c a f g h k m l j Z d)(q:i<c.N.length)(z:c.N[i].kind=12):
 Calls prog 45 #[pV a,U (i:Int)] w (XpQ e w c a f g h k m l j Z d i (F1 c b i)):=by
 have s:=p.ok.flat i q;obtain⟨oa,oc,a8,S,q0,q1,q2,q3,q4,q5,q6,qp,qo⟩:=n.cell;have T:=n.ts;have a5:=p.ok.lenN;obtain⟨a4,nc,A,B,W,hg,a6,V,⟨x0,x1,x2,x3,x4,x5,x6,x7,x8⟩,N,-⟩:=(p.nrow n.chg).at (Below.refl _ _) i q;unfold maxLen at V;have x:F1 c b i=P0b b c.N[i]:=by
  unfold F1;rw[F7 q];simp[z]
 have y:Hid (∀u,I No w u->Calls prog 80 #[pV a,U (i:Int)] u (XpQ e w c a f g h k m l j Z d i (F1 c b i))):=λu t=>by
  rw[x];exact(G9e p (n.still t) i q (r.pe _ (s.k2 (by omega)).1) (r.pe _ (s.k2 (by omega)).2)).mono (λR w' o=>Y9a t (n.still t) o)
 clear x;generalize F1 c b i=FT at *;have M:=O n;generalize a7:c.N[i]=Y at *;obtain⟨kd,E,F,G,C,D,H,L,K⟩:=Y;simp only at *;subst z;subst W;have v:=O (I.alloc No w (ndC 12 E F G (.slice A C.length B) D H L K));have X:=qY w (ndC 12 E F G (.slice A C.length B) D H L K);clear p r n T qo qp N s q1 q2 q3 q4 q5 q6 S M;go_enter func45,ntmps45;go_wp2_with fail
 refine(y.o _ v.o).mono ?_;intro R a9 o;rcases o.part with ⟨a2,a3,rfl⟩|⟨aa,rfl⟩
 · exact⟨rfl,o⟩
 · have P:=O o;clear o y v X;go_wp2_with fail
   go_ret;exact P.o
theorem I3d(p:Cbs e c a f g h k j)(x:Lks c Z d b i)(n:Cst e w c a f g h k m l j Z d)(q:i<c.N.length)(z:c.N[i].kind=13):
 Calls prog 45 #[pV a,U (i:Int)] w (XpQ e w c a f g h k m l j Z d i (F1 c b i)):=by
 have y:=p.ok.flat i q;obtain⟨oa,oc,a8,S,q0,q1,q2,q3,q4,q5,q6,qp,qo⟩:=n.cell;have T:=n.ts;have a5:=p.ok.lenN;obtain⟨a4,nc,A,B,W,hg,a6,V,⟨x0,x1,x2,x3,x4,x5,x6,x7,x8⟩,N,-⟩:=(p.nrow n.chg).at (Below.refl _ _) i q;unfold maxLen at V;have t:F1 c b i=S3b b c.N[i]:=by
  unfold F1;rw[F7 q];simp[z]
 have v:Hid (∀u,I No w u->Calls prog 81 #[pV a,U (i:Int)] u (XpQ e w c a f g h k m l j Z d i (F1 c b i))):=λu r=>by
  rw[t];exact(H4e p (n.still r) i q (x.pe _ (y.k1 (by omega)))).mono (λR w' o=>Y9a r (n.still r) o)
 clear t;generalize F1 c b i=FT at *;have M:=O n;generalize a7:c.N[i]=Y at *;obtain⟨kd,E,F,G,C,D,H,L,K⟩:=Y;simp only at *;subst z;subst W;have s:=O (I.alloc No w (ndC 13 E F G (.slice A C.length B) D H L K));have X:=qY w (ndC 13 E F G (.slice A C.length B) D H L K);clear p x n T qo qp N y q1 q2 q3 q4 q5 q6 S M;go_enter func45,ntmps45;go_wp2_with fail
 refine(v.o _ s.o).mono ?_;intro R a9 o;rcases o.part with ⟨a2,a3,rfl⟩|⟨aa,rfl⟩
 · exact⟨rfl,o⟩
 · have P:=O o;clear o v s X;go_wp2_with fail
   go_ret;exact P.o
theorem U2d(o:Cbs e c a f g h k j)(C:Lks c Z d b i)(n:Cst e w c a f g h k m l j Z d)(r:i<c.N.length)(v:c.N[i].kind=5):
 Calls prog 45 #[pV a,U (i:Int)] w (XpQ e w c a f g h k m l j Z d i (F1 c b i)):=by
 have hf:=o.ok.flat i r;obtain⟨oa,oc,ad,fz,q0,q1,q2,q3,y,q5,q6,qp,qo⟩:=n.cell;have hT:=n.ts;have aa:=o.ok.lenN;obtain⟨a9,nc,K,L,a7,hg,ab,a6,⟨x0,x1,x2,x3,x4,x5,x6,x7,x8⟩,a2,-⟩:=(o.nrow n.chg).at (Below.refl _ _) i r;unfold maxLen at a6;have z:F1 c b i=some (W8 c b (c.ts.getD i 0)):=by
  unfold F1;rw[F7 r];simp[v]
 obtain⟨x,a0,t,a4,H,a3,D,F⟩:=C.has _ (o.ok.nms.tg i r (.inl v));have A:Hid (∀u,I No w u->(Instr.lookup 42 (.map (some h)) (U (i:Int)) false).run prog u= .ok (U (x:Int)) u):=λu p=>by
  have hm:=(o.nm (n.still p).chg).get (i:Int) (by omega);rw[hm];unfold nmM;rw[rY ⟨by omega,by omega,by rw[tQ,t];omega⟩,tQ,t];rfl
 have B:Hid (∀u,I No w u->Calls prog 74 #[pV a,U (x:Int)] u λs X=>s= .returned (U (a0:Int))/\GrQ e w c a f g h k m l j Z d (W8 c b (c.ts.getD i 0)) (.returned (U (a0:Int))) X):=λu p=>by
  refine(F7d o (n.still p) x a4 F).mono ?_;rintro s X ⟨rfl,E⟩;refine⟨by rw[H], ?_⟩;rw[<-D];exact M5b (D3 p E) (n.still (D3 p E)) a3
 rw[z];have Y:=O n;generalize ac:c.N[i]=nd at *;obtain⟨kd,P,R,S,M,N,T,W,V⟩:=nd;simp only at *;subst v;subst a7;have q:=O (I.alloc No w (ndC 5 P R S (.slice K M.length L) N T W V));have nb:=qY w (ndC 5 P R S (.slice K M.length L) N T W V);have a5:=A.o _ q.o;replace y:=A8 q.o y;have a8:=blt y;simp only at a8;clear o C n hT qo qp a2 hf q1 q2 q3 q5 q6 fz Y A t H D F z;go_enter func45,ntmps45;go_wp2_with fail
 refine(B.o _ q.o).mono ?_;rintro s ae ⟨rfl,G⟩;have HQ:=O G;clear G B q nb a5;go_wp2_with fail
 go_ret;exact HQ.o
theorem U1d(p:Cbs e c a f g h k j)(_hL:Lks c Z d b i)(n:Cst e w c a f g h k m l j Z d)(r:i<c.N.length)(v:c.N[i].kind=6)(S:Lk c Z d b (i:Int)):
 Calls prog 45 #[pV a,U (i:Int)] w (XpQ e w c a f g h k m l j Z d i (F1 c b i)):=by
 have V:=p.ok.flat i r;obtain⟨oa,oc,af,R,q0,q1,q2,q3,q4,q5,s,qp,C⟩:=n.cell;have T:=n.ts;have a8:=p.ok.lenN;obtain⟨a7,nc,z,A,Y,hg,a9,X,⟨x0,x1,x2,x3,x4,x5,x6,x7,x8⟩,N,-⟩:=(p.nrow n.chg).at (Below.refl _ _) i r;unfold maxLen at X;have t:F1 c b i=some (ofA b i):=by
  unfold F1;rw[F7 r];simp[v]
 obtain⟨a6,ag,hp,P,x,a5,y⟩:=S;obtain rfl:i=a6:=by omega
 obtain⟨go,a3,ab,ac,ad,a2,q,-⟩:=C i hp;subst a3;rw[x]at q;unfold maxLen at a2;have ae:(i:Int)<(d.length:Int):=by omega
 rw[t];have M:=O n;generalize aa:c.N[i]=nd at *;obtain⟨kd,E,F,G,B,D,H,L,K⟩:=nd;simp only at *;subst v;subst Y;have o:=O (I.alloc No w (ndC 6 E F G (.slice z B.length A) D H L K));have nb:=qY w (ndC 6 E F G (.slice z B.length A) D H L K);have u:=O (M5b o.o (n.still o.o) a5);rw[y]at u;replace s:=A8 o.o s;replace q:=A8 o.o q;have a4:=blt s;have W:=blt q;simp only at a4 W;clear p _hL n T C qp N V q1 q2 q3 q4 q5 R M x y t P;go_enter func45,ntmps45;go_wp2_with fail
 go_ret;exact u.o
theorem I2d(p:Cbs e c a f g h k j)(x:Lks c Z d b i)(n:Cst e w c a f g h k m l j Z d)(q:i<c.N.length)(r:c.N[i].kind=14):
 Calls prog 45 #[pV a,U (i:Int)] w (XpQ e w c a f g h k m l j Z d i (F1 c b i)):=by
 have y:=p.ok.flat i q;obtain⟨oa,oc,a6,T,q0,q1,q2,q3,q4,q5,q6,qp,qo⟩:=n.cell;have V:=n.ts;have a3:=p.ok.lenN;obtain⟨a2,nc,B,C,Y,hg,a4,X,⟨x0,x1,x2,x3,x4,x5,x6,x7,x8⟩,R,-⟩:=(p.nrow n.chg).at (Below.refl _ _) i q;unfold maxLen at X;have s:F1 c b i=some (tr c.T c.N[i].ty.toNat):=by
  unfold F1;rw[F7 q];simp[r]
 obtain⟨o,v,W,z⟩:=x.wt _ (y.k14 r).2;rw[s,<-z];have t:Hid (∀u,I No w u->GrQ e w c a f g h k m l j Z d (tr (tl c Z) o) (.returned (U (o:Int))) u):=λu A=>M5b A (n.still A) W;clear z s;rw[v]at x7;have P:=O n;generalize a5:c.N[i]=nd at *;obtain⟨kd,G,H,K,D,F,L,vt,M⟩:=nd;simp only at *;subst r;subst Y;have N:=O (I.alloc No w (ndC 14 G H K (.slice B D.length C) F L (o:Int) M));have E:=qY w (ndC 14 G H K (.slice B D.length C) F L (o:Int) M);have S:=O (t.o _ N.o);have n7:=cell_of_row _ _ 7 _ _ _ E;clear p x n V qo qp R y q1 q2 q3 q4 q5 q6 T P v t E;go_enter func45,ntmps45;go_wp2_with fail
 go_ret;exact S.o
theorem I6d(p:Cbs e c a f g h k j)(L:Lks c Z d b i)(q:Cst e w c a f g h k m l j Z d)(v:i<c.N.length)(s:c.N[i].kind=10)(hN:(tl c Z).length+2<=4000):
 Calls prog 45 #[pV a,U (i:Int)] w (XpQ e w c a f g h k m l j Z d i (F1 c b i)):=by
 have t:=p.ok.flat i v;obtain⟨oa,oc,af,fz,q0,q1,q2,q3,q4,q5,q6,qp,qo⟩:=q.cell;have hT:=q.ts;have ac:=p.ok.lenN;obtain⟨a9,nc,z,A,a3,hg,ad,a2,⟨x0,x1,x2,x3,x4,x5,x6,x7,x8⟩,G,-⟩:=(p.nrow q.chg).at (Below.refl _ _) i v;unfold maxLen at a2;have F:F1 c b i=some (S7b c.N b c.N[i]):=by
  unfold F1;rw[F7 v];simp[s]
 have H:∀x∈c.N[i].list,∃o:Nat,x=(o:Int)/\∃y:o<c.N.length,Lk c Z d b c.N[o].a/\S4 c.N[o].text:=λx M=>by
  obtain⟨o,rfl,aa,y,ab⟩:=(t.k10 s).1 x M;have K:=(t.k10 s).2.2 (o:Int) M;rw[F7 y]at K;obtain⟨a6,C,hy,a5,a4⟩:=(p.ok.flat o y).k1 (by omega);exact⟨o,rfl,y,L.pe _ ⟨a6,C,by omega,a5,a4⟩,K⟩
 have B:Hid (∀u,I No w u->Calls prog 78 #[pV a,nvl c.N[i] z A] u (XpQ e w c a f g h k m l j Z d i (F1 c b i))):=λu D=>by
  rw[F];exact(Y8c p (q.still D) c.N[i] H (t.k10 s).2.1 (p.ok.ls i v) z A (A4 G D (λ_ _ x=>x)) (by omega)).mono (λC w' r=>GrQ.back D r)
 clear F H;generalize F1 c b i=FT at *;unfold nvl at B;have Y:=O q;generalize ae:c.N[i]=nd at *;obtain⟨kd,R,S,T,N,P,V,X,W⟩:=nd;simp only at *;subst s;subst a3;have E:=O (I.alloc No w (ndC 10 R S T (.slice z N.length A) P V X W));have n:=qY w (ndC 10 R S T (.slice z N.length A) P V X W);have n0:=cell_of_row _ _ 0 _ _ _ n;have n1:=cell_of_row _ _ 1 _ _ _ n;have n2:=cell_of_row _ _ 2 _ _ _ n;have n3:=cell_of_row _ _ 3 _ _ _ n;have n4:=cell_of_row _ _ 4 _ _ _ n;have n5:=cell_of_row _ _ 5 _ _ _ n;have n6:=cell_of_row _ _ 6 _ _ _ n;have n7:=cell_of_row _ _ 7 _ _ _ n;have n8:=cell_of_row _ _ 8 _ _ _ n;clear p L q hT qo qp G t q1 q2 q3 q4 q5 q6 fz Y n;go_enter func45,ntmps45;go_wp2_with fail
 refine(B.o _ E.o).mono ?_;intro C ag r;rcases r.part with ⟨a7,a8,rfl⟩|⟨x,rfl⟩
 · exact⟨rfl,r⟩
 · have HQ:=O r;clear r B E;go_wp2_with fail
   go_ret;exact HQ.o
theorem I5d(q:Cbs e c a f g h k j)(D:Lks c Z d b i)(o:Cst e w c a f g h k m l j Z d)(r:i<c.N.length)(y:c.N[i].kind=11)(X:(tl c Z).length+2<=4000)(F:wgL (c.N[i].list.map (ofA b))<=25000000):
 Calls prog 45 #[pV a,U (i:Int)] w (XpQ e w c a f g h k m l j Z d i (F1 c b i)):=by
 have E:=q.ok.flat i r;obtain⟨oa,oc,aa,W,q0,q1,q2,q3,q4,q5,q6,qp,qo⟩:=o.cell;have Y:=o.ts;have a7:=q.ok.lenN;obtain⟨a6,nc,s,t,a3,hg,a8,a2,⟨x0,x1,x2,x3,x4,x5,x6,x7,x8⟩,C,-⟩:=(q.nrow o.chg).at (Below.refl _ _) i r;unfold maxLen at a2;have B:F1 c b i=some (L2d b c.N[i]):=by
  unfold F1;rw[F7 r];simp[y]
 have v:Hid (∀u,I No w u->Calls prog 79 #[pV a,nvl c.N[i] s t] u (XpQ e w c a f g h k m l j Z d i (F1 c b i))):=λu z=>by
  rw[B];exact(V6d (o.still z) c.N[i] (λx hx=>D.pe x (E.k11 y x hx)) (q.ok.ls i r) s t (A4 C z (λ_ _ x=>x)) F X).mono (λV w' p=>GrQ.back z p)
 clear B F;generalize F1 c b i=FT at *;unfold nvl at v;have S:=O o;generalize a9:c.N[i]=nd at *;obtain⟨kd,K,L,M,G,H,N,R,P⟩:=nd;simp only at *;subst y;subst a3;have A:=O (I.alloc No w (ndC 11 K L M (.slice s G.length t) H N R P));have n:=qY w (ndC 11 K L M (.slice s G.length t) H N R P);have n0:=cell_of_row _ _ 0 _ _ _ n;have n1:=cell_of_row _ _ 1 _ _ _ n;have n2:=cell_of_row _ _ 2 _ _ _ n;have n3:=cell_of_row _ _ 3 _ _ _ n;have n4:=cell_of_row _ _ 4 _ _ _ n;have n5:=cell_of_row _ _ 5 _ _ _ n;have n6:=cell_of_row _ _ 6 _ _ _ n;have n7:=cell_of_row _ _ 7 _ _ _ n;have n8:=cell_of_row _ _ 8 _ _ _ n;clear q D o Y qo qp C E q1 q2 q3 q4 q5 q6 W S n;go_enter func45,ntmps45;go_wp2_with fail
 refine(v.o _ A.o).mono ?_;intro V ab p;rcases p.part with ⟨a4,a5,rfl⟩|⟨x,rfl⟩
 · exact⟨rfl,p⟩
 · have T:=O p;clear p v A;go_wp2_with fail
   go_ret;exact T.o
theorem D1e(p:Cbs e c a f g h k j)(r:Lks c Z d b i)(o:Cst e w c a f g h k m l j Z d)(q:i<c.N.length)(u:isE c.N[i].kind)(t:c.N[i].kind=6->Lk c Z d b (i:Int))(s:(tl c Z).length+2<=4000)(v:c.N[i].kind=11->wgL (c.N[i].list.map (ofA b))<=25000000):
 Calls prog 45 #[pV a,U (i:Int)] w (XpQ e w c a f g h k m l j Z d i (F1 c b i)):=by
 obtain⟨x,y⟩:=u;have:c.N[i].kind=1\/c.N[i].kind=2\/c.N[i].kind=3\/c.N[i].kind=4\/c.N[i].kind=5\/c.N[i].kind=6\/c.N[i].kind=7\/c.N[i].kind=8\/c.N[i].kind=9\/c.N[i].kind=10\/c.N[i].kind=11\/c.N[i].kind=12\/c.N[i].kind=13\/c.N[i].kind=14:=by omega
 rcases this with n|n|n|n|n|n|n|n|n|n|n|n|n|n
 · exact Y7a p o q 1 (.inl ⟨n,rfl⟩)
 · exact Y7a p o q 3 (.inr (.inl ⟨n,rfl⟩))
 · exact Y7a p o q 2 (.inr (.inr (.inl ⟨n,rfl⟩)))
 · exact Y7a p o q 4 (.inr (.inr (.inr ⟨n,rfl⟩)))
 · exact U2d p r o q n
 · exact U1d p r o q n (t n)
 · exact U0d p r o q n
 · exact T9d p r o q n
 · exact T8d p r o q n
 · exact I6d p r o q n s
 · exact I5d p r o q n s (v n)
 · exact I4d p r o q n
 · exact I3d p r o q n
 · exact I2d p r o q n
end
section
variable{j w:lZ}{c:Cx}{d e g i:Nat}{h l f:Value}{k:Int}{Z:List Ty}{b:uZ}{m:Of}
def G0e(j w:lZ)(c:Cx)(d e g i:Nat)(h l:Value)(k:Int)(f:Value)(Z:List Ty)(b:uZ)(t:Tr)(n:Ending)(a:lZ):Prop:=
 ∃(x:Nat) (X:List Ty),n= .returned (U (x:Int))/\X.length<=1/\x<(tl c (Z++X)).length/\tr (tl c (Z++X)) x=t/\Cst j a c d e g i h l k f (Z++X) b/\KG w a
def Par(c:Cx)(Z:List Ty)(b:uZ)(x:Int):Prop:=∃(n a:Nat),x=(n:Int)/\n<c.N.length/\(ndx c.N n).kind=16/\G4a c b n=(a:Int)/\a<(tl c Z).length/\tr (tl c Z) a=W8 c [] x
theorem A8e(r:F5c c)(v:TsOk (tl c Z)){z:Nat}{x:Int}(u:Pk c.N z 16 x):Par c Z b x:=by
 obtain⟨n,rfl,_,p,y⟩:=u;have t:ndx c.N (n:Int)=c.N[n]:=F7 p;have s:(ndx c.N (n:Int)).kind=16:=by rw[t];exact y
 have q:=K2a r (n:Int);by_cases o:(ndx c.N (n:Int)).ty= -1
 · refine⟨n,c.T.length+4,rfl,p,s, ?_,by rw[T8];omega, ?_⟩
   · unfold G4a;rw[yY (by rw[o];simp),yY (by omega)]
   · have:=D8a v (k:=5) (by omega) (by omega);unfold W8;rw[yY (by rw[o];simp),yY (by omega)];simpa[plT,B3a]using this
 · rcases q with q|⟨a,e2,ha,_⟩
   · exact absurd q o
   · refine⟨n,a,rfl,p,s, ?_,by rw[T8];omega, ?_⟩
     · unfold G4a;rw[rY o];exact e2
     · unfold W8;rw[rY o,Y4b r.ok ha,e2];rfl
theorem D3c(hB : Cbs j c d e g i h f)(D : Cst j w c d e g i h l k f Z b)(p : Nd)(P : ∀ x ∈ p.list, Par c Z b x)(b3 : ∃ a : Nat, A4c c p = (a : Int) /\ a < (tl c Z).length /\ tr (tl c Z) a = J8a c.T p)(hn : p.list.length <= 1200)(E : Option Addr)(F : Nat)(ae : w.ownsRow 0 3 1 (.slice E p.list.length F) p.list.length (C8 p.list))(hN : (tl c Z).length + 1 <= 4000) :
    Calls prog 72 #[pV d,nvl p E F] w (G0e j w c d e g i h l k f Z b (fnT c p)):=by
  obtain⟨r,b1,b2,al⟩:=b3
  have V:Hid (∀u,I No w u->_):=λu z=>R2b (D.still z) p E F
  rw[b1]at V
  have a6:Hid (fnT c p= .nd 9 [] (tr (tl c Z) r::p.list.map (W8 c []))):=by
    show _=_
    unfold fnT
    rw[al]
  unfold nvl at *
  generalize fnT c p=FT at *
  obtain⟨kd,va,vb,vc,o,tx,vn,vt,vp⟩:=p
  simp only at *
  obtain⟨i0,au,b5,b6,b7⟩:=info_parts Tryz.infoInt
  have hT:=D.ts
  have H0:=O D
  have HO:=O ae
  have HL:=O P
  have a7:Hid (∀u (n:Nat),I No w u->n<c.N.length->(ndx c.N n).kind=16->_):=λu n z hj hk=>F7d hB (D.still z) n hj (λ_ bc=>by omega)
  have af:∀n,n<=o.length->∀x∈((o.take n).map λx=>G4a c b x.toNat),0<=x/\x<((tl c Z).length:Int):=λn _ x H=>by
    obtain⟨ba,hy,rfl⟩:=jZ.1 H
    obtain⟨R,a,rfl,_,_,X,ac,_⟩:=P ba (List.mem_of_mem_take hy)
    rw[tQ,X]
    omega
  have ag:(o.map λx=>G4a c b x.toNat).map (λx=>tr (tl c Z) x.toNat)=o.map (W8 c []):=by
    rw[List.map_map]
    refine List.map_congr_left λx H=> ?_
    obtain⟨R,a,rfl,_,_,X,ac,ht⟩:=P x H
    simp only[Function.comp_apply,tQ,X]
    exact ht
  have a8:Hid (TyOk ⟨9,[],o.map (λx=>G4a c b x.toNat),(r:Int)⟩ (tl c Z).length):= .inr (.inr (.inr (.inl ⟨rfl,rfl,Int.natCast_nonneg r,Int.ofNat_lt.2 b2,λx H=>af o.length (vQ _) x (by rw[xZ];exact H)⟩)))
  have ap:Hid (tr (tl c Z++[⟨9,[],o.map (λx=>G4a c b x.toNat),(r:Int)⟩]) (tl c Z).length=FT):=by
    show _=_
    rw[N5a hT a8.o,a6.o,<-ag]
    simp
  obtain⟨oa,oc,bh,fz,q0,q1,q2,q3,q4,q5,q6,qp,qo⟩:=D.cell
  have ao:=O q3
  have A1:=I.alloc No w (ndC kd va vb vc (.slice E o.length F) tx vn vt vp)
  have nb:=qY w (ndC kd va vb vc (.slice E o.length F) tx vn vt vp)
  have T:=O A1
  have NB:=O nb
  clear D ae P af ag al qp qo q0 q1 q2 q3 q4 q5 q6 fz A1 nb hB hT a6
  go_enter func72,ntmps72
  go_wp2_with fail
  refine(V.o _ T.o).mono ?_
  rintro v K ⟨rfl,Y⟩
  have C2:=O (D3 T.o Y)
  have am:=S9 Y NB.o
  have n4:K.cell? (J w.heap.size 4)=some (.slice E o.length F):=cr am rfl
  have ai:=blt n4
  simp only at ai
  have hz:=qY K (.cells #[U 9,sN,sN,U (r:Int)] 76)
  have Z0:=O hz
  have C3:=O (D3 C2.o (I.alloc No K (.cells #[U 9,sN,sN,U (r:Int)] 76)))
  have bj:w.heap.size<=K.heap.size:=C2.o.size
  clear Y hz am V NB T
  go_wp2_with fail
  generalize bk:K.heap.size=q at *
  go_loopw [15] (λa5 wr=>∃(n:Nat) (s:Option Addr) (t:Nat),n<=o.length/\a5=U (n:Int)/\Hid (I No w wr)/\Hid (wr.heap[q]? =some (.cells #[U 9,sN,.slice s n t,U (r:Int)] 76 (0,0)))/\Hid (wr.ownsRow w.heap.size 3 1 (.slice s n t) n (C8 ((o.take n).map λx=>G4a c b x.toNat)))) (λa5 _=>o.length - (intOf a5).toNat)
  case atStart=>exact⟨0,none,0,wQ _,rfl,C3.o,Z0.o,kW _ _ _ _⟩
  case round=>
    clear Z0 C3 n4 ai
    obtain⟨n,s,t,hj,rfl,A,y,C⟩:=hrel
    have bn:w.heap.size<=wr.heap.size:=A.o.size
    have bi:=(ltG y.o)
    by_cases a2:n<o.length
    · obtain⟨g2,az,bd,be,ay,v0⟩:=D9 (A4 HO.o A.o (λ_ _ x=>x)) a2
      subst az
      obtain⟨R,a,v,aw,ax,a3,ac,b4⟩:=HL.o o[n] (mQ a2)
      have HT:Hid ((o.take (n+1)).map (λx=>G4a c b x.toNat)=(o.take n).map (λx=>G4a c b x.toNat)++[(a:Int)]):=by
        show _=_
        rw[nQ a2,wY,List.map_singleton,v,tQ,a3]
      obtain⟨W,ab⟩:∃W,W=(o.take n).map (λx=>G4a c b x.toNat):=⟨_,rfl⟩
      rw[<-ab]at C HT
      clear ab
      have HH:Hid (∀u,I No wr u->Calls prog 74 #[pV d,U (R:Int)] u λv S=>v= .returned (U (a:Int))/\I No u S):=λu z=>by
        have:=a7.o u R (D3 A.o z) aw ax
        rw[a3]at this
        exact this
      rw[v]at v0
      have d0:wr.cell? (J q 2)=some (.slice s n t):=cr y.o rfl
      have ah:Value.ownBlock (.slice s n t)≠some q:=Q6 C.o y.o (by decide)
      unfold maxLen at ay
      clear v a3 b4
      go_wp2_with fail
      go_region_law (first
        | (refine step_append_lies _ (by rfl) _ _ _ (by rfl) w.heap.size 3 i0 (U 0) 1 8 underlying43 au b5 b6 b7 rfl (by omega) (.slice s n t) n (C8 W) (by rfl) ((A4 C.o M.o (λ_ _ x => x)).alloc _) (J B.heap.size 0) 1 1 [U (a : Int)] (by rfl) (by rfl) (World.news_of_block (cs := #[U (a : Int)]) (t := 3) (fr := (0, 0)) (qY B _)) (by simp [Value.oneCell']) (by omega) (by simp only [maxLen]; omega) (by omega) (by simp; omega) (B.heap.size + 1) (by simp) ?_
           intro gg bb an aj N aq bf
           have z4:an.cell? (J q 2)=some (.slice s n t):=by rw[N.cell_far _ (by simp;omega) (Ne.symm ah)];exact I5 ak zc
           have y4:an.frozen? (J q 2)=false:=by rw[N.frozen_far _ (by simp;omega) (Ne.symm ah)];exact X8 ak (zf 2))
        | (go_simp; refine (HH.o _ (I.drewN _ _ 1)).mono ?_; rintro v B ⟨rfl, hc⟩; have M := O (D3 (I.drewN No wr 1) hc); have L := S9 M.o y.o; have zc : B.cell? (J q 2) = some (.slice s n t) := (cr L rfl); have zf : ∀ a4, B.frozen? (J q a4) = false := λa4 => frozen_of_row B _ a4 _ _ L; have ak := (ltG L); have bg : wr.heap.size <= B.heap.size := M.o.size; clear hc L))
      all_goals
        have G:=O (X3a (o:=2) (n0:=w.heap.size) (w:=w) y.o (by omega) C.o (by decide) (I.toBelow A.o (λ_ _ x=>x.elim) (vQ _)) (vQ _) (D3 M.o (I.alloc No B (.cells #[U (a:Int)] 3))) N aj)
        clear aj N aq
        go_wp2_with fail
        go_roundw
        case rel=>exact⟨n+1,_,_,by omega,by go_num,(I.below G.o.2.2.2.1).mono (λbo hk x=>by omega),G.o.2.2.2.2.2.1,(show World.ownsRow _ _ _ _ _ _ _ from by rw[HT.o,T7];exact G.o.2.2.2.2.1)⟩
        case measure=>simp[intOf];omega
    · have av:n=o.length:=by omega
      subst av
      rw[xZ]at C
      have b8:=A8 A.o ao.o
      have b0:=blt b8
      simp only at b0
      have d0:wr.cell? (J q 0)=some (U 9):=cr y.o rfl
      have d1:wr.cell? (J q 1)=some (sN):=cr y.o rfl
      have d2:wr.cell? (J q 2)=some (.slice s o.length t):=cr y.o rfl
      have d3:wr.cell? (J q 3)=some (U (r:Int)):=cr y.o rfl
      have G:Hid (∀u,I No wr u->Calls prog 21 #[pV e,.agg #[U 9,sN,.slice s o.length t,U (r:Int)]] u λv S=>v= .returned (U ((tl c Z).length:Int))/\Cst j S c d e g i h l k f (Z++[⟨9,[],o.map (λx=>G4a c b x.toNat),(r:Int)⟩]) b/\KG u S):=λu z=>
        W9c (H0.o.still (D3 A.o z)) ⟨9,[],o.map (λx=>G4a c b x.toNat),(r:Int)⟩ none s 0 0 o.length t (kW _ _ _ _) (by
          have:=C9 (A4 C.o z (λ_ _ x=>x)) (wQ _)
          rw[iZ]
          exact this) (λ_ _ a9 hg=>by simp[Value.ownBlock]at hg) (H0.o.far (KG.still (D3 A.o z)) (λa9 hg=>(C.o.lt a9 hg).1)) a8.o ⟨by rw[iZ];omega,by simp⟩ hN
      clear a7 HL HO
      go_wp2_with fail
      go_region_with (go_at_call 21;refine(G.o _ (I.drewN _ _ 1)).mono ?_;rintro v b9 ⟨rfl,aa,ad⟩)
      all_goals
        have HQ:Hid (G0e j w c d e g i h l k f Z b FT (.returned (U ((tl c Z).length:Int))) b9):=by
          refine⟨(tl c Z).length,[⟨9,[],o.map (λx=>G4a c b x.toNat),(r:Int)⟩],rfl,by simp,by rw[<-D9a,qQ,List.length_singleton];omega,by rw[<-D9a];exact ap.o,aa,(KG.still (D3 A.o (I.drewN _ _ 1))).trans ad⟩
        clear aa ad
        go_wp2_with fail
        go_ret
        exact HQ.o
end
theorem OfR.none'{T:List Ty}{c:uZ}{b:Of}(h:OfR T c b):OfR T (c++[-1]) (b++[none]):=by
 refine⟨by simp[h.len],λi o a=> ?_⟩;by_cases d:i<b.length
 · rw[List.getElem?_append_left d]at a;have:=h.at' i o a;rw[List.getElem?_append_left (by rw[h.len];exact d)];exact this
 · rw[List.getElem?_append_right (by omega)]at a;have e:i=b.length:=by
    have:=(List.getElem?_eq_some_iff.1 a).1;simp at this;omega
   subst e;simp at a;subst a;show (c++[-1])[b.length]? =_;rw[<-h.len];simp
theorem OfR.some'{T:List Ty}{d:uZ}{b:Of}(h:OfR T d b){r:Nat}{t:Tr}(f:r<T.length)(g:tr T r=t):OfR T (d++[(r:Int)]) (b++[some t]):=by
 refine⟨by simp[h.len],λi o a=> ?_⟩;by_cases c:i<b.length
 · rw[List.getElem?_append_left c]at a;have:=h.at' i o a;rw[List.getElem?_append_left (by rw[h.len];exact c)];exact this
 · rw[List.getElem?_append_right (by omega)]at a;have e:i=b.length:=by
    have:=(List.getElem?_eq_some_iff.1 a).1;simp at this;omega
   subst e;simp at a;subst a;refine⟨r, ?_,f,g⟩;rw[<-h.len];simp
theorem of0_take(c:Cx){j:Nat}(h:j<c.N.length):(of0 c).take (j+1)=(of0 c).take j++[if c.N[j].kind=6 then some (fnT c c.N[j]) else none]:=by
 have a:j<(of0 c).length:=by unfold of0;rw[iZ];exact h
 rw[nQ a];simp[of0]
section
variable{d w:lZ}{c:Cx}{b f g h:Nat}{j k e:Value}{i:Int}
theorem U6b(D:Cbs d c b f g h j e)(V:Cst d w c b f g h j k i e [] []):
 Calls prog 42 #[pV b] w λaa w'=>aa=rT/\∃Z n,Z.length<=c.N.length/\OfR (tl c Z) n (of0 c)/\Cst d w' c b f g h j k i e Z n/\KQ w w':=by
 obtain⟨oa,oc,b4,fz,q0,q1,q2,q3,q4,q5,p,qp,qo⟩:=V.cell;have b0:=D.ok.lenN;have b1:=D.ok.lenT;obtain⟨i0,ac,ag,ah,ai⟩:=info_parts Tryz.infoInt;have H0:=O V;have z:=O D;obtain⟨na,P,X⟩:∃na P,j= .slice na c.N.length P:=by
  obtain⟨nx,hn,_⟩:=D.nrow V.chg;exact B9 hn
 subst X;have al:Hid (OfR (tl c []) [] ((of0 c).take 0)):=⟨rfl,λY b6 ho=>by simp at ho⟩;clear V D qp qo q1 q2 q3 q4 q5 p fz;go_enter func42,ntmps42;go_wp2_with fail
 go_loopw [11] (λa8 wr=>∃(l:Nat) (Z:List Ty) (n:uZ),l<=c.N.length/\a8=U (l:Int)/\Z.length<=l/\Hid (OfR (tl c Z) n ((of0 c).take l))/\Hid (Cst d wr c b f g h (.slice na c.N.length P) k i e Z n)/\Hid (KQ w wr)) (λa8 _=>c.N.length - (intOf a8).toNat)
 case atStart=>exact⟨0,[],[],wQ _,rfl,by simp,al,H0,KQ.refl _⟩
 case round=>
  obtain⟨l,Z,n,hj,rfl,hZ,s,q,S⟩:=hrel;by_cases W:l<c.N.length
  · obtain⟨ab,ax,M,N,X,hg,b2,ap,⟨x0,x1,x2,x3,x4,x5,x6,x7,x8⟩,ad,-⟩:=(z.o.nrow q.o.chg).at (Below.refl _ _) l W;have aq:na=some (J ab 0)/\P=ax:=by
     injection X with e1 e2 e3;exact⟨e1,e3⟩
    obtain⟨rfl,rfl⟩:=aq;clear X;have b3:n.length<=1200:=by
     rw[s.o.len,List.length_take];omega
    have hT:=q.o.ts;have hf:=z.o.ok.flat l W;have ao:=z.o.ok.ls l W;have hN:(tl c Z).length+1<=4000:=by rw[T8];omega
    have R:Hid (c.N[l].kind=6->∀u,I No wr u->Calls prog 72 #[pV b,nvl c.N[l] M N] u (G0e d u c b f g h (.slice (some (J ab 0)) c.N.length P) k i e Z n (fnT c c.N[l]))):=λt u m=>by
     obtain⟨am,a5,az⟩:=hf.k6 t;refine D3c z.o (q.o.still m) c.N[l] (λx hx=>A8e z.o.ok hT (am x hx)) ?_ ao M N (A4 ad m (λ_ _ x=>x)) hN;unfold A4c J8a;by_cases ht:c.N[l].ty= -1
     · refine⟨c.T.length+4,by simp[ht],by rw[T8];omega, ?_⟩;have:=D8a hT (k:=5) (by omega) (by omega);simpa[plT,B3a,ht]using this
     · rcases a5 with a5|⟨a,e2,ha,_⟩
       · exact absurd a5 ht
       · refine⟨a,by rw[e2];simp,by rw[T8];omega, ?_⟩;rw[Y4b z.o.ok.ok ha,e2];simp
    have T:=O (of0_take c W);clear hf hT ad;unfold nvl at R;generalize ar:c.N[l]=nd at *;obtain⟨L,va,vb,vc,ls,tx,vn,vt,vp⟩:=nd;simp only at *;clear ar;unfold maxLen at ap;have A:=O (I.alloc No wr (ndC L va vb vc (.slice M ls.length N) tx vn vt vp));have o:=qY wr (ndC L va vb vc (.slice M ls.length N) tx vn vt vp);have n0:=cell_of_row _ _ 0 _ _ _ o;have n1:=cell_of_row _ _ 1 _ _ _ o;have n2:=cell_of_row _ _ 2 _ _ _ o;have n3:=cell_of_row _ _ 3 _ _ _ o;have n4:=cell_of_row _ _ 4 _ _ _ o;have n5:=cell_of_row _ _ 5 _ _ _ o;have n6:=cell_of_row _ _ 6 _ _ _ o;have n7:=cell_of_row _ _ 7 _ _ _ o;have n8:=cell_of_row _ _ 8 _ _ _ o;clear o;by_cases t:L=6
    · have HX:=O (R.o t _ A.o);subst t;have a9:Hid ((of0 c).take (l+1)=(of0 c).take l++[some (fnT c ⟨6,va,vb,vc,ls,tx,vn,vt,vp⟩)]):=T.o;clear R T;go_wp2_with fail
      refine HX.o.mono ?_;rintro aa u ⟨x,a4,rfl,hX,ae,af,hC,hk⟩;have r:=O hC;have a2:Hid (KQ w u):=(S.o.trans (.still A.o)).trans (.kg hk);have a3:Hid (OfR (tl c (Z++a4)) (n++[(x:Int)]) ((of0 c).take (l+1))):=by
       have hm:=s.o.more q.o.ts a4;rw[D9a]at hm;show OfR _ _ _;rw[a9.o];exact hm.some' ae af
      have a6:(Z++a4).length<=l+1:=by rw[qQ];omega
      clear hC hk hX ae af HX A n0 n1 n2 n3 n4 n5 n6 n7 n8 x0 x1 x2 x3 x4 x5 x6 x7 x8 a9 s q S;obtain⟨ov,aj,F,y,-⟩:=r.o.st;obtain⟨oa,oc,rfl⟩:=B9 y;have p:u.cell? (J b 6)=some (.slice oa n.length oc):=cr F rfl;have a7:=blt p;simp only at a7;have au:=r.o.chg.size;have B:=O (y.alloc (.cells #[U (x:Int)] 3));have C:=O p;clear F y;go_wp2_with (at_builtin;go_loud (refine wpList_append_own_at _ rfl _ _ 43 rfl d.heap.size 3 i0 (U 0) 1 8 underlying43 ac ag ah ai rfl (by decide) _ _ _ rfl B.o (J u.heap.size 0) 1 1 [U (x:Int)] rfl rfl ?c1 ?c2 ?c3 ?c4 ?c5 ?_))
      case c1=>
       intro Y u m;match Y,m with
       |0,m=>simp at m;subst m;simp[Addr.add]
      case c2=>intro u m;simp at m;subst m;rfl
      case c3=>simp only[maxLen];omega
      case c4=>omega
      case c5=>simp;omega
      intro v' ay v G _ E;obtain⟨xa,xc,rfl⟩:=B9 v;obtain⟨k0,av,aw,H,K⟩:=r.o.push C.o (I.alloc No _ _) G v E (by omega);have K3:=O H;have K4:=O (a2.o.trans K);clear H K v G E B p C;go_wp2_with fail
      go_roundw
      case rel=>exact⟨l+1,_,_,by omega,by go_num,a6,a3,K3,K4⟩
      case measure=>simp[intOf];omega
    · have g6:(L==6)=false:=by simpa using t
      have r:=O (q.o.still A.o);have a2:Hid (KQ w _):=S.o.trans (.still A.o);have a3:Hid (OfR (tl c Z) (n++[-1]) ((of0 c).take (l+1))):=by
       show OfR _ _ _;rw[T.o,yY t];exact s.o.none'
      have a6:Z.length<=l+1:=by omega
      have b5:d.heap.size<=wr.heap.size:=q.o.chg.size;clear R T s t;obtain⟨ov,aj,F,y,-⟩:=r.o.st;obtain⟨oa,oc,rfl⟩:=B9 y;have p:(wr.alloc (ndC L va vb vc (.slice M ls.length N) tx vn vt vp)).cell? (J b 6)=some (.slice oa n.length oc):=cr F rfl;have a7:=blt p;simp only at a7;have au:=r.o.chg.size;have B:=O (y.alloc (.cells #[U (-1)] 3));have C:=O p;clear F y;go_wp2_with (at_builtin;go_loud (refine wpList_append_own_at _ rfl _ _ 43 rfl d.heap.size 3 i0 (U 0) 1 8 underlying43 ac ag ah ai rfl (by decide) _ _ _ rfl B.o (J (wr.heap.size+1) 0) 1 1 [U (-1)] rfl rfl ?c1 ?c2 ?c3 ?c4 ?c5 ?_))
      case c1=>
       intro Y u m;match Y,m with
       |0,m=>simp at m;subst m;simp[Addr.add]
      case c2=>intro u m;simp at m;subst m;rfl
      case c3=>simp only[maxLen];omega
      case c4=>omega
      case c5=>simp;omega
      intro v' ay v G _ E;obtain⟨xa,xc,rfl⟩:=B9 v;obtain⟨k0,av,aw,H,K⟩:=r.o.push C.o (I.alloc No _ _) G v E (by simp);have K3:=O H;have K4:=O (a2.o.trans K);clear H K v G E B p C;go_wp2_with fail
      go_roundw
      case rel=>exact⟨l+1,_,_,by omega,by go_num,a6,a3,K3,K4⟩
      case measure=>simp[intOf];omega
  · have an:l=c.N.length:=by omega
    subst an;have ak:Hid (OfR (tl c Z) n (of0 c)):=by
     have:(of0 c).take c.N.length=of0 c:=by
      rw[List.take_of_length_le];unfold of0;rw[iZ];omega
     have h2:=s.o;rw[this]at h2;exact h2
    clear s;go_wp2_with fail
    go_end0;exact⟨rfl,Z,n,hZ,ak.o,q.o,S.o⟩
end
theorem C4c(w:lZ)(d:Nd)(j:Option Addr)(k:Nat)(b:Bool)(a:b=decide (1<=d.kind/\d.kind<=14)):
 Calls prog 43 #[nvl d j k] w λe t=>e= .returned (.bool b)/\I No w t:=by
 unfold nvl;obtain⟨g,n,o,p,l,m,q,s,r⟩:=d;simp only at *;have f:=O (I.alloc No w (ndC g n o p (.slice j l.length k) m q s r));by_cases h:1<=g
 · by_cases i:g<=14
   · have c:b=true:=by rw[a];simp[h,i]
     subst c;clear a;go_enter func43,ntmps43;go_wp2_with fail
     go_ret;exact⟨rfl,f.o⟩
   · have c:b=false:=by rw[a];simp[i]
     subst c;clear a;go_enter func43,ntmps43;go_wp2_with fail
     go_ret;exact⟨rfl,f.o⟩
 · have c:b=false:=by rw[a];simp[h]
   subst c;clear a;go_enter func43,ntmps43;go_wp2_with fail
   go_ret;exact⟨rfl,f.o⟩
section
variable{a w:lZ}{c:Cx}{b d e h:Nat}{g j f:Value}{i:Int}
def CkQ(a w:lZ)(c:Cx)(b d e h:Nat)(g j:Value)(i:Int)(f:Value)(r:(Int×Nat) ⊕ Of)(l:Ending)(k:lZ):Prop:=KQ w k/\I (SW a b d e) a k/\match r with
 | .inl (n,o)=>l=gu n (atI c.N o)
 | .inr p=>l=rT/\∃Z m,Z.length<=3 * c.N.length/\OfR (tl c Z) m p/\Cst a k c b d e h g j i f Z m
theorem H1e{k:Nat}{n:Of}{Z:List Ty}{t:uZ}(A:Cbs a c b d e h g f)(D:Lks c Z t n k)(l:Cst a w c b d e h g j i f Z t)(y:k<c.N.length)(C:¬(1<=c.N[k].kind/\c.N[k].kind<=14)):
 Calls prog 44 #[pV b,U (k:Int)] w λp o=>KQ w o/\I (SW a b d e) a o/\((∃u,ckN c n k= .inl u/\p=gu u (atI c.N k))\/(ckN c n k= .inr none/\p=rT/\Cst a o c b d e h g j i f Z t)):=by
 have x:ckN c n k=if c.N[k].kind=24/\c.fn.getD k 0= -1 then .inl 4 else if U9 c n k=true then .inr none else .inl 9:=by
  unfold ckN;rw[F7 y];exact yY C
 refine(P8b A D l y (by omega)).mono ?_;rintro p o (⟨q,r,z,v⟩|⟨q,r⟩)
 · exact⟨.still v,(l.still v).chg,.inl ⟨4,by rw[x,rY ⟨q,r⟩],z⟩⟩
 · rw[x,yY q];rcases FtQ.part r with ⟨rfl,s,m⟩|⟨rfl,s,m,B⟩
   · exact⟨.kg (.kc (l.kc m)),l.swm m,.inl ⟨9,by rw[s];rfl,rfl⟩⟩
   · exact⟨.kg (.kc (l.kc m)),l.swm m,.inr ⟨by rw[s];rfl,rfl,B⟩⟩
theorem I2e{k:Nat}{m:Of}{Z:List Ty}{B:uZ}(y:Cbs a c b d e h g f)(F:OfR (tl c Z) B m)(z:CkI c m k)(M:OfW m)(C:Cst a w c b d e h g j i f Z B)(A:k<c.N.length)(E:1<=c.N[k].kind/\c.N[k].kind<=14)(L:(tl c Z).length+2<=4000):
 Calls prog 45 #[pV b,U (k:Int)] w λo n=>KG w n/\I (SW a b d e) a n/\((F1 c m k=none/\o=gu 9 (atI c.N k))\/∃(t:Tr) (x:Nat) (X:List Ty),F1 c m k=some t/\o= .returned (U (x:Int))/\X.length<=2/\x<(tl c (Z++X)).length/\tr (tl c (Z++X)) x=t/\Cst a n c b d e h g j i f (Z++X) B):=by
 have K:=C9d y.ok C.ts F z (vQ k);refine(D1e y K C A E (λv=> ?_) L (λH=>F5e y.ok z M A H)).mono ?_
 · obtain⟨t,N⟩:=z.ex k A E (.inr v);obtain⟨r,p,q,s,u⟩:=Cst.look (c:=c) (Z:=Z) F N;exact⟨k,r,p,rfl,q,s,u⟩
 · intro o n l;cases G:F1 c m k with
   |none=>
    rw[G]at l;exact⟨l.2.1,l.2.2,.inl ⟨rfl,l.1⟩⟩
   |some t=>
    rw[G]at l;obtain⟨x,X,p,q,s,u,D,v⟩:=l;exact⟨v,D.chg,.inr ⟨t,x,X,rfl,p,q,s,u,D⟩⟩
end
