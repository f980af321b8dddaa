/-
  A part of the proof.
-/
import Derived.Test.YteocidgdmjaffaaGreatDoorRunA
set_option maxHeartbeats 0
set_option linter.all false
set_option maxRecDepth 100000
namespace Go.Proofs.YteocidgdmjaffaaGreatDoor
open Go.Proofs.Tryz
open Go.RowKit Go.Maps
section
variable{a w w':E}{b d f e z:Nat}{h:Value}{G:Int->Option Int}{c:Cx}{s:Ms}{g g':Gh}
def nV{kd va vb vc}{lv}{tx}{vn vt vp}(j:Rm a w b d e G c.N s g z)(l:aH a b (w.alloc (.cells #[U kd,U va,U vb,U vc,lv,.string tx,U vn,U vt,U vp] 85)) g w' g'):
 w'.cell? (J w.heap.size 0)=some (U kd)/\w'.cell? (J w.heap.size 1)=some (U va)/\w'.cell? (J w.heap.size 2)=some (U vb)/\w'.cell? (J w.heap.size 3)=some (U vc)/\w'.cell? (J w.heap.size 4)=some lv/\w'.cell? (J w.heap.size 5)=some (.string tx)/\w'.cell? (J w.heap.size 6)=some (U vn)/\w'.cell? (J w.heap.size 7)=some (U vt)/\w'.cell? (J w.heap.size 8)=some (U vp)/\w.heap.size<w'.heap.size:=by
 obtain⟨k,-⟩:=l.et (yY w _) (j.new (vQ _)) (by have:=j.mc.2.1;omega) (by decide) (by decide);have i:=λo=>cell_of_row w' w.heap.size o _ _ _ k;exact⟨i 0,i 1,i 2,i 3,i 4,i 5,i 6,i 7,i 8,(aI k)⟩
def J3{i}{x}(k:Pe c.N i x):lU c x:=by
 obtain⟨j,rfl,_,m,l⟩:=k;exact⟨by omega,by omega,by grind[B9]⟩
def EL{i}{k x}(l:Pk c.N i k x):gC c k x:=by
 obtain⟨j,rfl,_,n,m⟩:=l;exact⟨by omega,by omega,by grind[B9]⟩
abbrev nI(a:E)(b d e:Nat)(G:Int->Option Int)(c:Cx)(k:Int)(m:Int->Option Nat->X (List Vl)):Prop:=CT a b d e G c 60 (gC c k) m
abbrev fD(a:E)(b d e:Nat)(G:Int->Option Int)(c:Cx)(k:Nat):Prop:=CR a b d e G c 93 Kv (lU c) λi j=>rn c.N (aP c) G k (.v i) j
theorem pC{N:List C}{l:Int->Int}(k)(i)(m:Option Nat):rn N l G (k+1) (.s i) m=
 let n:=aC N i;let v:=λi=>rn N l G k (.v i) m;if n.x=17 then (v n.a).bd λr=>(dY (m.getD 0) i (r1 r)).bd λ_=>aE []
 else if n.x=18 then (v n.a).bd λr=>(gT (l i) m).bd λj=>(dY j (l i) (r1 r)).bd λ_=>aE []
 else if n.x=19 then (v n.a).bd λo=>(v n.b).bd λr=>(lC i n.text (r1 o) (r1 r)).bd λ_=>aE []
 else if n.x=20 then (v n.a).bd λo=>(v n.b).bd λp=>(v n.c).bd λr=>(jV i (r1 o) (r1 p) (r1 r)).bd λ_=>aE []
 else if n.x=21 then (v n.a).bd λr=>(rV (r1 r).kz).bd λ_=>aE []
 else if n.x=22 then (v n.a).bd λr=>if (r1 r).j3 then rn N l G k (.b n.b) m else if n.c=-1 then aE [] else rn N l G k (.b n.c) m
 else if n.x=23 then rn N l G k (.w i) m
 else if n.x=24 then (v n.a).bd λr=>ret (r1 r)
 else (v n.a).bd λ_=>aE []:=by rfl
def QD{i}(j:jD c)(k:i<c.N.length)(l:c.N[i].x=5\/c.N[i].x=18):0<=aP c i/\aP c i<=1000000:=by
 obtain⟨n,m,o,_⟩:=j.ob.tg i k l;have:=j.fh;unfold aP mL;grind
def CY{k}(q:eN a c d f h)(v:fD a b d e G c k):nI a b d e G c 25 λi sc=>rn c.N (aP c) G (k+1) (.s i) sc:=by
 intro w s g z j i m hz W T A;obtain⟨V,a4,n⟩:=T;obtain⟨i,rfl⟩:=Int.eq_ofNat_of_zero_le V;have o:i<c.N.length:=by omega
 rw[B9 o]at n;have y:=q.ok.ep i o;have D:=J3 (y.k1 (by omega));obtain⟨R,l⟩:∃R,R=rn c.N (aP c) G (k+1) (.s i) (some j) s:=⟨_,rfl⟩;simp only[<-l]at A⊢;rw[pC]at l;simp only[B9 o,n]at l;simp at l;obtain⟨fz,lt,m0,m1,m2,m3,m4⟩:=m.mc;obtain⟨gn,nc,la,lc,q0,q1,q2,q3,q4,q5,⟨x0,x1,x2,x3,x4,x5,x6,x7,x8⟩,Z⟩:=q.node m o;have p:=I.alloc No w (.cells #[U c.N[i].x,U c.N[i].a,U c.N[i].b,U c.N[i].c,.slice la c.N[i].M.length lc,.string ⟨c.N[i].text.toArray⟩,U c.N[i].n,U c.N[i].ty,U c.N[i].at'] 85);have B:=v _ s g z (some j) c.N[i].a (m.y p) hz (λj' H=>by grind) D (K8 (by rw[<-l];omega));have x:=aH.y (wB:=a) (mb:=b) (g:=g) p;have u:=O B;have r:=O x;have t:=O l;rw[n]at x0 u;try generalize pad g.sb (some j)=pj at*
 generalize c.N[i]=nd at*;obtain⟨kd,va,vb,vc,ls,tx,vn,vt,vp⟩:=nd;simp only at*;subst n;clear q v m l A D y p Z W B x;go_in;go_wp2_with fail;refine u.u.mono ?_;rintro H a2 hq;obtain⟨ps,rfl,S⟩|⟨a3,s2,N,a6,rfl,L,-,M,r2,P,a5,rfl,hu,rfl⟩:=RP.cut (λ_=>aE []) hq
 .exact⟨rfl,by rw[t.u];exact(S.pre r.u (Gr.refl _)).more (by omega)⟩
 .have F:Hid (RP a b d e G c.N (z+1) w g s Kn R (rT) a2):=by
   rw[t.u,L];exact⟨N,_,rfl,r.u.trans M,r2.more (by omega),P,rfl⟩
  unfold bN;go_wp2;go_end0;exact F.u
def Wd{k}(q:eN a c d f h)(y:fD a b d e G c k):nI a b d e G c 24 λi sc=>rn c.N (aP c) G (k+1) (.s i) sc:=by
 intro w s g z j i m hz W T D;obtain⟨V,a6,n⟩:=T;obtain⟨i,rfl⟩:=Int.eq_ofNat_of_zero_le V;have o:i<c.N.length:=by omega
 rw[B9 o]at n;have B:=q.ok.ep i o;have H:=J3 (B.k1 (by omega));obtain⟨R,l⟩:∃R,R=rn c.N (aP c) G (k+1) (.s i) (some j) s:=⟨_,rfl⟩;simp only[<-l]at D⊢;rw[pC]at l;simp only[B9 o,n]at l;simp at l;obtain⟨fz,lt,m0,m1,m2,m3,m4⟩:=m.mc;obtain⟨gn,nc,la,lc,q0,q1,q2,q3,q4,q5,⟨x0,x1,x2,x3,x4,x5,x6,x7,x8⟩,Z⟩:=q.node m o;have p:=I.alloc No w (.cells #[U c.N[i].x,U c.N[i].a,U c.N[i].b,U c.N[i].c,.slice la c.N[i].M.length lc,.string ⟨c.N[i].text.toArray⟩,U c.N[i].n,U c.N[i].ty,U c.N[i].at'] 85);have F:=y _ s g z (some j) c.N[i].a (m.y p) hz (λj' L=>by grind) H (K8 (by rw[<-l];omega));have A:=aH.y (wB:=a) (mb:=b) (g:=g) p;have v:=O F;have r:=O A;have u:=O l;rw[n]at x0 v;try generalize pad g.sb (some j)=pj at*
 generalize c.N[i]=nd at*;obtain⟨kd,va,vb,vc,ls,tx,vn,vt,vp⟩:=nd;simp only at*;subst n;clear q y m l D H B p Z W F A;go_in;go_wp2_with fail;refine v.u.mono ?_;rintro L a4 hq;obtain⟨ps,rfl,S⟩|⟨a5,s2,x,a7,rfl,M,-,N,r2,P,a3,rfl,hu,rfl⟩:=RP.cut (λa2=>ret (r1 a2)) hq
 .exact⟨rfl,by rw[u.u];exact(S.pre r.u (Gr.refl _)).more (by omega)⟩
 .have t:Hid (RP a b d e G c.N (z+1) w g s Kn R (bk x.tb a3 []) a4):=by
   rw[u.u,M];exact⟨x,[],rfl,r.u.trans N,r2.more (by omega),P,hu⟩
  unfold bk at t;unfold bN at*;go_wp2;exact⟨rfl,t.u⟩
def Vv{k}(y:eN a c d f h)(F:fD a b d e G c k):nI a b d e G c 17 λi sc=>rn c.N (aP c) G (k+1) (.s i) sc:=by
 intro w s g z j i n N L hi a7;obtain⟨ab,ai,q⟩:=hi;obtain⟨i,rfl⟩:=Int.eq_ofNat_of_zero_le ab;have A:i<c.N.length:=by omega
 rw[B9 A]at q;have a6:=y.ok.ep i A;have M:=J3 (a6.lq q).2;obtain⟨R,l⟩:∃R,R=rn c.N (aP c) G (k+1) (.s i) (some j) s:=⟨_,rfl⟩;simp only[<-l]at a7⊢;rw[pC]at l;simp only[B9 A,q]at l;simp only[Int.reduceEq,if_false,if_true]at l;obtain⟨fz,lt,m0,m1,m2,m3,m4⟩:=n.mc;obtain⟨gn,nc,la,lc,q0,q1,q2,q3,q4,q5,⟨x0,x1,x2,x3,x4,x5,x6,x7,x8⟩,ho⟩:=y.node n A;have t:=I.alloc No w (.cells #[U c.N[i].x,U c.N[i].a,U c.N[i].b,U c.N[i].c,.slice la c.N[i].M.length lc,.string ⟨c.N[i].text.toArray⟩,U c.N[i].n,U c.N[i].ty,U c.N[i].at'] 85);have a9:=F _ s g z (some j) c.N[i].a (n.y t) N (λj' m=>by grind) M (K8 (by rw[<-l];omega));have o:=aH.y (wB:=a) (mb:=b) (g:=g) t;obtain⟨sq,a8⟩:∃ae,s.c.S[j]?=some ae:=⟨_,gQ L⟩;obtain⟨B,r,P,aj,p3,-,-,u,-,-⟩:=n.scope a8;have aa:∀W,I No w W->Calls prog 93 #[pV b,U c.N[i].a,.pointer (pad g.sb (some j))] W λm p=>(∃v,m=.panicked v/\RP a b d e G c.N (z+1) w g s Kn R (.panicked v) p)\/∃S T Z V x,m=.returned (.agg #[U S,.int .i32 T,.string Z,.pointer V])/\p.cell? (J B 0)=some (.map (some r))/\B<p.heap.size/\(Instr.mapUpdate 145 (.map (some r)) (U (i:Int)) (.agg #[U S,.int .i32 T,.string Z,.pointer V])).run prog p=.ok () x/\RP a b d e G c.N (z+1) w g s Kn R (rT) x:=by
  intro W hW;have o:=aH.y (wB:=a) (mb:=b) (g:=g) hW;refine(F _ s g z (some j) c.N[i].a (n.y hW) N (λj' m=>by grind) M (K8 (by rw[<-l];omega))).mono ?_;rintro m p hq;obtain⟨v,rfl,H⟩|⟨ag,s2,g2,al,rfl,e1,-,D,r2,a4,ak,rfl,hu,rfl⟩:=RP.cut (K':=Kn) (λr=>(dY ((some j).getD 0) (i:Int) (r1 r)).bd λ_=>aE []) hq
  .exact .inl ⟨v,rfl,by rw[l];exact(H.pre o (Gr.refl _)).more (by omega)⟩
  .have ac:=yQ L a4.S;obtain⟨b',r',t1,t2,t3,x,t4,t5,t6⟩:=r2.j2 (gQ ac) (x:=(i:Int)) (by have:=y.ok.fh;omega) hu N;have hb:b'=B:=by
    rw[J6 (o.trans D).sb (λj' m=>by cases m;rw[n.sl];omega),P]at t1;simpa using t1.symm
   subst hb;have a5:p.cell? (J b' 0)=some (.map (some r)):=by
    have:=(o.trans D).qh n p3;unfold World.cell? at u⊢;simp only at u⊢;rw[this];exact u
   have hr:r'=r:=by
    rw[a5]at t3;simpa using t3.symm
   subst hr;refine .inr ⟨_,_,_,_,x,rfl,a5,t2,t4,?_⟩;rw[l,e1];exact⟨g2,_,rfl,(o.trans D).trans t6,t5,a4.trans (sU j _),rfl⟩
 have a2:=O a9;have af:=O o;have HR:=O l;have ah:(i:Int)<(c.N.length:Int):=by omega
 rw[q]at x0 a2;have a3:=O aa;clear aa;have ad:=A4 t u;have CA:=O t;rw[q]at ad CA;rw[P]at a3⊢;try generalize pad g.sb (some j)=pj at*
 generalize c.N[i]=nd at*;obtain⟨kd,va,vb,vc,ls,tx,vn,vt,vp⟩:=nd;simp only at*;subst q;clear y F n l a7 M a6 t ho L a9 o a8 a2 P p3 u;go_in;go_wp2_with fail;go_region_with (go_at_call 93;refine(a3.u _ (B6 CA.u (I.drewN No _ 1))).mono ?_;rintro m p (⟨v,rfl,H⟩|⟨S,T,Z,V,x,rfl,e1,e2,e3,e4⟩);exact⟨rfl,H⟩;have E4:=O e4;clear e4);all_goals go_wp2_with fail
 all_goals go_end0
 all_goals exact E4.u
def Wj{k}(p:eN a c d f h)(F:fD a b d e G c k):nI a b d e G c 18 λi sc=>rn c.N (aP c) G (k+1) (.s i) sc:=by
 intro w s g z j i o N hj hi L;obtain⟨ag,ao,t⟩:=hi;obtain⟨i,rfl⟩:=Int.eq_ofNat_of_zero_le ag;have u:i<c.N.length:=by omega
 rw[B9 u]at t;have a6:=p.ok.ep i u;have M:=J3 (a6.k1 (by omega));obtain⟨R,m⟩:∃R,R=rn c.N (aP c) G (k+1) (.s (i:Int)) (some j) s:=⟨_,rfl⟩;simp only[<-m]at L⊢;rw[pC]at m;simp only[B9 u,t]at m;simp only[Int.reduceEq,if_false,if_true]at m;obtain⟨fz,lt,m0,m1,m2,m3,m4⟩:=o.mc;obtain⟨gn,nc,la,lc,q0,q1,q2,q3,q4,q5,⟨x0,x1,x2,x3,x4,x5,x6,x7,x8⟩,ho⟩:=p.node o u;have q:=I.alloc No w (.cells #[U c.N[i].x,U c.N[i].a,U c.N[i].b,U c.N[i].c,.slice la c.N[i].M.length lc,.string ⟨c.N[i].text.toArray⟩,U c.N[i].n,U c.N[i].ty,U c.N[i].at'] 85);have aa:=F _ s g z (some j) c.N[i].a (o.y q) N (λj' l=>by grind) M (K8 (by rw[<-m];omega));have r:=aH.y (wB:=a) (mb:=b) (g:=g) q;have a9:=QD p.ok u (.inr t);have ah:=p.names.P o.P (λx=>x);have a7:∀W,I No a W->(Instr.lookup 46 (.map (some f)) (U (i:Int)) false).run prog W=.ok (U (aP c (i:Int))) W:=λW A=>(p.names.P A (λx=>x)).get (i:Int) (by have:=p.ok.fh;omega);have ab:∀W,I No w W->Calls prog 93 #[pV b,U c.N[i].a,.pointer (pad g.sb (some j))] W λl n=>(∃v,l=.panicked v/\RP a b d e G c.N (z+1) w g s Kn R (.panicked v) n)\/∃P S V T,l=.returned (.agg #[U P,.int .i32 S,.string V,.pointer T])/\I No a n/\d<n.heap.size/\n.cell? (J d 4)=some (.map (some f))/\b<n.heap.size/\n.cell? (J b 0)=some (pV d)/\
  Hid (∀D,I No n D->Calls prog 94 #[.pointer (pad g.sb (some j)),U (aP c (i:Int)),.agg #[U P,.int .i32 S,.string V,.pointer T]] D λl Z=>l=rT/\RP a b d e G c.N (z+1) w g s Kn R (rT) Z):=by
  intro W A;have r:=aH.y (wB:=a) (mb:=b) (g:=g) A;refine(F _ s g z (some j) c.N[i].a (o.y A) N (λj' l=>by grind) M (K8 (by rw[<-m];omega))).mono ?_;rintro l n hq;obtain⟨v,rfl,H⟩|⟨am,s2,g2,aq,rfl,e1,-,a4,y,ad,ap,rfl,hu,rfl⟩:=RP.cut (K':=Kn) (λak=>(gT (aP c (i:Int)) (some j)).bd λj=>(dY j (aP c (i:Int)) (r1 ak)).bd λ_=>aE []) hq
  .exact .inl ⟨v,rfl,by rw[m];exact(H.pre r (Gr.refl _)).more (by omega)⟩
  .have a8:=L;rw[m,e1]at a8;obtain⟨j0,j1,e0,af,ae⟩:=ZE (K8 a8);cases e0;obtain⟨-,-,-,-,n0,-,n4,-⟩:=p.node y u;refine .inr ⟨_,_,_,_,rfl,y.P,n0,n4,y.mc.2.1,y.mc.2.2.1,λD a5=>?_⟩;have:=Hx (y.y a5) a9 af hu N;rw[J6 (r.trans a4).sb (λj' l=>by cases l;rw[o.sl];omega)]at this;refine this.mono ?_;rintro l Z ⟨rfl,t5,t6⟩;refine⟨rfl,?_⟩;rw[m,e1,I5 ae];exact⟨g2,_,rfl,(r.trans a4).trans ((aH.y a5).trans t6),t5,ad.trans (sU j1 _),rfl⟩
 have a3:=O aa;have al:=O r;have HR:=O m;have an:(i:Int)<(c.N.length:Int):=by omega
 rw[t]at x0 a3;have ac:=O ab;have a2:=O a7;have CW:=O o.P;clear ab a7 ah;have B:=O q;have aj:=A4 q q2;have ai:=A4 q m0;rw[t]at B aj ai;have l0:=a2.u (World.drew _) (B6 (B6 CW.u B.u) (I.drewN No _ 1));generalize aP c (i:Int)=xn at*;try generalize pad g.sb (some j)=pj at*
 generalize c.N[i]=nd at*;obtain⟨kd,va,vb,vc,ls,tx,vn,vt,vp⟩:=nd;simp only at*;subst t;clear p F o m L M a6 q ho hj aa r a3 a9;go_in;go_wp2_with fail;go_region_with (first|(go_at_call 93;refine(ac.u _ (B6 B.u (I.drewN No _ 1))).mono ?_;rintro l n (⟨v,rfl,H⟩|⟨P,S,V,T,rfl,t1,t2,t3,t4,t5,T6⟩);exact⟨rfl,H⟩;have l2:=a2.u _ t1;clear t1)|(go_at_call 94;refine(T6.u _ (I.refl _ _)).mono ?_;rintro l Z ⟨rfl,e4⟩;have E4:=O e4;clear e4));all_goals go_wp2_with fail
 all_goals go_end0
 all_goals exact E4.u
end
section
variable{b w h:E}{a e j d z:Nat}{i:Value}{G:Int->Option Int}{N:List C}{c:Cx}{s:Ms}{g f:Gh}
abbrev lB(b:E)(a e d:Nat)(G:Int->Option Int)(c:Cx)(k:Nat):Prop:=CR b a e d G c 34 Kn (gC c 26) λl m=>rn c.N (aP c) G k (.b l) m
theorem lB.at{k}(n:lB b a e d G c k)(m:Rm b w a e d G c.N s g z)(t:z<=1000000000){sc}(r:hY s.c sc){l}(p:gC c 26 l){R}(o:R=rn c.N (aP c) G k (.b l) sc s)(q:R≠.stk):
 Calls prog 34 #[pV a,U l,.pointer (pad g.sb sc)] w (RP b a e d G c.N z w g s Kn R):=by
 subst o;exact n w s g z sc l m t r p q
def RP.ends{R}{l}(k:RP b a e d G N z w g s Kn R l h):(∃m,l=.panicked m)\/l=rT:=by
 cases R with
 |stk=>exact k.elim
 |ok o n=>
  obtain⟨f,v,rfl,_,_,_,rfl⟩:=k;simp
 |over x p n=>
  obtain⟨f,m,rfl,_⟩:=k;exact .inl ⟨_,rfl⟩
 |back u n=>
  obtain⟨f,m,rfl,_⟩:=k;exact .inl ⟨_,rfl⟩
def Lm{k}(hV:fD b a e d G c k)(hB:lB b a e d G c k)(P:Rm b w a e d G c.N s g z)(hz:z<=1000000000){o}(hj:o<s.c.S.length){kd A B n}{lv}{tx}{vn vt vp}(h1:lU c A)(h2:gC c 26 B)(h3:n=-1\/gC c 26 n)
 {R} (hR:R=((rn c.N (aP c) G k (.v A) (some o)).bd λa4=>if (r1 a4).j3 then rn c.N (aP c) G k (.b B) (some o) else if n=-1 then aE [] else rn c.N (aP c) G k (.b n) (some o)) s) (ad:R≠.stk):
 Calls prog 98 #[pV a,.agg #[U kd,U A,U B,U n,lv,.string tx,U vn,U vt,U vp],.pointer (pad g.sb (some o))] w (RP b a e d G c.N z w g s Kn R):=by
 have Z:=I.alloc No w (.cells #[U kd,U A,U B,U n,lv,.string tx,U vn,U vt,U vp] 85);have a7:=O (aH.y (wB:=b) (mb:=a) (g:=g) Z);have ab:=O (hV _ s g z (some o) A (P.y Z) hz (λj' m=>by grind) h1 (K8 (by rw[<-hR];omega)));have M:Hid (∀T p,aH b a _ g T p->_):=λT p hf=>nV (kd:=kd) (va:=A) (vb:=B) (vc:=n) (lv:=lv) (tx:=tx) (vn:=vn) (vt:=vt) (vp:=vp) P hf;have HR:=O hR;have a8:=O ad;have a6:=O hB;have H2:=O h2;have H3:=O h3;have HJ:=O hj;have a9:=O (λ(f:Gh) (q:g.sb<+:f.sb)=>J6 q (o:=some o) λj' m=>by cases m;rw[P.sl];omega);generalize pad g.sb (some o)=pj at*;clear hV hB P hj h1 h2 h3 hR ad Z;go_in;go_wp2_with fail;refine ab.u.mono ?_;rintro m T hq;obtain⟨ps,rfl,hh⟩|⟨ag,s2,p,ai,rfl,e1,-,a2,r2,ac,u,rfl,hu,rfl⟩:=RP.cut (λa4=>if (r1 a4).j3 then rn c.N (aP c) G k (.b B) (some o) else if n=-1 then aE [] else rn c.N (aP c) G k (.b n) (some o)) hq
 .exact⟨rfl,by rw[HR.u];exact hh.pre a7.u (Gr.refl _)⟩
 have l:=HR.u;rw[e1]at l;have hM:r1 [u]=u:=rfl;rw[hM]at l;have H:=O (FJ p.tb u T);have R2:=O r2;have F2:=O (a7.u.trans a2);have a5:=O a2;have D:=O ac;have aa:=O l;obtain⟨u',a3⟩:∃ae,ae=u.j3:=⟨_,rfl⟩;rw[<-a3]at H;have HU:=O a3;clear hq e1 r2 a2 ac hu l a3 ab hM;unfold bN at*;cases u' with
 |true=>
  go_wp2_with fail;refine H.u.mono ?_;rintro m V ⟨rfl,r⟩;have y:=R2.u.y r;have t:=F2.u.trans (aH.y r);have l:=aa.u;rw[<-HU.u,wY rfl]at l;obtain⟨x0,x1,x2,x3,x4,x5,x6,x7,x8,xl⟩:=M.u V p (a5.u.trans (aH.y r));have x:=a6.u.at y hz (λj' m=>by cases m;exact yQ HJ.u D.u.S) H2.u l a8.u;rw[a9.u p t.sb]at x;have F:=O x;have W:=O t;clear y t l r H M x;go_wp2_with fail;refine F.u.mono ?_;rintro m af v;have q:=RP.pre W.u D.u v;have L:=O q;obtain⟨ps,rfl⟩|rfl:=v.ends
  .exact⟨rfl,q⟩
  .clear q v F;go_wp2;go_end0;exact L.u
 |false=>
  go_wp2_with fail;refine H.u.mono ?_;rintro m V ⟨rfl,r⟩;have y:=R2.u.y r;have t:=F2.u.trans (aH.y r);have l:=aa.u;rw[<-HU.u,zY (by simp)]at l;obtain⟨x0,x1,x2,x3,x4,x5,x6,x7,x8,xl⟩:=M.u V p (a5.u.trans (aH.y r));by_cases S:n=-1
  .rw[wY S]at l;have L:Hid (RP b a e d G c.N z w g s Kn R (rT) V):=by
    rw[l];exact⟨p,_,rfl,t,y,D.u,rfl⟩
   have ah:(n !=-1)=false:=by simpa using S
   go_wp2;go_end0;exact L.u
  .rw[zY S]at l;have x:=a6.u.at y hz (λj' m=>by cases m;exact yQ HJ.u D.u.S) (H3.u.resolve_left S) l a8.u;rw[a9.u p t.sb]at x;have F:=O x;have W:=O t;clear y t l r H M x;go_wp2_with fail;refine F.u.mono ?_;rintro m af v;have q:=RP.pre W.u D.u v;have L:=O q;obtain⟨ps,rfl⟩|rfl:=v.ends
   .exact⟨rfl,q⟩
   .clear q v F;go_wp2;go_end0;exact L.u
end
def Tryz.og:(prog.info? 9).map (λi=>(i.zero,i.size,i.bytes))=some (some (.string ⟨#[]⟩),1,16):=by kernel_rfl
section
variable{b w j:E}{a d h e z:Nat}{f:Value}{G:Int->Option Int}{N:List C}{c:Cx}{s:Ms}{g i:Gh}
def Rm.line(t:Rm b w a d e G N s g z){n}{o}(r:w.cell? (J a 5)=some (.slice n s.ln.length o)){l}(u:I (λk=>(Value.slice n s.ln.length o).ownBlock=some k) w l)(x){m}(V:l.ownsRow b.heap.size 9 1 m (s.ln.length+1) (strs s.ln++[.string ⟨x.toArray⟩])):
 Rm b (l.setCell (J a 5) m) a d e G N {s with ln:=s.ln++[x]} g (z+1)/\aH b a w g (l.setCell (J a 5) m) g:=by
 obtain⟨M,A,p,B,D⟩:=t.eo;have y:M=.slice n s.ln.length o:=by
  rw[cell_of_row _ _ 5 _ _ _ p]at r;simpa using r
 subst y;have H:=(aI p);have T:=A9 B;have L:¬(Value.slice n s.ln.length o).ownBlock=some a:=λP=>by
  grind
 have v:I (λk=>k=a\/(Value.slice n s.ln.length o).ownBlock=some k) w (l.setCell (J a 5) m):=(u.mono λ_ _ x=>.inr x).trans (I.set l (J a 5) m) λk _ x=>.inl x;have F:=(u.block a H L).trans p;refine t.m9 v (λk R x=>x.imp id λx=>?_) rfl rfl ⟨m,A,?_,?_,?_⟩ (by grind)
 .grind
 .rw[heap_setCell_same l a 5 _ _ _ F];rfl
 .grind[A3,I.set,A9,zQ,xW,absurd,strs]
 .refine A3 D v λq S x=>?_;grind[A9]
def Wl{k}(v:eN b c d h f)(hV:fD b a d e G c k):nI b a d e G c 21 λl sc=>rn c.N (aP c) G (k+1) (.s l) sc:=by
 intro w s g z Z l t hz hj hi a9;obtain⟨W,b0,x⟩:=hi;obtain⟨l,rfl⟩:=Int.eq_ofNat_of_zero_le W;have y:l<c.N.length:=by omega
 rw[B9 y]at x;have a8:=v.ok.ep l y;have hx:=J3 (a8.k1 (by omega));obtain⟨R,n⟩:∃R,R=rn c.N (aP c) G (k+1) (.s l) (some Z) s:=⟨_,rfl⟩;simp only[<-n]at a9⊢;rw[pC]at n;simp only[B9 y,x]at n;simp at n;obtain⟨fz,lt,m0,m1,m2,m3,m4⟩:=t.mc;obtain⟨gn,nc,la,lc,q0,q1,q2,q3,q4,q5,⟨x0,x1,x2,x3,x4,x5,x6,x7,x8⟩,ho⟩:=v.node t y;have P:=I.alloc No w (.cells #[U c.N[l].x,U c.N[l].a,U c.N[l].b,U c.N[l].c,.slice la c.N[l].M.length lc,.string ⟨c.N[l].text.toArray⟩,U c.N[l].n,U c.N[l].ty,U c.N[l].at'] 85);have ab:=hV _ s g z (some Z) c.N[l].a (t.y P) hz (λj' r=>by grind) hx (K8 (by rw[<-n];omega));have a7:=aH.y (wB:=b) (mb:=a) (g:=g) P;have a3:=O v.rv;have H:=O ab;have a2:=O a7;have HR:=O n;rw[x]at x0 H;try generalize pad g.sb (some Z)=pj at*
 generalize c.N[l]=nd at*;obtain⟨kd,va,vb,vc,ls,tx,vn,vt,vp⟩:=nd;simp only at*;subst x;clear v hV t n a9 hx a8 P ho hj ab a7;go_in;go_wp2_with fail;refine H.u.mono ?_;rintro r aq hq;obtain⟨ps,rfl,hh⟩|⟨av,p,g2,b8,rfl,e1,-,a4,r2,a5,u,rfl,hu,rfl⟩:=RP.cut (λap=>(rV (r1 ap).kz).bd λ_=>aE []) hq
 .exact⟨rfl,by rw[HR.u];exact(hh.pre a2.u (Gr.refl _)).more (by omega)⟩
 .have HW:=O (Yv g2.tb u hu.2.1 aq (a3.u.P r2.P));have ai:=O r2;have ae:=O (a2.u.trans a4);have af:=O a5;have S:=HR.u;rw[e1]at S;have ah:=O S;clear hq e1 a4 r2 a5 hu H S a3;go_wp2_with fail;refine HW.u.mono ?_;rintro r F ⟨rfl,ac⟩;have q:=ai.u.y ac;obtain⟨ay,b5,-,-,-,-,-⟩:=q.mc;obtain⟨b6,ev,L,M,b3⟩:=q.eo;obtain⟨A,B,rfl⟩:=B8 M;have c5:=(cell_of_row _ _ 5 _ _ _ L).trans rfl;obtain⟨i0,W,am,an,ao⟩:=info_parts Tryz.og;have az:p.ln.length<=1000000000:=by obtain⟨b7,hm,_⟩:=q.mem;omega
  have b4:=q.P.size;have al:(Value.slice A p.ln.length B).ownBlock≠some a:=λr=>by
   obtain⟨_,ax,au⟩:=A9 M a r;grind
  have ak:=(aI L);have HB:Hid (∀m,I (λk=>(Value.slice A p.ln.length B).ownBlock=some k) F m->a<m.heap.size/\(∀o,m.frozen? (J a o)=false)/\m.cell? (J a 5)=some (.slice A p.ln.length B)):=λm V=>by
   have T:=(V.block a ak al).trans L;exact⟨(aI T),λo=>frozen_of_row m a o _ _ T,(cell_of_row _ _ 5 _ _ _ T).trans rfl⟩
  have HV:Hid (∀m D,I (λk=>(Value.slice A p.ln.length B).ownBlock=some k) F m->m.ownsRow b.heap.size 9 1 D (p.ln.length+1) (strs p.ln++[.string ⟨u.kz.toArray⟩])->RP b a d e G c.N (z+1) w g s Kn R (rT) (m.setCell (J a 5) D)):=λm D V hv=>by
   obtain⟨t1,t2⟩:=q.line c5 V u.kz hv;rw[ah.u];exact⟨g2,_,rfl,ae.u.trans ((aH.y ac).trans t2),t1,af.u,rfl⟩
  have ag:=O (M.alloc (.cells #[.string ⟨u.kz.toArray⟩] 9));generalize u.kz=ad at*;go_wp2_with (at_builtin;refine wpList_append_own _ rfl _ _ 29 rfl b.heap.size 9 i0 (.string ⟨#[]⟩) 1 16 underlying29 W am an ao rfl (by decide) _ _ _ rfl ag.u (J F.heap.size 0) 1 1 [.string ⟨ad.toArray⟩] rfl rfl ?c1 ?c2 ?c3 ?c4 ?c5 ?_);case c1=>grind[World.news_of_block,yY]
  case c2=>intro au hy;simp at hy;obtain rfl:=hy;rfl
  case c3=>grind[maxLen]
  case c4=>omega
  case c5=>simp;omega
  intro D m aa aj _;obtain⟨aw,c4,rfl⟩:=B8 aa;have a6:=(I.alloc _ F (.cells #[.string ⟨ad.toArray⟩] 9)).trans (I.grown aj) (λk hk ar=>ar.symm);obtain⟨l4,z4,y4⟩:=HB.u _ a6;have HP:=O (HV.u _ _ a6 aa);go_wp2;go_end0;exact HP.u
end
