/-
  A part of the proof.
-/
import Derived.Test.YtjhlphgdgpebfaaGreatDoorRunA
set_option maxHeartbeats 0
set_option linter.all false
set_option maxRecDepth 100000
namespace Go.Proofs.YtjhlphgdgpebfaaGreatDoor
open _root_.Array renaming size->V
open Go renaming Value->χ,cell_of_row->á,Calls->μ,heap_setCell_same->ê
open Instr renaming mapUpdate->Á
open Obj renaming cells->γ
open Value renaming string->ζ,slice->Y,pointer->υ,ownBlock->Δ
open World renaming cell?->δ,drew->É,ownsRow->ξ,setCell->ρ
open Int renaming eq_ofNat_of_zero_le->î,reduceEq->È
open List renaming length->Q,toArray->ν,getElem?_eq_some_iff->À,prefix_refl->í
open Option renaming some->C
open Go.Proofs.Tryz
open Go.RowKit Go.Maps
section
variable{a w w':E}{b d f e z:Nat}{h:χ}{G:Int->Option Int}{c:Cx}{s:Ms}{g g':Gh}
def qK{kd va vb vc}{lv}{tx}{vn vt vp}(j:Rm a w b d e G c.N s g z)(l:aJ a b (w.alloc<|γ #[U kd,U va,U vb,U vc,lv,ζ tx,U vn,U vt,U vp] 93) g w' g'):
 δ w' (J (V w.heap) 0)=C (U kd)/\δ w' (J (V w.heap) 1)=C (U va)/\δ w' (J (V w.heap) 2)=C (U vb)/\δ w' (J (V w.heap) 3)=C (U vc)/\δ w' (J (V w.heap) 4)=C lv/\δ w' (J (V w.heap) 5)=C (.string tx)/\δ w' (J (V w.heap) 6)=C (U vn)/\δ w' (J (V w.heap) 7)=C (U vt)/\δ w' (J (V w.heap) 8)=C (U vp)/\V w.heap<V w'.heap:=by
 obtain⟨k,-⟩:=l.eu (rY w _) (j.new<|vQ _) (by have:=j.mc.2.1;omega) ε ε;have i:=λo=>á w' (V w.heap) o _ _ _ k;exact⟨i 0,i 1,i 2,i 3,i 4,i 5,i 6,i 7,i 8,(aG k)⟩
def M4{i}{x}(k:Pe c.N i x):oM c x:=by
 obtain⟨j,rfl,_,m,l⟩:=k;exact⟨W,W,by grind[B7]⟩
def SA{i}{k x}(l:Pk c.N i k x):iB c k x:=by
 obtain⟨j,rfl,_,n,m⟩:=l;exact⟨W,W,by grind[B7]⟩
abbrev qF(a:E)(b d e:Nat)(G:Int->Option Int)(c:Cx)(k:Int)(m:Int->Option Nat->X (List Vl)):Prop:=CT a b d e G c 33 (iB c k) m
abbrev gA(a:E)(b d e:Nat)(G:Int->Option Int)(c:Cx)(k:Nat):Prop:=CR a b d e G c 61 Kv (oM c) λi j=>rn c.N (aR c) G k (.v i) j
theorem sM{N:List Nd}{l:Int->Int}(k)(i)(m:Option Nat):rn N l G (k+1) (.s i) m=
 let n:=aA N i;let v:=λi=>rn N l G k (.v i) m;if n.x=17 then (v n.a).bd λr=>(eY (m.getD 0) i<|r1 r).bd λ_=>aF []
 else if n.x=18 then (v n.a).bd λr=>(iQ (l i) m).bd λj=>(eY j (l i)<|r1 r).bd λ_=>aF []
 else if n.x=19 then (v n.a).bd λo=>(v n.b).bd λr=>(mC i n.text (r1 o)<|r1 r).bd λ_=>aF []
 else if n.x=20 then (v n.a).bd λo=>(v n.b).bd λp=>(v n.c).bd λr=>(lE i (r1 o) (r1 p)<|r1 r).bd λ_=>aF []
 else if n.x=21 then (v n.a).bd λr=>(vX (r1 r).ma).bd λ_=>aF []
 else if n.x=22 then (v n.a).bd λr=>if (r1 r).j8 then rn N l G k (.b n.b) m else if n.c=-1 then aF [] else rn N l G k (.b n.c) m
 else if n.x=23 then rn N l G k (.w i) m
 else if n.x=24 then (v n.a).bd λr=>ret<|r1 r
 else (v n.a).bd λ_=>aF []:=Θ
def Dv{i}(j:jG c)(k:i<Q c.N)(l:c.N[i].x=5\/c.N[i].x=18):0<=aR c i/\aR c i<=1000000:=by
 obtain⟨n,m,o,_⟩:=j.mw.tg i k l;have:=j.fp;unfold aR lS;grind
def KW{k}(q:fJ a c d f h)(v:gA a b d e G c k):qF a b d e G c 25 λi sc=>rn c.N (aR c) G (k+1) (.s i) sc:=by
 intro w s g z j i m hz hj T A;obtain⟨Z,a4,n⟩:=T;obtain⟨i,rfl⟩:=î Z;have o:i<Q c.N:=W;rw[B7 o]at n;have y:=q.ok.ew i o;have D:=M4 (y.k1 W);obtain⟨R,l⟩:∃R,R=rn c.N (aR c) G (k+1) (.s i) (C j) s:=⟨_,K⟩;simp only[<-l]at A⊢;rw[sM]at l;simp only[B7 o,n]at l;simp at l;obtain⟨fz,lt,m0,m1,m2,m3,m4⟩:=m.mc;obtain⟨gn,nc,la,lc,q0,q1,q2,q3,q4,q5,⟨x0,x1,x2,x3,x4,x5,x6,x7,x8⟩,ho⟩:=q.node m o;have p:=I.alloc No w<|γ #[U c.N[i].x,U c.N[i].a,U c.N[i].b,U c.N[i].c,Y la (Q c.N[i].M) lc,ζ ⟨ν c.N[i].text⟩,U c.N[i].n,U c.N[i].ty,U c.N[i].at'] 93;have B:=v _ s g z (C j) c.N[i].a (m.y p) hz (λj' H=>θ) D (P8<|by rw[<-l];omega);have x:=aJ.y (wB:=a) (mb:=b) (g:=g) p;have u:=O B;have r:=O x;have t:=O l;rw[n]at x0 u;try generalize pad g.sb (C j)=pj at*
 generalize c.N[i]=nd at*;obtain⟨kd,va,vb,vc,ls,tx,vn,vt,vp⟩:=nd;simp only at*;subst n;clear q v m l A D y p ho hj B x;go_in;go_wp2_with fail;refine u.u.mono ?_;rintro H a2 hq;obtain⟨ps,rfl,S⟩|⟨a3,s2,N,a6,rfl,L,-,M,r2,P,a5,rfl,hu,rfl⟩:=RP.cut (λ_=>aF []) hq
 .exact⟨K,by rw[t.u];exact(S.pre r.u<|Gr.refl _).more W⟩
 .have F:Hid (RP a b d e G c.N (z+1) w g s Kn R (rT) a2):=by
   rw[t.u,L];exact⟨N,_,K,r.u.trans M,r2.more W,P,K⟩
  unfold bT;go_wp2;go_end0;exact F.u
def E1f{k}(q:fJ a c d f h)(y:gA a b d e G c k):qF a b d e G c 24 λi sc=>rn c.N (aR c) G (k+1) (.s i) sc:=by
 intro w s g z j i m hz hj T D;obtain⟨Z,a6,n⟩:=T;obtain⟨i,rfl⟩:=î Z;have o:i<Q c.N:=W;rw[B7 o]at n;have B:=q.ok.ew i o;have H:=M4 (B.k1 W);obtain⟨R,l⟩:∃R,R=rn c.N (aR c) G (k+1) (.s i) (C j) s:=⟨_,K⟩;simp only[<-l]at D⊢;rw[sM]at l;simp only[B7 o,n]at l;simp at l;obtain⟨fz,lt,m0,m1,m2,m3,m4⟩:=m.mc;obtain⟨gn,nc,la,lc,q0,q1,q2,q3,q4,q5,⟨x0,x1,x2,x3,x4,x5,x6,x7,x8⟩,ho⟩:=q.node m o;have p:=I.alloc No w<|γ #[U c.N[i].x,U c.N[i].a,U c.N[i].b,U c.N[i].c,Y la (Q c.N[i].M) lc,ζ ⟨ν c.N[i].text⟩,U c.N[i].n,U c.N[i].ty,U c.N[i].at'] 93;have F:=y _ s g z (C j) c.N[i].a (m.y p) hz (λj' L=>θ) H (P8<|by rw[<-l];omega);have A:=aJ.y (wB:=a) (mb:=b) (g:=g) p;have v:=O F;have r:=O A;have u:=O l;rw[n]at x0 v;try generalize pad g.sb (C j)=pj at*
 generalize c.N[i]=nd at*;obtain⟨kd,va,vb,vc,ls,tx,vn,vt,vp⟩:=nd;simp only at*;subst n;clear q y m l D H B p ho hj F A;go_in;go_wp2_with fail;refine v.u.mono ?_;rintro L a4 hq;obtain⟨ps,rfl,S⟩|⟨a5,s2,x,a7,rfl,M,-,N,r2,P,a3,rfl,hu,rfl⟩:=RP.cut (λa2=>ret<|r1 a2) hq
 .exact⟨K,by rw[u.u];exact(S.pre r.u<|Gr.refl _).more W⟩
 .have t:Hid (RP a b d e G c.N (z+1) w g s Kn R (bk x.tb a3 []) a4):=by
   rw[u.u,M];exact⟨x,[],K,r.u.trans N,r2.more W,P,hu⟩
  unfold bk at t;unfold bT at*;go_wp2;exact⟨K,t.u⟩
def E3f{k}(y:fJ a c d f h)(H:gA a b d e G c k):qF a b d e G c 17 λi sc=>rn c.N (aR c) G (k+1) (.s i) sc:=by
 intro w s g z j i n P M hi a7;obtain⟨ab,ai,q⟩:=hi;obtain⟨i,rfl⟩:=î ab;have A:i<Q c.N:=W;rw[B7 A]at q;have a6:=y.ok.ew i A;have N:=M4 (a6.ly q).2;obtain⟨R,l⟩:∃R,R=rn c.N (aR c) G (k+1) (.s i) (C j) s:=⟨_,K⟩;simp only[<-l]at a7⊢;rw[sM]at l;simp only[B7 A,q]at l;simp only[È,if_false,if_true]at l;obtain⟨fz,lt,m0,m1,m2,m3,m4⟩:=n.mc;obtain⟨gn,nc,la,lc,q0,q1,q2,q3,q4,q5,⟨x0,x1,x2,x3,x4,x5,x6,x7,x8⟩,ho⟩:=y.node n A;have t:=I.alloc No w<|γ #[U c.N[i].x,U c.N[i].a,U c.N[i].b,U c.N[i].c,Y la (Q c.N[i].M) lc,ζ ⟨ν c.N[i].text⟩,U c.N[i].n,U c.N[i].ty,U c.N[i].at'] 93;have a9:=H _ s g z (C j) c.N[i].a (n.y t) P (λj' m=>θ) N (P8<|by rw[<-l];omega);have o:=aJ.y (wB:=a) (mb:=b) (g:=g) t;obtain⟨sq,a8⟩:∃ae,s.c.S[j]?=C ae:=⟨_,gQ M⟩;obtain⟨D,r,S,aj,p3,-,-,u,-,-⟩:=n.scope a8;have aa:∀B,I No w B->μ prog 61 #[pV b,U c.N[i].a,υ<|pad g.sb<|C j] B λm p=>(∃v,m=.panicked v/\RP a b d e G c.N (z+1) w g s Kn R (.panicked v) p)\/∃T Z ut up x,m=.returned (.agg #[U T,.int .i32 Z,ζ ut,υ up])/\δ p (J D 0)=C (.map<|C r)/\D<V p.heap/\(Á 130 (.map<|C r) (U (i:Int))<|.agg #[U T,.int .i32 Z,ζ ut,υ up]).run prog p=.ok () x/\RP a b d e G c.N (z+1) w g s Kn R (rT) x:=by
  intro B hW;have o:=aJ.y (wB:=a) (mb:=b) (g:=g) hW;refine(H _ s g z (C j) c.N[i].a (n.y hW) P (λj' m=>θ) N<|P8<|by rw[<-l];omega).mono ?_;rintro m p hq;obtain⟨v,rfl,L⟩|⟨ag,s2,g2,al,rfl,e1,-,F,r2,a4,ak,rfl,hu,rfl⟩:=RP.cut (K':=Kn) (λr=>(eY ((C j).getD 0) (i:Int)<|r1 r).bd λ_=>aF []) hq
  .exact .inl ⟨v,K,by rw[l];exact(L.pre o<|Gr.refl _).more W⟩
  .have ac:=yQ M a4.S;obtain⟨b',r',t1,t2,t3,x,t4,t5,t6⟩:=r2.ke (gQ ac) (x:=(i:Int)) (by have:=y.ok.fp;omega) hu P;have hb:b'=D:=by
    rw[N8 (o.trans F).sb (λj' m=>by cases m;rw[n.sl];omega),S]at t1;simpa using t1.symm
   subst hb;have a5:δ p (J b' 0)=C (.map<|C r):=by
    have:=(o.trans F).r6 n p3;unfold δ at u⊢;simp only at u⊢;rw[this];exact u
   have hr:r'=r:=by
    rw[a5]at t3;simpa using t3.symm
   subst hr;refine .inr ⟨_,_,_,_,x,K,a5,t2,t4,?_⟩;rw[l,e1];exact⟨g2,_,K,(o.trans F).trans t6,t5,a4.trans<|vF j _,K⟩
 have a2:=O a9;have af:=O o;have HR:=O l;have ah:(i:Int)<(Q c.N:Int):=W;rw[q]at x0 a2;have a3:=O aa;clear aa;have ad:=A4 t u;have CA:=O t;rw[q]at ad CA;rw[S]at a3⊢;try generalize pad g.sb (C j)=pj at*
 generalize c.N[i]=nd at*;obtain⟨kd,va,vb,vc,ls,tx,vn,vt,vp⟩:=nd;simp only at*;subst q;clear y H n l a7 N a6 t ho M a9 o a8 a2 S p3 u;go_in;go_wp2_with fail;go_region_with (go_at_call 61;refine(a3.u _<|B6 CA.u<|I.drewN No _ 1).mono ?_;rintro m p (⟨v,rfl,L⟩|⟨T,Z,ut,up,x,rfl,e1,e2,e3,e4⟩);exact⟨K,L⟩;have E4:=O e4;clear e4);all_goals go_wp2_with fail
 all_goals go_end0
 all_goals exact E4.u
def E0f{k}(q:fJ a c d f h)(F:gA a b d e G c k):qF a b d e G c 18 λi sc=>rn c.N (aR c) G (k+1) (.s i) sc:=by
 intro w s g z j i p N hj hi L;obtain⟨ai,aq,u⟩:=hi;obtain⟨i,rfl⟩:=î ai;have v:i<Q c.N:=W;rw[B7 v]at u;have a8:=q.ok.ew i v;have M:=M4 (a8.k1 W);obtain⟨R,m⟩:∃R,R=rn c.N (aR c) G (k+1) (.s (i:Int)) (C j) s:=⟨_,K⟩;simp only[<-m]at L⊢;rw[sM]at m;simp only[B7 v,u]at m;simp only[È,if_false,if_true]at m;obtain⟨fz,lt,m0,m1,m2,m3,m4⟩:=p.mc;obtain⟨gn,nc,la,lc,q0,q1,q2,q3,q4,q5,⟨x0,x1,x2,x3,x4,x5,x6,x7,x8⟩,ho⟩:=q.node p v;have r:=I.alloc No w<|γ #[U c.N[i].x,U c.N[i].a,U c.N[i].b,U c.N[i].c,Y la (Q c.N[i].M) lc,ζ ⟨ν c.N[i].text⟩,U c.N[i].n,U c.N[i].ty,U c.N[i].at'] 93;have ac:=F _ s g z (C j) c.N[i].a (p.y r) N (λj' l=>θ) M (P8<|by rw[<-m];omega);have t:=aJ.y (wB:=a) (mb:=b) (g:=g) r;have ab:=Dv q.ok v<|.inr u;have aj:=q.names.P p.P λa3=>a3;have a9:∀o,I No a o->(Instr.lookup 46 (.map<|C f) (U (i:Int)) false).run prog o=.ok (U<|aR c (i:Int)) o:=λo A=>(q.names.P A λa3=>a3).get (i:Int) (by have:=q.ok.fp;omega);have ad:∀o,I No w o->μ prog 61 #[pV b,U c.N[i].a,υ<|pad g.sb<|C j] o λl n=>(∃x,l=.panicked x/\RP a b d e G c.N (z+1) w g s Kn R (.panicked x) n)\/∃P S Z T,l=.returned (.agg #[U P,.int .i32 S,ζ Z,υ T])/\I No a n/\d<V n.heap/\δ n (J d 4)=C (.map<|C f)/\b<V n.heap/\δ n (J b 0)=C (pV d)/\
  Hid (∀D,I No n D->μ prog 62 #[υ<|pad g.sb<|C j,U<|aR c (i:Int),.agg #[U P,.int .i32 S,ζ Z,υ T]] D λl a2=>l=rT/\RP a b d e G c.N (z+1) w g s Kn R (rT) a2):=by
  intro o A;have t:=aJ.y (wB:=a) (mb:=b) (g:=g) A;refine(F _ s g z (C j) c.N[i].a (p.y A) N (λj' l=>θ) M<|P8<|by rw[<-m];omega).mono ?_;rintro l n hq;obtain⟨x,rfl,H⟩|⟨ao,s2,g2,au,rfl,e1,-,a6,y,af,ar,rfl,hu,rfl⟩:=RP.cut (K':=Kn) (λam=>(iQ (aR c (i:Int))<|C j).bd λj=>(eY j (aR c (i:Int))<|r1 am).bd λ_=>aF []) hq
  .exact .inl ⟨x,K,by rw[m];exact(H.pre t<|Gr.refl _).more W⟩
  .have aa:=L;rw[m,e1]at aa;obtain⟨j0,j1,e0,ah,ag⟩:=YN<|P8 aa;cases e0;obtain⟨-,-,-,-,n0,-,n4,-⟩:=q.node y v;refine .inr ⟨_,_,_,_,K,y.P,n0,n4,y.mc.2.1,y.mc.2.2.1,λD a7=>?_⟩;have:=Zd (y.y a7) ab ah hu N;rw[N8 (t.trans a6).sb (λj' l=>by cases l;rw[p.sl];omega)]at this;refine this.mono ?_;rintro l a2 ⟨rfl,t5,t6⟩;refine⟨K,?_⟩;rw[m,e1,J0 ag];exact⟨g2,_,K,(t.trans a6).trans<|(aJ.y a7).trans t6,t5,af.trans<|vF j1 _,K⟩
 have a5:=O ac;have an:=O t;have HR:=O m;have ap:(i:Int)<(Q c.N:Int):=W;rw[u]at x0 a5;have ae:=O ad;have a4:=O a9;have CW:=O p.P;clear ad a9 aj;have B:=O r;have al:=A4 r q2;have ak:=A4 r m0;rw[u]at B al ak;have l0:=a4.u (É _)<|B6 (B6 CW.u B.u)<|I.drewN No _ 1;generalize aR c (i:Int)=xn at*;try generalize pad g.sb (C j)=pj at*
 generalize c.N[i]=nd at*;obtain⟨kd,va,vb,vc,ls,tx,vn,vt,vp⟩:=nd;simp only at*;subst u;clear q F p m L M a8 r ho hj ac t a5 ab;go_in;go_wp2_with fail;go_region_with (first|(go_at_call 61;refine(ae.u _<|B6 B.u<|I.drewN No _ 1).mono ?_;rintro l n (⟨x,rfl,H⟩|⟨P,S,Z,T,rfl,t1,t2,t3,t4,t5,T6⟩);exact⟨K,H⟩;have l2:=a4.u _ t1;clear t1)|(go_at_call 62;refine(T6.u _<|I.refl _ _).mono ?_;rintro l a2 ⟨rfl,e4⟩;have E4:=O e4;clear e4));all_goals go_wp2_with fail
 all_goals go_end0
 all_goals exact E4.u
end
section
variable{b w f:E}{a e j d z:Nat}{i:χ}{G:Int->Option Int}{N:List Nd}{c:Cx}{s:Ms}{g h:Gh}
abbrev nK(b:E)(a e d:Nat)(G:Int->Option Int)(c:Cx)(k:Nat):Prop:=CR b a e d G c 18 Kn (iB c 26) λl m=>rn c.N (aR c) G k (.b l) m
theorem nK.at{k}(n:nK b a e d G c k)(m:Rm b w a e d G c.N s g z)(t:z<=1000000000){sc}(r:iL s.c sc){l}(p:iB c 26 l){R}(o:R=rn c.N (aR c) G k (.b l) sc s)(q:R≠.stk):
 μ prog 18 #[pV a,U l,υ<|pad g.sb sc] w (RP b a e d G c.N z w g s Kn R):=by
 subst o;exact n w s g z sc l m t r p q
def RP.ends{R}{l}(k:RP b a e d G N z w g s Kn R l f):(∃m,l=.panicked m)\/l=rT:=by
 cases R with
 |stk=>exact k.elim
 |ok o n=>
  obtain⟨h,v,rfl,_,_,_,rfl⟩:=k;simp
 |over x p n=>
  obtain⟨h,m,rfl,_⟩:=k;exact .inl ⟨_,K⟩
 |back u n=>
  obtain⟨h,m,rfl,_⟩:=k;exact .inl ⟨_,K⟩
def D9d{k}(hV:gA b a e d G c k)(hB:nK b a e d G c k)(P:Rm b w a e d G c.N s g z)(hz:z<=1000000000){o}(hj:o<Q s.c.S){kd A B n}{lv}{tx}{vn vt vp}(h1:oM c A)(h2:iB c 26 B)(h3:n=-1\/iB c 26 n)
 {R} (hR:R=((rn c.N (aR c) G k (.v A)<|C o).bd λa4=>if (r1 a4).j8 then rn c.N (aR c) G k (.b B) (C o) else if n=-1 then aF [] else rn c.N (aR c) G k (.b n)<|C o) s) (ad:R≠.stk):
 μ prog 66 #[pV a,.agg #[U kd,U A,U B,U n,lv,ζ tx,U vn,U vt,U vp],υ<|pad g.sb<|C o] w (RP b a e d G c.N z w g s Kn R):=by
 have ca:=I.alloc No w<|γ #[U kd,U A,U B,U n,lv,ζ tx,U vn,U vt,U vp] 93;have a7:=O<|aJ.y (wB:=b) (mb:=a) (g:=g) ca;have ab:=O (hV _ s g z (C o) A (P.y ca) hz (λj' m=>θ) h1<|P8<|by rw[<-hR];omega);have M:Hid (∀T p,aJ b a _ g T p->_):=λT p hf=>qK (kd:=kd) (va:=A) (vb:=B) (vc:=n) (lv:=lv) (tx:=tx) (vn:=vn) (vt:=vt) (vp:=vp) P hf;have HR:=O hR;have a8:=O ad;have a6:=O hB;have H2:=O h2;have H3:=O h3;have HJ:=O hj;have a9:=O (λ(h:Gh) (q:g.sb<+:h.sb)=>N8 q (o:=C o) λj' m=>by cases m;rw[P.sl];omega);generalize pad g.sb (C o)=pj at*;clear hV hB P hj h1 h2 h3 hR ad ca;go_in;go_wp2_with fail;refine ab.u.mono ?_;rintro m T hq;obtain⟨ps,rfl,hh⟩|⟨ag,s2,p,ai,rfl,e1,-,a2,r2,ac,u,rfl,hu,rfl⟩:=RP.cut (λa4=>if (r1 a4).j8 then rn c.N (aR c) G k (.b B) (C o) else if n=-1 then aF [] else rn c.N (aR c) G k (.b n)<|C o) hq
 .exact⟨K,by rw[HR.u];exact hh.pre a7.u<|Gr.refl _⟩
 have l:=HR.u;rw[e1]at l;have hM:r1 [u]=u:=K;rw[hM]at l;have H:=O<|TW p.tb u T;have R2:=O r2;have F2:=O<|a7.u.trans a2;have a5:=O a2;have D:=O ac;have aa:=O l;obtain⟨u',a3⟩:∃ae,ae=u.j8:=⟨_,K⟩;rw[<-a3]at H;have HU:=O a3;clear hq e1 r2 a2 ac hu l a3 ab hM;unfold bT at*;cases u' with
 |true=>
  go_wp2_with fail;refine H.u.mono ?_;rintro m Z ⟨rfl,r⟩;have y:=R2.u.y r;have t:=F2.u.trans<|aJ.y r;have l:=aa.u;rw[<-HU.u,yY K]at l;obtain⟨x0,x1,x2,x3,x4,x5,x6,x7,x8,xl⟩:=M.u Z p<|a5.u.trans<|aJ.y r;have x:=a6.u.at y hz (λj' m=>by cases m;exact yQ HJ.u D.u.S) H2.u l a8.u;rw[a9.u p t.sb]at x;have F:=O x;have F3:=O t;clear y t l r H M x;go_wp2_with fail;refine F.u.mono ?_;rintro m af v;have q:=RP.pre F3.u D.u v;have L:=O q;obtain⟨ps,rfl⟩|rfl:=v.ends
  .exact⟨K,q⟩
  .clear q v F;go_wp2;go_end0;exact L.u
 |false=>
  go_wp2_with fail;refine H.u.mono ?_;rintro m Z ⟨rfl,r⟩;have y:=R2.u.y r;have t:=F2.u.trans<|aJ.y r;have l:=aa.u;rw[<-HU.u,wY ι]at l;obtain⟨x0,x1,x2,x3,x4,x5,x6,x7,x8,xl⟩:=M.u Z p<|a5.u.trans<|aJ.y r;by_cases S:n=-1
  .rw[yY S]at l;have L:Hid (RP b a e d G c.N z w g s Kn R (rT) Z):=by
    rw[l];exact⟨p,_,K,t,y,D.u,K⟩
   have ah:(n !=-1)=false:=by simpa using S
   go_wp2;go_end0;exact L.u
  .rw[wY S]at l;have x:=a6.u.at y hz (λj' m=>by cases m;exact yQ HJ.u D.u.S) (H3.u.resolve_left S) l a8.u;rw[a9.u p t.sb]at x;have F:=O x;have F3:=O t;clear y t l r H M x;go_wp2_with fail;refine F.u.mono ?_;rintro m af v;have q:=RP.pre F3.u D.u v;have L:=O q;obtain⟨ps,rfl⟩|rfl:=v.ends
   .exact⟨K,q⟩
   .clear q v F;go_wp2;go_end0;exact L.u
def tS(s:Ms)(k:Nat)(t:Th):Ms:={s with c:={s.c with T:=s.c.T.set k t}}
def Kl(l)(k)(x)(v):mK (λy=>if y=x then C v else l y) k (.string x)=C (bT k v)/\∀u,u≠.string x->mK (λy=>if y=x then C v else l y) k u=mK l k u:=by
 refine⟨by simp[mK],λu m=>?_⟩;cases u<;>try rfl
 grind[mK]
def Rm.r7(l:Rm b w a e d G N s g z){m}{t}(q:s.c.T[m]?=C t)(L:t.k=16){x}(hx:Q x<=1000000){v}(hv:aZ s.c v)(hz:z<=1000000000):
 ∃n r,g.tb[m]?=C n/\n<V w.heap/\δ w (J n 0)=C (.map<|C r)/\∃f,(Á 160 (.map<|C r) (ζ ⟨ν x⟩)<|bT g.tb v).run prog w=.ok () f/\
  Rm b f a e d G N (tS s m {t with p:=λy=>if y=x then C v else t.p y}) g (z+1)/\aJ b a w g f g:=by
 obtain⟨am,e8,hT,_⟩:=l.mem;obtain⟨n,pv,la,lc,P,Z,B,e4,e5,e6⟩:=hT m t q;rw[yY L]at e4;obtain⟨r,rfl,R,f6⟩:=e4;obtain⟨h1,h2⟩:=Kl t.p g.tb x v;obtain⟨f,a9,hm,D⟩:=f6.put EO underlying160 (DH x hx) (show WideAt.IsKeyLit (.string x) from trivial) W (bT g.tb v) _ h1 h2;obtain⟨es,cl,ag⟩:=f6.isMap;obtain⟨ad,ac,ah⟩:=hm.isMap;have A:=l.ok.T m t q;have H:=tW (u:={t with p:=λy=>if y=x then C v else t.p y}) q K;have a8:=(À.1 q).1;refine⟨n,r,P,(aG B),cr B K,f,a9,?_,⟨D.mono λk _ y=>.inr<|.inl ⟨.p m,(show k=r from y) ▸ R,λ_ o=>θ⟩,λ_ _ _ o=>o,í _,í _⟩⟩;refine l.gen (d:=1) D (λk _ y=>?_) (l.rows D λk _ y=>?_) ⟨í _,í _,λ_ _=>K⟩ (by simp[tS,l.tl]) l.sl (λk r L hr=>?_) (λk r' hr y=>?_) (l.ok.ld q K ⟨A.k,λy u M=>?_,λu F=>(A.l u F).gr H,A.sc.gr H,A.fq,A.nd⟩) (by grind[tS]) (λa2 u F=>?_) λa2 aa hq=>.inl ⟨hq,λk L y=>?_⟩
 .have T:=y;subst T;refine⟨(l.low k _ R).1,λo=>?_⟩;have:=l.j5.2.2;grind
 .have T:=y;subst T;refine⟨λo=>?_,λcs o fz y=>?_⟩
  .have:=l.j5.2.1;grind
  grind
 .have:=(l.low k r hr).2;omega
 .grind
 .dsimp only at M;split at M
  .cases M;exact hv.gr H
  .exact(A.p y u M).gr H
 .simp only[tS]at F;by_cases a7:m=a2
  .subst a7;rw[List.getElem?_set_self a8,zQ]at F;subst F;refine .inr λm0 m' af hd a5=>?_;obtain⟨b',an,ak,al,a3,aj,S,k4,k5,k6⟩:=a5 m t q;rw[P]at a3;cases a3;rw[B]at S;simp at S;obtain⟨rfl,rfl,rfl⟩:=S;have a6:∀{k:Nat} {a4:Rl},g.ow k=C a4->a4≠.p m->k≠r:=λae ai o=>θ;refine⟨n,.map<|C r,la,lc,P,Z,(D.block n (aG B)<|a6 Z ι).trans B,?_,A3 e5 D λaa hq y=>?_,e6⟩
   .rw[yY L];exact⟨r,K,R,hm.more W⟩
   .cases la with
    |none=>grind[Δ]
    |some ab=>
     grind[Δ]
  grind
 grind
theorem Db(m)(v):∀(l:List Vl) (k),k<Q l->((((l.flatMap<|gF m).set (k*4)<|U v.g).set (k*4+1)<|.int .i32 v.n).set (k*4+2)<|ζ ⟨ν v.t⟩).set (k*4+3) (υ<|pad m v.h)=(l.set k v).flatMap (gF m)
 |[],k,p=>Θ
 |n::r,0,_=>Θ
 |n::r,k+1,p=>by
  have q:=Db m v r k θ;have o:(k+1)*4=k*4+1+1+1+1:=W;rw[o,zZ,List.flatMap_cons,List.flatMap_cons,<-q];rfl
def ĕ{p m o}{n}{l:List Vl}(t:ξ w p 135 4 (Y (C<|J m 0) (Q l) o) (Q l)<|l.flatMap<|gF n){k}(H:k<Q l)(v):
 ξ (ρ (ρ (ρ (ρ w (J m<|k*4)<|U v.g) (J m<|k*4+1)<|.int .i32 v.n) (J m<|k*4+2)<|ζ ⟨ν v.t⟩) (J m<|k*4+3)<|υ<|pad n v.h) p 135 4 (Y (C<|J m 0) (Q l) o) (Q l) ((l.set k v).flatMap<|gF n):=by
 obtain⟨B,_⟩|⟨h,A,r,q,u,F,y,x,D,M⟩:=t.2
 .omega
 .simp at q;obtain⟨rfl,rfl⟩:=q;have L:∀l:List Vl,Q (l.flatMap<|gF n)=Q l*4:=λl=>by
   induction l<;>grind[qQ,jQ,gF]
  refine⟨θ,.inr ⟨m,o,(((r.setIfInBounds (k*4)<|U v.g).setIfInBounds (k*4+1)<|.int .i32 v.n).setIfInBounds (k*4+2)<|ζ ⟨ν v.t⟩).setIfInBounds (k*4+3)<|υ<|pad n v.h,K,u,?_,y,x,θ,?_⟩⟩<;>grind[ê,Array.toList_setIfInBounds,List.take_set,Db]
def Fv{t}{l}{c k}(m:jP N c t)(n:Gr c k)(p:∀u∈l,aZ k u)(q:Q l<=1200+k.th):jP N k {t with l:=l}:=⟨m.k,λx v o=>(m.p x v o).gr n,p,m.sc.gr n,q,m.nd⟩
end
section
variable{e w a:E}{f h b z:Nat}{G:Int->Option Int}{N:List Nd}{s:Ms}{g:Gh}
def Rm.qy{S}{j}{n}{L d}(l:Rm e w f h b G N s g z)(u:I S w a)(R:∀k,k<V w.heap->S k->V e.heap<=k/\k≠b)
 (hb:∃Z M,a.heap[f]?=C (γ #[pV h,.map<|C b,U j.fu,U j.c.ca,U j.c.th,Z,M] 48 (0,0))/\
  ξ a (V e.heap) 9 1 Z (Q j.ln) (strs j.ln)/\ξ a (V e.heap) 50 2 M (Q j.ev) (jN j.ev))
 (v:g.tb<+:n.tb/\g.sb<+:n.sb/\∀k r,g.ow k=C r->n.ow k=C r\/(S k/\n.ow k=none)) (a3:n.ow f=none/\n.ow b=none) (a7:Q n.tb=Q j.c.T) (a6:Q n.sb=Q j.c.S)
 (a8:∀k r,g.ow k=none->n.ow k=C r->(V e.heap<=k/\k<V a.heap)/\∀B c D,a.heap[k]?=C (γ B c D)->c≠9/\c≠50)
 (a9:∀k r,g.ow k=C r->n.ow k=C r->S k->∀B c D,a.heap[k]?=C (γ B c D)->c≠9/\c≠50)
 (a4:iE N j.c) (hz:d+Q j.ln+Q j.ev+4000*j.fu+z<=L+Q s.ln+Q s.ev+4000*s.fu)
 (hT:∀i t,j.c.T[i]?=C t->(s.c.T[i]?=C t/\∀k,g.ow k=C (.t i)\/g.ow k=C (.p i)\/g.ow k=C (.l i)->¬S k)\/∀m A,m+Q s.ln+Q s.ev+4000*s.fu=z->m+d<=A->(∀i t,s.c.T[i]?=C t->sE (V e.heap) w g m i t)->sE (V e.heap) a n A i t)
 (a2:∀i q,j.c.S[i]?=C q->(s.c.S[i]?=C q/\∀k,g.ow k=C (.s i)\/g.ow k=C (.o i)->¬S k)\/∀m A,m+Q s.ln+Q s.ev+4000*s.fu=z->m+d<=A->(∀i q,s.c.S[i]?=C q->uS w g m i q)->uS a n A i q):Rm e a f h b G N j n L:=by
 obtain⟨m,T,mT,mS⟩:=l.mem;have P:∀k r,n.ow k=C r->(k<V w.heap/\g.ow k=C r)\/g.ow k=none:=λk r y=>by
  cases c:g.ow k with
  |none=>simp
  |some r'=>
   obtain this|⟨_,this⟩:=v.2.2 k r' c
   .rw[y]at this;cases this;exact .inl ⟨(l.low k _ c).2,K⟩
   grind
 refine⟨l.P.trans u λk o x=>?_,⟨l.j5.1,a3⟩,l.gs.P u λx=>(R b l.gs.lt x).2 K,hb,a7,a6,λk r y=>?_,λk r y=>?_,a4,L-(Q j.ln+Q j.ev+4000*j.fu),W,λi t ht=>?_,λi q hq=>?_⟩
 .have:=(R k (yQ o l.P.size) x).1;omega
 .obtain⟨p,c⟩|p:=P k r y
  .exact⟨(l.low k r c).1,yQ p u.size⟩
  grind
 .obtain⟨p,c⟩|p:=P k r y
  .by_cases hx:S k
   .grind
   .rw[u.block k p hx];exact l.ty k r c
  grind
 .obtain⟨c,H⟩|F:=hT i t ht
  .refine(mT i t c).up (l.ok.T i t c) l.tl l.sl v.1 v.2.1 W λk o=>?_;have p:k<V w.heap:=by obtain o|o|o:=o<;>exact(l.low k _ o).2
   exact⟨u.block k p<|H k o,θ⟩
  .exact F m _ T W mT
 .obtain⟨c,H⟩|F:=a2 i q hq
  .refine(mS i q c).up (l.ok.S i q c).1 (λa5 e1=>?_) l.tl v.1 v.2.1 W λk o=>?_
   .have:=(l.ok.S i q c).2 a5 e1;have h4:=(À.1 c).1;rw[l.sl];omega
   .have p:k<V w.heap:=by obtain o|o:=o<;>exact(l.low k _ o).2
    exact⟨u.block k p<|H k o,θ⟩
  .exact F m _ T W mS
def Rm.ko(j:Rm e w f h b G N s g z){t}{mq}(ht:jP N {s.c with T:=s.c.T++[t]} t){l q}{H}{n:Option Addr}{o}(D:I No w a)(hb:V w.heap<=l)(cb:a.heap[l]?=C (γ #[H,Y n (Q t.l) o,U t.nd,υ<|pad g.sb t.sc] 163 (0,0)))
 (m:if t.k=16 then H=.map (C q)/\V e.heap<=q/\g.ow q=none/\q≠b/\gH 9 a q mq (mK t.p g.tb) else H=.map none) (ho:ξ a (V e.heap) 135 4 (Y n (Q t.l) o) (Q t.l)<|t.l.flatMap<|gF g.tb) (hl:∀p,n=C p->g.ow p.block=none) (hv:∀x v,t.p x=C v->aZ s.c v) (af:∀v∈t.l,aZ s.c v):
 ∃B,Rm e a f h b G N {s with c:={s.c with T:=s.c.T++[t]}} B (z+mq)/\B.sb=g.sb/\g.tb<+:B.tb/\pad B.tb (C (Q s.c.T))=C (J l 0)/\(∀k r,g.ow k=C r->B.ow k=C r)/\∀k,g.ow k=none->k≠l->(t.k=16->k≠q)->Δ (Y n (Q t.l) o)≠C k->B.ow k=none:=by
 obtain⟨_,_,L,_⟩:=j.blk;have a5:=(aG L);have a7:=(aG cb);have a6:=A9 ho;have F:g.tb<+:g.tb++[l]:=List.prefix_append _ _;let A:Nat->Option Rl:=λk=>match g.ow k with
  |C r=>C r
  |none=>if k=l then C (.t (Q s.c.T)) else if t.k=16/\k=q then C (.p (Q s.c.T)) else if Δ (Y n (Q t.l) o)=C k then C (.l (Q s.c.T)) else none;have h1:∀k r,g.ow k=C r->A k=C r:=λk r d=>θ;have Z:∀k,g.ow k=none->k≠l->(t.k=16->k≠q)->Δ (Y n (Q t.l) o)≠C k->A k=none:=λk d a1 a2 a3=>θ;have a9:=j.new hb;have ab:A l=C (.t (Q s.c.T)):=by simp only[A,a9,if_true]
 have aa:∀k,Δ (Y n (Q t.l) o)=C k->k≠l:=λk d e2=>θ;refine⟨⟨g.tb++[l],g.sb,A⟩,?_,K,F,by simp[pad,lQ,j.tl],h1,Z⟩;refine j.qy (d:=mq) D (λk _ x=>x.elim) (j.rows D λk _ x=>x.elim) ⟨F,í _,λk r d=>.inl<|h1 k r d⟩ ⟨Z f j.j5.2.1 W ?_ ?_,Z b j.j5.2.2 ?_ ?_ ?_⟩ (by simp[j.tl]) j.sl (λk r hk hr=>?_) (λk r _ _ x=>x.elim) (j.ok.ko ht) θ (λi ak u=>?_) λi q' ac=>.inl ⟨ac,λk _ x=>x.elim⟩
 .intro S d;rw[yY S]at m;obtain⟨R,M,y⟩:=m.2.2.2.2.isMap;rw[<-d,D.block f a5 id,L]at y;grind
 .intro d;obtain⟨_,a8,y⟩:=a6 f d;rw[D.block f a5 id,L]at y;grind
 .have:=j.gs.lt;omega
 .grind
 .intro d;obtain⟨_,a8,y⟩:=a6 b d;rw[D.block b j.gs.lt id]at y;exact j.gs.et y
 .simp only[A,hk]at hr;split at hr
  .rename_i d;subst d;refine⟨⟨kQ j.P.size hb,a7⟩,λcs d fz y=>?_⟩;grind
  .split at hr
   .rename_i d;rw[yY d.1]at m;obtain⟨R,M,y⟩:=m.2.2.2.2.isMap;grind
   grind
 .simp only at u;obtain a4|a4:=Nat.lt_or_ge i (Q s.c.T)
  .grind
  .rw[List.getElem?_append_right a4]at u;obtain d|d:=Nat.eq_zero_or_pos<|i-Q s.c.T
   .have hi:i=Q s.c.T:=W;subst hi;rw[d]at u;simp at u;subst u;refine .inr λai m' _ hm _=>⟨l,H,n,o,by simp[j.tl],ab,cb,?_,?_,λp ha=>?_⟩
    .by_cases S:t.k=16
     .rw[yY S]at m⊢;obtain⟨ag,aj,p3,p4,p5⟩:=m;refine⟨q,ag,?_,?_⟩
      .have ah:q≠l:=λP=>by
        obtain⟨R,M,y⟩:=p5.isMap;grind
       grind
      .rw[TJ F hv j.tl];exact p5.more W
     grind
    .rw[OX λv ae=>(wR F (af v ae) j.tl).2];omega
    .subst ha;have P:Δ (Y (C p) (Q t.l) o)=C p.block:=K;have ad:¬(t.k=16/\p.block=q):=λx=>by
      rw[yY x.1]at m;obtain⟨R,M,y⟩:=m.2.2.2.2.isMap;grind
     simp only[A,hl p K];rw[wY<|aa _ P,wY ad,yY P]
   .rw[List.getElem?_eq_none à]at u;cases u
end
section
variable{d w b:E}{a e j f z:Nat}{i:χ}{G:Int->Option Int}{N:List Nd}{c:Cx}{s:Ms}{g h:Gh}
theorem gA.at{k}(n:gA d a e f G c k)(m:Rm d w a e f G c.N s g z)(r:z<=1000000000){sc}(q:iL s.c sc){l}(o:oM c l)(p:rn c.N (aR c) G k (.v l) sc s≠.stk):
 μ prog 61 #[pV a,U l,υ<|pad g.sb sc] w (RP d a e f G c.N z w g s Kv<|rn c.N (aR c) G k (.v l) sc s):=n w s g z sc l m r q o p
def B5f{a9}(hS:fJ d c e j i)(hV:gA d a e f G c a9)(L:Rm d w a e f G c.N s g z)(hz:z<=1000000000){v k}(hj:v<Q s.c.S)(af:k<Q c.N)(b6:c.N[k].x=19){R:Rr (List Vl)}
 (hR:R=((rn c.N (aR c) G a9 (.v c.N[k].a)<|C v).bd λah=>(rn c.N (aR c) G a9 (.v c.N[k].b)<|C v).bd λr=>(mC (k:Int) c.N[k].text (r1 ah)<|r1 r).bd λ_=>aF []) s) (ao:R≠.stk):
 μ prog 63 #[pV a,U k,υ<|pad g.sb<|C v] w (RP d a e f G c.N (z+1) w g s Kn R):=by
 have ae:=hS.ok.ew k af;have aq:=M4 (ae.k2 W).1;have ar:=M4 (ae.k2 W).2;have b7:Q c.N[k].text<=1000000:=by have:=hS.ok.tx c.N[k]<|mQ af;omega
 obtain⟨fz,lt,m0,m1,m2,m3,m4⟩:=L.mc;obtain⟨gn,nc,la,lc,q0,q1,q2,q3,q4,q5,⟨x0,x1,x2,x3,x4,x5,x6,x7,x8⟩,ho⟩:=hS.node L af;have ca:=I.alloc No w<|γ #[U c.N[k].x,U c.N[k].a,U c.N[k].b,U c.N[k].c,Y la (Q c.N[k].M) lc,ζ ⟨ν c.N[k].text⟩,U c.N[k].n,U c.N[k].ty,U c.N[k].at'] 93;have a4:=O<|aJ.y (wB:=d) (mb:=a) (g:=g) ca;have al:=O (hV.at (L.y ca) hz (sc:=C v) (λj' q=>θ) aq<|P8<|by rw[<-hR];omega);have a5:Hid (∀A o,aJ d a _ g A o->_):=λA o hf=>qK (w':=A) (g':=o) (kd:=c.N[k].x) (va:=c.N[k].a) (vb:=c.N[k].b) (vc:=c.N[k].c) (lv:=Y la (Q c.N[k].M) lc) (tx:=⟨ν c.N[k].text⟩) (vn:=c.N[k].n) (vt:=c.N[k].ty) (vp:=c.N[k].at') L hf;have ay:=O (λ(h:Gh) (hp:g.sb<+:h.sb)=>N8 hp (o:=C v) λj' q=>by cases q;rw[L.sl];omega);have HR:=O hR;have ax:=O ao;have HV:=O hV;have b4:=O ar;have HJ:=O hj;have HD:=O wH;have bc:(k:Int)<(Q c.N:Int):=W;generalize pad g.sb (C v)=pj at*;generalize c.N[k]=nd at*;obtain⟨kd,va,vb,vc,ls,T,vn,vt,vp⟩:=nd;simp only at*;subst b6;clear hS hV L hR ao aq ar ae ca ho hj;go_in;go_wp2_with fail;refine al.u.mono ?_;rintro q A P;obtain⟨ps,rfl,hh⟩|⟨b5,s2,o,ba,rfl,F,-,ab,S,ac,u,rfl,hu,rfl⟩:=RP.cut (K':=Kn) (λah=>(rn c.N (aR c) G a9 (.v vb)<|C v).bd λr=>(mC (k:Int) T (r1 ah)<|r1 r).bd λ_=>aF []) P
 .exact⟨K,by rw[HR.u];exact(hh.pre a4.u<|Gr.refl _).more W⟩
 have M:r1 [u]=u:=K;have a8:=HR.u;rw[F,M]at a8;have cb:=I.alloc No A<|γ #[U u.g,.int .i32 u.n,ζ ⟨ν u.t⟩,υ<|pad o.tb u.h] 135;have fb:=ab.trans<|aJ.y (wB:=d) (mb:=a) (g:=o) cb;have a6:=O (HV.u.at (S.y cb) hz (sc:=C v) (λj' q=>by cases q;exact yQ HJ.u ac.S) b4.u<|P8<|by rw[<-a8];exact ax.u);rw[ay.u o ab.sb]at a6;obtain⟨x0,x1,x2,x3,x4,x5,x6,x7,x8,xl⟩:=a5.u _ o fb;have am:o.ow (V A.heap)=none/\a<V A.heap:=⟨S.new<|vQ _,S.mc.2.1⟩;have a3:Hid (∀n m,aJ d a _ o n m->_):=λn m (hf:aJ d a (A.alloc<|γ #[U u.g,.int .i32 u.n,ζ ⟨u.t.toArray⟩,υ<|pad o.tb u.h] 135) o n m)=>eU (hf.eu (rY A _) am.1 W ε ε).1<|I.refl No _;have R2:=O S;have F2:=O fb;have G2:=O ac;have ak:=O a8;have HU:=O hu;have az:=O S.tl;clear P F ab S ac hu a8 al fb cb am M;unfold bT;go_wp2_with fail;refine a6.u.mono ?_;rintro q n P;obtain⟨ps,rfl,hh⟩|⟨b5,s3,m,ba,rfl,F,-,H,D,a7,y,rfl,hy,rfl⟩:=RP.cut (K':=Kn) (λr=>(mC (k:Int) T u<|r1 r).bd λ_=>aF []) P
 .exact⟨K,by rw[ak.u];exact((hh.pre F2.u G2.u).pre a4.u<|Gr.refl _).more W⟩
 have M:r1 [y]=y:=K;have B:=ak.u;rw[F,M]at B;obtain⟨t0,t1,t2,t3,tz,tl⟩:=a3.u n m H;have ag:=HU.u.gr a7;have cc:=I.alloc No n<|γ #[U y.g,.int .i32 y.n,ζ ⟨ν y.t⟩,υ<|pad m.tb y.h] 135;have CC:=O cc;have ap:=(N8 H.tb λk q=>by rw[az.u];exact HU.u.lt k q).symm;have F3:=O<|F2.u.trans H;have aw:=O H;have G3:=O<|G2.u.trans a7;have an:m.ow (V n.heap)=none/\a<V n.heap:=⟨D.new<|vQ _,D.mc.2.1⟩;have ad:=rY n<|γ #[U y.g,.int .i32 y.n,ζ ⟨ν y.t⟩,υ<|pad m.tb y.h] 135;have ai:=O λb=>eU (w':=b) ad;by_cases Z:u.g=16
 .obtain⟨jt,th,bt,bd,z1,z2,z3,z4,z5,-,-⟩:=D.kh ag W;have a2:mC (k:Int) T u y s3=.ok () (tS s3 jt {th with p:=λav=>if av=T then C y else th.p av}):=by
   unfold mC;rw[J0<|nY Z,J0<|xX z1 z2];simp only[fL,bR,z1,Option.getD_some];rfl
  rw[J0 a2]at B;have aj:Hid (∀b,I No n b->∃r l,bt<V b.heap/\δ b (J bt 0)=C (.map<|C r)/\(Á 160 (.map<|C r) (ζ ⟨T.toArray⟩)<|.agg #[U y.g,.int .i32 y.n,ζ ⟨ν y.t⟩,υ<|pad m.tb y.h]).run prog b=.ok () l/\RP d a e f G c.N (z+1) w g s Kn R (rT) l):=λb t=>by
   obtain⟨bb,r,au,b8,b9,l,x,k5,k6⟩:=(D.y t).r7 z2 (z3.trans Z) b7 hy hz;rw[z4]at au;cases au;refine⟨r,l,b8,b9,x,?_⟩;rw[B];exact⟨m,_,K,a4.u.trans<|F3.u.trans<|(aJ.y t).trans k6,k5,G3.u.trans<|tW z2 K,K⟩
  obtain⟨n0,n1,n2,n3,n4,n5,n6,n7,n8,nl⟩:=a5.u n m F3.u;have HN:=O λb (t:I No n b)=>a5.u b m<|F3.u.trans<|aJ.y t;have aa:=O λb (t:I No n b)=>a3.u b m<|aw.u.trans<|aJ.y t;rw[ap,z5]at t3 aa;clear P F H D a7 hy ag cc B a2 z1 z2 z3 z4 a6 a3 M an ad ap z5;generalize u.g=ug at*;subst Z;unfold bT;go_wp2_with fail;refine(HD.u _ _ _ _ _ _ _).mono ?_;rintro q l ⟨x,rfl⟩;simp only[if_true];obtain⟨r,be,l1,l2,l3,l4⟩:=aj.u (É l)<|B6 (B6 CC.u x)<|I.drewN No _ 1;replace l1:bt<V l.heap:=l1;replace l2:δ l (J bt 0)=C (.map<|C r):=l2;obtain⟨-,-,-,-,-,o5,-,-,-,ol⟩:=HN.u l<|B6 CC.u x;obtain⟨b0,b1,b2,b3,-,bl⟩:=aa.u l<|B6 CC.u x;obtain⟨d0,d1,d2,d3,-,dl⟩:=ai.u l x;have L4:=O l4;clear l4 x aj HN aa ai a5;go_wp2_with fail;go_region;all_goals go_wp2_with fail
  all_goals go_end0
  all_goals exact L4.u
 .have a2:mC (k:Int) T u y s3=.over 3 (k:Int) s3:=by
   unfold mC;exact I5<|qY Z
  rw[I5 a2]at B;have HP:Hid (∀l,I No n l->RP d a e f G c.N (z+1) w g s Kn R (ov 3 (k:Int) []) l):=λl t=>by
   rw[B];exact⟨m,[],K,a4.u.trans<|F3.u.trans<|aJ.y t,(D.y t).more W⟩
  clear P F H D a7 hy ag cc B a2 a6 a3 M an ad;unfold bT;go_wp2_with fail;refine(HD.u _ _ _ _ _ _ _).mono ?_;rintro q l ⟨x,rfl⟩;rw[wY Z];exact⟨K,HP.u _<|B6 CC.u x⟩
end
def Tryz.pq:(prog.info? 9).map (λi=>(i.zero,i.size,i.bytes))=C (C<|ζ ⟨#[]⟩,1,16):=Ψ
section
variable{b w j:E}{a d h e z:Nat}{f:χ}{G:Int->Option Int}{N:List Nd}{c:Cx}{s:Ms}{g i:Gh}
def Rm.line(t:Rm b w a d e G N s g z){n}{o}(r:δ w (J a 5)=C (Y n (Q s.ln) o)){l}(u:I (λk=>Δ (Y n (Q s.ln) o)=C k) w l)(x){m}(Z:ξ l (V b.heap) 9 1 m (Q s.ln+1)<|strs s.ln++[ζ ⟨ν x⟩]):
 Rm b (ρ l (J a 5) m) a d e G N {s with ln:=s.ln++[x]} g (z+1)/\aJ b a w g (ρ l (J a 5) m) g:=by
 obtain⟨M,A,p,B,D⟩:=t.blk;have y:M=Y n (Q s.ln) o:=by
  rw[á _ _ 5 _ _ _ p]at r;simpa using r
 subst y;have H:=(aG p);have T:=A9 B;have L:¬Δ (Y n (Q s.ln) o)=C a:=λP=>θ;have v:I (λk=>k=a\/Δ (Y n (Q s.ln) o)=C k) w (ρ l (J a 5) m):=(u.mono λ_ _ x=>.inr x).trans (I.set l (J a 5) m) λk _ x=>.inl x;have F:=(u.block a H L).trans p;refine t.om v (λk R x=>x.imp id λx=>?_) K K ⟨m,A,?_,?_,?_⟩ θ
 .grind
 .rw[ê l a 5 _ _ _ F];rfl
 .grind[A3,I.set,A9,zQ,xW,absurd,strs]
 .refine A3 D v λq S x=>?_;grind[A9]
def C0e{k}(t:fJ b c d h f)(hV:gA b a d e G c k):qF b a d e G c 21 λl sc=>rn c.N (aR c) G (k+1) (.s l) sc:=by
 intro w s g z a2 l r hz hj hi ab;obtain⟨Z,b5,v⟩:=hi;obtain⟨l,rfl⟩:=î Z;have x:l<Q c.N:=W;rw[B7 x]at v;have aa:=t.ok.ew l x;have hx:=M4 (aa.k1 W);obtain⟨R,n⟩:∃R,R=rn c.N (aR c) G (k+1) (.s l) (C a2) s:=⟨_,K⟩;simp only[<-n]at ab⊢;rw[sM]at n;simp only[B7 x,v]at n;simp at n;obtain⟨fz,lt,m0,m1,m2,m3,m4⟩:=r.mc;obtain⟨gn,nc,la,lc,q0,q1,q2,q3,q4,q5,⟨x0,x1,x2,x3,x4,x5,x6,x7,x8⟩,ho⟩:=t.node r x;have M:=I.alloc No w<|γ #[U c.N[l].x,U c.N[l].a,U c.N[l].b,U c.N[l].c,Y la (Q c.N[l].M) lc,ζ ⟨ν c.N[l].text⟩,U c.N[l].n,U c.N[l].ty,U c.N[l].at'] 93;have ad:=hV _ s g z (C a2) c.N[l].a (r.y M) hz (λj' q=>θ) hx (P8<|by rw[<-n];omega);have a9:=aJ.y (wB:=b) (mb:=a) (g:=g) M;have a5:=O t.uh;have F:=O ad;have a4:=O a9;have HR:=O n;rw[v]at x0 F;try generalize pad g.sb (C a2)=pj at*
 generalize c.N[l]=nd at*;obtain⟨kd,va,vb,vc,ls,tx,vn,vt,vp⟩:=nd;simp only at*;subst v;clear t hV r n ab hx aa M ho hj ad a9;go_in;go_wp2_with fail;refine F.u.mono ?_;rintro q au hq;obtain⟨ps,rfl,hh⟩|⟨ax,o,g2,ba,rfl,e1,-,a6,r2,a7,u,rfl,hu,rfl⟩:=RP.cut (λar=>(vX (r1 ar).ma).bd λ_=>aF []) hq
 .exact⟨K,by rw[HR.u];exact(hh.pre a4.u<|Gr.refl _).more W⟩
 .have HW:=O<|Ny g2.tb u hu.2.1 au<|a5.u.P r2.P;have ak:=O r2;have ag:=O<|a4.u.trans a6;have ah:=O a7;have P:=HR.u;rw[e1]at P;have aj:=O P;clear hq e1 a6 r2 a7 hu F P a5;go_wp2_with fail;refine HW.u.mono ?_;rintro q D ⟨rfl,ae⟩;have p:=ak.u.y ae;obtain⟨b0,b7,-,-,-,-,-⟩:=p.mc;obtain⟨b8,ev,H,L,b3⟩:=p.blk;obtain⟨y,A,rfl⟩:=B8 L;have c5:=(á _ _ 5 _ _ _ H).trans K;obtain⟨i0,Z,ao,ap,aq⟩:=info_parts Tryz.pq;have b4:Q o.ln<=1000000000:=by obtain⟨b9,hm,_⟩:=p.mem;omega
  have b6:=p.P.size;have an:Δ (Y y (Q o.ln) A)≠C a:=λq=>by
   obtain⟨_,az,aw⟩:=A9 L a q;grind
  have am:=(aG H);have HB:Hid (∀m,I (λk=>Δ (Y y (Q o.ln) A)=C k) D m->a<V m.heap/\(∀a3,m.frozen? (J a a3)=false)/\δ m (J a 5)=C (Y y (Q o.ln) A)):=λm T=>by
   have S:=(T.block a am an).trans H;exact⟨(aG S),λa3=>frozen_of_row m a a3 _ _ S,(á _ _ 5 _ _ _ S).trans K⟩
  have HV:Hid (∀m B,I (λk=>Δ (Y y (Q o.ln) A)=C k) D m->ξ m (V b.heap) 9 1 B (Q o.ln+1) (strs o.ln++[ζ ⟨ν u.ma⟩])->RP b a d e G c.N (z+1) w g s Kn R (rT) (ρ m (J a 5) B)):=λm B T hv=>by
   obtain⟨t1,t2⟩:=p.line c5 T u.ma hv;rw[aj.u];exact⟨g2,_,K,ag.u.trans<|(aJ.y ae).trans t2,t1,ah.u,K⟩
  have ai:=O<|L.alloc<|γ #[ζ ⟨ν u.ma⟩] 9;generalize u.ma=af at*;go_wp2_with (at_builtin;refine wpList_append_own _ K _ _ 23 K (V b.heap) 9 i0 (ζ ⟨#[]⟩) 1 16 underlying23 Z ao ap aq K ε _ _ _ K ai.u (J (V D.heap) 0) 1 1 [ζ ⟨ν af⟩] K K ?c1 ?c2 ?c3 ?c4 ?c5 ?_);case c1=>grind[World.news_of_block,rY]
  case c2=>intro aw hy;simp at hy;obtain rfl:=hy;rfl
  case c3=>grind[maxLen]
  case c4=>omega
  case c5=>simp;omega
  intro B m ac al _;obtain⟨ay,c4,rfl⟩:=B8 ac;have a8:=(I.alloc _ D<|γ #[ζ ⟨ν af⟩] 9).trans (I.grown al) λk hk av=>av.symm;obtain⟨l4,z4,y4⟩:=HB.u _ a8;have HP:=O<|HV.u _ _ a8 ac;go_wp2;go_end0;exact HP.u
end
section
variable{a w j:E}{b d h e z:Nat}{f:χ}{G:Int->Option Int}{c:Cx}{s:Ms}{g i:Gh}
def KV{k}(v:fJ a c d h f)(x:gA a b d e G c k)(H:nK a b d e G c k):qF a b d e G c 22 λl sc=>rn c.N (aR c) G (k+1) (.s l) sc:=by
 intro w s g z D l o P M hi y;obtain⟨a4,a5,n⟩:=hi;obtain⟨l,rfl⟩:=î a4;have r:l<Q c.N:=W;rw[B7 r]at n;have q:=v.ok.ew l r;have B:=M4 (q.o7 n).1;obtain⟨R,m⟩:∃R,R=rn c.N (aR c) G (k+1) (.s l) (C D) s:=⟨_,K⟩;simp only[<-m]at y⊢;rw[sM]at m;simp only[B7 r,n]at m;simp at m;obtain⟨fz,lt,m0,m1,m2,m3,m4⟩:=o.mc;obtain⟨gn,nc,S,T,q0,q1,q2,q3,q4,q5,⟨x0,x1,x2,x3,x4,x5,x6,x7,x8⟩,ho⟩:=v.node o r;have p:=I.alloc No w<|γ #[U c.N[l].x,U c.N[l].a,U c.N[l].b,U c.N[l].c,Y S (Q c.N[l].M) T,ζ ⟨ν c.N[l].text⟩,U c.N[l].n,U c.N[l].ty,U c.N[l].at'] 93;have N:=x _ s g z (C D) c.N[l].a (o.y p) P (λj' a2=>θ) B (P8<|by rw[<-m];omega);have L:=aJ.y (wB:=a) (mb:=b) (g:=g) p;have a3:=D9d x H (o.y p) P M (kd:=c.N[l].x) (lv:=Y S (Q c.N[l].M) T) (tx:=⟨ν c.N[l].text⟩) (vn:=c.N[l].n) (vt:=c.N[l].ty) (vp:=c.N[l].at') B (SA (q.o7 n).2.1) ((q.o7 n).2.2.imp id SA) m y;have F:=O N;have Z:=O L;have HR:=O m;rw[n]at x0 F;have t:=O a3;rw[n]at t;try generalize pad g.sb (C D)=pj at*
 generalize c.N[l]=nd at*;obtain⟨kd,va,vb,vc,ls,tx,vn,vt,vp⟩:=nd;simp only at*;subst n;clear v x o m y B q p ho M N L H F HR;go_in;go_wp2_with fail;refine t.u.mono ?_;rintro a2 a6 u;have A:=(RP.pre Z.u (Gr.refl _) u).more (show z<=z+1 by omega);have HP:=O A;obtain⟨ps,rfl⟩|rfl:=u.ends
 .exact⟨K,A⟩
 .clear A u t;go_wp2;go_end0;exact HP.u
end
def xK(a:Nat)(w:E):Nat:=match δ w (J a 2) with
 |C (.int _ n)=>n.toNat
 |_=>0
section
variable{b w j:E}{a d i e z:Nat}{h:χ}{G:Int->Option Int}{N:List Nd}{c:Cx}{s:Ms}{g f:Gh}
theorem Rm.sr(k:Rm b w a d e G N s g z):xK a w=s.fu:=by
 obtain⟨-,-,-,-,m2,-⟩:=k.mc;grind[xK]
def B9e{k}(hS:fJ b c d i h)(hV:∀n,n<k->gA b a d e G c n)(hB:∀n,n<k->nK b a d e G c n):qF b a d e G c 23 λl sc=>rn c.N (aR c) G (k+1) (.s l) sc:=by
 intro w s g z m l y hz hj hi ab;obtain⟨b1,b5,u⟩:=hi;obtain⟨l,rfl⟩:=î b1;have L:l<Q c.N:=W;rw[B7 L]at u;have aa:=hS.ok.ew l L;have hx:=M4 (aa.o6 u).1;obtain⟨R,A⟩:∃R,R=rn c.N (aR c) G (k+1) (.s l) (C m) s:=⟨_,K⟩;simp only[<-A]at ab⊢;rw[sM]at A;simp only[B7 L,u]at A;simp at A;obtain⟨fz,lt,m0,m1,m2,m3,m4⟩:=y.mc;obtain⟨gn,nc,la,lc,q0,q1,q2,q3,q4,q5,⟨x0,x1,x2,x3,x4,x5,x6,x7,x8⟩,ho⟩:=hS.node y L;have ca:=I.alloc No w<|γ #[U c.N[l].x,U c.N[l].a,U c.N[l].b,U c.N[l].c,Y la (Q c.N[l].M) lc,ζ ⟨ν c.N[l].text⟩,U c.N[l].n,U c.N[l].ty,U c.N[l].at'] 93;have an:=aJ.y (wB:=b) (mb:=a) (g:=g) ca;have a4:=O an;have HR:=O A;rw[u]at x0;have H0:=O<|y.y ca;have af:Hid (∀ap r,aJ b a _ g ap r->_):=λap r hf=>qK (kd:=23) (va:=c.N[l].a) (vb:=c.N[l].b) (vc:=c.N[l].c) (lv:=Y la (Q c.N[l].M) lc) (tx:=⟨ν c.N[l].text⟩) (vn:=c.N[l].n) (vt:=c.N[l].ty) (vp:=c.N[l].at') y hf;have aw:=O hx;have ax:=O<|SA (aa.o6 u).2;have HV:=O hV;have HB:=O hB;have a5:=O ab;have HJ:=O hj;have ag:=O (λ(f:Gh) (hp:g.sb<+:f.sb)=>N8 hp (o:=C m) λj' q=>by cases q;rw[y.sl];omega);have HW:Hid (∀k p,rn c.N (aR c) G (k+1) (.w (l:Int)) (C m) p=((rn c.N (aR c) G k (.v c.N[l].a)<|C m).bd λad=>if (r1 ad).j8 then (rn c.N (aR c) G k (.b c.N[l].b)<|C m).bd λ_=>rn c.N (aR c) G k (.w (l:Int)) (C m) else aF []) p):=λk p=>by rw[rn,B7 L]
 rw[u]at H0;try generalize pad g.sb (C m)=pj at*
 generalize c.N[l]=nd at*;obtain⟨kd,va,vb,vc,ls,tx,vn,vt,vp⟩:=nd;simp only at*;subst u;clear hS hV y A ab hx aa ca ho hj an hB;go_in;go_wp2_with fail;go_loopw [94] (λ_ wr=>∃(o:Nat) (p:Ms) (r:Gh),o<=k/\Hid (R=rn c.N (aR c) G o (.w (l:Int)) (C m) p)/\Hid (Rm b wr a d e G c.N p r z)/\Hid (aJ b a (w.alloc<|aM 23 va vb vc (Y la (Q ls) lc) tx vn vt vp) g wr r)/\Hid (Gr s.c p.c)) (λ_ wr=>xK a wr);case atStart=>exact⟨k,s,g,vQ _,HR,H0,aJ.y<|I.refl _ _,Gr.refl _⟩
 case round=>
  obtain⟨o,p,r,b6,a6,HM,D,P⟩:=hrel;obtain⟨o,rfl⟩:∃n,o=n+1:=by
   cases o with
   |zero=>exact absurd (a6.u.trans K) a5.u
   |succ n=>simp
  have T:=a6.u;rw[HW.u]at T;have a7:=O T;have ao:iL p.c (C m):=λj' q=>by cases q;exact yQ HJ.u P.u.S
  have a8:=O (HV.u o W wr p r z (C m) va HM.u hz ao aw.u<|P8<|by rw[<-T];exact a5.u);rw[ag.u r D.u.sb]at a8;obtain⟨y0,y1,y2,y3,y4,y5,y6,y7,y8,yl⟩:=af.u wr r D.u;have aq:Hid (xK a wr=p.fu):=HM.u.sr;clear T ao a6;go_wp2_with fail;refine a8.u.mono ?_;rintro q b3 hq;obtain⟨ps,rfl,hh⟩|⟨ay,s3,x,b2,rfl,F,H,aj,r3,al,a2,rfl,hu,rfl⟩:=RP.cut (K':=Kn) (λad=>if (r1 ad).j8 then (rn c.N (aR c) G o (.b vb)<|C m).bd λ_=>rn c.N (aR c) G o (.w (l:Int)) (C m) else aF []) hq
  .exact⟨K,by rw[a7.u];exact((hh.pre D.u P.u).pre a4.u<|Gr.refl _).more W⟩
  have Z:=a7.u;rw[F]at Z;have hM:r1 [a2]=a2:=K;rw[hM]at Z;have B:=O<|TW x.tb a2 b3;have R3:=O r3;have F3:=O<|D.u.trans aj;have M:=O<|P.u.trans al;have ah:=O Z;have au:=O<|C4e H;obtain⟨u',ac⟩:∃az,az=a2.j8:=⟨_,K⟩;rw[<-ac]at B;have HU:=O ac;clear hq F H r3 aj al hu Z ac a8 hM a7 HM D P y0 y1 y2 y3 y4 y5 y6 y7 y8 yl;unfold bT at*;cases u' with
  |true=>
   go_wp2_with fail;refine B.u.mono ?_;rintro q a3 ⟨rfl,v⟩;have r4:=R3.u.y v;have S:=F3.u.trans<|aJ.y (wB:=b) (mb:=a) (g:=x) v;have t:=ah.u;rw[<-HU.u,yY K]at t;obtain⟨x0,x1,x2,x3,x4,x5,x6,x7,x8,xl⟩:=af.u a3 x S;have hb:=HB.u o W a3 s3 x z (C m) vb r4 hz (λj' q=>by cases q;exact yQ HJ.u M.u.S) ax.u (P8<|by rw[<-t];exact a5.u);rw[ag.u x S.sb]at hb;have ae:=O hb;have F4:=O S;have ai:=O t;clear r4 S t v B hb;go_wp2_with fail;refine ae.u.mono ?_;rintro q b4 h5;obtain⟨ps,rfl,hh⟩|⟨ay,s5,g5,b2,rfl,F,H,ak,r5,am,rfl⟩:=RP.cut (K':=Kn) (λ_=>rn c.N (aR c) G o (.w (l:Int))<|C m) h5
   .exact⟨K,by rw[ai.u];exact((hh.pre F4.u M.u).pre a4.u<|Gr.refl _).more W⟩
   .have a9:=ai.u;rw[F]at a9;have av:=O a9;have R5:=O r5;have F5:=O<|F4.u.trans ak;have G5:=O<|M.u.trans am;have h6:=Ew c.N (aR c) G o (.b vb) (C m) s3 s3.fu<|vQ _;rw[H]at h6;have b0:s5.fu<=s3.fu:=h6;have ar:Hid (xK a b4<xK a wr):=by show _<_;rw[r5.sr,aq.u];have:=au.u;omega
    clear h5 F H ak r5 am a9 h6 b0 ae;go_wp2;exact⟨⟨o,s5,g5,W,av,R5,F5,G5⟩,ar.u⟩
  |false=>
   go_wp2_with fail;refine B.u.mono ?_;rintro q a3 ⟨rfl,v⟩;have t:=ah.u;rw[<-HU.u,wY ι]at t;have HP:Hid (RP b a d e G c.N (z+1) w g s Kn R (rT) a3):=by
    show RP _ _ _ _ _ _ _ _ _ _ _ _ _ _;rw[t];exact⟨x,_,K,a4.u.trans<|F3.u.trans<|aJ.y v,(R3.u.y v).more W,M.u,K⟩
   clear t v B;go_wp2;go_end0;exact HP.u
end
section
variable{a w j:E}{b d h e z:Nat}{f:χ}{G:Int->Option Int}{c:Cx}{s:Ms}{g i:Gh}
def E2f{k}(r:fJ a c d h f)(v:gA a b d e G c k):qF a b d e G c 19 λl sc=>rn c.N (aR c) G (k+1) (.s l) sc:=by
 intro w s g z A l o N H hi x;obtain⟨a3,a4,n⟩:=hi;obtain⟨l,rfl⟩:=î a3;have p:l<Q c.N:=W;rw[B7 p]at n;have F:=r.ok.ew l p;have M:=M4 (F.k2 W).1;obtain⟨R,m⟩:∃R,R=rn c.N (aR c) G (k+1) (.s l) (C A) s:=⟨_,K⟩;simp only[<-m]at x⊢;rw[sM]at m;simp only[B7 p,n]at m;simp at m;obtain⟨fz,lt,m0,m1,m2,m3,m4⟩:=o.mc;obtain⟨gn,nc,la,lc,q0,q1,q2,q3,q4,q5,⟨x0,x1,x2,x3,x4,x5,x6,x7,x8⟩,ho⟩:=r.node o p;have q:=I.alloc No w<|γ #[U c.N[l].x,U c.N[l].a,U c.N[l].b,U c.N[l].c,Y la (Q c.N[l].M) lc,ζ ⟨ν c.N[l].text⟩,U c.N[l].n,U c.N[l].ty,U c.N[l].at'] 93;have L:=v _ s g z (C A) c.N[l].a (o.y q) N (λj' Z=>θ) M (P8<|by rw[<-m];omega);have D:=aJ.y (wB:=a) (mb:=b) (g:=g) q;have a2:=B5f r v (o.y q) N H p n m x;have B:=O L;have P:=O D;have T:=O m;rw[n]at x0 B;have t:=O a2;rw[n]at t;try generalize pad g.sb (C A)=pj at*
 generalize c.N[l]=nd at*;obtain⟨kd,va,vb,vc,ls,tx,vn,vt,vp⟩:=nd;simp only at*;subst n;clear r v o m x M F q ho H L D B T;go_in;go_wp2_with fail;refine t.u.mono ?_;rintro Z a5 u;have y:=RP.pre P.u (Gr.refl _) u;have S:=O y;obtain⟨ps,rfl⟩|rfl:=u.ends
 .exact⟨K,y⟩
 .clear y u t;go_wp2;go_end0;exact S.u
end
