/-
  A part of the proof.
-/
import Derived.Test.YtjhlphgdgpebfaaGreatDoorRunB
set_option maxHeartbeats 0
set_option linter.all false
set_option maxRecDepth 100000
namespace Go.Proofs.YtjhlphgdgpebfaaGreatDoor
open _root_.Array renaming size->V
open Bool renaming false->κ,true->τ
open Go renaming Value->χ,bodyPost_ret->ä,results->â,Calls->μ,undef->Ξ,leaves_cons->Ú,heap_setCell_same->ê,cell_of_row->á
open Act renaming put->æ
open Ending renaming panicked->ø,returned->π
open IntKind renaming i32->Φ
open Obj renaming cells->γ
open Go.Proofs.Tryz renaming results105->Õ,prog->η
open Value renaming string->ζ,pointer->υ,slice->Y,ownBlock->Δ,nilIface->Î
open World renaming cell?->δ,setCell->ρ,alloc->σ,ownsRow->ξ,size_alloc->Ã,drew->É
open Int renaming eq_ofNat_of_zero_le->î,reduceEq->È
open List renaming length->Q,toArray->ν
open Option renaming some->C
open Go.Proofs.Tryz
open Go.RowKit Go.Maps
section
variable{a w j:E}{b d i e z:Nat}{h:χ}{G:Int->Option Int}{c:Cx}{s:Ms}{g f:Gh}
theorem mZ{N:List Nd}{p:Int->Int}(k)(l)(q:Option Nat):rn N p G (k+1) (.e l) q=
 let n:=aA N l;let v:=λl=>rn N p G k (.v l) q;if n.x=1 then aF [vN<|wr n.n]
 else if n.x=2 then aF [vT n.text]
 else if n.x=3 then aF [vB<|n.n==1]
 else if n.x=5 then (iQ (p l) q).bd λm=>(jA m<|p l).bd λr=>aF [r]
 else if n.x=6 then (bX l).bd λ_=>(eL ⟨64,λ_=>none,[],l,q⟩).bd λm=>aF [⟨64,0,[],C m⟩]
 else if n.x=7 then (v n.a).bd λA=>(rn N p G k (.vs n.M) q).bd λD=>(eO l (r1 A) 64).bd λ_=>
  (bR λc=>if c.ca=40 then .over 2 l else .ok () {c with ca:=c.ca+1}).bd λ_=>(fR<|r1 A).bd λt=>
  (X.cat<|(fM t.sc).bd λm=>(iG G (aA N t.nd).M D m).bd λ_=>rn N p G k (.b (aA N t.nd).a)<|C m).bd λr=>
  (bR λc=>.ok () {c with ca:=c.ca-1}).bd λ_=>aF r
 else if n.x=8 then (v n.a).bd λo=>(mB l (r1 o) n.text).bd λr=>aF [r]
 else if n.x=9 then (v n.a).bd λo=>(v n.b).bd λu=>(mY l (r1 o)<|r1 u).bd λr=>aF [r]
 else if n.x=10 then (rn N p G k (.vs<|n.M.map λx=>(aA N x).a) q).bd λy=>(bX l).bd λ_=>(eL ⟨16,parts (n.M.map λx=>(aA N x).text) y,[],0,none⟩).bd λm=>aF [⟨16,0,[],C m⟩]
 else if n.x=11 then (rn N p G k (.vs n.M) q).bd λy=>(bX l).bd λ_=>(eL ⟨32,λ_=>none,y,0,none⟩).bd λm=>aF [⟨32,0,[],C m⟩]
 else if n.x=12 then (v n.a).bd λu=>(v n.b).bd λB=>(mD l n.text (r1 u)<|r1 B).bd λr=>aF [r]
 else if n.x=13 then (v n.a).bd λu=>(kP l n.text<|r1 u).bd λr=>aF [r]
 else if n.x=14 then v n.a
 else aF [vO]:=Θ
def Qr{k}(t:fJ a c d i h):CE a b d e G c (iB c 2) λl q=>rn c.N (aR c) G (k+1) (.e l) q:=by
 intro w s g z q l m ad ab hi a6;obtain⟨a5,aa,p⟩:=hi;obtain⟨l,rfl⟩:=î a5;have o:l<Q c.N:=W;rw[B7 o]at p;have a9:=t.ok.ew l o;obtain⟨R,n⟩:∃R,R=rn c.N (aR c) G (k+1) (.e l) q s:=⟨_,K⟩;simp only[<-n]at a6⊢;rw[mZ]at n;simp only[B7 o,p]at n;simp at n;obtain⟨fz,lt,m0,m1,m2,m3,m4⟩:=m.mc;obtain⟨gn,nc,la,lc,q0,q1,q2,q3,q4,q5,⟨x0,x1,x2,x3,x4,x5,x6,x7,x8⟩,ho⟩:=t.node m o;obtain⟨T,a8,v⟩:=iT w (γ #[U 0,.int Φ 0,ζ ⟨#[]⟩,υ none] 135)<|γ #[U c.N[l].x,U c.N[l].a,U c.N[l].b,U c.N[l].c,Y la (Q c.N[l].M) lc,ζ ⟨ν c.N[l].text⟩,U c.N[l].n,U c.N[l].ty,U c.N[l].at'] 93;have a4:=aJ.y (wB:=a) (mb:=b) (g:=g) v;have r0:=m.y v;have A:g.ow (V w.heap)=none/\b<V w.heap/\V a.heap<=V w.heap:=⟨m.new<|vQ _,m.mc.2.1,m.P.size⟩;have H:=O A;have M:Hid (∀r y,aJ a b _ g r y->_):=λr y Z=>Z.eu T A.1 W ε ε;have ac:=t.ok.tx c.N[l]<|mQ o;have D:=O a4;have P:=O r0;have L:=O n;rw[p]at x0;generalize pad g.sb q=ps at*;generalize c.N[l]=nd at*;obtain⟨kd,va,vb,vc,ls,tx,vn,vt,vp⟩:=nd;simp only at*;subst p;go_in;go_wp2_with fail;refine(TP _ _).mono ?_;rintro a7 r ⟨rfl,B⟩;have x:=aJ.y (wB:=a) (mb:=b) (g:=g) B;obtain⟨u,S⟩:=M.u r g x;obtain⟨y0,y1,y2,y3,yz,yl⟩:=eU u<|I.refl No _;obtain⟨n1,n2,n3⟩:=H.u;have N:=O ((P.u.y B).je u S W W);have F:=O<|D.u.trans x;go_wp2;refine ä (by simp[â,Õ,go_sem,y0,y1,y2,y3];rfl) K ?_;rw[L.u];exact⟨g,_,K,F.u.je (vQ _) _ _ _ _,(N.u _ _ _ _).more W,Gr.refl _,vT tx,K,TL _ W,K⟩
def AW{k}(y:fJ a c d i h):CE a b d e G c (iB c 1) λl q=>rn c.N (aR c) G (k+1) (.e l) q:=by
 intro w s g z q l m ac ab hi a6;obtain⟨a5,aa,o⟩:=hi;obtain⟨l,rfl⟩:=î a5;have p:l<Q c.N:=W;rw[B7 p]at o;have a9:=y.ok.ew l p;obtain⟨R,n⟩:∃R,R=rn c.N (aR c) G (k+1) (.e l) q s:=⟨_,K⟩;simp only[<-n]at a6⊢;rw[mZ]at n;simp only[B7 p,o]at n;simp at n;obtain⟨fz,lt,m0,m1,m2,m3,m4⟩:=m.mc;obtain⟨gn,nc,la,lc,q0,q1,q2,q3,q4,q5,⟨x0,x1,x2,x3,x4,x5,x6,x7,x8⟩,ho⟩:=y.node m p;obtain⟨T,a8,u⟩:=iT w (γ #[U 0,.int Φ 0,ζ ⟨#[]⟩,υ none] 135)<|γ #[U c.N[l].x,U c.N[l].a,U c.N[l].b,U c.N[l].c,Y la (Q c.N[l].M) lc,ζ ⟨ν c.N[l].text⟩,U c.N[l].n,U c.N[l].ty,U c.N[l].at'] 93;have a4:=aJ.y (wB:=a) (mb:=b) (g:=g) u;have r0:=m.y u;have A:g.ow (V w.heap)=none/\b<V w.heap/\V a.heap<=V w.heap:=⟨m.new<|vQ _,m.mc.2.1,m.P.size⟩;have H:=O A;have M:Hid (∀r x,aJ a b _ g r x->_):=λr x Z=>Z.eu T A.1 W ε ε;have D:=O a4;have P:=O r0;have L:=O n;rw[o]at x0;generalize pad g.sb q=ps at*;generalize c.N[l]=nd at*;obtain⟨kd,va,vb,vc,ls,tx,vn,vt,vp⟩:=nd;simp only at*;subst o;go_in;go_wp2_with fail;refine(IL _ _).mono ?_;rintro a7 r ⟨rfl,B⟩;have v:=aJ.y (wB:=a) (mb:=b) (g:=g) B;obtain⟨t,S⟩:=M.u r g v;obtain⟨y0,y1,y2,y3,yz,yl⟩:=eU t<|I.refl No _;obtain⟨n1,n2,n3⟩:=H.u;have N:=O ((P.u.y B).je t S W W);have F:=O<|D.u.trans v;go_wp2;refine ä (by simp[â,Õ,go_sem,y0,y1,y2,y3,wrap32];rfl) K ?_;rw[L.u];exact⟨g,_,K,F.u.je (vQ _) _ _ _ _,(N.u _ _ _ _).more W,Gr.refl _,vN<|wr vn,K,IF _ _,K⟩
def Qp{k}(y:fJ a c d i h):CE a b d e G c (iB c 4) λl q=>rn c.N (aR c) G (k+1) (.e l) q:=by
 intro w s g z q l m ac ab hi a6;obtain⟨a5,aa,o⟩:=hi;obtain⟨l,rfl⟩:=î a5;have p:l<Q c.N:=W;rw[B7 p]at o;have a9:=y.ok.ew l p;obtain⟨R,n⟩:∃R,R=rn c.N (aR c) G (k+1) (.e l) q s:=⟨_,K⟩;simp only[<-n]at a6⊢;rw[mZ]at n;simp only[B7 p,o]at n;simp at n;obtain⟨fz,lt,m0,m1,m2,m3,m4⟩:=m.mc;obtain⟨gn,nc,la,lc,q0,q1,q2,q3,q4,q5,⟨x0,x1,x2,x3,x4,x5,x6,x7,x8⟩,ho⟩:=y.node m p;obtain⟨T,a8,u⟩:=iT w (γ #[U 0,.int Φ 0,ζ ⟨#[]⟩,υ none] 135)<|γ #[U c.N[l].x,U c.N[l].a,U c.N[l].b,U c.N[l].c,Y la (Q c.N[l].M) lc,ζ ⟨ν c.N[l].text⟩,U c.N[l].n,U c.N[l].ty,U c.N[l].at'] 93;have a4:=aJ.y (wB:=a) (mb:=b) (g:=g) u;have r0:=m.y u;have A:g.ow (V w.heap)=none/\b<V w.heap/\V a.heap<=V w.heap:=⟨m.new<|vQ _,m.mc.2.1,m.P.size⟩;have H:=O A;have M:Hid (∀r x,aJ a b _ g r x->_):=λr x Z=>Z.eu T A.1 W ε ε;have D:=O a4;have P:=O r0;have L:=O n;rw[o]at x0;generalize pad g.sb q=ps at*;generalize c.N[l]=nd at*;obtain⟨kd,va,vb,vc,ls,tx,vn,vt,vp⟩:=nd;simp only at*;subst o;go_in;go_wp2_with fail;refine(yE _).mono ?_;rintro a7 r ⟨rfl,B⟩;have v:=aJ.y (wB:=a) (mb:=b) (g:=g) B;obtain⟨t,S⟩:=M.u r g v;obtain⟨y0,y1,y2,y3,yz,yl⟩:=eU t<|I.refl No _;obtain⟨n1,n2,n3⟩:=H.u;have N:=O ((P.u.y B).je t S W W);have F:=O<|D.u.trans v;go_wp2;refine ä (by simp[â,Õ,go_sem,y0,y1,y2,y3];rfl) K ?_;rw[L.u];exact⟨g,_,K,F.u.je (vQ _) _ _ _ _,(N.u _ _ _ _).more W,Gr.refl _,vO,K,BQ _,K⟩
def Qi{k}(B:fJ a c d i h):CE a b d e G c (iB c 3) λl q=>rn c.N (aR c) G (k+1) (.e l) q:=by
 intro w s g z q l m ad ac hi a7;obtain⟨a6,ab,o⟩:=hi;obtain⟨l,rfl⟩:=î a6;have p:l<Q c.N:=W;rw[B7 p]at o;have aa:=B.ok.ew l p;obtain⟨R,n⟩:∃R,R=rn c.N (aR c) G (k+1) (.e l) q s:=⟨_,K⟩;simp only[<-n]at a7⊢;rw[mZ]at n;simp only[B7 p,o]at n;simp at n;obtain⟨fz,lt,m0,m1,m2,m3,m4⟩:=m.mc;obtain⟨gn,nc,la,lc,q0,q1,q2,q3,q4,q5,⟨x0,x1,x2,x3,x4,x5,x6,x7,x8⟩,ho⟩:=B.node m p;obtain⟨a4,a9,x⟩:=iT w (γ #[U 0,.int Φ 0,ζ ⟨#[]⟩,υ none] 135)<|γ #[U c.N[l].x,U c.N[l].a,U c.N[l].b,U c.N[l].c,Y la (Q c.N[l].M) lc,ζ ⟨ν c.N[l].text⟩,U c.N[l].n,U c.N[l].ty,U c.N[l].at'] 93;have a5:=aJ.y (wB:=a) (mb:=b) (g:=g) x;have r0:=m.y x;have D:g.ow (V w.heap)=none/\b<V w.heap/\V a.heap<=V w.heap:=⟨m.new<|vQ _,m.mc.2.1,m.P.size⟩;have M:=O D;have N:Hid (∀r A,aJ a b _ g r A->_):=λr A hf=>hf.eu a4 D.1 W ε ε;have H:=O a5;have S:=O r0;have u:=O n;rw[o]at x0;obtain⟨bb,t⟩:∃Z,Z=(c.N[l].n==1):=⟨_,K⟩;rw[<-t]at u;replace t:=t.symm;generalize pad g.sb q=ps at*;generalize c.N[l]=nd at*;obtain⟨kd,va,vb,vc,ls,tx,vn,vt,vp⟩:=nd;simp only at*;subst o;cases bb;all_goals
  go_in;go_wp2_with fail;refine(CM _ _).mono ?_;rintro a8 r ⟨rfl,F⟩;have y:=aJ.y (wB:=a) (mb:=b) (g:=g) F;obtain⟨v,T⟩:=N.u r g y;obtain⟨y0,y1,y2,y3,yz,yl⟩:=eU v<|I.refl No _;obtain⟨n1,n2,n3⟩:=M.u;have P:=O ((S.u.y F).je v T W W);have L:=O<|H.u.trans y;go_wp2;refine ä (by simp[â,Õ,go_sem,y0,y1,y2,y3];rfl) K ?_;rw[u.u];exact⟨g,_,K,L.u.je (vQ _) _ _ _ _,(P.u _ _ _ _).more W,Gr.refl _,vB _,K,BP _ _,K⟩
def LU{k}(y:fJ a c d i h)(N:gA a b d e G c k):CE a b d e G c (iB c 14) λl u=>rn c.N (aR c) G (k+1) (.e l) u:=by
 intro w s g z u l n ai a4 hi Z;have hz:z<=1000000000:=W;obtain⟨ad,ah,p⟩:=hi;obtain⟨l,rfl⟩:=î ad;have t:l<Q c.N:=W;rw[B7 t]at p;have T:=y.ok.ew l t;obtain⟨R,o⟩:∃R,R=rn c.N (aR c) G (k+1) (.e l) u s:=⟨_,K⟩;simp only[<-o]at Z⊢;rw[mZ]at o;simp only[B7 t,p]at o;simp at o;obtain⟨fz,lt,m0,m1,m2,m3,m4⟩:=n.mc;obtain⟨gn,nc,la,lc,q0,q1,q2,q3,q4,q5,⟨x0,x1,x2,x3,x4,x5,x6,x7,x8⟩,ho⟩:=y.node n t;obtain⟨P,ac,x⟩:=iT w (γ #[U 0,.int Φ 0,ζ ⟨#[]⟩,υ none] 135)<|γ #[U c.N[l].x,U c.N[l].a,U c.N[l].b,U c.N[l].c,Y la (Q c.N[l].M) lc,ζ ⟨ν c.N[l].text⟩,U c.N[l].n,U c.N[l].ty,U c.N[l].at'] 93;have S:=aJ.y (wB:=a) (mb:=b) (g:=g) x;have D:=n.y x;have A:g.ow (V w.heap)=none/\b<V w.heap/\V a.heap<=V w.heap:=⟨n.new<|vQ _,n.mc.2.1,n.P.size⟩;have a8:=O A;have a9:Hid (∀v m,aJ a b _ g v m->_):=λv m hf=>hf.eu P A.1 W ε ε;have B:=N.at D hz a4 (M4 (T.l6 p).1) θ;rw[<-o]at B;have ab:=O B;have H:=O S;have R0:=O D;have HR:=O o;rw[p]at x0;generalize pad g.sb u=ps at*;generalize c.N[l]=nd at*;obtain⟨kd,va,vb,vc,ls,tx,vn,vt,vp⟩:=nd;simp only at*;subst p;clear y n o Z T x ho P ac S D a4 A N B HR;go_in;go_wp2_with fail;refine ab.u.mono ?_;rintro ag v q;have hp:=(q.pre H.u<|Gr.refl _).more (show z<=z+3000 by omega);cases R with
 |stk=>exact q.elim
 |over al aj s'=>
  obtain⟨m,ae,rfl,r,F⟩:=q;exact⟨K,hp⟩
 |back a5 s'=>
  obtain⟨m,ae,rfl,r,F,M,hu⟩:=q;exact⟨K,hp⟩
 |ok af s2=>
  obtain⟨m,ak,rfl,r,F,M,a5,rfl,hu,rfl⟩:=q;obtain⟨L,a3⟩:=a9.u v m r;obtain⟨y0,y1,y2,y3,yz,yl⟩:=eU L<|I.refl No _;obtain⟨n1,n2,n3⟩:=a8.u;have aa:=O (F.je L a3 W W);have a6:=O<|H.u.trans r;have a7:=O M;have HU:=O hu;unfold bT;go_wp2;refine ä (by simp[â,Õ,go_sem,y0,y1,y2,y3];rfl) K ?_;exact⟨m,_,K,a6.u.je (vQ _) _ _ _ _,(aa.u _ _ _ _).more W,a7.u,a5,K,HU.u,K⟩
def Dn(P:Ending->E->Prop)(q:Nat)(r:Ending)(k:E):Prop:=(∃t,r=ø t/\P (ø t) k)\/∃l m p n,r=π (.agg #[U l,.int Φ m,ζ p,υ n])/\
 δ k (J q 0)=C (U 0)/\δ k (J q 1)=C (.int Φ 0)/\δ k (J q 2)=C (ζ ⟨#[]⟩)/\δ k (J q 3)=C (υ none)/\(∀o,k.frozen? (J q o)=κ)/\q<V k.heap/\
 Hid (P (π<|.agg #[U l,.int Φ m,ζ p,υ n])<|ρ (ρ (ρ (ρ k (J q 0)<|U l) (J q 1)<|.int Φ m) (J q 2)<|.string p) (J q 3)<|υ n)
def Bz{o F}{k}{l}{q}{m:X Vl}{R}{v}(N:o.heap[q]?=C (γ #[U 0,.int Φ 0,ζ ⟨#[]⟩,υ none] 135 (0,0)))(S:k.ow q=none)(T:V w.heap<=q)(A:q≠b)(M:V a.heap<=q)(hF:aJ a b w g o k)(B:Rm a o b d e G c.N l k z)(P:Gr s.c l.c)
 (x:R=(m.bd λr=>aF [r]) l) (L:uT k.tb l o (m l) v F):Dn (RP a b d e G c.N (z+3000) w g s Kv R) q v F:=by
 obtain⟨n,p⟩:=L;cases t:m l with
 |stk=>grind
 |back u' D=>grind
 |over a5 a4 D=>
  rw[t]at p;obtain⟨rfl,rfl⟩:=p;refine .inl ⟨_,K,?_⟩;rw[x,I5 t];exact⟨k,[],K,hF.trans<|aJ.y n,(B.y n).more W⟩
 |ok y D=>
  rw[t]at p;obtain⟨rfl,Z,rfl⟩:=p;obtain⟨u,H⟩:=(aJ.y (wB:=a) n).eu N S A ε ε;obtain⟨y0,y1,y2,y3,yz,yl⟩:=eU u<|I.refl No _;refine .inr ⟨_,_,_,_,K,y0,y1,y2,y3,yz,yl,?_⟩;rw[x,J0 t];exact⟨k,_,K,(hF.trans<|aJ.y n).je T _ _ _ _,((B.y n).je u H M A _ _ _ _).more W,P,y,K,Z,K⟩
def JF{n}{B}{L}{KP:E->Prop}{q F2:Nat}{args:χ->Array χ}{op:Vl->X Vl}{a4}{H}{M}{R}(hV:gA a b d e G c a4)(a5:Rm a n b d e G c.N s g z)(hz:z<=1000000000)(a9:iL s.c M)(hi:oM c H)
 (D:R=((rn c.N (aR c) G a4 (.v H) M).bd λx=>(op<|r1 x).bd λr=>aF [r]) s) (ab:R≠.stk) (S:aJ a b w B n g) (T:Gr L.c s.c) (hb:n.heap[q]?=C (γ #[U 0,.int Φ 0,ζ ⟨#[]⟩,υ none] 135 (0,0))) (ho:g.ow q=none) (hq:V w.heap<=q) (hm:q≠b) (hB:V a.heap<=q)
 (hK:∀j f,aJ a b n g j f->KP j) (a7:∀k m l u,Rm a k b d e G c.N m l z->Gr s.c m.c->aJ a b n g k l->aZ m.c u->μ η F2 (args<|bT l.tb u) k (uT l.tb m k<|op u m)):
 ∀y,I No n y->μ η 61 #[pV b,U H,υ<|pad g.sb M] y λt k=>(∃v,t=ø v/\RP a b d e G c.N (z+3000) w B L Kv R (ø v) k)\/∃ug un ut up,t=π (.agg #[U ug,.int Φ un,ζ ut,υ up])/\KP k/\
  Hid (∀p,I No k p->μ η F2 (args<|.agg #[U ug,.int Φ un,ζ ut,υ up]) p (Dn (RP a b d e G c.N (z+3000) w B L Kv R) q)):=by
 intro y hW;have o:=aJ.y (wB:=a) (mb:=b) (g:=g) hW;refine(hV.at (a5.y hW) hz a9 hi<|P8<|by rw[<-D];omega).mono ?_;rintro t k a8;obtain⟨v,rfl,hh⟩|⟨aa,m,l,ac,rfl,e1,-,N,r2,P,u,rfl,hu,rfl⟩:=RP.cut (λx=>(op<|r1 x).bd λr=>aF [r]) a8
 .exact .inl ⟨v,K,by rw[D];exact(hh.pre (S.trans o) T).more W⟩
 .refine .inr ⟨u.g,u.n,⟨ν u.t⟩,pad l.tb u.h,K,hK _ _<|o.trans N,λp F=>?_⟩;have A:=N.trans<|aJ.y F;obtain⟨a2,a3⟩:=(o.trans A).eu hb ho hm ε ε;refine(a7 p m l u (r2.y F) P (o.trans A) hu).mono ?_;rintro t ad a6;have Z:=D;rw[e1]at Z;exact Bz a2 a3 hq hm hB (S.trans<|o.trans A) (r2.y F) (T.trans P) Z a6
def AU{k}(x:fJ a c d i h)(T:gA a b d e G c k):CE a b d e G c (iB c 13) λl y=>rn c.N (aR c) G (k+1) (.e l) y:=by
 intro w s g z y l o ag a2 hi H;have hz:z<=1000000000:=W;obtain⟨a9,ae,r⟩:=hi;obtain⟨l,rfl⟩:=î a9;have t:l<Q c.N:=W;rw[B7 t]at r;have Z:=x.ok.ew l t;obtain⟨R,p⟩:∃R,R=rn c.N (aR c) G (k+1) (.e l) y s:=⟨_,K⟩;simp only[<-p]at H⊢;rw[mZ]at p;simp only[B7 t,r]at p;simp only[È,if_false,if_true]at p;obtain⟨fz,lt,m0,m1,m2,m3,m4⟩:=o.mc;obtain⟨gn,nc,L,M,q0,q1,q2,q3,q4,q5,⟨x0,x1,x2,x3,x4,x5,x6,x7,x8⟩,ho⟩:=x.node o t;obtain⟨B,a8,A⟩:=iT w (γ #[U 0,.int Φ 0,ζ ⟨#[]⟩,υ none] 135)<|γ #[U c.N[l].x,U c.N[l].a,U c.N[l].b,U c.N[l].c,Y L (Q c.N[l].M) M,ζ ⟨ν c.N[l].text⟩,U c.N[l].n,U c.N[l].ty,U c.N[l].at'] 93;have D:=aJ.y (wB:=a) (mb:=b) (g:=g) A;have N:=o.y A;have v:g.ow (V w.heap)=none/\b<V w.heap/\V a.heap<=V w.heap:=⟨o.new<|vQ _,o.mc.2.1,o.P.size⟩;have a5:=O v;have a6:Hid (∀m n,aJ a b _ g m n->_):=λm n (q:aJ a b (σ (w.alloc<|γ #[U 0,.int Φ 0,ζ ⟨#[]⟩,υ none] 135)<|γ #[U c.N[l].x,U c.N[l].a,U c.N[l].b,U c.N[l].c,Y L (Q c.N[l].M) M,ζ ⟨ν c.N[l].text⟩,U c.N[l].n,U c.N[l].ty,U c.N[l].at'] 93) g m n)=>q.eu B v.1 W ε ε;have af:=x.ok.tx c.N[l]<|mQ t;have P:Hid (∀m n,aJ a b _ g m n->_):=λm n q=>qK (w:=σ w<|γ #[U 0,.int Φ 0,ζ ⟨#[]⟩,υ none] 135) (w':=m) (g':=n) (kd:=c.N[l].x) (va:=c.N[l].a) (vb:=c.N[l].b) (vc:=c.N[l].c) (lv:=Y L (Q c.N[l].M) M) (tx:=⟨ν c.N[l].text⟩) (vn:=c.N[l].n) (vt:=c.N[l].ty) (vp:=c.N[l].at') (o.y<|I.alloc _ _ _) q;have a3:=JF (KP:=λm=>δ m (J (V w.heap+1) 5)=C (ζ ⟨ν c.N[l].text⟩)/\V w.heap+1<V m.heap) (F2:=155) (args:=λab=>#[U (l:Int),ζ ⟨ν c.N[l].text⟩,ab]) (op:=λu=>kP (l:Int) c.N[l].text u) T N hz a2 (M4<|Z.k1 W) p H D (Gr.refl _) B v.1 (vQ _) W v.2.2
  (λj f q=>by
   obtain⟨-,-,-,-,-,z5,-,-,-,zl⟩:=P.u j f q;simp_all) λm s2 n u r2 ac _ hu=>B6f n.tb s2 (l:Int) c.N[l].text u m;have S:=O a3;have a4:=O D;have R0:=O N;have HR:=O p;have ad:(l:Int)<(Q c.N:Int):=W;rw[r]at x0;rw[r]at S;generalize pad g.sb y=ps at*;generalize c.N[l]=nd at*;obtain⟨kd,va,vb,vc,ls,tx,vn,vt,vp⟩:=nd;simp only at*;subst r;clear x o p H Z A ho B a8 D N a2 v T a3 P a6 a5 R0 a4 HR;go_in;go_wp2_with fail;go_region_with (first|(go_at_call 61;refine(S.u _<|I.drewN No _ 1).mono ?_;rintro a7 m (⟨aa,rfl,F⟩|⟨ug,un,ut,up,rfl,⟨t1,t2⟩,T6⟩);exact⟨K,F⟩)|(go_at_call 155;refine(T6.u _<|I.refl _ _).mono ?_;rintro a7 ak (⟨aa,rfl,F⟩|⟨vg,ah,aj,ai,rfl,y0,y1,y2,y3,yz,yl,E4⟩);exact⟨K,F⟩));all_goals go_wp2_with fail
 all_goals refine ä (by simp[â,Õ,go_sem,y0,y1,y2,y3];rfl) K ?_
 all_goals exact E4.u
def AX{k}(v:fJ a c d i h)(S:gA a b d e G c k):CE a b d e G c (iB c 8) λl x=>rn c.N (aR c) G (k+1) (.e l) x:=by
 intro w s g z x l o ag Z hi F;have hz:z<=1000000000:=W;obtain⟨a9,ae,r⟩:=hi;obtain⟨l,rfl⟩:=î a9;have t:l<Q c.N:=W;rw[B7 t]at r;have T:=v.ok.ew l t;obtain⟨R,p⟩:∃R,R=rn c.N (aR c) G (k+1) (.e l) x s:=⟨_,K⟩;simp only[<-p]at F⊢;rw[mZ]at p;simp only[B7 t,r]at p;simp only[È,if_false,if_true]at p;obtain⟨fz,lt,m0,m1,m2,m3,m4⟩:=o.mc;obtain⟨gn,nc,H,L,q0,q1,q2,q3,q4,q5,⟨x0,x1,x2,x3,x4,x5,x6,x7,x8⟩,ho⟩:=v.node o t;obtain⟨A,a8,y⟩:=iT w (γ #[U 0,.int Φ 0,ζ ⟨#[]⟩,υ none] 135)<|γ #[U c.N[l].x,U c.N[l].a,U c.N[l].b,U c.N[l].c,Y H (Q c.N[l].M) L,ζ ⟨ν c.N[l].text⟩,U c.N[l].n,U c.N[l].ty,U c.N[l].at'] 93;have B:=aJ.y (wB:=a) (mb:=b) (g:=g) y;have M:=o.y y;have u:g.ow (V w.heap)=none/\b<V w.heap/\V a.heap<=V w.heap:=⟨o.new<|vQ _,o.mc.2.1,o.P.size⟩;have a5:=O u;have a6:Hid (∀m n,aJ a b _ g m n->_):=λm n (q:aJ a b (σ (w.alloc<|γ #[U 0,.int Φ 0,ζ ⟨#[]⟩,υ none] 135)<|γ #[U c.N[l].x,U c.N[l].a,U c.N[l].b,U c.N[l].c,Y H (Q c.N[l].M) L,ζ ⟨ν c.N[l].text⟩,U c.N[l].n,U c.N[l].ty,U c.N[l].at'] 93) g m n)=>q.eu A u.1 W ε ε;have af:=v.ok.tx c.N[l]<|mQ t;have N:Hid (∀m n,aJ a b _ g m n->_):=λm n q=>qK (w:=σ w<|γ #[U 0,.int Φ 0,ζ ⟨#[]⟩,υ none] 135) (w':=m) (g':=n) (kd:=c.N[l].x) (va:=c.N[l].a) (vb:=c.N[l].b) (vc:=c.N[l].c) (lv:=Y H (Q c.N[l].M) L) (tx:=⟨ν c.N[l].text⟩) (vn:=c.N[l].n) (vt:=c.N[l].ty) (vp:=c.N[l].at') (o.y<|I.alloc _ _ _) q;have a2:=JF (KP:=λm=>δ m (J (V w.heap+1) 5)=C (ζ ⟨ν c.N[l].text⟩)/\V w.heap+1<V m.heap) (F2:=150) (args:=λab=>#[U (l:Int),ab,ζ ⟨ν c.N[l].text⟩]) (op:=λa3=>mB (l:Int) a3 c.N[l].text) S M hz Z (M4<|T.k1 W) p F B (Gr.refl _) A u.1 (vQ _) W u.2.2
  (λj f q=>by
   obtain⟨-,-,-,-,-,z5,-,-,-,zl⟩:=N.u j f q;simp_all) (λm s2 n a3 r2 ac _ hu=>B9f r2 (l:Int) hu c.N[l].text W);have P:=O a2;have a4:=O B;have R0:=O M;have HR:=O p;have ad:(l:Int)<(Q c.N:Int):=W;rw[r]at x0;rw[r]at P;generalize pad g.sb x=ps at*;generalize c.N[l]=nd at*;obtain⟨kd,va,vb,vc,ls,tx,vn,vt,vp⟩:=nd;simp only at*;subst r;clear v o p F T y ho A a8 B M Z u S a2 N a6 a5 R0 a4 HR;go_in;go_wp2_with fail;go_region_with (first|(go_at_call 61;refine(P.u _<|I.drewN No _ 1).mono ?_;rintro a7 m (⟨aa,rfl,D⟩|⟨ug,un,ut,up,rfl,⟨t1,t2⟩,T6⟩);exact⟨K,D⟩)|(go_at_call 150;refine(T6.u _<|I.refl _ _).mono ?_;rintro a7 ak (⟨aa,rfl,D⟩|⟨vg,ah,aj,ai,rfl,y0,y1,y2,y3,yz,yl,E4⟩);exact⟨K,D⟩));all_goals go_wp2_with fail
 all_goals refine ä (by simp[â,Õ,go_sem,y0,y1,y2,y3];rfl) K ?_
 all_goals exact E4.u
theorem Io{N}{t}:∀(k) (l) (n) (s u) (o),rn N t G k (.vs l) n s=.ok o u->Q o=Q l
 |0,_,_,_,_,_,m=>by grind[rn]
 |_+1,[],_,s,u,o,m=>by
  simp_all[rn,aF,bR,Rr.ok.injEq]
 |k+1,D::l,n,s,u,o,m=>by
  rw[rn]at m;unfold X.bd at m;cases B:rn N t G k (.v D) n s with
  |ok r p=>
   rw[B]at m;simp only at m;cases A:rn N t G k (.vs l) n p with
   |ok q y=>
    rw[A]at m;simp only[aF,bR,Rr.ok.injEq]at m;rw[<-m.1,jQ,jQ,Io k l n p y q A]
   |over x F y=>grind
   |back v y=>grind
   |stk=>grind
  |over x F p=>grind
  |back v p=>grind
  |stk=>grind
def QR{r o:E}{m:Gh}{l}{t:Th}{mq u qm q lc:Nat}{pv}{la:Option Addr}{R:Rr (List Vl)}(A:r.heap[q]?=C (γ #[U 0,.int Φ 0,ζ ⟨#[]⟩,υ none] 135 (0,0)))(ho:m.ow q=none)(hq:V w.heap<=q)(hm:q≠b)(N:V a.heap<=q)(ae:∀n,la=C n->q<n.block)(af:t.k=16->q<qm)
 (hF:aJ a b w g r m) (hr:Rm a r b d e G c.N l m z) (hg:Gr s.c l.c) (D:jP c.N {l.c with T:=l.c.T++[t]} t) (y:I No r o) (Z:V r.heap<=u) (H:o.heap[u]?=C (γ #[pv,Y la (Q t.l) lc,U t.nd,υ<|pad m.sb t.sc] 163 (0,0)))
 (hp:if t.k=16 then pv=.map (C qm)/\V a.heap<=qm/\m.ow qm=none/\qm≠e/\gH 9 o qm mq (mK t.p m.tb) else pv=.map none) (a5:ξ o (V a.heap) 135 4 (Y la (Q t.l) lc) (Q t.l)<|t.l.flatMap<|gF m.tb) (hl:∀n,la=C n->m.ow n.block=none) (hv:∀x v,t.p x=C v->aZ l.c v) (a9:∀v∈t.l,aZ l.c v) (hz:mq<=3000)
 (S:R=((eL t).bd λaa=>aF [⟨t.k,0,[],C aa⟩]) l):
 RP a b d e G c.N (z+3000) w g s Kv R (π<|.agg #[U t.k,.int Φ 0,ζ ⟨#[]⟩,pV u]) (ρ (ρ (ρ (ρ o (J q 0)<|U t.k) (J q 1)<|.int Φ 0) (J q 2)<|ζ ⟨#[]⟩) (J q 3)<|pV u):=by
 obtain⟨f,F,a7,a8,ad,ac,B⟩:=hr.ko D y Z H hp a5 hl hv a9;have a6:=(aG A);have a2:=(y.block q a6 λx=>x).trans A;have a4:=B q ho W (λM=>W) (λp=>by
  cases la with
  |none=>grind[Δ]
  |some n=>grind[Δ]);have P:aJ a b w g o f:=by
  refine⟨(hF.trans<|aJ.y y).P,λk ab hk L=>hF.ow k ab hk ?_,hF.tb.trans a8,a7 ▸ hF.sb⟩;cases p:m.ow k with
  |some F=>grind
  |none=>
   refine absurd L ?_;rw[B k p W (λM=>W) λp=>?_]
   .simp
   cases la with
   |none=>grind[Δ]
   |some n=>grind[Δ]
 have a3:eL t l=.ok (Q l.c.T) {l with c:={l.c with T:=l.c.T++[t]}}:=K;rw[S,J0 a3];refine⟨f,_,K,P.je hq _ _ _ _,(F.je a2 a4 N hm _ _ _ _).more W,hg.trans<|W8 t,_,K,⟨ι,ι,by simp only;obtain p|p|p:=D.k<;>omega,t,ι,K⟩,?_⟩;grind[bT]
def LR{ab}(M:fJ a c d i h):CE a b d e G c (iB c 6) λk n=>rn c.N (aR c) G (ab+1) (.e k) n:=by
 intro w s g z n k m ai a9 hi a8;obtain⟨af,ah,q⟩:=hi;obtain⟨k,rfl⟩:=î af;have v:k<Q c.N:=W;rw[B7 v]at q;have ae:=M.ok.ew k v;obtain⟨R,o⟩:∃R,R=rn c.N (aR c) G (ab+1) (.e k) n s:=⟨_,K⟩;simp only[<-o]at a8⊢;rw[mZ]at o;simp only[B7 v,q]at o;simp at o;obtain⟨fz,lt,m0,m1,m2,m3,m4⟩:=m.mc;obtain⟨gn,nc,la,lc,q0,q1,q2,q3,q4,q5,⟨x0,x1,x2,x3,x4,x5,x6,x7,x8⟩,ho⟩:=M.node m v;obtain⟨a4,ad,H⟩:=iT w (γ #[U 0,.int Φ 0,ζ ⟨#[]⟩,υ none] 135)<|γ #[U c.N[k].x,U c.N[k].a,U c.N[k].b,U c.N[k].c,Y la (Q c.N[k].M) lc,ζ ⟨ν c.N[k].text⟩,U c.N[k].n,U c.N[k].ty,U c.N[k].at'] 93;have a5:=aJ.y (wB:=a) (mb:=b) (g:=g) H;have S:=m.y H;have P:g.ow (V w.heap)=none/\b<V w.heap/\V a.heap<=V w.heap:=⟨m.new<|vQ _,m.mc.2.1,m.P.size⟩;have T:=O P;have B:Hid (∀p g2,aJ a b _ g p g2->_):=λp g2 hf=>hf.eu a4 P.1 W ε ε;have a7:=IQ S k;have y:=O a7;have aa:∀F:Co,Gr s.c F->jP c.N F ⟨64,λ_=>none,[],k,n⟩:=λF hg=>⟨.inr<|.inr K,(λ_ _ l=>θ),(λ_ l=>θ),a9.gr hg,ι,λ_=>⟨W,W,by grind[B7]⟩⟩;have Z:=O aa;have r:=O a5;have R0:=O S;have A:=O o;rw[q]at x0;rw[q]at y B r;generalize c.N[k]=nd at*;obtain⟨kd,va,vb,vc,ls,tx,vn,vt,vp⟩:=nd;simp only at*;subst q;clear M m o a8 ae H ho a4 ad a5 S a9 P a7 aa;go_in;go_wp2_with fail;refine y.u.mono ?_;rintro l p ⟨t,⟨h1,u,rfl,x⟩|⟨h1,u,rfl,x⟩⟩
 .exact⟨K,by rw[A.u,I5 u];exact⟨g,[],K,r.u.trans t,x.more W⟩⟩
 have L:=A.u;rw[J0 u]at L;obtain⟨D,a3⟩:=B.u p g t;obtain⟨n1,n2,n3⟩:=T.u;obtain⟨y0,y1,y2,y3,yz,yl⟩:=eU D<|I.alloc No p<|γ #[.map none,sN,U k,υ<|pad g.sb n] 163;have N:Gr s.c (cS s s.c.ca<|s.c.th+1).c:=⟨λ_ ag ht=>⟨ag,ht,K⟩,vQ _⟩;have a6:=QR (qm:=0) (lc:=0) D a3 (vQ _) W n3 (λ_ l=>θ) (λl=>absurd (show (64:Int)=16 from l) ε) (r.u.trans t) x N (Z.u _<|N.trans<|W8 _) (I.alloc No p<|γ #[.map none,sN,U (k:Int),υ<|pad g.sb n] 163) (vQ _) (rY _ _) Θ (kW _ _ _ _) (λ_ l=>θ) (λ_ _ l=>θ) (λ_ l=>θ) (wQ _) L;have ac:=O a6;generalize pad g.sb n=ps at*;clear D a3 n1 n2 n3 t x L N a6 y Z B T R0 r A u;go_wp2;refine ä (by simp[â,Õ,go_sem,y0,y1,y2,y3];rfl) K ?_;exact ac.u
def AY{a8}(v:fJ a c d i h)(av:∀k',k'<a8->gA a b d e G c k'):CE a b d e G c (iB c 11) λk M=>rn c.N (aR c) G (a8+1) (.e k) M:=by
 intro w s g z M k m b4 ap hi ao;have hz:z<=1000000000:=W;obtain⟨az,b2,o⟩:=hi;obtain⟨k,rfl⟩:=î az;have p:k<Q c.N:=W;rw[B7 p]at o;have an:=v.ok.ew k p;obtain⟨ag,n⟩:∃ag,ag=rn c.N (aR c) G (a8+1) (.e k) M s:=⟨_,K⟩;simp only[<-n]at ao⊢;rw[mZ]at n;simp only[B7 p,o]at n;simp at n;obtain⟨fz,lt,m0,m1,m2,m3,m4⟩:=m.mc;obtain⟨gn,nc,la,lc,q0,q1,q2,q3,q4,q5,⟨x0,x1,x2,x3,x4,x5,x6,x7,x8⟩,ho⟩:=v.node m p;obtain⟨ak,ax,ca⟩:=iT w (γ #[U 0,.int Φ 0,ζ ⟨#[]⟩,υ none] 135)<|γ #[U c.N[k].x,U c.N[k].a,U c.N[k].b,U c.N[k].c,Y la (Q c.N[k].M) lc,ζ ⟨ν c.N[k].text⟩,U c.N[k].n,U c.N[k].ty,U c.N[k].at'] 93;have al:=aJ.y (wB:=a) (mb:=b) (g:=g) ca;have r0:=m.y ca;have a6:g.ow (V w.heap)=none/\b<V w.heap/\V a.heap<=V w.heap:=⟨m.new<|vQ _,m.mc.2.1,m.P.size⟩;have ae:=O a6;have R:Hid (∀aa u,aJ a b _ g aa u->_):=λaa u hf=>hf.eu ak a6.1 W ε ε;have aq:=XE av r0 hz ap ho (λx hx=>M4<|an.ny o x hx) (by have:=v.ok.ls k p;omega) (P8<|by rw[<-n];omega);have S:=O aq;have b3:=v.ok.ls k p;have af:Hid (V w.heap+2=V (σ (σ w<|γ #[U 0,.int Φ 0,ζ ⟨#[]⟩,υ none] 135)<|γ #[U c.N[k].x,U c.N[k].a,U c.N[k].b,U c.N[k].c,Y la (Q c.N[k].M) lc,ζ ⟨ν c.N[k].text⟩,U c.N[k].n,U c.N[k].ty,U c.N[k].at'] 93).heap):=by show _=_;simp
 have r:=O al;have R0:=O r0;have N:=O n;rw[o]at x0;rw[o]at S R r af;generalize pad g.sb M=ps at*;generalize c.N[k]=nd at*;obtain⟨kd,va,vb,vc,ls,tx,vn,vt,vp⟩:=nd;simp only at*;subst o;clear v m n ao an ca ho ak ax al r0 ap a6 aq;go_in;go_wp2_with fail;refine S.u.mono ?_;rintro l aa hq;obtain⟨b6,rfl,hh⟩|⟨ah,L,u,b7,rfl,e1,e0,ai,r2,aj,q,a7⟩:=RP.cut (K':=Kv) (λvs=>(bX (k:Int)).bd λ_=>(eL ⟨32,λ_=>none,vs,0,none⟩).bd λb0=>aF [⟨32,0,[],C b0⟩]) hq
 .exact⟨K,by rw[N.u];exact(hh.pre r.u<|Gr.refl _).more W⟩
 have ab:=O<|Io _ _ _ _ _ _ e0;have a4:=N.u;rw[e1]at a4;obtain⟨Z,cp,rfl⟩:=B8 a7.1;have ac:=O<|IQ r2 (k:Int);have R2:=O r2;have y:=O ai;have G2:=O aj;have P:=O a4;have A:=O q;have HL:=O a7;clear hq e1 e0 ai r2 aj a4 S q a7 N;go_wp2_with fail;refine ac.u.mono ?_;rintro l ar ⟨t,⟨h1,D,rfl,H⟩|⟨h1,D,rfl,H⟩⟩
 .exact⟨K,by rw[P.u,I5 D];exact⟨u,[],K,r.u.trans<|y.u.trans t,H.more W⟩⟩
 have a5:=P.u;rw[J0 D]at a5;obtain⟨T,a3⟩:=R.u ar u<|y.u.trans t;obtain⟨n1,n2,n3⟩:=ae.u;obtain⟨l1,l2⟩:=HL.u.eu R2.u t A.u;have F:Gr L.c (cS L L.c.ca<|L.c.th+1).c:=⟨λ_ b1 ht=>⟨b1,ht,K⟩,vQ _⟩;have B:=I.alloc No ar<|γ #[.map none,Y Z (Q ah) cp,U 0,υ none] 163;obtain⟨y0,y1,y2,y3,yz,yl⟩:=eU T B;have ay:∀x,Z=C x->V w.heap+2<=x.block:=λx l=>by
  subst l;have:=(A9 l1 x.block K).1;simp_all
 have aw:=ab.u;have am:=QR (t:=⟨32,λ_=>none,ah,0,none⟩) (mq:=0) (qm:=0) (pv:=.map none) (la:=Z) (lc:=cp) T a3 (vQ _) W n3 (λx l=>θ) (λl=>absurd (show (32:Int)=16 from l) ε) (r.u.trans<|y.u.trans t) H (G2.u.trans F)
  ⟨.inr<|.inl K,(λ_ _ l=>θ),λa9 q=>(A.u a9 q).gr<|F.trans<|W8 _,(λ_ l=>θ),θ,(λl=>absurd (show (32:Int)=64 from l) ε)⟩ B (vQ _) (rY _ _) Θ (C7 (A3 l1 B λ_ _ x=>x)<|by have b5:=af.u;omega) (λx l=>l2 x.block<|by subst l;rfl) (λ_ _ l=>θ) (λa9 q=>(A.u a9 q).gr F) (wQ _) a5;have au:=O am;clear aw ab T a3 n1 n2 n3 t H a5 F am ac R ae R0 r D l1 l2 B ay R2 y G2 P A HL;go_wp2;refine ä (by simp[â,Õ,go_sem,y0,y1,y2,y3];rfl) K ?_;exact au.u
def Kj(k:Nat)(l:Ms)(f:Gh)(_:E)(v:χ):Prop:=k<Q l.c.S/\v=υ (pad f.sb<|C k)
theorem C0d{k:Type}(l:List k)(n):(l.drop n).tail=l.drop (n+1):=ι
theorem ji{m:Type}(l:List m)(n)(k):(l.drop n).headD k=l[n]?.getD k:=ι
theorem MB{n o q}(m:X n)(k)(l:o->X q):(m.bd k).bd l=m.bd λp=>(k p).bd l:=by
 funext s;grind[X.bd]
theorem zq(p)(l:uZ)(m:List Vl)(k)(s):((iG G (p::l) m k).bd λ_=>aF k) s=((dJ G p<|m.headD vO).bd λv=>(eY k p v).bd λ_=>(iG G l m.tail k).bd λ_=>aF k) s:=by
 simp_all[iG,MB]
def D6d(hS:fJ a c d i h)(am:Rm a w b d e G c.N s g z)(hz:z+4000<=1000000000){sc:Option Nat}(bb:iL s.c sc){k}{la:Option Addr}{lc}(hl:ξ a 0 3 1 (Y la (Q k) lc) (Q k)<|C8 k)(b7:∀bd∈k,0<=bd/\bd<Q c.N)(hn:Q k<=1200){l:List Vl}{ab}{ad:Option Addr}{ac}(az:∀u∈l,aZ s.c u)(ba:gU w g ab (Y ad (Q l) ac) l){R:Rr Nat}
 (hR:R=((fM sc).bd λo=>(iG G k l o).bd λ_=>aF o) s):
 μ η 221 #[pV b,Y la (Q k) lc,Y ad (Q l) ac,υ<|pad g.sb sc] w (RP a b d e G c.N (z+2400) w g s Kj R):=by
 have aw:=O<|Je am bb;have HL:=O hl;have bj:=O b7;have HR:=O hR;have HH:=O am;have ae:=O az;have ax:=O ba;have c7:=hS.ok.fp;have a4:=O yE;clear am hl b7 hR az ba bb hS;generalize pad g.sb sc=cb at*;go_in;go_wp2_with fail;refine aw.u.mono ?_;rintro r ar hq;obtain⟨P,rfl,hh⟩|⟨o,s1,m,cc,rfl,e1,-,ak,bh,al,hj,rfl⟩:=RP.cut (K':=Kj) (λo=>(iG G k l o).bd λ_=>aF o) hq
 .have:RP a b d e G c.N (z+2400) w g s Kj R (ø P) ar:=by rw[HR.u];exact hh.more W
  exact⟨K,this⟩
 have an:=HR.u;rw[e1]at an;obtain⟨L,hb⟩:∃L,pad m.sb (C o)=C (J L 0):=⟨_,K⟩;have af:=O hb;have bo:=O<|ax.u.eu HH.u ak ae.u;have bi:Hid (∀u∈l,aZ s1.c u):=λu x=>(ae.u u x).gr al;have bn:=O an;have R1:=O bh;have F1:=O ak;have G1:=O al;have HJ:=O hj;rw[hb];clear hq e1 an ak bh al hj hb aw HR ax ae;go_wp2_with fail;go_loopw [17] (λaq wr=>∃(n:Nat) (F:Ms),n<=Q k/\aq=U (n:Int)/\Hid (R=((iG G (k.drop n) (l.drop n) o).bd λ_=>aF o) F)/\Hid (Rm a wr b d e G c.N F m<|z+2*n)/\Hid (aJ a b ar m wr m)/\Hid (Gr s1.c F.c)/\Hid (gU wr m ab (Y ad (Q l) ac) l)) (λaq _=>Q k-(intOf aq).toNat);case atStart=>exact⟨0,s1,wQ _,K,bn,R1,aJ.y<|I.refl _ _,Gr.refl _,bo⟩
 case round=>
  obtain⟨n,F,c9,rfl,a5,q,H,t,T⟩:=hrel;by_cases b8:n<Q k
  .have hx:=bj.u k[n]<|mQ b8;have ap:0<=k[n]/\k[n]<=1000000:=W;have a3:=a5.u;rw[List.drop_eq_getElem_cons b8,zq,C0d,ji]at a3;have b4:=A3 HL.u q.u.P λ_ _ aa=>aa;obtain⟨gl,bt,-,c5,bz,bp,b3⟩:=D5 b4 W;subst bt;have v0:=b3 n (U k[n]) (by grind[C8]);have ao:=yQ HJ.u t.u.S;have b0:=λu x=>(bi.u u x).gr t.u;obtain⟨b',a9,bg,a8,p3,-,-,D,-,-⟩:=q.u.scope<|gQ ao;rw[af.u]at bg;cases bg;obtain⟨u,x⟩:∃u,u=l[n]?.getD vO:=⟨_,K⟩;rw[<-x]at a3;have bv:aZ F.c u:=by
    rw[x];cases r:l[n]? with
    |none=>grind[BQ]
    |some y=>grind
   have bc:∀ύ,I No wr ύ->μ η 104 #[pV b,U k[n],.agg #[U u.g,.int Φ u.n,ζ ⟨ν u.t⟩,υ<|pad m.tb u.h]] ύ λr A=>(∃P,r=ø P/\RP a b d e G c.N (z+2400) w g s Kj R (ø P) A)\/∃B,r=π (.agg #[U u.g,.int Φ u.n,ζ ⟨ν u.t⟩,υ<|pad m.tb u.h])/\A.cell? (J L 0)=C (.map<|C a9)/\L<V A.heap/\(Instr.mapUpdate 130 (.map<|C a9) (U k[n])<|.agg #[U u.g,.int Φ u.n,ζ ⟨ν u.t⟩,υ<|pad m.tb u.h]).run η A=.ok () B/\
    Hid (∃S,R=((iG G (k.drop<|n+1) (l.drop<|n+1) o).bd λ_=>aF o) S/\Rm a B b d e G c.N S m (z+2*(n+1))/\aJ a b ar m B m/\Gr s1.c S.c/\gU B m ab (Y ad (Q l) ac) l):=by
    intro ύ hW;have a7:=aJ.y (wB:=a) (mb:=b) (g:=m) hW;refine(Gp (q.u.y hW) W k[n] ap u).mono ?_;rintro r A ⟨a6,v⟩;cases M:dJ G k[n] u F with
    |stk=>rw[M]at v;exact v.elim
    |back u s1=>rw[M]at v;exact v.elim
    |over y k' s3=>
     rw[M]at v;obtain⟨rfl,rfl,h4⟩:=v;refine .inl ⟨_,K,?_⟩;rw[a3,I5 M];exact⟨m,[],K,F1.u.trans<|H.u.trans<|a7.trans a6,h4.more W⟩
    |ok y s3=>
     rw[M]at v;obtain⟨rfl,b1,-,rfl,h4⟩:=v;have bs:o<Q s3.c.S:=by rw[b1];exact ao
     obtain⟨b',r',t1,t2,t3,B,t4,t5,t6⟩:=h4.ke (gQ bs) ap (v:=y) θ W;rw[af.u]at t1;cases t1;have b2:A.cell? (J L 0)=C (.map<|C a9):=by
      have:=(a7.trans a6).r6 q.u p3;unfold δ at D⊢;simp only at D⊢;rw[this];exact D
     have hr:r'=a9:=by
      rw[b2]at t3;simpa using t3.symm
     subst hr;refine .inr ⟨B,K,b2,t2,t4,pS s3 o k[n] y,?_,W,H.u.trans<|(a7.trans a6).trans t6,?_,T.u.eu q.u ((a7.trans a6).trans t6) b0⟩
     .rw[a3,J0 M,J0<|show eY o k[n] y s3=.ok () (pS s3 o k[n] y) from K]
     .have:=t.u;rw[<-b1]at this;exact this.trans<|vF o _
   have ag:=O bc;have ay:=O x;unfold maxLen at bp;have c8:(n:Int)<(Q k:Int):=W;clear b3 b4 hx ap a3 a5 bc ao b0 bv x p3;generalize k[n]=aa at*;by_cases b9:n<Q l
   .have bu:(n:Int)<(Q l:Int):=W;go_wp2_with fail;refine(a4.u _).mono ?_;rintro r au ⟨rfl,p⟩;have b6:=A3 T.u.1 p λ_ _ aa=>aa;obtain⟨gh,br,-,c6,c4,bq,a2⟩:=D5 b6 W;subst br;obtain⟨ah,ai,aj,c3⟩:=MZ (tb:=m.tb)<|gQ b9;have N:=ay.u;rw[gQ b9,Option.getD_some]at N;rw[<-N]at ah ai aj c3;have d0:=a2 _ _ ah;have d1:=a2 _ _ ai;have d2:=a2 _ _ aj;have d3:=a2 _ _ c3;have bx:=A4 p D;have bw:=yQ a8 p.size;have CA:=O<|B6 p<|I.alloc No au<|γ #[U u.g,.int Φ u.n,ζ ⟨ν u.t⟩,υ<|pad m.tb u.h] 135;unfold maxLen at bq;clear b6 a2 ah ai aj c3 N p D a8 a4 T q H t;go_wp2_with fail;go_region_with (go_at_call 104;refine(ag.u _<|B6 CA.u<|I.drewN No _ 1).mono ?_;rintro r A (⟨P,rfl,hh⟩|⟨B,rfl,e1,e2,e3,E4⟩);exact⟨K,hh⟩);all_goals go_wp2_with fail
    all_goals
     obtain⟨S,be,p,bf,k4,k5⟩:=E4.u;exact⟨⟨n+1,S,W,ç,be,p,bf,k4,k5⟩,by grind[intOf]⟩
   .have bu:¬(n:Int)<(Q l:Int):=W;go_wp2_with fail;refine(a4.u _).mono ?_;rintro r au ⟨rfl,p⟩;have N:=ay.u;rw[List.getElem?_eq_none W,Option.getD_none]at N;have bx:=A4 p D;have bw:=yQ a8 p.size;have CA:=O<|B6 p<|I.alloc No au<|γ #[U 8,.int Φ 0,ζ ⟨#[]⟩,υ none] 135;subst N;clear p D a8 a4 T q H t;simp only[vO,pad,Option.map_none]at ag;go_wp2_with fail;go_region_with (go_at_call 104;refine(ag.u _<|B6 CA.u<|I.drewN No _ 1).mono ?_;rintro r A (⟨P,rfl,hh⟩|⟨B,rfl,e1,e2,e3,E4⟩);exact⟨K,hh⟩);all_goals go_wp2_with fail
    all_goals
     obtain⟨S,be,p,bf,k4,k5⟩:=E4.u;grind[intOf]
  .have b5:n=Q k:=W;have Z:=a5.u;rw[b5,List.drop_length]at Z;replace Z:R=.ok o F:=Z;have bm:Hid (RP a b d e G c.N (z+2400) w g s Kj R (π<|pV L) wr):=by
    show RP _ _ _ _ _ _ _ _ _ _ _ _ _ _;rw[Z];exact⟨m,_,K,F1.u.trans H.u,q.u.more W,G1.u.trans t.u,yQ HJ.u t.u.S,by rw[af.u]⟩
   have ca:¬(n:Int)<(Q k:Int):=W;clear Z b5 a5 q H t T;go_wp2;go_ret;exact bm.u
end
def Zx(q)(f g)(i)(h)(a b c d)(j)(w:E)(l:δ w (J q 0)=C a)(t:δ w (J q 1)=C b)(u:δ w (J q 2)=C c)(x:δ w (J q 3)=C d)(A:∀o,w.frozen? (J q o)=κ):
 CallsD η 220 #[pV q] (.panicking<|{v:=.iface 141<|.agg #[U f,.int Φ g,ζ i,υ h],recovered:=κ}::j) w λe n p=>
  e=rT/\n=.panicking ({v:=.iface 141<|.agg #[U f,.int Φ g,ζ i,υ h],recovered:=τ}::j)/\p=σ (ρ (ρ (ρ (ρ w (J q 0)<|U f) (J q 1)<|.int Φ g) (J q 2)<|.string i) (J q 3)<|υ h) (γ #[U f,.int Φ g,ζ i,υ h] 141):=by
 refine callsD_of_wpS func220 K λs r m=>?_;apply wpS_seq;apply wpS_region;simp[wpOpsS,go_sem,recoverD,m,ntmps220,Exit.thenS];refine wpS_of_wp ?_;have z:∀w:E,(Instr.typeAssert (.iface 141<|.agg #[U f,.int Φ g,ζ i,υ h]) 20 141 τ).run η w=.ok (.tuple #[.agg #[U f,.int Φ g,ζ i,υ h],.bool τ]) w:=λ_=>Ψ;have k:(#[pV q]++((Array.replicate 15 Ξ).setIfInBounds 3<|.iface 141<|.agg #[U f,.int Φ g,ζ i,υ h]).setIfInBounds 0 (.iface 141<|.agg #[U f,.int Φ g,ζ i,υ h]):Array χ)=#[pV q,.iface 141<|.agg #[U f,.int Φ g,ζ i,υ h],Ξ,Ξ,.iface 141<|.agg #[U f,.int Φ g,ζ i,υ h],Ξ,Ξ,Ξ,Ξ,Ξ,Ξ,Ξ,Ξ,Ξ,Ξ,Ξ]:=K;rw[k];have y:=World.block_lt_of_cell? w _ l;go_wp2;exact⟨K,_,K,_,by simp[â,results220],K,K,K⟩
def Zy(q)(w:E):
 CallsD η 220 #[pV q] .returning w λe d f=>
  e=rT/\d=.returning/\I No w f:=by
 refine callsD_of_wpS func220 K λb g a=>?_;apply wpS_seq;apply wpS_region;simp[wpOpsS,go_sem,recoverD,a,ntmps220,Exit.thenS];refine wpS_of_wp ?_;have h:∀w:E,(Instr.typeAssert Î 20 141 τ).run η w=.ok (.tuple #[.agg #[U 0,.int Φ 0,ζ ⟨#[]⟩,υ none],.bool κ]) w:=λ_=>Ψ;have c:(#[pV q]++((Array.replicate 15 Ξ).setIfInBounds 3 Î).setIfInBounds 0 Î:Array χ)=#[pV q,Î,Ξ,Ξ,Î,Ξ,Ξ,Ξ,Ξ,Ξ,Ξ,Ξ,Ξ,Ξ,Ξ,Ξ]:=K;rw[c];go_wp2;cases b;simp only at a;subst a;exact⟨K,_,K,_,by simp[â,results220],K,K,I.alloc _ _ _⟩
def ij(q)(a i)(b)(w:E):
 CallsD η 220 #[pV q] (.panicking<|{v:=.iface 43<|.agg #[U a,U i],recovered:=κ}::b) w λe f g=>
  e=ø [{v:=.iface 43<|.agg #[U a,U i],recovered:=κ}]/\f=.panicking ({v:=.iface 43<|.agg #[U a,U i],recovered:=τ}::b)/\I No w g:=by
 refine callsD_of_wpS func220 K λj h d=>?_;apply wpS_seq;apply wpS_region;simp[wpOpsS,go_sem,recoverD,d,ntmps220,Exit.thenS];refine wpS_of_wp ?_;have k:∀w:E,(Instr.typeAssert (.iface 43<|.agg #[U a,U i]) 20 141 τ).run η w=.ok (.tuple #[.agg #[U 0,.int Φ 0,ζ ⟨#[]⟩,υ none],.bool κ]) w:=λ_=>Ψ;have c:(#[pV q]++((Array.replicate 15 Ξ).setIfInBounds 3<|.iface 43<|.agg #[U a,U i]).setIfInBounds 0 (.iface 43<|.agg #[U a,U i]):Array χ)=#[pV q,.iface 43<|.agg #[U a,U i],Ξ,Ξ,.iface 43<|.agg #[U a,U i],Ξ,Ξ,Ξ,Ξ,Ξ,Ξ,Ξ,Ξ,Ξ,Ξ,Ξ]:=K;rw[c];go_wp2;exact⟨K,_,K,K,K,I.alloc _ _ _⟩
section
variable{b w e:E}{a pb f gq z:Nat}{h:χ}{G:Int->Option Int}{c:Cx}{s:Ms}{g d:Gh}
theorem Xe{j l}(i)(k:j->X l):(aF i).bd k=k i:=rfl
def Ui{p w2}{q}{tmps}{m:X (List Vl)}{R}{ps}(h6:tmps[6]?=C (pV q))(hb:p.heap[q]?=C (γ #[U 0,.int Φ 0,ζ ⟨#[]⟩,υ none] 135 (0,0)))(ho:g.ow q=none)(hq:V w.heap<=q)(B:q≠a)(hB:V b.heap<=q)(y:aJ b a w g p g)(l:R=m.cat s)
 (j:RP b a pb gq G c.N z p g s Kn (m s) (ø ps) w2):Leaves η Tryz.f193 tmps (RP b a pb gq G c.N z w g s Kv R) [{target:=.fn (.func 220) #[pV q],args:=#[]}] (.panicking ps) w2:=by
 unfold X.cat at l;cases n:m s with
 |stk=>rw[n]at j;exact j.elim
 |ok a6 F=>
  rw[n]at j;obtain⟨d,v,k,_⟩:=j;grind
 |over x i F=>
  rw[n]at j l;obtain⟨d,D,k,o,r⟩:=j;unfold ov at k;simp at k;subst k;refine Ú (f:=220) (args:=#[pV q]) ι (by simp[go_sem]) ?_;refine(ij q x i _ w2).mono ?_;rintro S u' a5 ⟨rfl,rfl,A⟩;simp;rw[l];exact⟨d,{v:=.iface 43<|.agg #[U x,U i],recovered:=τ}::D,K,y.trans<|o.trans<|aJ.y A,r.y A⟩
 |back u F=>
  rw[n]at j l;obtain⟨d,D,k,o,r,T,Z⟩:=j;unfold bk bT at k;simp at k;subst k;obtain⟨t,P⟩:=o.eu hb ho B ε ε;obtain⟨H,L,M,N,yz,yl⟩:=eU t<|I.refl No _;refine Ú (f:=220) (args:=#[pV q]) ι (by simp[go_sem]) ?_;refine(Zx q u.g u.n ⟨ν u.t⟩ (pad d.tb u.h) _ _ _ _ [] w2 H L M N yz).mono ?_;rintro S u' a5 ⟨rfl,rfl,rfl⟩;have a4:RP b a pb gq G c.N z w g s Kv R (π<|.agg #[U u.g,.int Φ u.n,ζ ⟨ν u.t⟩,υ<|pad d.tb u.h]) (σ (ρ (ρ (ρ (w2.setCell (J q 0)<|U u.g) (J q 1)<|.int Φ u.n) (J q 2)<|ζ ⟨ν u.t⟩) (J q 3)<|υ<|pad d.tb u.h)<|γ #[U u.g,.int Φ u.n,ζ ⟨ν u.t⟩,υ<|pad d.tb u.h] 141):=by
   rw[l];exact⟨d,_,K,((y.trans o).je hq _ _ _ _).trans<|aJ.y<|I.alloc _ _ _,(r.je t P hB B _ _ _ _).y<|I.alloc _ _ _,T,u,K,Z,K⟩
  simp;refine⟨_,?_,a4⟩;simp[â,results193,go_sem,h6,H,L,M,N,yl]
def kT(c:Cx)(G:Int->Option Int)(k:Nat)(t:Th)(i:List Vl):X (List Vl):=(fM t.sc).bd λj=>(iG G (aA c.N t.nd).M i j).bd λ_=>rn c.N (aR c) G k (.b (aA c.N t.nd).a)<|C j
def Ni(k)(t)(i:List Vl):kT c G k t i=((fM t.sc).bd λj=>(iG G (aA c.N t.nd).M i j).bd λ_=>aF j).bd λj=>rn c.N (aR c) G k (.b (aA c.N t.nd).a) (C j):=by
 grind[kT,MB,Xe]
def RP.ub{o}{p}{r:Rr o}{N}{q}(j:RP b a pb gq G N z w g s p r q e):∃d,aJ b a w g e d:=by
 cases r with
 |stk=>exact j.elim
 |ok y n=>obtain⟨d,v,k,l,m⟩:=j;grind
 |over x i n=>obtain⟨d,t,k,l,m⟩:=j;grind
 |back u n=>obtain⟨d,t,k,l,m⟩:=j;grind
def Nx{k}(A:fJ b c pb f h)(hB:nK b a pb gq G c k){n}(M:Rm b n a pb gq G c.N s g z)(hz:z+4000<=1000000000){t:Th}(ae:iL s.c t.sc){i}(B:i<Q c.N)(a8:t.nd=i)(a5:c.N[i].x=6){la}{lc}(hl:ξ b 0 3 1 (Y la (Q c.N[i].M) lc) (Q c.N[i].M)<|C8 c.N[i].M){l}{a2}{F}{D}(T:∀ah∈l,aZ s.c ah)(ab:gU n g a2 (Y F (Q l) D) l)(aa:kT c G k t l s≠.stk){KP:E->Prop}(P:∀e d,aJ b a n g e d->KP e):
 ∀v,I No n v->μ η 221 #[pV a,Y la (Q c.N[i].M) lc,Y F (Q l) D,υ<|pad g.sb t.sc] v λm u=>(∃o,m=ø o/\RP b a pb gq G c.N (z+2400) n g s Kn (kT c G k t l s) (ø o) u)\/∃pj,m=π (υ pj)/\KP u/\
  Hid (∀y,I No u y->μ η 18 #[pV a,U c.N[i].a,υ pj] y λm p=>(∃o,m=ø o/\RP b a pb gq G c.N (z+2400) n g s Kn (kT c G k t l s) (ø o) p)\/m=rT/\KP p/\Hid (RP b a pb gq G c.N (z+2400) n g s Kn (kT c G k t l s) (rT) p)):=by
 intro v R;have r:=aJ.y (wB:=b) (mb:=a) (g:=g) R;obtain⟨af,al,ag⟩:=(A.ok.ew i B).k6 a5;have a9:aA c.N t.nd=c.N[i]:=by rw[a8,B7 B]
 have a7:∀x∈c.N[i].M,0<=x/\x<Q c.N:=λx hx=>by
  obtain⟨j,rfl,h1,h2,_⟩:=af x hx;omega
 obtain⟨ja,ai,_,ak,aj⟩:=ag;have a6:=A.ok.ls i B;refine(D6d A (M.y R) hz ae hl a7 a6 T (ab.eu M r T) K).mono ?_;rintro m u hq;have q:=Ni (c:=c) (G:=G) k t l;rw[a9]at q;obtain⟨o,rfl,hh⟩|⟨j,s2,g2,am,rfl,H,-,L,r2,a4,hj,rfl⟩:=RP.cut (λj=>rn c.N (aR c) G k (.b c.N[i].a)<|C j) hq
 .refine .inl ⟨o,K,?_⟩;rw[q];exact hh.pre r<|Gr.refl _
 .refine .inr ⟨pad g2.sb<|C j,K,P _ _<|r.trans L,λy S=>?_⟩;have Z:=aa;rw[q,H]at Z;refine(nK.at hB (r2.y S) W (λj' m=>θ) ⟨W,W,by grind[B7]⟩ K Z).mono ?_;rintro m p N;have hp:RP b a pb gq G c.N (z+2400) n g s Kn (kT c G k t l s) m p:=by
   rw[q,H];exact N.pre ((r.trans L).trans<|aJ.y S) a4
  obtain⟨o,rfl⟩|rfl:=N.ends
  .grind
  .obtain⟨g3,a3⟩:=hp.ub;exact .inr ⟨K,P _ _ a3,hp⟩
def OJ{R:Ending->E->Prop}{m n}(k:m[6]?=n[6]?):∀(j) (u) (w:E),Leaves η Tryz.f193 m R j u w->Leaves η Tryz.f193 n R j u w
 |[],.returning,w,i=>by
  obtain⟨v,H,A⟩:=i;refine⟨v,?_,A⟩;simp_all[â,results220]
 |[],.panicking c,w,i=>i
 |[],.run,w,i=>i
 |F::j,u,w,i=>by
  obtain⟨D,y,p,x,o,r,t,B⟩:=i;refine⟨D,y,p,x,o,r,t,B.mono λq M e l=>?_⟩;cases q with
  |returned v=>exact OJ k j _ _ l
  |panicked c=>exact OJ k j _ _ l
  |outgrown=>omega
def Ph{m:X (List Vl)}(i:m.cat s≠.stk):m s≠.stk:=λj=>i (by grind[X.cat])
def Uk{n w3 w4}{q}{m:X (List Vl)}(H:n.heap[q]?=C (γ #[U 0,.int Φ 0,ζ ⟨#[]⟩,υ none] 135 (0,0)))(M:g.ow q=none)(N:V w.heap<=q)(x:q≠a)(D:V b.heap<=q)(F:aJ b a w g n g)
 (i:RP b a pb gq G c.N z n g s Kn (m s) (rT) w3) (r:I No w3 w4):
 (w4.cell? (J q 0)=C (U 0)/\w4.cell? (J q 1)=C (.int Φ 0)/\w4.cell? (J q 2)=C (ζ ⟨#[]⟩)/\w4.cell? (J q 3)=C (υ none)/\(∀o,w4.frozen? (J q o)=κ)/\q<w4.heap.size)/\
 ∀j,I No (ρ (ρ (ρ (w4.setCell (J q 0)<|U 8) (J q 1)<|.int Φ 0) (J q 2)<|ζ ⟨#[]⟩) (J q 3)<|υ none) j->
  (δ j (J q 0)=C (U 8)/\δ j (J q 1)=C (.int Φ 0)/\δ j (J q 2)=C (ζ ⟨#[]⟩)/\δ j (J q 3)=C (υ none))/\RP b a pb gq G c.N z w g s Kv (m.cat s) (π<|.agg #[U 8,.int Φ 0,ζ ⟨#[]⟩,υ none]) j:=by
 cases k:m s with
 |stk=>rw[k]at i;exact i.elim
 |over a8 a5 u=>
  rw[k]at i;obtain⟨_,_,l,_⟩:=i;cases l
 |back a6 u=>
  rw[k]at i;obtain⟨_,_,l,_⟩:=i;cases l
 |ok a4 u=>
  rw[k]at i;obtain⟨d,a7,l,v,A,B,h5⟩:=i;obtain⟨p,y⟩:=(v.trans<|aJ.y r).eu H M x ε ε;obtain⟨R,S,T,Z,yz,yl⟩:=eU p<|I.refl No _;refine⟨⟨R,S,T,Z,yz,yl⟩,λj t=>?_⟩;have P:=ê _ q 3 _ _ (υ none)<|ê _ q 2 _ _ (ζ ⟨#[]⟩)<|ê _ q 1 _ _ (.int Φ 0)<|ê w4 q 0 _ _ (U 8) p;obtain⟨z0,z1,z2,z3,-,-⟩:=eU P t;refine⟨⟨z0,z1,z2,z3⟩,?_⟩;have L:m.cat s=.ok [vO] u:=by unfold X.cat;rw[k]
  rw[L];exact⟨d,_,K,((F.trans<|v.trans<|aJ.y r).je N _ _ _ _).trans<|aJ.y t,((A.y r).je p y D x _ _ _ _).y t,B,vO,K,BQ _,K⟩
def TZ(b:E)(a pb gq:Nat)(G:Int->Option Int)(c:Cx)(k:Nat):Prop:=∀(w) (s) (g) (z j:Nat) (t) (n) (i) (B) (m) (l),Rm b w a pb gq G c.N s g z->z+4000<=1000000000->s.c.T[j]?=C t->t.k=64->g.tb[j]?=C n->(∀u∈i,aZ s.c u)->gU w g B (Y m (Q i) l) i->(kT c G k t i).cat s≠.stk->
 μ η 193 #[pV a,pV n,Y m (Q i) l] w (RP b a pb gq G c.N (z+2400) w g s Kv<|(kT c G k t i).cat s)
def Nq{k}(hS:fJ b c pb f h)(hB:nK b a pb gq G c k)(l:Rm b w a pb gq G c.N s g z)(hz:z+4000<=1000000000){a2:Nat}{t}(ht:s.c.T[a2]?=C t)(hk:t.k=64){j}(az:g.tb[a2]?=C j){o}{aw}{S}{R}(ae:∀b6∈o,aZ s.c b6)(ao:gU w g aw (Y S (Q o) R) o)(an:(kT c G k t o).cat s≠.stk):
 μ η 193 #[pV a,pV j,Y S (Q o) R] w (RP b a pb gq G c.N (z+2400) w g s Kv<|(kT c G k t o).cat s):=by
 have b1:=uG;have ai:=l.ok.T a2 t ht;obtain⟨am,b2,ah⟩:=ai.nd hk;obtain⟨i,hi⟩:=î am;have ag:i<Q c.N:=W;rw[hi,B7 ag]at ah;obtain⟨bb,_,hT,_⟩:=l.mem;obtain⟨b',pv,b9,ba,ap,b3,a3,_,_,_⟩:=hT a2 t ht;rw[az]at ap;cases ap;have t2:δ w (J j 2)=C (U (i:Int)):=by rw[á w j 2 _ _ _ a3,<-hi];rfl
 have t3:δ w (J j 3)=C (υ<|pad g.sb t.sc):=cr a3 K;have tl:=(aG a3);obtain⟨fz,lt,m0,m1,m2,m3,m4⟩:=l.mc;obtain⟨gn,nc,m,n,q0,q1,q2,q3,q4,q5,⟨x0,x1,x2,x3,x4,x5,x6,x7,x8⟩,ho⟩:=hS.node l ag;obtain⟨af,T,B⟩:=iT w (γ #[U 0,.int Φ 0,ζ ⟨#[]⟩,υ none] 135)<|γ #[U c.N[i].x,U c.N[i].a,U c.N[i].b,U c.N[i].c,Y m (Q c.N[i].M) n,ζ ⟨ν c.N[i].text⟩,U c.N[i].n,U c.N[i].ty,U c.N[i].at'] 93;have Z:=aJ.y (wB:=b) (mb:=a) (g:=g) B;have F:g.ow (V w.heap)=none/\a<V w.heap/\V b.heap<=V w.heap:=⟨l.new<|vQ _,l.mc.2.1,l.P.size⟩;have ak:=Nx hS hB (l.y B) hz ai.sc ag hi ah ho ae (ao.eu l Z ae) (Ph an) (KP:=λx=>δ x (J (V w.heap+1) 1)=C (U c.N[i].a)/\δ x (J (V w.heap+1) 4)=C (Y m (Q c.N[i].M) n)/\V w.heap+1<V x.heap) λe d hf=>by
  obtain⟨-,z1,-,-,z4,-,-,-,-,zl⟩:=qK (w:=σ w<|γ #[U 0,.int Φ 0,ζ ⟨#[]⟩,υ none] 135) (l.y<|I.alloc _ _ _) hf;simp only[Ã]at z1 z4 zl;exact⟨z1,z4,zl⟩
 have a4:=O ak;have y:=O λtmps ps x h6 H=>Ui (tmps:=tmps) (ps:=ps) (w2:=x) (m:=kT c G k t o) (pb:=pb) (gq:=gq) (G:=G) (c:=c) (s:=s) (z:=z+2400) h6 af F.1 (vQ _) W F.2.2 Z K H;have M:=O λar au H hc=>Uk (w3:=ar) (w4:=au) (m:=kT c G k t o) (pb:=pb) (gq:=gq) (G:=G) (c:=c) (s:=s) (z:=z+2400) af F.1 (vQ _) W F.2.2 Z H hc;have aj:=O yE;have a5:Hid (δ (É<|σ (σ w<|γ #[U 0,.int Φ 0,ζ ⟨#[]⟩,υ none] 135)<|γ #[U c.N[i].x,U c.N[i].a,U c.N[i].b,U c.N[i].c,Y m (Q c.N[i].M) n,ζ ⟨ν c.N[i].text⟩,U c.N[i].n,U c.N[i].ty,U c.N[i].at'] 93) (J (V w.heap+1) 1)=C (U c.N[i].a)):=(á _ _ 1 _ _ _ T).trans K;have a6:Hid (δ (É<|σ (σ w<|γ #[U 0,.int Φ 0,ζ ⟨#[]⟩,υ none] 135)<|γ #[U c.N[i].x,U c.N[i].a,U c.N[i].b,U c.N[i].c,Y m (Q c.N[i].M) n,ζ ⟨ν c.N[i].text⟩,U c.N[i].n,U c.N[i].ty,U c.N[i].at'] 93) (J (V w.heap+1) 4)=C (Y m (Q c.N[i].M) n)):=(á _ _ 4 _ _ _ T).trans K;have N:=O<|A4 (B6 B<|I.drewN No _ 1) t3;change Hid (δ (É _) _=_) at N;have a7:Hid (V w.heap+1<V (É<|σ (σ w<|γ #[U 0,.int Φ 0,ζ ⟨#[]⟩,υ none] 135)<|γ #[U c.N[i].x,U c.N[i].a,U c.N[i].b,U c.N[i].c,Y m (Q c.N[i].M) n,ζ ⟨ν c.N[i].text⟩,U c.N[i].n,U c.N[i].ty,U c.N[i].at'] 93).heap):=(aG T);have a8:Hid (j<V (É<|σ (σ w<|γ #[U 0,.int Φ 0,ζ ⟨#[]⟩,υ none] 135)<|γ #[U c.N[i].x,U c.N[i].a,U c.N[i].b,U c.N[i].c,Y m (Q c.N[i].M) n,ζ ⟨ν c.N[i].text⟩,U c.N[i].n,U c.N[i].ty,U c.N[i].at'] 93).heap):=yQ tl B.size;have b8:(i:Int)<(Q c.N:Int):=W;obtain⟨P,hP⟩:∃P,P=RP b a pb gq G c.N (z+2400) w g s Kv ((kT c G k t o).cat s):=⟨_,K⟩;rw[<-hP]at y M⊢;generalize pad g.sb t.sc=ps at*;generalize c.N[i]=nd at*;obtain⟨kd,v,vb,vc,u,tx,vn,vt,vp⟩:=nd;simp only at*;subst ah;clear hS l ak B ho af T Z F hT b3 a3 ai ao ae an am b2 ht hB hP;go_enter_defers func193,ntmps193;go_wp2_with fail;refine Code.wp_mono (Q:=λr a' e=>r=.normal/\a'={tmps:=#[pV a,pV j,Y S (Q o) R,Ξ,Ξ,Ξ,pV (V w.heap),pV<|V w.heap+1,.func (Fn.func 220) #[] #[pV (V w.heap)],pV a,pV a,pV a,pV pb,pV pb,pV pb,pV pb,Y (C<|J gn 0) (Q c.N) nc,pV j,pV j,υ<|C<|J j 2,U (i:Int),υ<|C<|J gn<|i*9,.agg #[U 6,U v,U vb,U vc,Y m (Q u) n,ζ ⟨ν tx⟩,U vn,U vt,U vp],Ξ,Ξ,Ξ,Ξ,Ξ,Ξ,Ξ,Ξ,Ξ,Ξ,Ξ,Ξ,Ξ,Ξ],defers:=[{target:=.fn (.func 220) #[pV (V w.heap)],args:=#[]}]}/\e=É ((σ w<|γ #[U 0,.int Φ 0,ζ ⟨#[]⟩,υ none] 135).alloc<|aM 6 v vb vc (Y m (Q u) n) tx vn vt vp)) (λr a' e D=>?_) ?_;rotate_left
 .as_aux_lemma=>
   clear a4 y M aj a5 a6 N a7 a8;go_region;exact⟨K,K,K⟩
 obtain⟨rfl,rfl,rfl⟩:=D;go_wp2_with fail;have n1:=a5.u;have n4:=a6.u;have b4:=N.u;have nl:=a7.u;have b5:=a8.u;have L:=O<|I.drewN No ((σ w<|γ #[U 0,.int Φ 0,ζ ⟨#[]⟩,υ none] 135).alloc<|aM 6 v vb vc (Y m (Q u) n) tx vn vt vp) 1;change Hid (I _ _<|É _) at L;generalize É ((σ w<|γ #[U 0,.int Φ 0,ζ ⟨#[]⟩,υ none] 135).alloc<|aM 6 v vb vc (Y m (Q u) n) tx vn vt vp)=ύ at n1 n4 b4 nl b5 L⊢;clear t2 t3 tl fz lt m0 m1 m2 m3 m4 q0 q1 q2 q3 q4 q5 x0 x1 x2 x3 x4 x5 x6 x7 x8 a5 a6 N a7 a8 b1;have p:∀(aa:Nat) (aq:χ),aa≠6->∀c a9 w,bodyPostD η Tryz.f193 P (.panic c) (æ a9 (C aa) aq) w->bodyPostD η Tryz.f193 P (.panic c) a9 w:=λaa aq hd c a9 w l=>OJ (by simp[æ,hd]) _ _ _ l;refine wp_region_held_drew (S:=λe=>δ e (J (V w.heap+1) 1)=C (U v)/\δ e (J (V w.heap+1) 4)=C (Y m (Q u) n)) Ψ ⟨n1,n4⟩ λay=>?_;refine tA (i:=0) (k:=23) (v:=pV a) K ?_ (hQ:=p 23 _ ε);simp only[æ,aT,a0,a1];refine tA (i:=1) (k:=24) (v:=υ<|C<|J (V w.heap+1) 1) K ?_ (hQ:=p 24 _ ε);simp only[æ,aT,a0,a1];refine tA (i:=3) (k:=26) (v:=pV a) K ?_ (hQ:=p 26 _ ε);simp only[æ,aT,a0,a1];refine tA (i:=4) (k:=27) (v:=υ<|C<|J (V w.heap+1) 4) K ?_ (hQ:=p 27 _ ε);simp only[æ,aT,a0,a1];refine tA (i:=6) (k:=29) (v:=Y S (Q o) R) K ?_ (hQ:=p 29 _ ε);simp only[æ,aT,a0,a1];refine tA (i:=7) (k:=30) (v:=pV j) K ?_ (hQ:=p 30 _ ε);simp only[æ,aT,a0,a1];refine tA (i:=8) (k:=31) (v:=pV j) K ?_ (hQ:=p 31 _ ε);simp only[æ,aT,a0,a1];refine tA (i:=9) (k:=32) (v:=υ<|C<|J j 3) K ?_ (hQ:=p 32 _ ε);simp only[æ,aT,a0,a1];refine tA (i:=2) (k:=25) (v:=U v) K ?_ (hQ:=p 25 _ ε) (hy:=.inl ⟨Θ,λw ab=>by obtain⟨h1,h2⟩:=ab;go_simp⟩);simp only[æ,aT,a0,a1];refine tA (i:=5) (k:=28) (v:=Y m (Q u) n) K ?_ (hQ:=p 28 _ ε) (hy:=.inl ⟨Θ,λw ab=>by obtain⟨h1,h2⟩:=ab;go_simp⟩);simp only[æ,aT,a0,a1];refine wpAnyH_ready (rs:=[10]) Ψ ι ?_;refine AllReadyH.cons (o:=Oper.mk (C 33) _ _ _ _ _) K (λA q=>?_) AllReadyH.nil;go_simp;refine q _ _ ⟨n1,n4⟩ λ_=>?_;clear q A ay;refine wpAnyH_ready (rs:=[11]) Ψ ι ?_;refine AllReadyH.cons (o:=Oper.mk (C 34) _ _ _ _ _) K (λA q=>?_) AllReadyH.nil;go_simp;refine(a4.u _<|B6 L.u<|I.drewN No _ 1).mono ?_;rintro r x (⟨qs,rfl,D⟩|⟨pj,rfl,⟨u1,u4,u2⟩,T6⟩)
 .exact y.u _ _ _ K D
 refine q _ _ ⟨u1,u4⟩ λ_=>?_;clear q A;refine wpAnyH_ready (rs:=[12]) Ψ ι ?_;refine AllReadyH.cons (o:=Oper.mk (C 35) _ _ _ _ _) K (λA q=>?_) AllReadyH.nil;go_simp;refine(T6.u _<|I.refl _ _).mono ?_;rintro r ar (⟨qs,rfl,D⟩|⟨rfl,⟨y1,y4,y2⟩,E4⟩)
 .exact y.u _ _ _ K D
 refine q _ _ ⟨y1,y4⟩ λ_=>?_;clear q A;refine wpAnyH_done Ψ ?_ _;clear p;go_wp2_with fail;refine(aj.u _).mono ?_;rintro r au ⟨rfl,k4⟩;obtain⟨⟨r0,bc,r2,r3,rz,rl⟩,al⟩:=M.u _ _ E4.u k4;have ax:=O al;clear al k4 E4 T6 a4 L M y;go_wp2_with fail;refine Ú (f:=220) (args:=#[pV (V w.heap)]) ι (by simp[go_sem]) ?_;refine(Zy (V w.heap) _).mono ?_;rintro r u' b7 ⟨rfl,rfl,b0⟩;obtain⟨⟨z0,z1,z2,z3⟩,H⟩:=ax.u b7 b0;simp only[Leaves,settle];refine⟨_,?_,H⟩;simp[â,results193,go_sem,z0,z1,z2,z3]
def wC(i:Int):X Unit:=bR λc=>if c.ca=40 then .over 2 i else .ok () {c with ca:=c.ca+1}
def wD:X Unit:=bR λc=>.ok () {c with ca:=c.ca-1}
def EL(s)(i j):Gr s.c (cS s i j).c:=⟨λ_ t k=>⟨t,k,K⟩,vQ _⟩
def My(k)(t)(i):Ca (kT c G k t i).cat:=.cat<|.bd (.kr _) λ_=>.bd (QP _ _ _ _) λ_=>Et _ _ _ _ _ _
def Sf{m:E}{j:Gh}{i}{q k}{y}{R:Rr (List Vl)}(H:V w.heap<=q)(x:m.heap[q]?=C (γ #[U 0,.int Φ 0,ζ ⟨#[]⟩,υ none] 135 (0,0)))(F:j.ow q=none)(p:q≠a)(u:V b.heap<=q)(hF:aJ b a w g m j)(l:Rm b m a pb gq G c.N i j z)(D:Gr s.c i.c)(L:aZ i.c y)(A:i.c.ca=k+1)(v:R=(wD.bd λ_=>aF [y]) i)(o):
 RP b a pb gq G c.N z w g s Kv R (π<|.agg #[U y.g,.int Φ y.n,ζ ⟨ν y.t⟩,υ<|pad j.tb y.h]) ((ρ (ρ (ρ (ρ (ρ m (J a 3)<|U k) (J q 0)<|U y.g) (J q 1)<|.int Φ y.n) (J q 2)<|ζ ⟨ν y.t⟩) (J q 3)<|υ<|pad j.tb y.h).alloc o):=by
 have P:=l.ok.ca;obtain⟨M,n⟩:=l.nr (s':=cS i k i.c.th) (z':=z) 3 (U k) K K K K (RB l.ok W ⟨vQ _,l.ok.th⟩) (λS N=>Θ) (by grind[cS]);obtain⟨r,t⟩:=n.eu x F p ε ε;have B:wD i=.ok () (cS i k i.c.th):=by simp[wD,bR,cS,A]
 rw[v,J0 B];exact⟨j,_,K,((hF.trans n).je H _ _ _ _).trans<|aJ.y<|I.alloc _ _ _,(M.je r t u p _ _ _ _).y<|I.alloc _ _ _,D.trans<|EL _ _ _,y,K,L.gr<|EL _ _ _,K⟩
def Yx{k}(hS:fJ b c pb f h)(hV:gA b a pb gq G c k)(bj:∀k',k'<k->gA b a pb gq G c k')(bi:TZ b a pb gq G c k)(A:Rm b w a pb gq G c.N s g z)(hz:z+4000<=1000000000){D:Option Nat}(ap:iL s.c D){i}(b7:i<Q c.N)(b6:c.N[i].x=7){R:Rr (List Vl)}
 (hR:R=((rn c.N (aR c) G k (.v c.N[i].a) D).bd λaa=>(rn c.N (aR c) G k (.vs c.N[i].M) D).bd λag=>(eO (i:Int) (r1 aa) 64).bd λ_=>(wC (i:Int)).bd λ_=>(fR<|r1 aa).bd λah=>((kT c G k ah ag).cat).bd λr=>wD.bd λ_=>aF r) s) (bq:R≠.stk):
 μ η 149 #[pV a,U i,υ<|pad g.sb D] w (RP b a pb gq G c.N (z+2400) w g s Kv R):=by
 have bo:=hS.ok.ew i b7;obtain⟨br,bs⟩:=bo.k7 b6;have cu:=hS.ok.ls i b7;obtain⟨fz,lt,m0,m1,m2,m3,m4⟩:=A.mc;obtain⟨gn,nc,la,lc,q0,q1,q2,q3,q4,q5,⟨x0,x1,x2,x3,x4,x5,x6,x7,x8⟩,ho⟩:=hS.node A b7;obtain⟨bm,ce,ca⟩:=iT w (γ #[U 0,.int Φ 0,ζ ⟨#[]⟩,υ none] 135)<|γ #[U c.N[i].x,U c.N[i].a,U c.N[i].b,U c.N[i].c,Y la (Q c.N[i].M) lc,ζ ⟨ν c.N[i].text⟩,U c.N[i].n,U c.N[i].ty,U c.N[i].at'] 93;have bn:=aJ.y (wB:=b) (mb:=a) (g:=g) ca;have b8:g.ow (V w.heap)=none/\a<V w.heap/\V b.heap<=V w.heap:=⟨A.new<|vQ _,A.mc.2.1,A.P.size⟩;have bw:=O b8;have a8:Hid (∀v l,aJ b a _ g v l->_):=λv l hf=>hf.eu bm b8.1 W ε ε;have a6:Hid (∀v l,aJ b a _ g v l->_):=λv l hf=>qK (w:=σ w<|γ #[U 0,.int Φ 0,ζ ⟨#[]⟩,υ none] 135) (kd:=c.N[i].x) (va:=c.N[i].a) (vb:=c.N[i].b) (vc:=c.N[i].c) (lv:=Y la (Q c.N[i].M) lc) (tx:=⟨ν c.N[i].text⟩) (vn:=c.N[i].n) (vt:=c.N[i].ty) (vp:=c.N[i].at') (A.y<|I.alloc _ _ _) hf;have ax:=O (hV.at (A.y ca) W ap (M4 br)<|P8<|by rw[<-hR];omega);have bg:Hid (∀bb s1 g1,Rm b bb a pb gq G c.N s1 g1 z->iL s1.c D->rn c.N (aR c) G k (.vs c.N[i].M) D s1≠.stk->_):=λbb s1 g1 (h1:Rm b bb a pb gq G c.N s1 g1 z) ci cf=>XE bj h1 W ci ho (λcm hx=>M4<|bs cm hx) W cf;have aj:=O (λ(d:Gh) (hp:g.sb<+:d.sb)=>N8 hp (o:=D) λb9 o=>by rw[A.sl];exact ap b9 o);have F:=O bn;have HR:=O hR;have a7:=O bq;have ak:=O ap;have ai:=O bi;have HD:=O wH;have bz:=O<|yG 5 (i:Int);have ct:(i:Int)<(Q c.N:Int):=W;rw[b6]at ax a8 F a6;generalize pad g.sb D=ps at*;generalize c.N[i]=nd at*;obtain⟨kd,va,vb,vc,ls,tx,vn,vt,vp⟩:=nd;simp only at*;subst b6;clear hS hV bj bi A hR bq br bs bo ca ho bm ce bn ap b8;go_in;go_wp2_with fail;refine ax.u.mono ?_;rintro o v N;obtain⟨P,rfl,M⟩|⟨c5,s2,l,bu,rfl,H,-,ay,r2,b4,u,rfl,hu,rfl⟩:=RP.cut (K':=Kv) (λaa=>(rn c.N (aR c) G k (.vs ls) D).bd λag=>(eO (i:Int) (r1 aa) 64).bd λ_=>(wC (i:Int)).bd λ_=>(fR<|r1 aa).bd λah=>((kT c G k ah ag).cat).bd λr=>wD.bd λ_=>aF r) N
 .exact⟨K,by rw[HR.u];exact(M.pre F.u<|Gr.refl _).more W⟩
 have hM:r1 [u]=u:=K;have am:=HR.u;rw[H,hM]at am;have cb:=I.alloc No v<|γ #[U u.g,.int Φ u.n,ζ ⟨ν u.t⟩,υ<|pad l.tb u.h] 135;have fb:=ay.trans<|aJ.y (wB:=b) (mb:=a) (g:=l) cb;have bp:l.ow (V v.heap)=none/\a<V v.heap:=⟨r2.new<|vQ _,r2.mc.2.1⟩;obtain⟨x0,x1,x2,x3,x4,x5,x6,x7,x8,xl⟩:=a6.u _ l fb;simp only[Ã]at x0 x1 x2 x3 x4 x5 x6 x7 x8 xl;have a9:=O (bg.u _ s2 l (r2.y cb) (ak.u.gr b4)<|P8<|by rw[<-am];exact a7.u);rw[aj.u l ay.sb]at a9;have a5:Hid (∀x y,aJ b a _ l x y->_):=λx y (hf:aJ b a (v.alloc<|γ #[U u.g,.int Φ u.n,ζ ⟨u.t.toArray⟩,υ<|pad l.tb u.h] 135) l x y)=>eU (hf.eu (rY v _) bp.1 W ε ε).1<|I.refl No _;have F2:=O fb;have G2:=O b4;have bf:=O am;have HU:=O hu;have c4:=O r2.tl;clear N H ay r2 b4 hu am ax fb cb bp hM bg;unfold bT;go_wp2_with fail;refine a9.u.mono ?_;rintro o x N;obtain⟨P,rfl,M⟩|⟨av,m,y,bu,rfl,H,-,L,S,ab,an,af⟩:=RP.cut (K':=Kv) (λag=>(eO (i:Int) u 64).bd λ_=>(wC (i:Int)).bd λ_=>(fR u).bd λah=>((kT c G k ah ag).cat).bd λr=>wD.bd λ_=>aF r) N
 .exact⟨K,by rw[bf.u];exact((M.pre F2.u G2.u).pre F.u<|Gr.refl _).more W⟩
 have p:=bf.u;rw[H]at p;obtain⟨ad,ac,rfl⟩:=B8 af.1;obtain⟨t0,t1,t2,t3,tz,tl⟩:=a5.u x y L;have aq:=HU.u.gr ab;have ar:=(N8 L.tb λb9 o=>by rw[c4.u];exact HU.u.lt b9 o).symm;have F3:=O<|F2.u.trans L;have bv:=O L;have G3:=O<|G2.u.trans ab;have T:=O S;have bc:=O an;have bx:=O af;have au:Hid (∀j,I No x j->_):=λj (B:I No x j)=>(S.y B).mc;have aw:=O λe (B:I No x e)=>a5.u e y<|bv.u.trans<|aJ.y B;by_cases Z:u.g=64
 .obtain⟨jt,th,bt,cw,z1,z2,z3,z4,z5,-,-⟩:=S.kh aq W;rw[J0<|nY Z]at p;rw[ar,z5]at t3 aw;have cd:=S.ok.ca;by_cases al:m.c.ca=40
  .have ae:wC (i:Int) m=.over 5 (i:Int) m:=by simp[wC,bR,al]
   rw[I5 ae]at p;have HP:Hid (∀j,I No x j->RP b a pb gq G c.N (z+2400) w g s Kv R (ov 5 (i:Int) []) j):=λj B=>by
    rw[p];exact⟨y,[],K,F.u.trans<|F3.u.trans<|aJ.y B,(T.u.y B).more W⟩
   clear N H L S ab an af aq ar p ae z1 z2 z3 z4 z5 a9 a5 a8 a6 ai a7 ak aj HU;generalize u.g=ug at*;subst Z;go_wp2_with fail;refine(HD.u _ _ _ _ _ _ _).mono ?_;rintro o j ⟨q,rfl⟩;simp only[if_true];obtain⟨c8,cj,-,-,-,c3,-⟩:=au.u j q;rw[al]at c3;have K4:=O q;clear q;go_wp2_with fail;refine(bz.u _).mono ?_;rintro o n ⟨rfl,rfl⟩;exact⟨K,HP.u _ K4.u⟩
  .obtain⟨t,b5⟩:∃ck,ck=m.c.ca:=⟨_,K⟩;have ae:wC (i:Int) m=.ok () (cS m (t+1) m.c.th):=by simp[wC,bR,al,cS,b5]
   rw[J0 ae,J0<|xX (s:=cS m (t+1) m.c.th) z1 z2]at p;have be:Hid (∀j,I No x j->μ η 193 #[pV a,pV bt,Y ad (Q av) ac] (ρ j (J a 3)<|U<|(t:Int)+1) λo n=>(∃P,o=ø P/\RP b a pb gq G c.N (z+2400) w g s Kv R (ø P) n)\/∃yg yn yt yp,o=π (.agg #[U yg,.int Φ yn,ζ yt,υ yp])/\(δ n (J (V w.heap) 0)=C (U 0)/\δ n (J (V w.heap) 1)=C (.int Φ 0)/\δ n (J (V w.heap) 2)=C (ζ ⟨#[]⟩)/\δ n (J (V w.heap) 3)=C (υ none)/\(∀ba,n.frozen? (J (V w.heap) ba)=κ)/\V w.heap<V n.heap)/\((∀ba,n.frozen? (J a ba)=κ)/\a<V n.heap/\δ n (J a 3)=C (U<|(t:Int)+1))/\
    Hid (RP b a pb gq G c.N (z+2400) w g s Kv R (π<|.agg #[U yg,.int Φ yn,ζ yt,υ yp])<|(ρ (ρ (ρ (ρ (ρ n (J a 3)<|U (t:Int)) (J (V w.heap) 0)<|U yg) (J (V w.heap) 1)<|.int Φ yn) (J (V w.heap) 2)<|.string yt) (J (V w.heap) 3)<|υ yp).alloc<|γ #[U yg,.int Φ yn,ζ yt,υ yp] 135)):=λj q=>by
    obtain⟨r4,f4⟩:=(T.u.y q).nr (s':=cS m (t+1) m.c.th) (z':=z) 3 (U<|(t:Int)+1) K K K K (RB T.u.ok W ⟨vQ _,T.u.ok.th⟩) (λcv ev=>Θ) (by grind[cS]);have az:=(aJ.y (wB:=b) (mb:=a) (g:=y) q).trans f4;have cg:=P8 (by rw[<-p];exact a7.u);refine(ai.u _ (cS m (t+1) m.c.th) y z jt th bt av _ ad ac r4 hz z2 (z3.trans Z) z4 (λa4 hy=>(bc.u a4 hy).gr<|EL _ _ _) (bx.u.eu T.u az bc.u) cg).mono ?_;rintro o n ch;obtain⟨P,rfl,M⟩|⟨c5,s5,g5,bu,rfl,e5,c6,c7,r5,c9,a4,rfl,hy,rfl⟩:=RP.cut (K':=Kv) (λr=>wD.bd λ_=>aF r) ch
    .refine .inl ⟨P,K,?_⟩;rw[p];exact M.pre (F.u.trans<|F3.u.trans az)<|G3.u.trans<|EL _ _ _
    .have ao:=My (c:=c) (G:=G) k th av<|cS m (t+1) m.c.th;rw[c6]at ao;have ao:s5.c.ca=t+1:=ao;have bh:=F3.u.trans<|az.trans c7;obtain⟨a2,a3⟩:=a8.u n g5 bh;obtain⟨n1,n2,n3⟩:=bw.u;obtain⟨cp,zl,-,-,-,zc,-⟩:=r5.mc;refine .inr ⟨a4.g,a4.n,⟨ν a4.t⟩,pad g5.tb a4.h,K,eU a2<|I.refl No _,⟨cp,zl,θ⟩,?_⟩;exact Sf (vQ _) a2 a3 W n3 (F.u.trans bh) r5 (G3.u.trans<|(EL _ _ _).trans c9) hy ao (p.trans e5) _
   clear N H L S ab an af aq ar p ae z1 z2 z3 z4 z5 a9 a5 a8 a6 ai a7 ak aj HU;have cq:(t:Int)<40:=W;have cs:((t:Int)==40)=κ:=à;generalize u.g=ug at*;subst Z;go_wp2_with fail;refine(HD.u _ _ _ _ _ _ _).mono ?_;rintro o j ⟨q,rfl⟩;simp only[if_true];obtain⟨c8,cj,-,-,-,c3,-⟩:=au.u j q;rw[<-b5]at c3;obtain⟨b0,b1,b2,b3,-,bl⟩:=aw.u j q;have bd:=O<|be.u j q;clear q be au aw b5 al cd;go_wp2_with fail;refine bd.u.mono ?_;rintro o n (⟨P,rfl,M⟩|⟨yg,yn,yt,yp,rfl,⟨y0,y1,y2,y3,yz,yl⟩,⟨cz,cl,cc⟩,E4⟩)
   .exact⟨K,M⟩
   clear bd;go_wp2;refine ä (by simp[â,results149,go_sem,y0,y1,y2,y3,yl];rfl) K ?_;exact E4.u
 .rw[I5<|qY Z]at p;have HP:Hid (∀j,I No x j->RP b a pb gq G c.N (z+2400) w g s Kv R (ov 3 (i:Int) []) j):=λj B=>by
   rw[p];exact⟨y,[],K,F.u.trans<|F3.u.trans<|aJ.y B,(T.u.y B).more W⟩
  clear N H L S ab an af aq ar p a9 a5 a8 a6 ai a7 ak aj HU;go_wp2_with fail;refine(HD.u _ _ _ _ _ _ _).mono ?_;rintro o j ⟨q,rfl⟩;rw[wY Z];exact⟨K,HP.u _ q⟩
theorem Rv.of{m v}{q}{R}{r}(B:m.heap[q]?=C (γ #[U 0,.int Φ 0,ζ ⟨#[]⟩,υ none] 135 (0,0)))(D:g.ow q=none)(F:V w.heap<=q)(t:q≠a)(A:V b.heap<=q)(hF:aJ b a w g m g)(l:RP b a pb gq G c.N z m g s Kv R r v):Dn (RP b a pb gq G c.N z w g s Kv R) q r v:=by
 cases R with
 |stk=>exact l.elim
 |over a6 i u=>
  obtain⟨d,o,rfl,j,k⟩:=l;exact .inl ⟨_,K,d,o,K,hF.trans j,k⟩
 |back a4 u=>
  obtain⟨d,o,rfl,j,k,n⟩:=l;exact .inl ⟨_,K,d,o,K,hF.trans j,k,n⟩
 |ok Z u=>
  obtain⟨d,a5,rfl,j,k,n,y,rfl,H,rfl⟩:=l;obtain⟨p,x⟩:=j.eu B D t ε ε;obtain⟨L,M,N,P,T,S⟩:=eU p<|I.refl No _;exact .inr ⟨_,_,_,_,K,L,M,N,P,T,S,d,_,K,(hF.trans j).je F _ _ _ _,k.je p x A t _ _ _ _,n,y,K,H,K⟩
def Qk{k}(o:fJ b c pb f h)(F:gA b a pb gq G c k)(H:∀N,N<k->gA b a pb gq G c N)(D:TZ b a pb gq G c k):CE b a pb gq G c (iB c 7) λi r=>rn c.N (aR c) G (k+1) (.e i) r:=by
 intro w s g z r i j a8 M hi y;have hz:z<=1000000000:=W;obtain⟨a7,aa,m⟩:=hi;obtain⟨i,rfl⟩:=î a7;have n:i<Q c.N:=W;rw[B7 n]at m;have a6:=o.ok.ew i n;obtain⟨R,l⟩:∃R,R=rn c.N (aR c) G (k+1) (.e (i:Int)) r s:=⟨_,K⟩;simp only[<-l]at y⊢;rw[mZ]at l;simp only[B7 n,m]at l;simp only[È,if_false,if_true]at l;obtain⟨fz,lt,m0,m1,m2,m3,m4⟩:=j.mc;obtain⟨gn,nc,P,S,q0,q1,q2,q3,q4,q5,⟨x0,x1,x2,x3,x4,x5,x6,x7,x8⟩,ho⟩:=o.node j n;obtain⟨v,a5,t⟩:=iT w (γ #[U 0,.int Φ 0,ζ ⟨#[]⟩,υ none] 135)<|γ #[U c.N[i].x,U c.N[i].a,U c.N[i].b,U c.N[i].c,Y P (Q c.N[i].M) S,ζ ⟨ν c.N[i].text⟩,U c.N[i].n,U c.N[i].ty,U c.N[i].at'] 93;have x:=aJ.y (wB:=b) (mb:=a) (g:=g) t;have A:=j.y t;have p:g.ow (V w.heap)=none/\a<V w.heap/\V b.heap<=V w.heap:=⟨j.new<|vQ _,j.mc.2.1,j.P.size⟩;have a2:=O p;have a3:Hid (∀q u,aJ b a _ g q u->_):=λq u (hf:aJ b a (σ (w.alloc<|γ #[U 0,.int Φ 0,ζ ⟨#[]⟩,υ none] 135)<|γ #[U c.N[i].x,U c.N[i].a,U c.N[i].b,U c.N[i].c,Y P (Q c.N[i].M) S,ζ ⟨ν c.N[i].text⟩,U c.N[i].n,U c.N[i].ty,U c.N[i].at'] 93) g q u)=>hf.eu v p.1 W ε ε;have ab:=o.ok.tx c.N[i]<|mQ n;have L:=(Yx o F H D A a8 M n m l y).mono λa4 q hq=>Rv.of v p.1 (vQ _) W p.2.2 x (hq.more<|show z+2400<=z+3000 by omega);have B:=O L;have Z:=O x;have R0:=O A;have HR:=O l;have a9:(i:Int)<(Q c.N:Int):=W;rw[m]at x0;rw[m]at B;generalize pad g.sb r=ps at*;generalize c.N[i]=nd at*;obtain⟨kd,va,vb,vc,ls,tx,vn,vt,vp⟩:=nd;simp only at*;subst m;clear o j l y a6 t ho v a5 x A M p F H D L HR a3 a2 R0 Z;go_in;go_wp2_with fail;refine B.u.mono ?_;rintro a4 q (⟨ac,rfl,hh⟩|⟨vg,ad,af,ae,rfl,y0,y1,y2,y3,yz,yl,T⟩)
 .exact⟨K,hh⟩
 go_wp2;refine ä (by simp[â,Õ,go_sem,y0,y1,y2,y3];rfl) K ?_;exact T.u
def AR{k}(L:fJ b c pb f h)(hV:gA b a pb gq G c k):CE b a pb gq G c (iB c 12) λi q=>rn c.N (aR c) G (k+1) (.e i) q:=by
 intro w s g z q i n b4 M hi a8;have hz:z<=1000000000:=W;obtain⟨ar,b2,v⟩:=hi;obtain⟨i,rfl⟩:=î ar;have x:i<Q c.N:=W;rw[B7 x]at v;have a7:=L.ok.ew i x;obtain⟨af,o⟩:∃af,af=rn c.N (aR c) G (k+1) (.e (i:Int)) q s:=⟨_,K⟩;simp only[<-o]at a8⊢;rw[mZ]at o;simp only[B7 x,v]at o;simp only[È,if_false,if_true]at o;obtain⟨fz,lt,m0,m1,m2,m3,m4⟩:=n.mc;obtain⟨gn,nc,la,lc,q0,q1,q2,q3,q4,q5,⟨x0,x1,x2,x3,x4,x5,x6,x7,x8⟩,ho⟩:=L.node n x;obtain⟨ag,aq,T⟩:=iT w (γ #[U 0,.int Φ 0,ζ ⟨#[]⟩,υ none] 135)<|γ #[U c.N[i].x,U c.N[i].a,U c.N[i].b,U c.N[i].c,Y la (Q c.N[i].M) lc,ζ ⟨ν c.N[i].text⟩,U c.N[i].n,U c.N[i].ty,U c.N[i].at'] 93;have ah:=aJ.y (wB:=b) (mb:=a) (g:=g) T;have r0:=n.y T;have a9:g.ow (V w.heap)=none/\a<V w.heap/\V b.heap<=V w.heap:=⟨n.new<|vQ _,n.mc.2.1,n.P.size⟩;have ab:=O a9;have P:Hid (∀j l,aJ b a _ g j l->_):=λj l (p:aJ b a (σ (w.alloc<|γ #[U 0,.int Φ 0,ζ ⟨#[]⟩,υ none] 135)<|γ #[U c.N[i].x,U c.N[i].a,U c.N[i].b,U c.N[i].c,Y la (Q c.N[i].M) lc,ζ ⟨ν c.N[i].text⟩,U c.N[i].n,U c.N[i].ty,U c.N[i].at'] 93) g j l)=>p.eu ag a9.1 W ε ε;have b3:=L.ok.tx c.N[i]<|mQ x;have F:Hid (∀j l,aJ b a _ g j l->_):=λj l p=>qK (w:=σ w<|γ #[U 0,.int Φ 0,ζ ⟨#[]⟩,υ none] 135) (w':=j) (g':=l) (kd:=c.N[i].x) (va:=c.N[i].a) (vb:=c.N[i].b) (vc:=c.N[i].c) (lv:=Y la (Q c.N[i].M) lc) (tx:=⟨ν c.N[i].text⟩) (vn:=c.N[i].n) (vt:=c.N[i].ty) (vp:=c.N[i].at') (n.y<|I.alloc _ _ _) p;have aj:=hV.at r0 hz M (M4 (a7.k2 W).1) (P8<|by rw[<-o];omega);have al:=M4 (a7.k2 W).2;have R:=O aj;have HV:=O hV;have ae:=O al;have aa:=O a8;have ad:=O M;have ac:=O (λ(d:Gh) (hp:g.sb<+:d.sb)=>N8 hp (o:=q) λav H=>by rw[n.sl];exact M av H);have D:=O ah;have R0:=O r0;have N:=O o;have b1:(i:Int)<(Q c.N:Int):=W;rw[v]at x0;rw[v]at R P D R0 F;generalize pad g.sb q=ps at*;generalize c.N[i]=nd at*;obtain⟨kd,va,vb,vc,ls,B,vn,vt,vp⟩:=nd;simp only at*;subst v;clear L n o a8 a7 T ho ag aq ah r0 M a9 hV aj al;go_in;go_wp2_with fail;refine R.u.mono ?_;rintro H j hq;obtain⟨am,rfl,t⟩|⟨az,s2,l,an,rfl,e1,-,a4,A,a5,u,rfl,hu,rfl⟩:=RP.cut (K':=Kv) (λay=>(rn c.N (aR c) G k (.v vb) q).bd λy=>(mD (i:Int) B (r1 ay)<|r1 y).bd λax=>aF [ax]) hq
 .exact⟨K,by rw[N.u];exact(t.pre D.u<|Gr.refl _).more W⟩
 have hM:r1 [u]=u:=K;have a6:=N.u;rw[e1,hM]at a6;have Z:=I.alloc No j<|γ #[U u.g,.int Φ u.n,ζ ⟨ν u.t⟩,υ<|pad l.tb u.h] 135;have r:=a4.trans<|aJ.y (wB:=b) (mb:=a) (g:=l) Z;have ai:l.ow (V j.heap)=none/\a<V j.heap:=⟨A.new<|vQ _,A.mc.2.1⟩;obtain⟨a2,a3⟩:=P.u _ l r;obtain⟨n1,n2,n3⟩:=ab.u;obtain⟨x0,x1,x2,x3,x4,x5,x6,x7,x8,xl⟩:=F.u _ l r;simp only[Ã]at x0 x1 x2 x3 x4 x5 x6 x7 x8 xl;have ak:=JF (KP:=λm=>(δ m (J (V w.heap+1) 5)=C (ζ ⟨B.toArray⟩)/\V w.heap+1<V m.heap)/\δ m (J (V j.heap) 0)=C (U u.g)/\δ m (J (V j.heap) 1)=C (.int Φ u.n)/\δ m (J (V j.heap) 2)=C (ζ ⟨ν u.t⟩)/\δ m (J (V j.heap) 3)=C (υ<|pad l.tb u.h)/\(∀aw,m.frozen? (J (V j.heap) aw)=κ)/\V j.heap<V m.heap) (F2:=154) (args:=λan=>#[U (i:Int),ζ ⟨B.toArray⟩,bT l.tb u,an]) (op:=λy=>mD (i:Int) B u y) HV.u (A.y Z) hz (ad.u.gr a5) ae.u a6 aa.u (D.u.trans r) a5 a2 a3 (vQ _) W n3
  (λe d p=>by
   obtain⟨-,-,-,-,-,z5,-,-,-,zl⟩:=F.u e d<|r.trans p;simp only[Ã]at z5 zl;exact⟨⟨z5,zl⟩,eU (p.eu (rY j _) ai.1 W ε ε).1<|I.refl No _⟩)
  (λm s3 g3 y r3 ap ao hy=>by
   have au:=(wR ao.tb hu A.tl).1.symm;have hx:=B3f r3 (i:Int) B (hu.gr ap) hy;rw[<-au]at hx;exact hx);have S:=O ak;rw[ac.u l a4.sb]at S;have b0:=rY j<|γ #[U u.g,.int Φ u.n,ζ ⟨ν u.t⟩,υ<|pad l.tb u.h] 135;clear hq e1 a4 A a5 hu a6 R hM r Z ai ak HV ae aa ad ac F P ab R0 D N a2 a3 n1 n2 n3;unfold bT at S⊢;go_wp2_with fail;go_region_with (first|(go_at_call 61;refine(S.u _<|I.drewN No _ 1).mono ?_;rintro H m (⟨am,rfl,t⟩|⟨ug,un,ut,up,rfl,⟨⟨t1,t2⟩,t3,t4,t5,t6,t7,t8⟩,T6⟩);exact⟨K,t⟩)|(go_at_call 154;refine(T6.u _<|I.refl _ _).mono ?_;rintro H b8 (⟨am,rfl,t⟩|⟨vg,b5,b7,b6,rfl,y0,y1,y2,y3,yz,yl,E4⟩);exact⟨K,t⟩));all_goals go_wp2_with fail
 all_goals refine ä (by simp[â,Õ,go_sem,y0,y1,y2,y3];rfl) K ?_
 all_goals exact E4.u
def LS{k}(H:fJ b c pb f h)(hV:gA b a pb gq G c k):CE b a pb gq G c (iB c 9) λi q=>rn c.N (aR c) G (k+1) (.e i) q:=by
 intro w s g z q i n b3 L hi a7;have hz:z<=1000000000:=W;obtain⟨aq,b1,v⟩:=hi;obtain⟨i,rfl⟩:=î aq;have x:i<Q c.N:=W;rw[B7 x]at v;have a6:=H.ok.ew i x;obtain⟨ae,o⟩:∃ae,ae=rn c.N (aR c) G (k+1) (.e i) q s:=⟨_,K⟩;simp only[<-o]at a7⊢;rw[mZ]at o;simp only[B7 x,v]at o;simp only[È,if_false,if_true]at o;obtain⟨fz,lt,m0,m1,m2,m3,m4⟩:=n.mc;obtain⟨gn,nc,la,lc,q0,q1,q2,q3,q4,q5,⟨x0,x1,x2,x3,x4,x5,x6,x7,x8⟩,ho⟩:=H.node n x;obtain⟨af,ap,S⟩:=iT w (γ #[U 0,.int Φ 0,ζ ⟨#[]⟩,υ none] 135)<|γ #[U c.N[i].x,U c.N[i].a,U c.N[i].b,U c.N[i].c,Y la (Q c.N[i].M) lc,ζ ⟨ν c.N[i].text⟩,U c.N[i].n,U c.N[i].ty,U c.N[i].at'] 93;have ag:=aJ.y (wB:=b) (mb:=a) (g:=g) S;have r0:=n.y S;have a8:g.ow (V w.heap)=none/\a<V w.heap/\V b.heap<=V w.heap:=⟨n.new<|vQ _,n.mc.2.1,n.P.size⟩;have aa:=O a8;have N:Hid (∀j l,aJ b a _ g j l->_):=λj l (p:aJ b a (σ (w.alloc<|γ #[U 0,.int Φ 0,ζ ⟨#[]⟩,υ none] 135)<|γ #[U c.N[i].x,U c.N[i].a,U c.N[i].b,U c.N[i].c,Y la (Q c.N[i].M) lc,ζ ⟨ν c.N[i].text⟩,U c.N[i].n,U c.N[i].ty,U c.N[i].at'] 93) g j l)=>p.eu af a8.1 W ε ε;have b2:=H.ok.tx c.N[i]<|mQ x;have D:Hid (∀j l,aJ b a _ g j l->_):=λj l p=>qK (w:=σ w<|γ #[U 0,.int Φ 0,ζ ⟨#[]⟩,υ none] 135) (w':=j) (g':=l) (kd:=c.N[i].x) (va:=c.N[i].a) (vb:=c.N[i].b) (vc:=c.N[i].c) (lv:=Y la (Q c.N[i].M) lc) (tx:=⟨ν c.N[i].text⟩) (vn:=c.N[i].n) (vt:=c.N[i].ty) (vp:=c.N[i].at') (n.y<|I.alloc _ _ _) p;have ai:=hV.at r0 hz L (M4 (a6.k2 W).1) (P8<|by rw[<-o];omega);have ak:=M4 (a6.k2 W).2;have P:=O ai;have HV:=O hV;have ad:=O ak;have a9:=O a7;have ac:=O L;have ab:=O (λ(d:Gh) (hp:g.sb<+:d.sb)=>N8 hp (o:=q) λau F=>by rw[n.sl];exact L au F);have B:=O ag;have R0:=O r0;have M:=O o;have b0:(i:Int)<(Q c.N:Int):=W;rw[v]at x0;rw[v]at P N B R0 D;generalize pad g.sb q=ps at*;generalize c.N[i]=nd at*;obtain⟨kd,va,vb,vc,ls,tx,vn,vt,vp⟩:=nd;simp only at*;subst v;clear H n o a7 a6 S ho af ap ag r0 L a8 hV ai ak;go_in;go_wp2_with fail;refine P.u.mono ?_;rintro F j hq;obtain⟨al,rfl,t⟩|⟨ay,s2,l,am,rfl,e1,-,Z,A,a4,u,rfl,hu,rfl⟩:=RP.cut (K':=Kv) (λax=>(rn c.N (aR c) G k (.v vb) q).bd λy=>(mY (i:Int) (r1 ax)<|r1 y).bd λaw=>aF [aw]) hq
 .exact⟨K,by rw[M.u];exact(t.pre B.u<|Gr.refl _).more W⟩
 have hM:r1 [u]=u:=K;have a5:=M.u;rw[e1,hM]at a5;have T:=I.alloc No j<|γ #[U u.g,.int Φ u.n,ζ ⟨ν u.t⟩,υ<|pad l.tb u.h] 135;have r:=Z.trans<|aJ.y (wB:=b) (mb:=a) (g:=l) T;have ah:l.ow (V j.heap)=none/\a<V j.heap:=⟨A.new<|vQ _,A.mc.2.1⟩;obtain⟨a2,a3⟩:=N.u _ l r;obtain⟨n1,n2,n3⟩:=aa.u;obtain⟨x0,x1,x2,x3,x4,x5,x6,x7,x8,xl⟩:=D.u _ l r;simp only[Ã]at x0 x1 x2 x3 x4 x5 x6 x7 x8 xl;have aj:=JF (KP:=λm=>(δ m (J (V w.heap+1) 5)=C (ζ ⟨ν tx⟩)/\V w.heap+1<V m.heap)/\δ m (J (V j.heap) 0)=C (U u.g)/\δ m (J (V j.heap) 1)=C (.int Φ u.n)/\δ m (J (V j.heap) 2)=C (ζ ⟨ν u.t⟩)/\δ m (J (V j.heap) 3)=C (υ<|pad l.tb u.h)/\(∀av,m.frozen? (J (V j.heap) av)=κ)/\V j.heap<V m.heap) (F2:=151) (args:=λam=>#[U (i:Int),bT l.tb u,am]) (op:=λy=>mY (i:Int) u y) HV.u (A.y T) hz (ac.u.gr a4) ad.u a5 a9.u (B.u.trans r) a4 a2 a3 (vQ _) W n3
  (λe d p=>by
   obtain⟨-,-,-,-,-,z5,-,-,-,zl⟩:=D.u e d<|r.trans p;simp only[Ã]at z5 zl;exact⟨⟨z5,zl⟩,eU (p.eu (rY j _) ah.1 W ε ε).1<|I.refl No _⟩)
  (λm s3 g3 y r3 ao an hy=>by
   have ar:=(wR an.tb hu A.tl).1.symm;have hx:=KN r3 (i:Int) (hu.gr ao) hy;rw[<-ar]at hx;exact hx);have R:=O aj;rw[ab.u l Z.sb]at R;have az:=rY j<|γ #[U u.g,.int Φ u.n,ζ ⟨ν u.t⟩,υ<|pad l.tb u.h] 135;clear hq e1 Z A a4 hu a5 P hM r T ah aj HV ad a9 ac ab D N aa R0 B M a2 a3 n1 n2 n3;unfold bT at R⊢;go_wp2_with fail;go_region_with (first|(go_at_call 61;refine(R.u _<|I.drewN No _ 1).mono ?_;rintro F m (⟨al,rfl,t⟩|⟨ug,un,ut,up,rfl,⟨⟨t1,t2⟩,t3,t4,t5,t6,t7,t8⟩,T6⟩);exact⟨K,t⟩)|(go_at_call 151;refine(T6.u _<|I.refl _ _).mono ?_;rintro F b7 (⟨al,rfl,t⟩|⟨vg,b4,b6,b5,rfl,y0,y1,y2,y3,yz,yl,E4⟩);exact⟨K,t⟩));all_goals go_wp2_with fail
 all_goals refine ä (by simp[â,Õ,go_sem,y0,y1,y2,y3];rfl) K ?_
 all_goals exact E4.u
def AQ{k}(n:fJ b c pb f h):CE b a pb gq G c (iB c 5) λi y=>rn c.N (aR c) G (k+1) (.e i) y:=by
 intro w s g z y i j af a8 hi H;obtain⟨a6,ae,o⟩:=hi;obtain⟨i,rfl⟩:=î a6;have p:i<Q c.N:=W;rw[B7 p]at o;have a5:=n.ok.ew i p;obtain⟨R,l⟩:∃R,R=rn c.N (aR c) G (k+1) (.e i) y s:=⟨_,K⟩;simp only[<-l]at H⊢;rw[mZ]at l;simp only[B7 p,o]at l;simp at l;obtain⟨fz,lt,m0,m1,m2,m3,m4⟩:=j.mc;obtain⟨gn,nc,N,P,q0,q1,q2,q3,q4,q5,⟨x0,x1,x2,x3,x4,x5,x6,x7,x8⟩,ho⟩:=n.node j p;obtain⟨v,a4,m⟩:=iT w (γ #[U 0,.int Φ 0,ζ ⟨#[]⟩,υ none] 135)<|γ #[U c.N[i].x,U c.N[i].a,U c.N[i].b,U c.N[i].c,Y N (Q c.N[i].M) P,ζ ⟨ν c.N[i].text⟩,U c.N[i].n,U c.N[i].ty,U c.N[i].at'] 93;have x:=aJ.y (wB:=b) (mb:=a) (g:=g) m;have t:=j.y m;have q:g.ow (V w.heap)=none/\a<V w.heap/\V b.heap<=V w.heap:=⟨j.new<|vQ _,j.mc.2.1,j.P.size⟩;have Z:=O q;have a2:=λab g2 (hf:aJ b a (σ (w.alloc<|γ #[U 0,.int Φ 0,ζ ⟨#[]⟩,υ none] 135)<|γ #[U c.N[i].x,U c.N[i].a,U c.N[i].b,U c.N[i].c,Y N (Q c.N[i].M) P,ζ ⟨ν c.N[i].text⟩,U c.N[i].n,U c.N[i].ty,U c.N[i].at'] 93) g ab g2)=>hf.eu v q.1 W ε ε;have L:=Dv n.ok p<|.inl o;have F:∀r,I No b r->(Instr.lookup 46 (.map<|C f) (U i) κ).run η r=.ok (U<|aR c i) r:=λr hW=>(n.names.P hW λad=>ad).get i (by have:=n.ok.fp;omega);obtain⟨j0,j1,e0,D,B⟩:=YN (P8<|by rw[<-l];omega);subst e0;have u:=l;rw[J0 B]at u;have M:=(Zc t L D).mono λa3 ac a7=>Bz v q.1 (vQ _) W q.2.2 x t (Gr.refl _) u a7;have A:=O M;have l0:=F _<|B6 j.P m;have aa:=A4 m q2;have a9:=A4 m m0;have T:=O x;have R0:=O t;have HR:=O l;rw[o]at x0;rw[o]at A l0 aa a9;clear u M F D B;generalize aR c i=xn at*;generalize pad g.sb (C j0)=ps at*;generalize c.N[i]=nd at*;obtain⟨kd,va,vb,vc,ls,tx,vn,vt,vp⟩:=nd;simp only at*;subst o;clear n j l H a5 m ho v a4 x t a8 q L a2 Z R0 T HR;go_in;go_wp2_with fail;refine A.u.mono ?_;rintro a3 ac (⟨ag,rfl,hh⟩|⟨vg,ah,aj,ai,rfl,y0,y1,y2,y3,yz,yl,S⟩)
 .exact⟨K,hh⟩
 go_wp2;refine ä (by simp[â,Õ,go_sem,y0,y1,y2,y3];rfl) K ?_;exact S.u
end
