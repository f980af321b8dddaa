/-
  A part of the proof.
-/
import Derived.Test.YtjhlphgdgpebfaaGreatDoorElC
set_option maxHeartbeats 0
set_option linter.all false
set_option maxRecDepth 100000
namespace Go.Proofs.YtjhlphgdgpebfaaGreatDoor
open _root_.Array renaming size->V
open Go renaming Calls->μ,cell_of_row->á,frozen_of_row->ã
open Obj renaming cells->γ
open Value renaming slice->Y,string->ζ
open World renaming ownsRow->ξ,cell?->δ
open List renaming length->Q,prefix_refl->í
open Option renaming some->C
open Go.Proofs.Tryz
open Go.RowKit Go.Maps
def FL:∀(l) (j) (h),(jN l)[j*2]?=C (U l[j].1)/\(jN l)[j*2+1]?=C (U l[j].2):=TB
def A1b(w:E){s t}{h m c f}{i n d g}{l}{b}{en nd}(R:ξ w s 9 1 (Y h (Q l) i) (Q l)<|strs l)(S:ξ w t 9 1 (Y m (Q l) n) (Q l)<|strs l)(T:ξ w s 50 2 (Y c (Q b) d) (Q b)<|jN b)(Z:ξ w t 50 2 (Y f (Q b) g) (Q b)<|jN b):
 μ prog 10 #[.agg #[Y h (Q l) i,U en,U nd,Y c (Q b) d],.agg #[Y m (Q l) n,U en,U nd,Y f (Q b) g]] w λe w'=>e=.returned (.bool true)/\I No w w':=by
 have y:=B6 (I.alloc No w<|γ #[Y h (Q l) i,U en,U nd,Y c (Q b) d] 26)<|I.alloc _ _<|γ #[Y m (Q l) n,U en,U nd,Y f (Q b) g] 26;have q:=rY w<|γ #[Y h (Q l) i,U en,U nd,Y c (Q b) d] 26;have H:Hid (∀a,I No ((w.alloc<|γ #[Y h (Q l) i,U en,U nd,Y c (Q b) d] 26).alloc<|γ #[Y m (Q l) n,U en,U nd,Y f (Q b) g] 26) a->(δ a (J (V w.heap) 1)=C (U en)/\δ a (J (V w.heap) 2)=C (U nd)/\δ a (J (V w.heap) 3)=C (Y c (Q b) d))/\(δ a (J (V w.heap+1) 1)=C (U en)/\δ a (J (V w.heap+1) 2)=C (U nd)/\δ a (J (V w.heap+1) 3)=C (Y f (Q b) g))/\V w.heap+1<V a.heap/\ξ a s 50 2 (Y c (Q b) d) (Q b) (jN b)/\ξ a t 50 2 (Y f (Q b) g) (Q b) (jN b)/\I No w a):=λa M=>by
  have hu:=World.size_alloc w<|γ #[Y h (Q l) i,U en,U nd,Y c (Q b) d] 26;have a4:=I.alloc No w<|γ #[Y h (Q l) i,U en,U nd,Y c (Q b) d] 26;generalize w.alloc (γ #[Y h (Q l) i,U en,U nd,Y c (Q b) d] 26)=u at*;have N:=B6 (I.alloc No u<|γ #[Y m (Q l) n,U en,U nd,Y f (Q b) g] 26) M;have P:=(aG q);have b2:=rY u<|γ #[Y m (Q l) n,U en,U nd,Y f (Q b) g] 26;have r:=(N.block _ P λx=>x).trans q;have o:=(M.block _ ι λx=>x).trans b2;rw[hu]at o;have k:=B6 a4 N;exact⟨⟨(á _ _ 1 _ _ _ r).trans K,(á _ _ 2 _ _ _ r).trans K,(á _ _ 3 _ _ _ r).trans K⟩,⟨(á _ _ 1 _ _ _ o).trans K,(á _ _ 2 _ _ _ o).trans K,(á _ _ 3 _ _ _ o).trans K⟩,(aG o),A3 T k λ_ _ x=>x,A3 Z k λ_ _ x=>x,k⟩
 have L:=O<|SJ _ (í l) (A3 R y λ_ _ x=>x)<|A3 S y λ_ _ x=>x;clear R S T Z q y;go_in;go_wp2_with fail;refine L.u.mono ?_;rintro e G ⟨rfl,k⟩;obtain⟨⟨x1,x2,x3⟩,⟨y1,y2,y3⟩,P,_⟩:=H.u G k;have ad:V w.heap<V G.heap:=W;have HC:=O k;clear k L;go_wp2_with fail;go_loopw [5] (λv wr=>∃j:Nat,j<=Q b/\v=U (j:Int)/\Hid (I No G wr)) (λv _=>Q b-(intOf v).toNat);case atStart=>exact⟨0,wQ _,K,I.refl _ _⟩
 case round=>
  clear x1 x2 x3 y1 y2 y3;obtain⟨j,hj,rfl,CR⟩:=hrel;obtain⟨⟨x1,x2,x3⟩,⟨y1,y2,y3⟩,ac,D,F,z⟩:=H.u wr<|B6 HC.u CR.u;have ae:V w.heap<wr.heap.size:=W;by_cases p:j<Q b
  .obtain⟨g1,e1,-,a9,a7,a2,A⟩:=D5 D W;obtain⟨g2,e2,-,aa,a8,a3,B⟩:=D5 F W;subst e1 e2;have u0:=A (j*2) _ (FL b j p).1;have u1:=A (j*2+1) _ (FL b j p).2;have v0:=B (j*2) _ (FL b j p).1;have v1:=B (j*2+1) _ (FL b j p).2;unfold maxLen at a2 a3;have ab:(j:Int)<(Q b:Int):=W;clear A B D F z;generalize b[j].1=a at*;generalize b[j].2=a6 at*;go_wp2_with fail;go_quiet (fail);go_wp2_with fail;exact⟨⟨j+1,W,ç,B6 CR.u<|I.drewN _ _ _⟩,by simp[intOf];omega⟩
  .have a5:j=Q b:=W;subst a5;have HW:=O z;clear z D F;go_wp2;go_ret;exact⟨K,HW.u⟩
def Yv{s}{w}{A}{F:Int->Int->Prop}{h:Nat}(a6:h<=100000)(z:∀k,I No w k->μ prog 11 #[ζ s,U A] k λe a=>Below (V k.heap) k a/\∃b p,b≠0/\F b p/\e=.returned (.tuple #[sN,.agg #[U b,U p]])):
 μ prog 6 #[ζ s,U A,U h] w λe w'=>Below (V w.heap) w w'/\∃b p,b≠0/\F b p/\e=.returned (.tuple #[.agg #[sN,U 0,U 0,sN],.agg #[U b,U p]]):=by
 obtain⟨c,S⟩:∃o,o=γ #[sN,U 0,U 0,sN] 26:=⟨_,K⟩;obtain⟨d,T⟩:∃o,o=γ #[U 0,U 0] 29:=⟨_,K⟩;have r:((w.alloc c).alloc d).heap[V w.heap]?=C c:=((I.alloc No (w.alloc c) d).block _ ι λx=>x).trans<|rY w c;have t:((w.alloc c).alloc d).heap[V w.heap+1]?=C d:=by simpa using rY (w.alloc c) d
 have m:I No w ((w.alloc c).alloc d):=B6 (I.alloc _ _ _)<|I.alloc _ _ _;have q:=O<|z _ m;have n:Hid (∀a,Below (V ((w.alloc c).alloc d).heap) ((w.alloc c).alloc d) a->a.heap[V w.heap]?=C c/\a.heap[V w.heap+1]?=C d/\Below (V w.heap) w a/\V w.heap+2<=V a.heap):=λa i=>
  ⟨(i.block _ à).trans r,(i.block _ ι).trans t,(m.ep (λ_ _ x=>x.elim)<|vQ _).trans<|i.mono à,by have:=i.size;simp at this;omega⟩;have a5:(h:Int)<=100000:=W;have a4:¬(h:Int)<0:=W;subst S T;clear z r t m;go_in;go_wp2_with fail;refine q.u.mono ?_;clear q;rintro e a ⟨u,b,p,y,hF,rfl⟩;obtain⟨l,g,bl,bs⟩:=n.u a u;have f:∀j v,#[Y none 0 0,U 0,U 0,sN][j]?=C v->δ a (J (V w.heap) j)=C v:=λj v e=>(á _ _ j _ _ _ l).trans e;have H:δ a (J (V w.heap) 0)=C (sN):=f 0 _ K;have L:δ a (J (V w.heap) 1)=C (U 0):=f 1 _ K;have M:δ a (J (V w.heap) 2)=C (U 0):=f 2 _ K;have N:δ a (J (V w.heap) 3)=C (sN):=f 3 _ K;have P:δ a (J (V w.heap+1) 0)=C (U 0):=á _ _ 0 _ _ _ g;have R:δ a (J (V w.heap+1) 1)=C (U 0):=á _ _ 1 _ _ _ g;have dz:∀o,a.frozen? (J (V w.heap) o)=false:=λo=>ã _ _ o _ _ l;have ez:∀o,a.frozen? (J (V w.heap+1) o)=false:=λo=>ã _ _ o _ _ g;have Z:V w.heap<V a.heap:=W;have a2:V w.heap+1<V a.heap:=W;have a3:(b==0)=false:=by simp[y]
 have B:=O bl;have G:=O hF;clear n u l g bl f hF;go_wp2_with fail;go_region;all_goals go_wp2
 all_goals have D:=O (MT B.u W (sN) (U 0) (U 0) (sN) (U b) (U p)<|γ #[U b,U p] 29)
 all_goals exact bodyPost_ret (v:=.tuple #[.agg #[sN,U 0,U 0,sN],.agg #[U b,U p]]) (by simp[results,results6,go_sem,H,L,M,N,P,R,Z,a2]) K ⟨D.u,b,p,y,G.u,K⟩
def Ht(l:bZ)(a b p:Int):Prop:=iX l b p\/((a≠1/\a≠2/\a≠3)/\b=7/\p=0/\∃N T c d,fQ l N T c d)
def UW(a:Int):Cx->Of->List (Int×Int):=if a=3 then rV else uH a
def PO(l:bZ)(a:Int)(h:Nat)(b p f j:Int)(i:List bZ)(g:List<|Int×Int):Prop:=
 (b≠0/\Ht l a b p)\/((a=1\/a=2\/a=3)/\b=0/\p=0/\∃N T c e d,fQ l N T c e/\jL N (aR<|aQ N T c) (gK<|UW a (aQ N T c) e) h=C (f,j,d)/\i=d.ln/\g=d.ev)
def NZ(l:bZ)(w:E)(n:Int)(m:Nat)(e:Ending)(c:E):Prop:=Below (V w.heap) w c/\∃h p g k b a i j d f,PO l n m h p g k b a/\e=.returned (.tuple #[.agg #[Y i (Q b) j,U g,U k,Y d (Q a) f],.agg #[U h,U p]])/\
 ξ c (V w.heap) 9 1 (Y i (Q b) j) (Q b) (strs b)/\ξ c (V w.heap) 50 2 (Y d (Q a) f) (Q a) (jN a)
def wF.q8{l}{w}{a}(s:a=1\/a=2\/a=3){d}{e}{f}(h:wF l w (iX l) (UW a) d e f):NZ l w a d e f:=by
 obtain⟨o,k,p,j,x,v,m,t,u,g,i,r,q,y,z⟩:=h;refine⟨o,k,p,j,x,v,m,t,u,g,i,?_,q,y,z⟩;obtain⟨b,c⟩|⟨b,c,n⟩:=r
 .exact .inl ⟨b,.inl c⟩
 .exact .inr ⟨s,b,c,n⟩
def Fj(s)(w)(m:s.size<=maxLen)(u:Tbl w)(g){fu:Nat}(l:fu<=100000):μ prog 6 #[ζ s,U g,U fu] w (NZ s.data.toList w g fu):=by
 by_cases o:g=1
 .subst o;exact(IG s w m u (.inl K) l).mono λ_ _ h=>wF.q8 (.inl K) h.pd
 by_cases q:g=2
 .subst q;exact(IG s w m u (.inr K) l).mono λ_ _ h=>wF.q8 (.inr<|.inl K) h.pd
 by_cases r:g=3
 .subst r;exact(Ff s w m u l).mono λ_ _ h=>wF.q8 (.inr<|.inr K) h
 refine(Yv (F:=Ht s.data.toList g) l λf _=>(Ua (P:=λ_ _ _ b p k=>Below (V f.heap) f k/\((iX s.data.toList b p/\b≠0)\/(b=0/\∃N T v y,fQ s.data.toList N T v y))) ⟨o,q,r⟩ λk j _=>(zN s k m).mono ?_).mono ?_).mono ?_
 .have z:Below (V f.heap) f k:=j.ep (λ_ _ x=>x.elim)<|vQ _;rintro e S ⟨c,⟨b,p,d,rfl⟩|⟨N,T,v,y,M,L,t,rfl,_⟩⟩
  .exact⟨_,_,_,b,p,K,c,z.trans<|c.mono j.size,.inl ⟨d,d.1⟩⟩
  .exact⟨_,_,_,0,0,K,c,z.trans<|c.mono j.size,.inr ⟨K,N,T,v,y,t⟩⟩
 .rintro e H ⟨P,n,R,b,p,k,B,G,⟨c,A⟩,j,F,rfl⟩;refine⟨c.trans<|j.ep (B:=V f.heap) (λi _ (x:i=f.heap.size)=>W) c.size,B,G,?_⟩;obtain⟨a,rfl,rfl⟩|⟨a,rfl,rfl⟩:=F
  .obtain⟨d,_⟩|⟨e,_⟩:=A
   .exact⟨a,.inl d,K⟩
   .exact absurd e a
  .obtain⟨_,d⟩|⟨_,t⟩:=A
   .exact absurd a d
   .exact⟨ε,.inr ⟨⟨o,q,r⟩,K,K,t⟩,K⟩
 .rintro e H ⟨D,b,p,a,hF,rfl⟩;exact⟨D,b,p,0,0,[],[],none,0,none,0,.inl ⟨a,hF⟩,K,kW _ _ _ _,kW _ _ _ _⟩
def longer{N}{g}{G}{c d}{k q p r}{s l}(h:jL N g G c=C (k,q,s))(f:jL N g G (c+d)=C (p,r,l)):(k=4->s.ln<+:l.ln)/\(k≠4->l.ln=s.ln/\p=k/\r=q/\l.ev=s.ev):=by
 have b:=(C5e (N:=N) (nm:=g) G d (8*c+20) (8*(c+d)+20) (.b<|(Q N:Int)-1) none W).2 (eK c) (eK<|c+d) ⟨K,K,K,K⟩;unfold jL at h f;generalize rn N g G (8*c+20) (.b<|(Q N:Int)-1) none (eK c)=R at*;generalize rn N g G (8*(c+d)+20) (.b<|(Q N:Int)-1) none (eK<|c+d)=o at*;cases R with
 |stk=>cases h
 |back v t=>cases h
 |ok a t=>
  cases h;cases o with
  |ok u j=>cases f;exact⟨λe=>absurd e ε,λ_=>⟨b.2.2.2.1.symm,K,K,b.2.2.2.2.symm⟩⟩
  |stk=>cases f
  |over e i j=>exact b.elim
  |back v j=>cases f
 |over e i t=>
  cases h;cases o with
  |ok u j=>
   cases f;obtain⟨m,b⟩|b:=b
   .exact⟨λ_=>b,λn=>absurd m n⟩
   .exact b.elim
  |stk=>cases f
  |over w x j=>
   cases f;obtain⟨m,b⟩|b:=b
   .exact⟨λ_=>b,λn=>absurd m n⟩
   .exact⟨λ_=>by rw[b.2.2.2.2.1];exact í _,λ_=>⟨b.2.2.2.2.1.symm,b.1,b.2.1,b.2.2.2.2.2.symm⟩⟩
  |back v j=>cases f
def Mq{l}{A}{v d}{g p f y j r s z}{n o}{t u}(h:PO l A v g p f y n t)(k:PO l A (v+d) j r s z o u):j=g/\r=p/\(g=0->(f=4->n<+:o)/\(f≠4->o=n/\s=f/\z=y/\u=t)):=by
 obtain⟨h,b⟩|⟨F,rfl,rfl,N,T,m,q,G,i,D,rfl,rfl⟩:=h
 .obtain⟨k,a⟩|⟨x,rfl,rfl,N,T,m,q,G,c,w,rfl,rfl⟩:=k
  .refine And.imp_right (λe=>⟨e,λB=>absurd B h⟩) (?_:j=g/\r=p);obtain b|⟨_,rfl,rfl,N,T,m,q,i⟩:=b
   .obtain a|⟨_,rfl,rfl,N,T,m,q,c⟩:=a
    .obtain⟨rfl,rfl⟩:=b.one a;exact⟨K,K⟩
    .exact absurd b c.not
   .obtain a|⟨_,rfl,rfl,_⟩:=a
    .exact absurd a i.not
    .exact⟨K,K⟩
  .obtain b|⟨F,_⟩:=b
   .exact absurd b c.not
   .omega
 .obtain⟨k,a⟩|⟨x,rfl,rfl,H,L,M,P,R,c,w,rfl,rfl⟩:=k
  .obtain a|⟨x,_⟩:=a
   .exact absurd a i.not
   .omega
  .obtain⟨rfl,rfl,rfl,rfl⟩:=i.one c;exact⟨K,K,λ_=>longer D w⟩
def runLonger_any(s)(h n m)(w)(M:s.size<=maxLen)(N:Tbl w):μ prog 4 #[ζ s,U h,U n,U m] w λe w'=>e=.returned (.bool true)/\Below (V w.heap) w w':=by
 have HP:=O<|YS w N;have i:=O VB;have hn:=JL n;have hm:=JL m;have HR:=O (λa (A:Tbl a)=>Fj s a M A h (fu:=kV n) W);have a9:Hid (∀a,Tbl a->μ prog 6 #[ζ s,U h,U<|(kV n:Int)+(kV m:Int)] a (NZ s.data.toList a h<|kV n+kV m)):=λa A=>by
  have:=Fj s a M A h (fu:=kV n+kV m) W;rw[Int.natCast_add]at this;exact this
 have HT:=O N;have ay:(kV n:Int)<=20000:=W;have ax:(kV m:Int)<=20000:=W;clear M N;go_in;go_wp2_with fail;refine HP.u.mono ?_;rintro e aq ⟨rfl,B⟩;have o:=O B;have v:=O<|HT.u.below B<|vQ _;clear B HP;go_wp2_with fail;refine(i.u aq n).mono ?_;rintro e az ⟨rfl,rfl⟩;go_wp2_with fail;refine(HR.u _ v.u).mono ?_;rintro e aj ⟨D,er,ag,k,P,ln,ev,la,lc,ea,ec,ad,rfl,f,g⟩;have p:=O<|o.u.trans<|D.mono o.u.size;have T:=O<|KB (er:=er) (p:=ag) (en:=k) (nd:=P) f g;have ab:=O<|((v.u.below D<|vQ _).below (Y9 aj<|γ #[Y la (Q ln) lc,U k,U P,Y ea (Q ev) ec] 26)<|vQ _).below (Y9 _<|γ #[U er,U ag] 29)<|vQ _;have a8:=O ad;clear D f g ad v o;go_wp2_with fail;refine(i.u _ n).mono ?_;rintro e b7 ⟨rfl,rfl⟩;go_wp2_with fail;refine(i.u _ m).mono ?_;rintro e b8 ⟨rfl,rfl⟩;go_wp2_with fail;refine(a9.u _ ab.u).mono ?_;rintro e ar ⟨ac,c,S,l,R,ap,am,an,ao,ak,al,af,rfl,f,g⟩;obtain⟨rfl,rfl,H⟩:=Mq a8.u af;have F:=Bv ac;have Z:=O<|KB (er:=c) (p:=S) (en:=l) (nd:=R) f g;have ae:=p.u.size;have q:=O<|p.u.trans<|I.ep (B6 (B6 (I.alloc No aj<|γ #[Y la (Q ln) lc,U k,U P,Y ea (Q ev) ec] 26)<|I.alloc _ _<|γ #[U c,U S] 29) F) (λ_ _ x=>x.elim) ae;have G:=B6 (I.alloc No ar<|γ #[Y an (Q ap) ao,U l,U R,Y ak (Q am) al] 26)<|I.alloc _ _<|γ #[U c,U S] 29;obtain⟨a0,a1,a2,a3,a4,a5,a6,ah,r2⟩:=T.u _<|B6 F G;obtain⟨b0,b1,b2,b3,b4,b5,b6,q1,q2⟩:=Z.u _<|I.refl _ _;have b:=O<|q.u.trans<|I.ep G (λ_ _ x=>x.elim) q.u.size;have u:=O<|And.intro ah r2;have t:=O<|And.intro q1 q2;have j:=O H;clear ac f g af a8 T Z HR a9 i ab HT ah r2 q1 q2 H F G p q ae;by_cases he:c=0
 .subst he;obtain⟨y,z⟩:=j.u K;by_cases L:k=4
  .subst L;have a7:=O λai (hu:I No _ ai)=>ģ ai (y K) (A3 u.u.1 hu λ_ _ x=>x)<|A3 t.u.1 hu λ_ _ x=>x;clear y z j;go_wp2_with fail;refine(a7.u _<|I.refl _ _).mono ?_;rintro e au ⟨rfl,d⟩;have r:=O<|b.u.trans<|I.ep d (λ_ _ x=>x.elim) b.u.size;clear d a7;go_wp2;go_ret;exact⟨K,r.u⟩
  .obtain⟨rfl,rfl,rfl,rfl⟩:=z L;have aw:(l==4)=false:=by simpa using L
   have aa:=O<|A1b _ (en:=l) (nd:=R) u.u.1 t.u.1 u.u.2 t.u.2;clear y z j;go_wp2_with fail;refine aa.u.mono ?_;rintro e au ⟨rfl,d⟩;have r:=O<|b.u.trans<|I.ep d (λ_ _ x=>x.elim) b.u.size;clear d aa;go_wp2;go_ret;exact⟨K,r.u⟩
 .have av:(c==0)=false:=by simpa using he
  clear j;go_wp2;go_ret;exact⟨K,b.u⟩
