/-
  A part of the proof.
-/
import Derived.Test.YteocidgdmjaffaaGreatDoorRunG
set_option maxHeartbeats 0
set_option linter.all false
set_option maxRecDepth 100000
namespace Go.Proofs.YteocidgdmjaffaaGreatDoor
open Go.Proofs.Tryz
open Go.RowKit Go.Maps
theorem mO{N:List C}{d:Int->Int}{G:Int->Option Int}{b}{g u n w}{s m}(h:jY N d G b=some (g,u,s))(j:jY N d (λ_=>none) b=some (n,w,m)):m.ev=[]/\n≠2/\(g=2->s.ln<+:m.ln)/\(g≠2->s.ln=m.ln/\g=n/\u=w):=by
 have c:=(Vm (N:=N) (nm:=d) G (8*b+20) (.b (N.length-1)) none).2 (fC b) (fC b) ⟨rfl,rfl,rfl⟩;have k:=TA (N:=N) (nm:=d) (λ_=>none) (8*b+20) (.b (N.length-1)) none (fC b) (λp z=>by cases z);unfold jY at h j;generalize rn N d G (8*b+20) (.b (N.length-1)) none (fC b)=R at*;generalize rn N d (λ_=>none) (8*b+20) (.b (N.length-1)) none (fC b)=q at*;have o:∀l:List (Int×Int),(∀p∈l,∃t,(none:Option Int)=some t/\bits BinOp.and .i64 p.2 t≠0)->l=[]:=λl y=>by
  cases l with
  |nil=>rfl
  |cons p r=>obtain⟨t,e,_⟩:=y p (by simp);grind
 cases R with
 |stk=>grind
 |back v t=>grind
 |ok a t=>
  cases h;cases q with
  |ok x f=>cases j;exact⟨o _ k,by decide,λe=>absurd e (by decide),λ_=>⟨c.2.2.2,rfl,rfl⟩⟩
  |stk=>grind
  |over e i f=>grind
  |back v f=>grind
 |over e i t=>
  cases h;cases q with
  |ok x f=>
   cases j;refine⟨o _ k,by decide,λe=>?_,λe=>?_⟩
   .obtain⟨_,c⟩|c:=c
    .exact c
    grind
   grind
  |stk=>grind
  |over A B f=>
   cases j;refine⟨o _ k.1,λe=>?_,λe=>?_,λe=>?_⟩
   .obtain⟨t,e⟩:=k.2 e;grind
   .obtain⟨_,c⟩|c:=c
    .exact c
    grind
   grind
  |back v f=>grind
def Kt{l}{n}{c p a s j v b t}{f g}{w m}(h:AB l (jU l) (qC 2) n c p a s f w)(k:AB l (jU l) (qC 1) n j v b t g m):j=c/\v=p/\(c=0->m=[]/\b≠2/\(a=2->f<+:g)/\(a≠2->g=f/\b=a/\t=s)):=by
 obtain⟨h,o⟩|⟨rfl,rfl,N,T,r,u,y,q,D,rfl,rfl⟩:=h
 .obtain⟨k,d⟩|⟨rfl,rfl,N,T,r,u,y,e,x,rfl,rfl⟩:=k
  .obtain⟨rfl,rfl⟩:=o.one d;omega
  .exact absurd o e.not
 .obtain⟨k,d⟩|⟨rfl,rfl,z,A,F,G,H,e,x,rfl,rfl⟩:=k
  .exact absurd d q.not
  .obtain⟨rfl,rfl,rfl,rfl⟩:=q.one e;have B:fW (qC 1 (bM N T r) u)=λ_=>none:=by funext i;rfl
   grind[mO]
def runBare_any(s)(n)(w)(hs:s.size<=maxLen)(ht:Tbl w):Calls prog 4 #[.string s,U n] w λe w'=>e=.returned (.bool true)/\Below w.heap.size w w':=by
 have HP:=O (TL w ht);have q:=O PQ;have r:=O (λaj ha ai (hw:ai=1\/ai=2)=>(ES s aj hs ha hw (kQ (VA n) (by omega))).mono λ_ _=>tX.qd);have HT:=O ht;go_in;go_wp2_with fail;refine HP.u.mono ?_;rintro e aq ⟨rfl,a9⟩;have l:=O a9;have t:=O (HT.u.below a9 (vQ _));go_wp2_with fail;refine(q.u aq n).mono ?_;rintro e ax ⟨rfl,rfl⟩;go_wp2_with fail;refine(r.u _ t.u 2 (.inr rfl)).mono ?_;rintro e N ⟨B,er,af,i,L,ln,ev,la,lc,ea,ec,ab,rfl,f,g⟩;have m:=O (l.u.trans (B.mono l.u.size));have R:=O (JN (er:=er) (p:=af) (en:=i) (nd:=L) f g);have a8:=O (((t.u.below B (vQ _)).below (CI N (.cells #[.slice la ln.length lc,U i,U L,.slice ea ev.length ec] 32)) (vQ _)).below (CI _ (.cells #[U er,U af] 26)) (vQ _));have V:=O ab;clear B f g ab t l;go_wp2_with fail;refine(q.u _ n).mono ?_;rintro e ay ⟨rfl,rfl⟩;go_wp2_with fail;refine(r.u _ a8.u 1 (.inl rfl)).mono ?_;rintro e ah ⟨aa,d,M,j,ae,ap,v,an,ao,ak,al,ad,rfl,f,g⟩;obtain⟨rfl,rfl,H⟩:=Kt V.u ad;have D:=OU aa;have S:=O (JN (er:=d) (p:=M) (en:=j) (nd:=ae) f g);have ac:=m.u.size;have o:=O (m.u.trans (I.ek (B6 (B6 (I.alloc No N (.cells #[.slice la ln.length lc,U i,U L,.slice ea ev.length ec] 32)) (I.alloc _ _ (.cells #[U d,U M] 26))) D) (λ_ _ x=>x.elim) ac));have F:=B6 (I.alloc No ah (.cells #[.slice an ap.length ao,U j,U ae,.slice ak v.length al] 32)) (I.alloc _ _ (.cells #[U d,U M] 26));obtain⟨a0,a1,a2,a3,a4,a5,a6,ag,r2⟩:=R.u _ (B6 D F);obtain⟨b0,b1,b2,b3,b4,b5,b6,q1,q2⟩:=S.u _ (I.refl _ _);have c:=O (o.u.trans (I.ek F (λ_ _ x=>x.elim) o.u.size));have Z:=O ag;have W:=O q1;have h:=O H;clear aa f g ad V R S r q a8 HT ag r2 q1 q2 H D F m o ac;by_cases he:d=0
 .subst he;obtain⟨h1,y,z,A⟩:=h.u rfl;have am:v.length=0:=by rw[h1];rfl
  clear h1;generalize v.length=aw at*;subst am;have av:(j==2)=false:=by simpa using y
  by_cases G:i=2
  .subst G;have T:=O (λu (a:I No _ u)=>Ew u (z rfl) (A3 Z.u a (λ_ _ x=>x)) (A3 W.u a (λ_ _ x=>x)));clear z A h y;go_wp2_with fail;refine(T.u _ (I.refl _ _)).mono ?_;rintro e k ⟨rfl,b⟩;have p:=O (c.u.trans (I.ek b (λ_ _ x=>x.elim) c.u.size));clear b T;go_wp2;go_ret;exact⟨rfl,p.u⟩
  .obtain⟨rfl,rfl,rfl⟩:=A G;have au:(j==2)=false:=by simpa using G
   have a7:=O (λu (a:I No _ u)=>UU u (List.prefix_refl _) (A3 Z.u a (λ_ _ x=>x)) (A3 W.u a (λ_ _ x=>x)));have P:=O (λu (a:I No _ u)=>And.intro (A4 a a1) (And.intro (A4 a a2) (And.intro (A4 a b1) (And.intro (A4 a b2) (And.intro (yQ a6 a.size) (yQ b6 a.size))))));clear z A h y;go_wp2_with fail;refine(a7.u _ (I.refl _ _)).mono ?_;rintro e k ⟨rfl,b⟩;obtain⟨y1,y2,z1,z2,l1,l2⟩:=P.u k b;have l3:N.heap.size<k.heap.size:=by omega
   have l4:ah.heap.size<k.heap.size:=by omega
   have p:=O (c.u.trans (I.ek b (λ_ _ x=>x.elim) c.u.size));clear b a7 P;go_wp2;go_ret;exact⟨rfl,p.u⟩
 .have ar:(d==0)=false:=by simpa using he
  clear h;go_wp2;go_ret;exact⟨rfl,c.u⟩
