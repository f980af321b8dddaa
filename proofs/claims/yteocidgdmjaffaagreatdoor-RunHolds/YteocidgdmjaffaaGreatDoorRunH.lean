/-
  A part of the proof.
-/
import Derived.Test.YteocidgdmjaffaaGreatDoorRunG
set_option maxHeartbeats 0
set_option linter.all false
set_option maxRecDepth 100000
namespace Go.Proofs.YteocidgdmjaffaaGreatDoor
open Go.Proofs.Tryz
open Go.RowKit
def mB(a b:Nat):Nat->Nat
 |0=>0
 |k+1=>mB a b k+if a/2^k % 2=1/\b/2^k % 2=1 then 2^k else 0
def XX(a b):∀k,mB a b k<2^k
 |0=>by simp[mB]
 |k+1=>by
  have:=XX a b k;grind[mB,Nat.pow_succ]
def Gx(q:Nat)(h:q<128):(wrap64 q).tmod 2=((q % 2:Nat)):=by
 have e:wrap64 (q:Int)=(q:Int):=by unfold wrap64;omega
 simp_all[Int.tmod_eq_emod_of_nonneg]
def wq(a T:Nat)(b:a<128):(wrap64 (a/T)).tmod 2=((a/T % 2:Nat)):=by
 have e:a/T=((a/T:Nat):Int):=by simp
 rw[e];exact Gx (a/T) (Nat.lt_of_le_of_lt (Nat.div_le_self a T) b)
def xy(a b:Nat)(d:a<128)(f:b<128)(w:E):Calls prog 11 #[U a,U b] w λe h=>e=.returned (U (mB a b 7))/\h=w:=by
 go_in;go_wp2;go_loop [6,5] (λt o=>∃k:Nat,k<=7/\t=U ((2^k:Nat):Int)/\o=U (mB a b k:Int)) (λt _=>128-(intOf t).toNat);case atStart=>exact⟨0,wQ _,rfl,rfl⟩
 case round=>
  obtain⟨k,n,rfl,rfl⟩:=hrel;have m:=XX a b k;by_cases g:k=7
  .subst g;go_wp2;go_ret;exact⟨rfl,rfl⟩
  .have c:Hid (mB a b (k+1)=mB a b k+if a/2^k % 2=1/\b/2^k % 2=1 then 2^k else 0):=rfl;have p:2^k<=64/\1<=2^k:=by
    have:k=0\/k=1\/k=2\/k=3\/k=4\/k=5\/k=6:=by omega
    obtain rfl|rfl|rfl|rfl|rfl|rfl|rfl:=this<;>decide
   have i:Hid ((2^(k+1):Nat)=2*2^k):=by show _=_;rw[Nat.pow_succ];omega
   generalize l:2^k=T at*;generalize mB a b k=j at*;have s:=wq a T d;have u:=wq b T f;generalize a/T % 2=q at*;generalize b/T % 2=r at*;go_wp2;all_goals
    simp at*;go_round;case rel=>
     refine⟨k+1,by omega,?_,?_⟩
     .grind
     .rw[c.u];grind
    grind[intOf]
open Go.Maps
theorem MC{n}:∀{R},(∀p∈R,p.1≠n)->fW R n=none
 |[],_=>rfl
 |p::l,h=>by
  rw[fW,MC λq a=>h q (by grind)];grind
theorem VY:∀{R},(R.Pairwise λp q=>p.1<q.1)->∀p∈R,fW R p.1=some p.2
 |[],_,p,h=>by grind
 |q::l,a,p,h=>by
  rw[List.pairwise_cons]at a;obtain rfl|h:=jW.1 h
  .rw[fW,MC λx b=>by grind];simp
  .rw[fW,VY a.2 p h]
def MB{n t}:∀{R},fW R n=some t->(n,t)∈R
 |[],h=>by cases h
 |p::l,h=>by
  rw[fW]at h;cases e:fW l n with
  |some u=>rw[e]at h;cases h;exact List.mem_cons_of_mem _ (MB e)
  |none=>
   grind
def Fq(w:E){q B}{m}{l}{R}(n)(o:R.Pairwise λp q=>p.1<q.1)(W:w.cell? (J q 0)=some (.slice m R.length l))(t:w.ownsRow B 37 2 (.slice m R.length l) R.length (oA R)){r}(u:r=(fW R n).getD 0):
 Calls prog 10 #[U n,pV q] w λe N=>e=.returned (U r)/\N=w:=by
 have G:=O t;have z:=O (λp c=>VY o p c);have i:=O u;clear t o u;go_in;go_wp2;go_loop [4] (λv=>∃j:Nat,j<=R.length/\v=U j/\Hid (∀k (h:k<R.length),k<j->R[k].1≠n)) (λv=>R.length-(intOf v).toNat);case atStart=>exact⟨0,wQ _,rfl,λk _ h=>by omega⟩
 case round=>
  obtain⟨j,T,rfl,f⟩:=hrel;by_cases b:j<R.length
  .obtain⟨g,M,-,S,P,H,s⟩:=D4 G.u (by omega);subst M;have v1:=s (j*2+1) _ (xP R j b).2;have v0:=s (j*2) _ (xP R j b).1;have A:=O (z.u R[j] (mQ b));have D:Hid (R[j].1≠n->∀k (h:k<R.length),k<j+1->R[k].1≠n):=λh k a V=>by
    by_cases e:k=j
    .grind
    .exact f.u k a (by omega)
   unfold maxLen at H;generalize R[j].1=x at*;generalize R[j].2=y at*;by_cases d:x=n
   .subst d;have e:r=y:=by rw[i.u,A.u];rfl
    subst e;go_wp2;go_ret;exact⟨rfl,rfl⟩
   .have Z:(x==n)=false:=by simpa using d
    have F:=O (D.u d);go_wp2;go_round;case rel=>exact⟨j+1,by omega,by go_num,F⟩
    grind[intOf]
  .have L:j=R.length:=by omega
   subst L;have e:r=0:=by
    rw[i.u,MC λp c=>?_]
    .rfl
    .obtain⟨k,a,rfl⟩:=List.mem_iff_getElem.1 c;exact f.u k a a
   subst e;go_wp2;go_ret;exact⟨rfl,rfl⟩
def SI(l:Y)(R:List (Int×Int))(a p:Int):Prop:=(jU l a p/\R=[])\/(a=0/\p=0/\∃N T b c,gF l N T b c/\R=iJ (bM N T b) c)
def lH{N}{d}{G}{b}{f g}{s}(h:jY N d G b=some (f,g,s)):(∀p∈s.ev,∃t,G p.1=some t/\bits BinOp.and .i64 p.2 t≠0)/\(f=2->∃t,G g=some t):=by
 have c:=TA (N:=N) (nm:=d) G (8*b+20) (.b (N.length-1)) none (fC b) (λp j=>by cases j);unfold jY at h;cases e:rn N d G (8*b+20) (.b (N.length-1)) none (fC b) with
 |ok a s=>rw[e]at h c;cases h;exact⟨c,λe=>absurd e (by decide)⟩
 |over x i s=>rw[e]at h c;cases h;exact c
 |back v s=>grind
 |stk=>grind
def Mj:∀a:Fin 128,∀b:Fin 128,bits BinOp.and .i64 ((a:Nat)) ((b:Nat))≠0->mB a b 7≠0:=by decide+kernel
def A5d{l}{u}{r p o G i H}{Z}{s R}(k:SI l R i H)(h:AB l (jU l) (qC 2) u r p o G Z s):r=i/\p=H/\R.Pairwise (λp q=>p.1<q.1)/\(i=0->(∀x∈s,∃a b:Nat,x.2=a/\(fW R x.1).getD 0=b/\a<128/\b<128/\mB a b 7≠0)/\(o=2->(fW R G).getD 0≠0)):=by
 obtain⟨k,rfl⟩|⟨rfl,rfl,N,T,f,g,n,rfl⟩:=k
 .obtain⟨h,m⟩|⟨rfl,rfl,N,T,f,g,s',c,d,rfl,rfl⟩:=h
  .obtain⟨rfl,rfl⟩:=m.one k;simp_all
  .exact absurd k c.not
 .obtain⟨h,m⟩|⟨rfl,rfl,N',T',a2,a3,s',c,d,rfl,rfl⟩:=h
  .exact absurd m n.not
  .obtain⟨rfl,rfl,rfl,rfl⟩:=n.one c;obtain⟨_,w,M⟩:=n.qj;refine⟨rfl,rfl,M,λ_=>?_⟩;have L:qC 2 (bM N T f) g=iJ (bM N T f) g:=rfl;rw[L]at d;obtain⟨P,S⟩:=lH d;obtain⟨_,_,a4,B,V⟩:=VP c (gF.ok c).1 (fW (iJ (bM N T f) g)) u;rw[d]at B;cases B;refine⟨λx F=>?_,λe=>?_⟩
   .obtain⟨t,j,v⟩:=P x F;have W:=V x F;have D:=w _ (MB j);obtain⟨a,y⟩:=Int.eq_ofNat_of_zero_le (show 0<=x.2 by omega);obtain⟨b,rfl⟩:=Int.eq_ofNat_of_zero_le (show 0<=t by omega);have z:a<128:=by obtain h|h|h|h|h|h|h:=W<;>omega
    have A:b<128:=by have:=D.2.2;simp only at this;omega
    refine⟨a,b,y,by grind,z,A,?_⟩;rw[y]at v;exact Mj ⟨a,z⟩ ⟨b,A⟩ v
   .obtain⟨t,j⟩:=S e;have D:=w _ (MB j);grind
def zv(s)(w:E)(j:s.size<=maxLen):Calls prog 7 #[.string s] w λe d=>Below w.heap.size w d/\∃R b a c p,SI s.data.toList R c p/\e=.returned (.tuple #[.slice b R.length a,.agg #[U c,U p]])/\d.ownsRow w.heap.size 37 2 (.slice b R.length a) R.length (oA R):=by
 refine(GY s w j).mono ?_;rintro e d ⟨f,⟨c,p,g,rfl⟩|⟨N,T,k,l,b,a,i,rfl,h⟩⟩
 .exact⟨f,[],none,0,c,p,.inl ⟨g,rfl⟩,rfl,kW _ _ _ _⟩
 .exact⟨f,_,b,a,0,0,.inr ⟨rfl,rfl,N,T,k,l,i,rfl⟩,rfl,h⟩
def YM:∀(l) (j) (h),(jN l)[j*2]?=some (U l[j].1)/\(jN l)[j*2+1]?=some (U l[j].2):=xP
def runHolds_any(s)(aa)(w)(hs:s.size<=maxLen)(ht:Tbl w):Calls prog 3 #[.string s,U aa] w λe w'=>e=.returned (.bool true)/\Below w.heap.size w w':=by
 have HP:=O (TL w ht);have b8:=O Er;have ah:=O PQ;have HG:=O (λa=>zv s a hs);have HR:=O (λa d=>(ES s a hs d (.inr rfl) (kQ (VA aa) (by omega))).mono λ_ _=>tX.qd);have HT:=O ht;go_in;go_wp2_with fail;refine HP.u.mono ?_;rintro e bf ⟨rfl,ba⟩;have af:=O ba;go_wp2_with fail;refine(b8.u bf).mono ?_;rintro e az ⟨rfl,bb⟩;have M:=O (af.u.trans (bb.mono af.u.size));go_wp2_with fail;refine(HG.u az).mono ?_;rintro e c ⟨ao,R,g,f,q,p,au,rfl,aw⟩;have y:=O (M.u.trans (ao.mono M.u.size));have ai:=O au;have ar:=B6 (I.alloc No c (.cells #[.slice g R.length f] 23)) (I.alloc _ _ (.cells #[U q,U p] 26));have ak:=O ((HT.u.below y.u (vQ _)).P ar);have h:=yY c (.cells #[.slice g R.length f] 23);have HQ:Hid (∀a,I No ((c.alloc (.cells #[.slice g R.length f] 23)).alloc (.cells #[U q,U p] 26)) a->a.cell? (J c.heap.size 0)=some (.slice g R.length f)/\a.cell? (J (c.heap.size+1) 0)=some (U q)/\a.cell? (J (c.heap.size+1) 1)=some (U p)/\c.heap.size+1<a.heap.size/\a.ownsRow az.heap.size 37 2 (.slice g R.length f) R.length (oA R)):=λa d=>by
  have hu:=World.size_alloc c (.cells #[.slice g R.length f] 23);have aq:=I.alloc No c (.cells #[.slice g R.length f] 23);generalize c.alloc (.cells #[.slice g R.length f] 23)=u at*;have H:=B6 (I.alloc No u (.cells #[U q,U p] 26)) d;have hl:=(aI h);have F:=yY u (.cells #[U q,U p] 26);have b9:=(H.block _ hl (λx=>x)).trans h;have G:=(d.block _ (by simp) (λx=>x)).trans F;rw[hu]at G;exact⟨(cell_of_row _ _ 0 _ _ _ b9).trans rfl,(cell_of_row _ _ 0 _ _ _ G).trans rfl,(cell_of_row _ _ 1 _ _ _ G).trans rfl,(aI G),A3 aw (B6 aq H) (λ_ _ x=>x)⟩
 clear ao au aw h M HG HT ar;go_wp2_with fail;refine(ah.u _ aa).mono ?_;rintro e bp ⟨rfl,rfl⟩;go_wp2_with fail;refine(HR.u _ ak.u).mono ?_;rintro e L ⟨ap,k,t,i,l,ln,b,la,lc,W,Z,ay,rfl,o1,o2⟩;obtain⟨rfl,rfl,av,ae⟩:=A5d ai.u ay;have a5:=OU ap;have a6:=B6 (I.alloc No L (.cells #[.slice la ln.length lc,U i,U l,.slice W b.length Z] 32)) (I.alloc _ _ (.cells #[U k,U t] 26));have S:=O (JN (er:=k) (p:=t) (en:=i) (nd:=l) o1 o2);have ax:=y.u.size;have o:=O ((y.u.trans (I.ek (B6 (B6 (B6 (I.alloc No c (.cells #[.slice g R.length f] 23)) (I.alloc _ _ (.cells #[U k,U t] 26))) a5) a6) (λ_ _ x=>x.elim) ax)));have T:=O (λa (d:I No ((L.alloc (.cells #[.slice la ln.length lc,U i,U l,.slice W b.length Z] 32)).alloc (.cells #[U k,U t] 26)) a)=>HQ.u a (B6 (B6 a5 a6) d));obtain⟨a0,a1,a2,a3,a4⟩:=T.u _ (I.refl _ _);obtain⟨b0,h,F,b3,b4,b5,V,v,n⟩:=S.u _ (I.refl _ _);have P:=O ae;have aj:=O av;clear ap o1 o2 ay av ae a5 a6 y HQ HR ah ai ax a4 v n ak;by_cases he:k=0
 .subst he;obtain⟨h1,h2⟩:=P.u rfl;have z:=O h1;have A:=O h2;clear h1 h2 P;go_wp2_with fail;have B:=O (λa d=>S.u a d);have bn:=a3;have bo:=V;generalize (L.alloc (.cells #[.slice la ln.length lc,U i,U l,.slice W b.length Z] 32)).alloc (.cells #[U 0,U t] 26)=am at*;have D:Hid (∀u,I No am u->∀m r,r=(fW R m).getD 0->Calls prog 10 #[U m,pV c.heap.size] u λe w'=>e=.returned (U r)/\w'=u):=λu hu m r hr=>by
   obtain⟨x0,_,_,_,x4⟩:=T.u u hu;exact Fq u m aj.u x0 x4 hr
  have N:=O xy;clear S T aj a0 a1 a2 a3 b0 h F b3 b4 b5 V;go_loopw [10] (λab wr=>∃j:Nat,j<=b.length/\ab=U (j:Int)/\Hid (I No am wr)) (λab _=>b.length-(intOf ab).toNat);case atStart=>exact⟨0,wQ _,rfl,I.refl _ _⟩
  case round=>
   obtain⟨j,hj,rfl,CR⟩:=hrel;obtain⟨b0,h,F,b3,b4,b5,V,v,n⟩:=B.u wr CR.u;have l4:L.heap.size<wr.heap.size:=by omega
   by_cases a8:j<b.length
   .obtain⟨bg,bd,-,hg,aq,H,a7⟩:=D4 n (by omega);subst bd;obtain⟨a,an,e1,e2,d,hb,a9⟩:=z.u b[j] (mQ a8);have v1:=a7 (j*2+1) _ (YM b j a8).2;have v0:=a7 (j*2) _ (YM b j a8).1;unfold maxLen at H;have bm:(j:Int)<(b.length:Int):=by omega
    rw[e1]at v1;have b7:=O e2;have bh:((mB a an 7:Int)==0)=false:=by simp;omega
    clear a7 v n e1 e2 z A B;generalize b[j].1=x at*;go_wp2_with fail;go_quiet (first|(go_at_call 10;refine Calls.quiet_of_same (D.u _ (B6 CR.u (I.drewN _ _ _)) x _ b7.u.symm))|(go_at_call 11;refine Calls.quiet_of_same (N.u a an d hb _)));go_wp2_with fail;exact⟨⟨j+1,by omega,by go_num,B6 CR.u (I.drewN _ _ _)⟩,by grind[intOf]⟩
   .have bc:j=b.length:=by omega
    subst bc;have ag:=O (o.u.trans (I.ek CR.u (λ_ _ x=>x.elim) o.u.size));by_cases hg:i=2
    .subst hg;have a9:=A.u rfl;have al:=O (D.u wr CR.u l _ rfl);generalize (fW R l).getD 0=r at*;have be:(r !=0)=true:=by simpa using a9
     clear v n z A B D N o CR a9;go_wp2_with fail;refine al.u.mono ?_;rintro e bq ⟨rfl,rfl⟩;clear al;go_wp2;go_ret;exact⟨by rw[<-be];rfl,ag.u⟩
    .have bj:(i==2)=false:=by simpa using hg
     clear v n z A B D N o CR;go_wp2;go_ret;exact⟨rfl,ag.u⟩
 .have bi:(k==0)=false:=by simpa using he
  clear P;go_wp2;go_ret;exact⟨rfl,o.u⟩
