/-
  A part of the proof.
-/
import Derived.Test.YteocidgdmjaffaaGreatDoorScanB
import Derived.Maps.Views
import Derived.Maps.OwnOps
import Derived.DeepKeys4
import Derived.BigRegion
set_option maxHeartbeats 0
set_option linter.all false
set_option maxRecDepth 100000
namespace Go.Proofs.YteocidgdmjaffaaGreatDoor
open Go.Proofs.Tryz
open Go.RowKit Go.Maps
def Tryz.laidOut:laidOutB prog=true:=by kernel_rfl
def Tryz.nh:(222:TypeId)<prog.types.size:=of_decide_eq_true (by kernel_rfl)
def Tryz.mo:(match prog.underlying 222 with|some (.array _ _)|some (.struct _)=>true|_=>false)=true:=by kernel_rfl
theorem Tryz.np:prog.keyType 222=true:=by kernel_rfl
def zL:Keyed prog 222:=Keyed.of_law (deep_law_laid Tryz.laidOut (m:=2) (by omega) Tryz.nh (by kernel_rfl) Tryz.mo)
theorem Tryz.kr:prog.cellsOf 222=2:=by kernel_rfl
theorem Tryz.mz:prog.cellsOf 3=1:=by kernel_rfl
def kp(a b:Int):Lit:=.string (keyBytes [.int .i64 a,.int .i64 b])
def yN(a b)(f:(Lit.int .i64 a).wf=true)(g:(Lit.int .i64 b).wf=true):keyOf prog 222 (.agg #[.int .i64 a,.int .i64 b])=some (kp a b):=by
 have c:2<=prog.types.size+1:=of_decide_eq_true (by kernel_rfl);obtain⟨m,e⟩:=Nat.exists_eq_add_of_le c;have d:(Value.agg #[.int .i64 a,.int .i64 b]).formed prog 222=true:=by simp[Value.formed,underlying222,Tryz.kr]
 unfold keyOf;simp only[underlying222,Tryz.np,d,Bool.and_self,if_true];rw[e,show 2+m=m+1+1 by omega];simp_all[Program.keyLits,underlying224,underlying3,Tryz.kr,Tryz.mz,Value.cells,kp]
def yo{a b c d}(g:(Lit.int .i64 a).wf=true)(i:(Lit.int .i64 b).wf=true)(j:(Lit.int .i64 c).wf=true)(k:(Lit.int .i64 d).wf=true)(h:kp a b=kp c d):a=c/\b=d:=by
 have e:=yN a b g i;have f:=yN c d j k;rw[h]at e;have:=zL.inj e f;grind
def S8(a:Nat)(h:a<1000000000000):(Lit.int .i64 a).wf=true:=by
 grind[Lit.wf,IntKind.min,IntKind.max,IntKind.bits,IntKind.signed]
abbrev Dt:=DataW Unit
def zi:Dt:=.lit (.int .i64 0)
def fX(D:Dt)(a b:Nat):Dt:=D.atKey (kp a b) zi
def rY:Dt->Bool
 |.lit (.int _ c)=>c==0
 |_=>true
def sE(N:Nat):List (Nat×Nat):=(List.range N).flatMap λp=>(List.range N).map λq=>(p,q)
theorem YQ(N):∀l:List Nat,(l.map λ_=>N).sum=l.length*N
 |[]=>by simp
 |a::l=>by rw[xZ,List.sum_cons,YQ N l,jQ,Nat.add_mul];omega
theorem zr(N):(sE N).length=N*N:=by
 have:=YQ N (List.range N);simp_all[sE]
def Cw{N a b}(c:a<N)(d:b<N):(a,b)∈sE N:=by
 grind[sE]
def free(N:Nat)(D:Dt):Nat:=(sE N).countP λx=>rY (fX D x.1 x.2)
def PU{c:Type}{p q}:∀{l:List c} {x},(∀y∈l,q y=true->p y=true)->x∈l->p x=true->q x=false->l.countP q+1<=l.countP p
 |a::l,x,h,b,d,e=>by
  have g:l.countP q<=l.countP p:=List.countP_mono_left λy f=>h y (by grind);obtain rfl|b:=jW.1 b
  .grind
  .have:=PU (λy f=>h y (by grind)) b d e;grind
theorem OV{D:Dt}(c:IsMap D){a b:Nat}(d:Dt):fX (D.put (kp a b) d) a b=d:=atKey_put_same c (show WideAt.IsKeyLit (kp a b) from trivial) d zi
theorem GB{D}{a b p q}(c:a<1000000000000)(f:b<1000000000000)(g:p<1000000000000)(i:q<1000000000000)(d:Dt)(h:¬(p=a/\q=b)):fX (D.put (kp a b) d) p q=fX D p q:=by
 refine atKey_put_other (λe=>h ?_) d zi;have:=yo (S8 p g) (S8 q i) (S8 a c) (S8 b f) e;omega
def yy{N}(j:N<=4000){D:Dt}(i:IsMap D){a b}(c:a<N)(e:b<N)(g:rY (fX D a b)=true)(d)(k:rY d=false):free N (D.put (kp a b) d)+1<=free N D:=by
 refine PU (λy f l=>?_) (Cw c e) g (by grind[rY,fX,OV]);obtain⟨p,q⟩:=y;by_cases h:p=a/\q=b
 .grind
 .simp only[sE,List.mem_flatMap,qZ,List.mem_range,Prod.mk.injEq]at f;grind[GB]
def GQ(N:Nat)(T:List Ty)(D:Dt):Prop:=∀p q c,p<N->q<N->fX D p q=.lit (.int .i64 c)->c=0\/(p<T.length/\q<T.length/\((c=1/\D8 (tr T p) (tr T q)=true)\/(c=2/\D8 (tr T p) (tr T q)=false)))
structure fS(w:E)(mb N:Nat)(T:List Ty)(D:Dt):Prop where
 fq:N<=4000
 len:T.length<=N
 gy:GQ N T D
 isMap:IsMap D
 own:∃n,w.ownsMap prog 222 (plainElem prog 3) mb n D/\n+free N D<=N*N
theorem fS.P{S}{w w'}{e N}{T}{D}(h:fS w e N T D)(k:I S w w')(l:¬S e):fS w' e N T D:=by
 obtain⟨a,b,c,d,n,⟨g,f,i,j⟩,r⟩:=h;exact⟨a,b,c,d,n,⟨g,f,by rw[k.block e (aI i) l];omega,j⟩,r⟩
theorem fS.lt{w}{a N}{T}{D}(h:fS w a N T D):a<w.heap.size:=by
 obtain⟨n,h,_⟩:=h.own;exact h.lt
theorem fS.tag{w}{a N}{T}{D}(h:fS w a N T D):∀b e c,w.heap[a]?≠some (.cells b e c):=by
 obtain⟨n,⟨f,d,g,i⟩,r⟩:=h.own;grind
def Sf(w:E)(N)(a:N<=4000):fS (w.alloc (.map #[] 0)) w.heap.size N [] (.map []):=by
 refine⟨a,wQ _,λp q c _ _ h=>?_,isMap_empty,0,World.ownsMap_made w _ _ _,?_⟩
 .left;have:fX (.map []) p q=zi:=rfl;grind[zi]
 grind[List.countP_le_length,rY,fX,sE,zr,free]
def fS.more{w}{b N}{T}{D}(h:fS w b N T D)(j:aU T)(a)(f:(T++a).length<=N):fS w b N (T++a) D:=by
 refine⟨h.fq,f,λp q c g i e=>?_,h.isMap,h.own⟩;obtain d|⟨d,h2,h3⟩:=h.gy p q c g i e<;>grind[qX]
theorem ym{D}{a b}{c}(h:fX D a b=.lit (.int .i64 c)):rY (fX D a b)=(c==0):=by rw[h];rfl
theorem fS.put{w i}{e N n}{T}{D}{a b}(h:fS w e N T D)(s:a<T.length)(t:b<T.length)(o:rY (fX D a b)=true)(r)(v:D8 (tr T a) (tr T b)=r)(u:n+free N D<=N*N)
 (k:i.ownsMap prog 222 (plainElem prog 3) e (n+1) (D.put (kp a b) (.lit (.int .i64 (if r then 1 else 2))))):fS i e N T (D.put (kp a b) (.lit (.int .i64 (if r then 1 else 2)))):=by
 have f:=h.fq;have j:=h.len;refine⟨f,j,λp q c l m d=>?_,h.isMap.put _ _,n+1,k,?_⟩
 .by_cases g:p=a/\q=b
  .obtain⟨rfl,rfl⟩:=g;rw[OV h.isMap]at d;grind
  .rw[GB (by omega) (by omega) (by omega) (by omega) _ g]at d;exact h.gy p q c l m d
 .have:=yy f h.isMap (by omega) (by omega) o (.lit (.int .i64 (if r then 1 else 2))) (by cases r<;>rfl);omega
structure dH(w:E)(lb mb N:Nat)(T:List Ty)(D:Dt):Prop where
 ok:aU T
 fy:fS w mb N T D
 eo:∃yv yx,w.heap[lb]?=some (.cells #[yv,.map (some mb)] 108 (0,0))/\w.ownsRow lb 81 4 yv T.length yx/\dS (dM w (λ_=>True)) T yx
theorem dH.P{S}{w w'}{a c N}{T}{D d}(h:dH w a c N T D)(b:I S w w')(o:fS w' c N T d)
 (q:∀k f e,w.heap[k]?=some (.cells f e (0,0))->(e=108\/e=81\/e=137\/e=3)->¬S k):dH w' a c N T d:=by
 obtain⟨l,_,r,s,i,j,p⟩:=h;refine⟨l,o,r,s,?_,A3 j b λg m x=>?_,p.imp (dM.P b (λg _ _ t n=>?_) (λ_ _ _=>trivial))⟩
 .rw[b.block a (aI i) (q a _ _ i (.inl rfl))];omega
 .obtain⟨_,f,n⟩:=A9 j g m;grind
 grind
theorem dH.y{w c}{b mb N}{T}{D}(h:dH w b mb N T D)(a:I No w c):dH c b mb N T D:=h.P a (h.fy.P a (λx=>x)) (λ_ _ _ _ _ x=>x)
theorem dH.alloc{w}{a b N}{T}{D}(h:dH w a b N T D)(o):dH (w.alloc o) a b N T D:=h.y (I.alloc _ _ _)
def dH.gy{w b}{d a N}{T}{D c}(h:dH w d a N T D)(f:I (λk=>k=a) w b)(i:fS b a N T c):dH b d a N T c:=
 h.P f i (λk l e g _ x=>by have j:=x;subst j;exact h.fy.tag _ _ _ g)
def dH.fq{w}{a b N}{T}{D}(h:dH w a b N T D):T.length<=4000:=kQ h.fy.len h.fy.fq
theorem dH.cell{w}{a r N}{T}{D}(h:dH w a r N T D):∃b c,w.cell? (J a 0)=some (.slice b T.length c)/\w.cell? (J a 1)=some (.map (some r))/\a<w.heap.size/\(∀o,w.frozen? (J a o)=false)/\
 ∀i (m),∃g d e k l,b=some (J g 0)/\g<w.heap.size/\T.length<=c/\c<=maxLen/\w.cell? (J g (i*4))=some (.int .i64 T[i].x)/\w.cell? (J g (i*4+1))=some (.slice d T[i].ej.length e)/\w.cell? (J g (i*4+2))=some (.slice k T[i].M.length l)/\
  w.cell? (J g (i*4+3))=some (.int .i64 T[i].ew)/\w.ownsRow 0 137 2 (.slice d T[i].ej.length e) T[i].ej.length (G0 T[i].ej)/\w.ownsRow 0 3 1 (.slice k T[i].M.length l) T[i].M.length (C7 T[i].M):=by
 obtain⟨B,_,H,L,f,q,x⟩:=h;obtain⟨b,c,rfl⟩:=B8 q;have v:=(aI f);refine⟨b,c,cr f rfl,cr f rfl,v,λo=>frozen_of_row w a o _ _ f,λi m=>?_⟩;obtain⟨g,rfl,_,u,s,t,j⟩:=D4 q (by omega);obtain⟨G,y,z⟩:=dS.at (λ_ _ h=>h.len) i m x;obtain⟨A,F,rfl,n,p,_⟩:=y;obtain⟨d,e,rfl⟩:=B8 n;obtain⟨k,l,rfl⟩:=B8 p;refine⟨g,d,e,k,l,rfl,u,s,t,j _ _ ?_,j _ _ ?_,j _ _ ?_,j _ _ ?_,n,p⟩
 .have:=z 0 (by omega);grind
 .grind
 .grind
 grind
def jP(w:E)(b N:Nat)(T:List Ty)(D:Dt)(m:Nat)(r:Bool)(e:Ending)(c:E):Prop:=
 e=.returned (.bool r)/\I (λk=>k=b) w c/\∃a,fS c b N T a/\∀p q,p<N->q<N->m<p+q->fX a p q=fX D p q
def Hj{T}{i}(a:aU T)(b)(h:T[i].x≠10):iB (tr T i)=qJ T[i].x:=by
 simp_all[U0,iB,zY]
def Jp{T}{i}(b:aU T)(c)(h:T[i].x=10):iB (tr T i)=Y5 (T[i].M.map λx=>tr T x.toNat):=by
 have a:=b i c;have d:T[i].ej=[]:=by
  obtain a|a|a|a|a:=a
  .omega
  .omega
  .omega
  .omega
  .grind
 simp_all[U0,iB,wY,zY]
theorem NZ:∀(l) (t),Y5 (l++[t])=Y5 l|||iB t
 |[],t=>by simp[Y5]
 |a::l,t=>by rw[kZ,Y5,Y5,NZ l t,Nat.or_assoc]
theorem Ky(a b:Nat)(c:a<128)(d:b<128):bits BinOp.or IntKind.i64 a b=((a|||b:Nat)):=by
 have h:=Nat.or_lt_two_pow (n:=7) c d;have e:(BitVec.ofNat IntKind.i64.bits a|||BitVec.ofNat IntKind.i64.bits b).toNat=a|||b:=by
  rw[BitVec.toNat_or,BitVec.toNat_ofNat,BitVec.toNat_ofNat,Nat.mod_eq_of_lt (by grind[IntKind.bits]),Nat.mod_eq_of_lt (by grind[IntKind.bits])]
 grind[bits,IntKind.wrap,IntKind.bits,IntKind.signed]
def Jn{s mb N}{T}{D}:∀(i:Nat) (w),i<T.length->dH w s mb N T D->
 Calls prog 49 #[pV s,U i] w λe w'=>e=.returned (U (iB (tr T i)))/\I No w w':=by
 intro i;induction i using Nat.strongRecOn with
 |ind i ih=>
  intro w d h;have f:=h.ok;obtain⟨ad,a7,a8,a9,af,fz,V⟩:=h.cell;obtain⟨aa,fa,fc,la,t,rfl,hg,ab,S,x0,x1,x2,x3,ah,a5⟩:=V i d;have m:=O (Hj f d);have n:=O (Jp f d);have k:=O (f i d).kj;have B:=O h;have l:=O a5;unfold maxLen at S;generalize T[i].x=a4 at*;generalize T[i].ew=ag at*;generalize ae:T[i].M=a at*;by_cases o:a4=10
  .subst o;have hu:=n.u rfl;rw[hu];have a3:Hid (∀j (p:j<a.length),∃b,la=some (J b 0)/\b<w.heap.size/\a.length<=t/\t<=maxLen/\w.cell? (J b j)=some (U a[j])):=by
    intro j p;obtain⟨b,G,_,H,L,M,P⟩:=D4 l.u (by omega);exact⟨b,G,H,L,M,P j _ (by grind[C7])⟩
   go_in;go_wp2;go_loopw [37,6] (λv a6 wr=>∃j:Nat,j<=a.length/\v=U j/\a6=U (Y5 ((a.take j).map λx=>tr T x.toNat):Int)/\Hid (I No w wr)) (λv _ _=>a.length-(intOf v).toNat);case atStart=>exact⟨0,wQ _,rfl,by rfl,I.alloc _ _ _⟩
   case round=>
    obtain⟨j,p,rfl,rfl,c⟩:=hrel;by_cases g:j<a.length
    .obtain⟨b,rfl,W,ac,a2,y0⟩:=a3.u j g;have y1:wr.cell? (J b j)=some (U a[j]):=by rw[World.cell?_of_block (c.u.block b W (λx=>x))];exact y0
     have hx:=k.u a[j] (mQ g);obtain⟨z,r⟩:∃z:Nat,a[j]=(z:Int):=⟨a[j].toNat,by omega⟩;have F:Hid (Y5 ((a.take (j+1)).map λx=>tr T x.toNat)=Y5 ((a.take j).map λx=>tr T x.toNat)|||iB (tr T z)):=by
      show _=_;rw[nQ g,iY,List.map_singleton,NZ,r];simp
     rw[r]at y1 hx;have A:=ih z (by omega) wr (by omega) (B.u.y c.u);unfold maxLen at a2;have u:=O (EW ((a.take j).map λx=>tr T x.toNat));have y:=O (zT (tr T z));generalize Y5 ((a.take j).map λx=>tr T x.toNat)=t1 at*;generalize iB (tr T z)=t2 at*;go_wp2_with fail;refine A.mono ?_;rintro e ai ⟨rfl,R⟩;go_wp2;go_roundw;case rel=>exact⟨j+1,by omega,by go_num,by rw[F.u,Ky _ _ u.u y.u],c.u.trans R (λ_ _ x=>x)⟩
     grind[intOf]
    .have Z:j=a.length:=by omega
     subst Z;rw[jZ]at*;go_wp2;go_ret;exact⟨rfl,c.u⟩
  .have q:=m.u o;rw[q];clear q m n k l;go_in;go_wp2;all_goals go_ret
   all_goals exact⟨J5 (by simp_all [qJ]),I.alloc _ _ _⟩
def kD(c d N:Nat)(T:List Ty)(m:Nat):Prop:=∀(a b) (w) (D),a+b+1<=m->a<T.length->b<T.length->dH w c d N T D->
 Calls prog 120 #[pV c,U a,U b] w (jP w d N T D (a+b) (D8 (tr T a) (tr T b)))
structure eU(w:E)(q:Nat)(v:Value)(e:TypeId):Prop where
 at':w.heap[q]?=some (.cells #[v] e (0,0))
theorem eU.cell{w}{q}{v}{e}(h:eU w q v e):w.cell? (J q 0)=some v:=cr h.at' rfl
theorem eU.lt{w}{q}{v}{e}(h:eU w q v e):q<w.heap.size:=(aI h.at')
def eU.gy{w b}{q a N}{T}{D}{v}{e}(h:eU w q v e)(d:fS w a N T D)(c:I (λk=>k=a) w b):eU b q v e:=
 ⟨by rw[c.block q h.lt (λx=>by have f:=x;subst f;exact d.tag _ _ _ h.at')];exact h.at'⟩
theorem eU.y{w a}{q}{v}{e}(h:eU w q v e)(b:I No w a):eU a q v e:=⟨by rw[b.block q h.lt (λx=>x)];exact h.at'⟩
def VC(w:E)(v)(e):eU (w.alloc (.cells #[v] e)) w.heap.size v e:=⟨yY w _⟩
theorem eU.alloc{w}{q}{v}{e}(h:eU w q v e)(o):eU (w.alloc o) q v e:=h.y (I.alloc _ _ _)
def D6{w:E}{b}{a}{ls}(h:w.ownsRow 0 3 1 (.slice b ls.length a) ls.length (C7 ls)){j}(c):∃g,b=some (J g 0)/\g<w.heap.size/\ls.length<=a/\a<=maxLen/\w.cell? (J g j)=some (U ls[j]):=by
 grind[D4,C7]
def U5{w d}{a c n b N}{T}{D}{e}{v}{f}(h:w.ownsRow a e c v n f)(m:fS w b N T D)(i:I (λk=>k=b) w d):d.ownsRow a e c v n f:=
 A3 h i λg j x=>by
  have o:=x;subst o;obtain⟨_,p,l⟩:=A9 h g j;exact m.tag _ _ _ l
section
variable{a b N:Nat}{T:List Ty}
def Pm(m)(g:kD a b N T m)(w)(D)(h:dH w a b N T D)(k c f d)(n:k<T.length)(i:c<T.length)(p:k+c+1<=m)(o:eU w f (pV a) 53)(q:eU w d (U c) 3):
 Calls prog 167 #[U k,pV f,pV d] w (jP w b N T D (k+c) (!D8 (tr T k) (tr T c))):=by
 have H:=g k c w D p n i h;have s:=o.cell;have t:=q.cell;generalize D8 (tr T k) (tr T c)=r at*;go_in;go_wp2_with fail;refine H.mono ?_;rintro e u ⟨rfl,j,l⟩;go_wp2;go_ret;exact⟨rfl,j,l⟩
def Pv(m)(g:kD a b N T m)(w)(D)(h:dH w a b N T D)(k c f d)(n:k<T.length)(i:c<T.length)(p:c+k+1<=m)(o:eU w f (pV a) 53)(q:eU w d (U c) 3):
 Calls prog 168 #[U k,pV f,pV d] w (jP w b N T D (c+k) (D8 (tr T c) (tr T k))):=by
 have H:=g c k w D p i n h;have s:=o.cell;have t:=q.cell;generalize D8 (tr T c) (tr T k)=r at*;go_in;go_wp2_with fail;refine H.mono ?_;rintro e u ⟨rfl,j,l⟩;go_wp2;go_ret;exact⟨rfl,j,l⟩
end
structure bR(w:E)(mb N:Nat)(T:List Ty)(D:Dt)(m:Nat)(w':E):Prop where
 P:I (λk=>k=mb) w w'
 gy:∃D',fS w' mb N T D'/\∀p q,p<N->q<N->m<=p+q->fX D' p q=fX D p q
theorem bR.refl{w}{b a N}{T}{D}(h:dH w b a N T D)(m):bR w a N T D m w:=⟨I.refl _ _,D,h.fy,λ_ _ _ _ _=>rfl⟩
def bR.kt{w d}{c b N}{T}{D}{m}(h:bR w b N T D m d)(g:dH w c b N T D):∃a,dH d c b N T a/\∀p q,p<N->q<N->m<=p+q->fX a p q=fX D p q:=by
 obtain⟨a,e,f⟩:=h.gy;exact⟨a,g.gy h.P e,f⟩
def bR.after{w f g}{a N}{T}{D b}{m m1}{r}{e}(h:bR w a N T D m f)(o:∀p q,p<N->q<N->m<=p+q->fX b p q=fX D p q)(t:m1+1<=m)(k:jP f a N T b m1 r e g):bR w a N T D m g:=by
 obtain⟨_,j,i,l,n⟩:=k;exact⟨h.P.trans j (λ_ _ x=>x),i,l,λp q c d s=>(n p q c d (by omega)).trans (o p q c d s)⟩
theorem bR.alloc{w b}{a N}{T}{D}{m}(h:bR w a N T D m b)(o):bR w a N T D m (b.alloc o):=by
 obtain⟨c,d,e⟩:=h.gy;exact⟨h.P.trans (I.alloc No _ _) (λ_ _ x=>x.elim),c,d.P (I.alloc No _ _) (λx=>x),e⟩
def LD{a:Type}{p}{l:List a}{j}(b):(l.take (j+1)).any p=((l.take j).any p||p l[j]):=by
 grind[nQ]
section
variable{b a N:Nat}{T:List Ty}
def Ax(m)(IH:kD b a N T m)(w)(D)(h:dH w b a N T D)(V)(W)(c)(M:w.ownsRow 0 3 1 (.slice V c.length W) c.length (C7 c))(d s q)(hb:d<T.length)(H:∀x∈c,0<=x/\x<T.length/\x+d+1<=m)
 (L:eU w s (pV b) 53) (P:eU w q (U d) 3):
 Calls prog 200 #[.slice V c.length W,.func (.func 167) #[] #[pV s,pV q]] w λe w'=>
  (∃r,e=.returned (U r)/\decide (0<=r)=c.any λx=>!D8 (tr T x.toNat) (tr T d))/\bR w a N T D m w':=by
 have i:=O h;have HO:=O M;have a2:=O L;have a3:=O P;have HI:=O H;clear h M L P H;go_in;go_wp2;go_loopw [8] (λv wr=>∃j:Nat,j<=c.length/\v=U (j:Int)/\Hid ((c.take j).any (λx=>!D8 (tr T x.toNat) (tr T d))=false)/\Hid (bR w a N T D m wr)) (λv _=>c.length-(intOf v).toNat);case atStart=>exact⟨0,wQ _,rfl,by rfl,bR.refl i.u m⟩
 case round=>
  obtain⟨j,hj,rfl,t,f⟩:=hrel;by_cases l:j<c.length
  .obtain⟨a8,rfl,hg,a9,a6,y0⟩:=D6 (U5 HO.u i.u.fy f.u.P) l;have S:=HI.u c[j] (mQ l);obtain⟨z,p⟩:∃z:Nat,c[j]=(z:Int):=⟨c[j].toNat,by omega⟩;have B:=O (LD (p:=λx:Int=>!D8 (tr T x.toNat) (tr T d)) l);have y:=O (mQ l);simp only[p,tQ]at B y;rw[p]at y0 S;obtain⟨Z,R,G⟩:=f.u.kt i.u;have g:=Pm m IH wr Z R z d s q (by omega) hb (by omega) (a2.u.gy i.u.fy f.u.P) (a3.u.gy i.u.fy f.u.P);have u:=O G;unfold maxLen at a6;have F:=O (show z+d+1<=m by omega);clear p S R G;have A:Hid (∀r,r=(!D8 (tr T z) (tr T d))->(∃x∈c,(!D8 (tr T x.toNat) (tr T d))=true)\/r=false):=by
    intro r o;cases r
    .simp
    .exact .inl ⟨_,y.u,by grind⟩
   generalize o:(!D8 (tr T z) (tr T d))=r at B g;have a4:=O (A.u r o.symm);clear o A;cases r
   .go_wp2_with fail;refine g.mono ?_;clear g;rintro e a7 k;have n:=O (f.u.after u.u (by have:=F.u;omega) k);obtain⟨rfl,-,-⟩:=k;go_wp2;go_roundw;case rel=>exact⟨j+1,by omega,by go_num,by grind,n.u⟩
    grind[intOf]
   .go_wp2_with fail;refine g.mono ?_;clear g;rintro e a7 k;have n:=O (f.u.after u.u (by have:=F.u;omega) k);obtain⟨rfl,-,-⟩:=k;go_wp2;go_ret;refine⟨⟨_,rfl,?_⟩,n.u⟩;obtain⟨x,aa,ab⟩|h0:=a4.u<;>grind
  .have a5:j=c.length:=by omega
   subst a5;rw[jZ]at t;go_wp2;go_ret;exact⟨⟨_,rfl,by rw[t.u];simp⟩,f.u⟩
def vw(m)(q:kD b a N T m)(w)(D)(h:dH w b a N T D)(f)(g)(c)(o:w.ownsRow 0 3 1 (.slice f c.length g) c.length (C7 c))(d j i)(s:d<T.length)(l:∀x∈c,0<=x/\x<T.length/\x+d+1<=m)
 (n:eU w j (pV b) 53) (p:eU w i (U d) 3):
 Calls prog 166 #[.slice f c.length g,.func (.func 167) #[] #[pV j,pV i]] w λe u=>
  e=.returned (.bool (c.any λx=>!D8 (tr T x.toNat) (tr T d)))/\bR w a N T D m u:=by
 have H:=Ax m q w D h f g c o d j i s l n p;clear h o n p l;generalize (c.any λx=>!D8 (tr T x.toNat) (tr T d))=r at*;go_in;go_wp2_with fail;refine H.mono ?_;clear H;rintro e y ⟨⟨k,rfl,v⟩,t⟩;go_wp2;all_goals go_ret
 all_goals exact⟨E7 (by rfl),t⟩
def Ba(m)(IH:kD b a N T m)(w)(D)(h:dH w b a N T D)(V)(W)(c)(M:w.ownsRow 0 3 1 (.slice V c.length W) c.length (C7 c))(d s q)(hb:d<T.length)(H:∀x∈c,0<=x/\x<T.length/\x+d+1<=m)
 (L:eU w s (pV b) 53) (P:eU w q (U d) 3):
 Calls prog 200 #[.slice V c.length W,.func (.func 168) #[] #[pV s,pV q]] w λe w'=>
  (∃r,e=.returned (U r)/\decide (0<=r)=c.any λx=>D8 (tr T d) (tr T x.toNat))/\bR w a N T D m w':=by
 have i:=O h;have HO:=O M;have a2:=O L;have a3:=O P;have HI:=O H;clear h M L P H;go_in;go_wp2;go_loopw [8] (λv wr=>∃j:Nat,j<=c.length/\v=U (j:Int)/\Hid ((c.take j).any (λx=>D8 (tr T d) (tr T x.toNat))=false)/\Hid (bR w a N T D m wr)) (λv _=>c.length-(intOf v).toNat);case atStart=>exact⟨0,wQ _,rfl,by rfl,bR.refl i.u m⟩
 case round=>
  obtain⟨j,hj,rfl,t,f⟩:=hrel;by_cases l:j<c.length
  .obtain⟨a8,rfl,hg,a9,a6,y0⟩:=D6 (U5 HO.u i.u.fy f.u.P) l;have S:=HI.u c[j] (mQ l);obtain⟨z,p⟩:∃z:Nat,c[j]=(z:Int):=⟨c[j].toNat,by omega⟩;have B:=O (LD (p:=λx:Int=>D8 (tr T d) (tr T x.toNat)) l);have y:=O (mQ l);simp only[p,tQ]at B y;rw[p]at y0 S;obtain⟨Z,R,G⟩:=f.u.kt i.u;have g:=Pv m IH wr Z R z d s q (by omega) hb (by omega) (a2.u.gy i.u.fy f.u.P) (a3.u.gy i.u.fy f.u.P);have u:=O G;unfold maxLen at a6;have F:=O (show z+d+1<=m by omega);clear p S R G;have A:Hid (∀r,r=(D8 (tr T d) (tr T z))->(∃x∈c,(D8 (tr T d) (tr T x.toNat))=true)\/r=false):=by
    intro r o;cases r
    .simp
    .exact .inl ⟨_,y.u,by grind⟩
   generalize o:(D8 (tr T d) (tr T z))=r at B g;have a4:=O (A.u r o.symm);clear o A;cases r
   .go_wp2_with fail;refine g.mono ?_;clear g;rintro e a7 k;have n:=O (f.u.after u.u (by have:=F.u;omega) k);obtain⟨rfl,-,-⟩:=k;go_wp2;go_roundw;case rel=>exact⟨j+1,by omega,by go_num,by grind,n.u⟩
    grind[intOf]
   .go_wp2_with fail;refine g.mono ?_;clear g;rintro e a7 k;have n:=O (f.u.after u.u (by have:=F.u;omega) k);obtain⟨rfl,-,-⟩:=k;go_wp2;go_ret;refine⟨⟨_,rfl,?_⟩,n.u⟩;obtain⟨x,aa,ab⟩|h0:=a4.u<;>grind
  .have a5:j=c.length:=by omega
   subst a5;rw[jZ]at t;go_wp2;go_ret;exact⟨⟨_,rfl,by rw[t.u];simp⟩,f.u⟩
def we(m)(q:kD b a N T m)(w)(D)(h:dH w b a N T D)(f)(g)(c)(o:w.ownsRow 0 3 1 (.slice f c.length g) c.length (C7 c))(d j i)(s:d<T.length)(l:∀x∈c,0<=x/\x<T.length/\x+d+1<=m)
 (n:eU w j (pV b) 53) (p:eU w i (U d) 3):
 Calls prog 166 #[.slice f c.length g,.func (.func 168) #[] #[pV j,pV i]] w λe u=>
  e=.returned (.bool (c.any λx=>D8 (tr T d) (tr T x.toNat)))/\bR w a N T D m u:=by
 have H:=Ba m q w D h f g c o d j i s l n p;clear h o n p l;generalize (c.any λx=>D8 (tr T d) (tr T x.toNat))=r at*;go_in;go_wp2_with fail;refine H.mono ?_;clear H;rintro e y ⟨⟨k,rfl,v⟩,t⟩;go_wp2;all_goals go_ret
 all_goals exact⟨E7 (by rfl),t⟩
end
def DY:∀(L) (k) (h) (j),j<2->(G0 L)[2*k+j]?=(J8 L[k])[j]?
 |[],k,h,_,_=>by grind
 |t::r,0,_,j,a=>by
  grind[G0,J8]
 |t::r,k+1,h,j,a=>by
  simp only[G0,List.flatMap_cons,List.getElem_cons_succ];rw[List.getElem?_append_right (by grind[J8])];have:=DY r k (by grind) j a;rw[<-this];grind[J8,G0]
def U8{w:E}{c}{b}{a}(h:w.ownsRow 0 137 2 (.slice c a.length b) a.length (G0 a)){j}(e):∃g,c=some (J g 0)/\g<w.heap.size/\a.length<=b/\b<=maxLen/\
 w.cell? (J g (j*2))=some (.string ⟨a[j].1.toArray⟩)/\w.cell? (J g (j*2+1))=some (U a[j].2):=by
 obtain⟨f,i,_,k,l,m,d⟩:=D4 h (by omega);refine⟨f,i,k,l,m,?_,?_⟩
 .have:=DY a j e 0 (by omega);rw[Nat.mul_comm];exact d _ _ this
 .have:=DY a j e 1 (by omega);rw[Nat.mul_comm];exact d _ _ this
section
variable{d c N:Nat}{T:List Ty}
def Vc(w:E)(a b:Y)(x)(f)(g:w.cell? (J f 0)=some (.string ⟨a.toArray⟩)):
 Calls prog 203 #[.agg #[.string ⟨b.toArray⟩,U x],pV f] w λe i=>e=.returned (.bool (b==a))/\I No w i:=by
 have j:=World.block_lt_of_cell? w _ g;by_cases h:b=a
 .subst h;go_in;go_wp2;go_ret;exact⟨E7 (by simp),I.alloc _ _ _⟩
 .go_in;go_wp2;go_ret;exact⟨E7 (by simp),I.alloc _ _ _⟩
def JE(a:List (Y×Int))(b:Y)(r:Int):Prop:=(∃k,∃f:k<a.length,r=k/\a[k].1=b/\∀i (e),i<k->a[i].1≠b)\/(r=-1/\∀p∈a,p.1≠b)
theorem KT{b}{f:Y×Int->Tr}:∀{a:List (Y×Int)},(∀p∈a,p.1≠b)->I3 b (a.map (·.1)) (a.map f)=none
 |[],_=>rfl
 |p::a,h=>by
  rw[xZ,xZ,I3,zY (h p (by simp))];exact KT λq e=>h q (by grind)
theorem GT{b}{f:Y×Int->Tr}:∀{a:List (Y×Int)} {k} (h:k<a.length),a[k].1=b->(∀i (l:i<a.length),i<k->a[i].1≠b)->I3 b (a.map (·.1)) (a.map f)=some (f a[k])
 |[],_,h,_,_=>by grind
 |p::a,0,_,e,_=>by
  simp_all[xZ,I3,wY]
 |p::a,k+1,h,e,g=>by
  have j:p.1≠b:=g 0 (by simp) (by omega);rw[xZ,xZ,I3,zY j];exact GT (by grind) e (λi l m=>g (i+1) (by omega) (by omega))
def QU(k:Nat)(cf:∀(s) (W:E),(callFunc k s).run prog W=.ok (.enter k s) W)(w)(t)(y)(a)(P:w.ownsRow 0 137 2 (.slice t a.length y) a.length (G0 a))(b)(B)(S:∀u,I No w u->∀A x,Calls prog k #[.agg #[.string ⟨A.toArray⟩,U x],pV B] u λe p=>e=.returned (.bool (A==b))/\I No u p):
 Calls prog 80 #[.slice t a.length y,.func (.func k) #[] #[pV B]] w λe p=>
  (∃r,e=.returned (U r)/\JE a b r)/\I No w p:=by
 have F:=O P;have G:=O S;go_in;go_wp2;go_loopw [8] (λv wr=>∃j:Nat,j<=a.length/\v=U j/\Hid (∀i (g:i<a.length),i<j->a[i].1≠b)/\Hid (I No w wr)) (λv _=>a.length-(intOf v).toNat);case atStart=>exact⟨0,wQ _,rfl,λ_ _ h=>by omega,I.refl _ _⟩
 case round=>
  obtain⟨j,hj,rfl,l,f⟩:=hrel;by_cases z:j<a.length
  .obtain⟨a2,rfl,hg,a4,M,y0,y1⟩:=U8 (A3 F.u f.u (λ_ _ x=>x)) z;have m:=G.u wr f.u a[j].1 a[j].2;have D:Hid (∀r,r=(a[j].1==b)->(r=true->a[j].1=b)/\(r=false->a[j].1≠b)):=by
    rintro r rfl;exact⟨λh=>by grind,λh=>by grind⟩
   unfold maxLen at M;generalize V:(a[j].1==b)=r at m;have q:=O (D.u r V.symm);generalize a[j].2=fv at*;generalize hx:(⟨a[j].1.toArray⟩:ByteArray)=bx at*;cases r
   .go_wp2;refine m.mono ?_;rintro e Z ⟨rfl,o⟩;have n:=O (f.u.trans o (λ_ _ x=>x));go_wp2;go_roundw;case rel=>
     refine⟨j+1,by omega,by go_num,λi g a3=>?_,n.u⟩;by_cases H:i=j
     .subst H;exact q.u.2 trivial
     .exact l.u i g (by omega)
    grind[intOf]
   .go_wp2;refine m.mono ?_;rintro e Z ⟨rfl,o⟩;have n:=O (f.u.trans o (λ_ _ x=>x));go_wp2;go_ret;exact⟨⟨_,rfl,.inl ⟨j,z,rfl,q.u.1 trivial,l.u⟩⟩,n.u⟩
  .have L:j=a.length:=by omega
   subst L;go_wp2;go_ret;refine⟨⟨_,rfl,.inr ⟨rfl,λa5 R=>?_⟩⟩,f.u⟩;obtain⟨i,g,rfl⟩:=List.mem_iff_getElem.1 R;exact l.u i g g
def N9(T:List Ty)(a:List (Y×Int))(p:Y×Int):Bool:=match I3 p.1 (a.map (·.1)) (a.map λq=>tr T q.2.toNat) with
 |none=>false
 |some x=>D8 x (tr T p.2.toNat)
def I0{w a b}{D}{m q o}{v}(i:bR w c N T D m a)(g:I (λk=>k=c) a b)(h:a.cell? (J q o)=some v):b.cell? (J q o)=some v:=by
 obtain⟨p,e,_⟩:=i.gy;have j:q≠c:=by
  intro l;subst l;obtain⟨n,⟨s,r,f,_⟩,_⟩:=e.own;simp[World.cell?,f]at h
 rw[World.cell?_of_block (g.block q (World.block_lt_of_cell? a _ h) j)];omega
def bR.drewN{w a}{D}{m}(h:bR w c N T D m a)(n):bR w c N T D m (a.drewN n):=by
 obtain⟨b,e,f⟩:=h.gy;exact⟨h.P.trans (I.drewN No _ n) (λ_ _ x=>x.elim),b,e.P (I.drewN No _ n) (λx=>x),f⟩
def xK{m}(n:kD d c N T m){w}{D}(s:dH w d c N T D){a b}(i:a+b+1<=m)(q:a<T.length)(r:b<T.length)(f)(h:bR w c N T D m f):
 Calls prog 120 #[pV d,U a,U b] f λe j=>e=.returned (.bool (D8 (tr T a) (tr T b)))/\I (λk=>k=c) f j/\bR w c N T D m j:=by
 obtain⟨l,o,p⟩:=h.kt s;refine(n a b f l i q r o).mono ?_;rintro e t g;exact⟨g.1,g.2.1,h.after p i g⟩
def Pq{w a b}{D}{m}{p1 p2 p3 p4:Nat×Nat}{f g i j}(e:I (λk=>k=c) a b)(l:bR w c N T D m b)(h:a.cell? (J p1.1 p1.2)=some f/\a.cell? (J p2.1 p2.2)=some g/\a.cell? (J p3.1 p3.2)=some i/\a.cell? (J p4.1 p4.2)=some j/\Hid (bR w c N T D m a)):b.cell? (J p1.1 p1.2)=some f/\b.cell? (J p2.1 p2.2)=some g/\b.cell? (J p3.1 p3.2)=some i/\b.cell? (J p4.1 p4.2)=some j/\Hid (bR w c N T D m b):=
 ⟨I0 h.2.2.2.2.u e h.1,I0 h.2.2.2.2.u e h.2.1,I0 h.2.2.2.2.u e h.2.2.1,I0 h.2.2.2.2.u e h.2.2.2.1,l⟩
def Gi(m)(IH:kD d c N T m)(w)(D)(h:dH w d c N T D)(s)(n)(b)(H:w.ownsRow 0 137 2 (.slice s b.length n) b.length (G0 b))(a)(y)(o q)(hy:y<T.length)
 (a9:∀p∈b,0<=p.2/\p.2<T.length/\p.2+y+1<=m) (hl:eU w q (pV d) 53) (u:eU w o (.slice s b.length n) 79):
 Calls prog 202 #[.agg #[.string ⟨a.toArray⟩,U y],pV o,pV q] w λe f=>e=.returned (.bool (!N9 T b (a,y)))/\bR w c N T D m f:=by
 have j:=h.alloc (.cells #[.string ⟨a.toArray⟩,U y] 137);have W:=QU 203 (λ_ _=>by go_simp) (w.alloc (.cells #[.string ⟨a.toArray⟩,U y] 137)) s n b (H.alloc _) a w.heap.size (λaf hu ae x=>Vc af a ae x _ (by rw[World.cell?_of_block (hu.block _ (by simp) (λx=>x)),World.cell?_alloc_new];rfl));have A:Hid (∀r,JE b a r->(r=-1/\(!N9 T b (a,y))=true)\/∃(k:Nat) (x:Nat) (l:k<b.length),r=k/\b[k].2=x/\x<T.length/\x+y+1<=m/\(!N9 T b (a,y))=!D8 (tr T x) (tr T y)):=by
  intro r hr;obtain⟨k,l,rfl,j,F⟩|⟨rfl,j⟩:=hr
  .have hp:=a9 _ (mQ l);refine .inr ⟨k,b[k].2.toNat,l,rfl,by omega,by omega,by omega,?_⟩;grind[N9,GT]
  .refine .inl ⟨rfl,?_⟩;grind[N9,KT]
 have HS:=O j;have Z:=O (H.alloc (.cells #[.string ⟨a.toArray⟩,U y] 137));have a2:=O (hl.alloc (.cells #[.string ⟨a.toArray⟩,U y] 137));have a3:=O (u.alloc (.cells #[.string ⟨a.toArray⟩,U y] 137));have z:=O (bR.refl h m);have S:=O h;have V:=O (yY w (.cells #[.string ⟨a.toArray⟩,U y] 137));have aj:=u.lt;have cq:=u.cell;generalize (!N9 T b (a,y))=ag at*;go_in;go_wp2_with fail;refine W.mono ?_;rintro e v ⟨⟨r,rfl,G⟩,i⟩;have S1:=O (HS.u.y i);have O1:=O (A3 Z.u i (λ_ _ x=>x));have Q1:=O (a2.u.y i);have Q2:=O (a3.u.y i);have a6:=Q1.u.cell;have a7:=Q2.u.cell;have M:Hid (v.heap[w.heap.size]?=some (.cells #[.string ⟨a.toArray⟩,U (y:Int)] 137 (0,0))):=(i.block w.heap.size (by simp) (λx=>x)).trans V.u;have c3:v.cell? (J w.heap.size 1)=some (U y):=cr M.u rfl;have B:Hid (bR w c N T D m v):=by
  obtain⟨P,j,F⟩:=(z.u.alloc (.cells #[.string ⟨a.toArray⟩,U y] 137)).gy;exact⟨((z.u.alloc _).P).trans i (λ_ _ x=>x.elim),P,j.P i (λx=>x),F⟩
 obtain⟨rfl,t⟩|⟨k,x,l,rfl,hx,ac,ad,t⟩:=A.u r G
 .clear G A;subst t;go_wp2;go_quiet (fail);go_wp2;go_ret;exact⟨E7 (by simp),B.u.drewN _⟩
 .obtain⟨g,rfl,hg,ai,aa,-,L⟩:=U8 O1.u l;rw[hx]at L;have R:=λa5 ha=>xK IH S.u ad ac hy a5 ha;unfold maxLen at aa;have ah:decide ((k:Int)<0)=false:=by simp
  generalize D8 (tr T x) (tr T y)=r at*;have a4:=O t;go_wp2;go_region_held3 (λf=>f.cell? (J o 0)=some (.slice (some (J g 0)) b.length n)/\f.cell? (J q 0)=some (pV d)/\f.cell? (J g (k*2+1))=some (U x)/\f.cell? (J w.heap.size 1)=some (U (y:Int))/\Hid (bR w c N T D m f))
   (first
    |exact⟨a7,a6,L,c3,B.u.drewN 1⟩
    |exact Pq (p1:=(o,0)) (p2:=(q,0)) (p3:=(g,k*2+1)) (p4:=(w.heap.size,1)) a8 ab ⟨by omega,by omega,by omega,by omega,by omega⟩
    |(go_split_ands;exact⟨by assumption,by assumption,by assumption,by assumption,by assumption⟩))
   (first
    |((go_at_call 120;go_split_ands;refine(R _ (Hid.u (by omega))).mono ?_;rintro e f ⟨rfl,a8,ab⟩)));have M2:Hid (bR w c N T D m f):=by assumption
  go_wp2;go_ret;exact⟨E7 (by rw[a4.u]),M2.u⟩
end
