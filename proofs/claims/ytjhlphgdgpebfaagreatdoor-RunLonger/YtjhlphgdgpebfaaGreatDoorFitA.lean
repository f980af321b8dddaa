/-
  A part of the proof.
-/
import Derived.Test.YtjhlphgdgpebfaaGreatDoorScanB
import Derived.Maps.Views
import Derived.Maps.OwnOps
import Derived.DeepKeys4
import Derived.BigRegion
set_option maxHeartbeats 0
set_option linter.all false
set_option maxRecDepth 100000
namespace Go.Proofs.YtjhlphgdgpebfaaGreatDoor
open _root_.Array renaming size->V
open Bool renaming true->τ,false->κ
open Go renaming maxLen->Γ,Calls->μ
open Ending renaming returned->π
open IntKind renaming i64->ω,bits->Ü
open Lit renaming int->Ù
open Obj renaming cells->γ
open Go.Proofs.Tryz renaming prog->η
open Value renaming slice->Y,string->ζ
open World renaming ownsRow->ξ,cell?->δ,cell?_of_block->ý,block_lt_of_cell?->Ì
open List renaming length->Q,toArray->ν
open Option renaming some->C
open Go.Proofs.Tryz
open Go.RowKit Go.Maps
def Tryz.laidOut:laidOutB η=τ:=Ψ
def Tryz.oo:(252:TypeId)<prog.types.size:=of_decide_eq_true Ψ
def Tryz.nu:(match prog.underlying 252 with|C (.array _ _)|C (.struct _)=>τ|_=>κ)=τ:=Ψ
theorem Tryz.ou:prog.keyType 252=τ:=Ψ
def JV:Keyed η 252:=Keyed.of_law<|deep_law_laid Tryz.laidOut (m:=2) W Tryz.oo Ψ Tryz.nu
theorem Tryz.lr:prog.cellsOf 252=2:=Ψ
theorem Tryz.oe:prog.cellsOf 3=1:=Ψ
def kp(a b:Int):Lit:=.string<|keyBytes [.int ω a,.int ω b]
def DT(a b)(f:(Ù ω a).wf=τ)(g:(Ù ω b).wf=τ):keyOf η 252 (.agg #[.int ω a,.int ω b])=C (kp a b):=by
 have c:2<=prog.types.size+1:=of_decide_eq_true Ψ;obtain⟨m,e⟩:=Nat.exists_eq_add_of_le c;have d:(Value.agg #[.int ω a,.int ω b]).formed η 252=τ:=by simp[Value.formed,underlying252,Tryz.lr]
 unfold keyOf;simp only[underlying252,Tryz.ou,d,Bool.and_self,if_true];rw[e,show 2+m=m+1+1 by omega];simp_all[Program.keyLits,underlying224,underlying3,Tryz.lr,Tryz.oe,Value.cells,kp]
def Tv{a b c d}(g:(Ù ω a).wf=τ)(i:(Ù ω b).wf=τ)(j:(Ù ω c).wf=τ)(k:(Ù ω d).wf=τ)(h:kp a b=kp c d):a=c/\b=d:=by
 have e:=DT a b g i;have f:=DT c d j k;rw[h]at e;have:=JV.inj e f;grind
def U7(a:Nat)(h:a<1000000000000):(Ù ω a).wf=τ:=by
 grind[Lit.wf,IntKind.min,IntKind.max,Ü,IntKind.signed]
abbrev Dt:=DataW Unit
def zi:Dt:=.lit<|.int ω 0
def gX(D:Dt)(a b:Nat):Dt:=D.atKey (kp a b) zi
def wA:Dt->Bool
 |.lit (.int _ c)=>c==0
 |_=>τ
def wJ(N:Nat):List (Nat×Nat):=(List.range N).flatMap λp=>(List.range N).map λq=>(p,q)
theorem Fy(N):∀l:List Nat,(l.map λ_=>N).sum=Q l*N
 |[]=>ι
 |a::l=>by rw[bY,List.sum_cons,Fy N l,jQ,Nat.add_mul];omega
theorem Xf(N):Q (wJ N)=N*N:=by
 have:=Fy N<|List.range N;simp_all[wJ]
def Zk{N a b}(c:a<N)(d:b<N):(a,b)∈wJ N:=by
 grind[wJ]
def free(N:Nat)(D:Dt):Nat:=(wJ N).countP λx=>wA<|gX D x.1 x.2
def VE{c:Type}{p q}:∀{l:List c} {x},(∀y∈l,q y=τ->p y=τ)->x∈l->p x=τ->q x=κ->l.countP q+1<=l.countP p
 |a::l,x,h,b,d,e=>by
  have g:l.countP q<=l.countP p:=List.countP_mono_left λy f=>h y θ;obtain rfl|b:=jW.1 b
  .grind
  .have:=VE (λy f=>h y θ) b d e;grind
theorem Iy{D:Dt}(c:IsMap D){a b:Nat}(d:Dt):gX (D.put (kp a b) d) a b=d:=atKey_put_same c (show WideAt.IsKeyLit (kp a b) from trivial) d zi
theorem MA{D}{a b p q}(c:a<1000000000000)(f:b<1000000000000)(g:p<1000000000000)(i:q<1000000000000)(d:Dt)(h:¬(p=a/\q=b)):gX (D.put (kp a b) d) p q=gX D p q:=by
 refine atKey_put_other (λe=>h ?_) d zi;have:=Tv (U7 p g) (U7 q i) (U7 a c) (U7 b f) e;omega
def Wy{N}(j:N<=4000){D:Dt}(i:IsMap D){a b}(c:a<N)(e:b<N)(g:wA (gX D a b)=τ)(d)(k:wA d=κ):free N (D.put (kp a b) d)+1<=free N D:=by
 refine VE (λy f l=>?_) (Zk c e) g (by grind[wA,gX,Iy]);obtain⟨p,q⟩:=y;by_cases h:p=a/\q=b
 .grind
 .simp only[wJ,List.mem_flatMap,kZ,List.mem_range,Prod.mk.injEq]at f;grind[MA]
def QS(N:Nat)(T:List Ty)(D:Dt):Prop:=∀p q c,p<N->q<N->gX D p q=.lit (.int ω c)->c=0\/(p<Q T/\q<Q T/\((c=1/\F7 (tr T p) (tr T q)=τ)\/(c=2/\F7 (tr T p) (tr T q)=κ)))
structure gT(w:E)(mb N:Nat)(T:List Ty)(D:Dt):Prop where
 fq:N<=4000
 len:Q T<=N
 jg:QS N T D
 isMap:IsMap D
 own:∃n,w.ownsMap η 252 (plainElem η 3) mb n D/\n+free N D<=N*N
theorem gT.P{S}{w w'}{e N}{T}{D}(h:gT w e N T D)(k:I S w w')(l:¬S e):gT w' e N T D:=by
 obtain⟨a,b,c,d,n,⟨g,f,i,j⟩,r⟩:=h;exact⟨a,b,c,d,n,⟨g,f,by rw[k.block e (aG i) l];omega,j⟩,r⟩
theorem gT.lt{w}{a N}{T}{D}(h:gT w a N T D):a<V w.heap:=by
 obtain⟨n,h,_⟩:=h.own;exact h.lt
theorem gT.tag{w}{a N}{T}{D}(h:gT w a N T D):∀b e c,w.heap[a]?≠C (γ b e c):=by
 obtain⟨n,⟨f,d,g,i⟩,r⟩:=h.own;grind
def Ų(w:E)(N)(a:N<=4000):gT (w.alloc<|.map #[] 0) (V w.heap) N [] (.map []):=by
 refine⟨a,wQ _,λp q c _ _ h=>?_,isMap_empty,0,World.ownsMap_made w _ _ _,?_⟩
 .left;have:gX (.map []) p q=zi:=K;grind[zi]
 grind[List.countP_le_length,wA,gX,wJ,Xf,free]
def gT.more{w}{b N}{T}{D}(h:gT w b N T D)(j:aX T)(a)(f:Q (T++a)<=N):gT w b N (T++a) D:=by
 refine⟨h.fq,f,λp q c g i e=>?_,h.isMap,h.own⟩;obtain d|⟨d,h2,h3⟩:=h.jg p q c g i e<;>grind[vA]
theorem Tu{D}{a b}{c}(h:gX D a b=.lit (.int ω c)):wA (gX D a b)=(c==0):=by rw[h];rfl
def gT.put{w i}{e N n}{T}{D}{a b}(h:gT w e N T D)(s:a<Q T)(t:b<Q T)(o:wA (gX D a b)=τ)(r)(v:F7 (tr T a) (tr T b)=r)(u:n+free N D<=N*N)
 (k:i.ownsMap η 252 (plainElem η 3) e (n+1)<|D.put (kp a b)<|.lit<|.int ω<|if r then 1 else 2):gT i e N T (D.put (kp a b)<|.lit<|.int ω<|if r then 1 else 2):=by
 have f:=h.fq;have j:=h.len;refine⟨f,j,λp q c l m d=>?_,h.isMap.put _ _,n+1,k,?_⟩
 .by_cases g:p=a/\q=b
  .obtain⟨rfl,rfl⟩:=g;rw[Iy h.isMap]at d;grind
  .rw[MA W W W W _ g]at d;exact h.jg p q c l m d
 .have:=Wy f h.isMap W W o (.lit<|.int ω<|if r then 1 else 2) (by cases r<;>rfl);omega
structure dY(w:E)(lb mb N:Nat)(T:List Ty)(D:Dt):Prop where
 ok:aX T
 gm:gT w mb N T D
 blk:∃yv yx,w.heap[lb]?=C (γ #[yv,.map<|C mb] 120 (0,0))/\ξ w lb 88 4 yv (Q T) yx/\eN (eI w λ_=>True) T yx
theorem dY.P{S}{w w'}{a c N}{T}{D d}(h:dY w a c N T D)(b:I S w w')(o:gT w' c N T d)
 (q:∀k f e,w.heap[k]?=C (γ f e (0,0))->(e=120\/e=88\/e=156\/e=3)->¬S k):dY w' a c N T d:=by
 obtain⟨l,_,r,s,i,j,p⟩:=h;refine⟨l,o,r,s,?_,A3 j b λg m x=>?_,p.imp<|eI.P b (λg _ _ t n=>?_) λ_ _ _=>trivial⟩
 .rw[b.block a (aG i)<|q a _ _ i<|.inl K];omega
 .obtain⟨_,f,n⟩:=A9 j g m;grind
 grind
theorem dY.y{w c}{b mb N}{T}{D}(h:dY w b mb N T D)(a:I No w c):dY c b mb N T D:=h.P a (h.gm.P a λx=>x) λ_ _ _ _ _ x=>x
theorem dY.alloc{w}{a b N}{T}{D}(h:dY w a b N T D)(o):dY (w.alloc o) a b N T D:=h.y<|I.alloc _ _ _
def dY.jg{w b}{d a N}{T}{D c}(h:dY w d a N T D)(f:I (λk=>k=a) w b)(i:gT b a N T c):dY b d a N T c:=
 h.P f i (λk l e g _ x=>by have j:=x;subst j;exact h.gm.tag _ _ _ g)
def dY.fq{w}{a b N}{T}{D}(h:dY w a b N T D):Q T<=4000:=kQ h.gm.len h.gm.fq
theorem dY.cell{w}{a r N}{T}{D}(h:dY w a r N T D):∃b c,δ w (J a 0)=C (Y b (Q T) c)/\δ w (J a 1)=C (.map<|C r)/\a<V w.heap/\(∀o,w.frozen? (J a o)=κ)/\
 ∀i (m),∃g d e k l,b=C (J g 0)/\g<V w.heap/\Q T<=c/\c<=Γ/\δ w (J g<|i*4)=C (.int ω T[i].x)/\δ w (J g<|i*4+1)=C (Y d (Q T[i].eo) e)/\δ w (J g<|i*4+2)=C (Y k (Q T[i].M) l)/\
  δ w (J g<|i*4+3)=C (.int ω T[i].fh)/\ξ w 0 156 2 (Y d (Q T[i].eo) e) (Q T[i].eo) (I0 T[i].eo)/\ξ w 0 3 1 (Y k (Q T[i].M) l) (Q T[i].M) (C8 T[i].M):=by
 obtain⟨B,_,H,L,f,q,x⟩:=h;obtain⟨b,c,rfl⟩:=B8 q;have v:=(aG f);refine⟨b,c,cr f K,cr f K,v,λo=>frozen_of_row w a o _ _ f,λi m=>?_⟩;obtain⟨g,rfl,_,u,s,t,j⟩:=D5 q W;obtain⟨G,y,z⟩:=eN.at (λ_ _ h=>h.len) i m x;obtain⟨A,F,rfl,n,p,_⟩:=y;obtain⟨d,e,rfl⟩:=B8 n;obtain⟨k,l,rfl⟩:=B8 p;refine⟨g,d,e,k,l,K,u,s,t,j _ _ ?_,j _ _ ?_,j _ _ ?_,j _ _ ?_,n,p⟩
 .have:=z 0 W;grind
 .grind
 .grind
 grind
def lV(w:E)(b N:Nat)(T:List Ty)(D:Dt)(m:Nat)(r:Bool)(e:Ending)(c:E):Prop:=
 e=π (.bool r)/\I (λk=>k=b) w c/\∃a,gT c b N T a/\∀p q,p<N->q<N->m<p+q->gX a p q=gX D p q
def ŝ{T}{i}(a:aX T)(b)(h:T[i].x≠10):jJ (tr T i)=uO T[i].x:=by
 simp_all[X7,jJ,wY]
def ŋ{T}{i}(b:aX T)(c)(h:T[i].x=10):jJ (tr T i)=lN (T[i].M.map λx=>tr T x.toNat):=by
 have a:=b i c;have d:T[i].eo=[]:=by
  obtain a|a|a|a|a:=a
  .omega
  .omega
  .omega
  .omega
  .grind
 simp_all[X7,jJ,yY,wY]
theorem Ja:∀(l) (t),lN (l++[t])=lN l|||jJ t
 |[],t=>by simp[lN]
 |a::l,t=>by rw[jZ,lN,lN,Ja l t,Nat.or_assoc]
theorem yo(a b:Nat)(c:a<128)(d:b<128):bits BinOp.or ω a b=((a|||b:Nat)):=by
 have h:=Nat.or_lt_two_pow (n:=7) c d;have e:(BitVec.ofNat IntKind.i64.bits a|||BitVec.ofNat IntKind.i64.bits b).toNat=a|||b:=by
  rw[BitVec.toNat_or,BitVec.toNat_ofNat,BitVec.toNat_ofNat,Nat.mod_eq_of_lt<|by grind[Ü],Nat.mod_eq_of_lt<|by grind[Ü]]
 grind[bits,IntKind.wrap,Ü,IntKind.signed]
def ŀ{s mb N}{T}{D}:∀(i:Nat) (w),i<Q T->dY w s mb N T D->
 μ η 68 #[pV s,U i] w λe w'=>e=π (U<|jJ<|tr T i)/\I No w w':=by
 intro i;induction i using Nat.strongRecOn with
 |ind i ih=>
  intro w d h;have f:=h.ok;obtain⟨ad,a9,aa,ab,ah,fz,Z⟩:=h.cell;obtain⟨ac,fa,fc,la,t,rfl,hg,ae,S,x0,x1,x2,x3,aj,a7⟩:=Z i d;have m:=O<|ŝ f d;have n:=O<|ŋ f d;have k:=O (f i d).lg;have B:=O h;have l:=O a7;unfold Γ at S;generalize T[i].x=a6 at*;generalize T[i].fh=ai at*;generalize ag:T[i].M=a at*;by_cases o:a6=10
  .subst o;have hu:=n.u K;rw[hu];have a5:Hid (∀j (p:j<Q a),∃b,la=C (J b 0)/\b<V w.heap/\Q a<=t/\t<=Γ/\δ w (J b j)=C (U a[j])):=by
    intro j p;obtain⟨b,G,_,H,L,M,P⟩:=D5 l.u W;exact⟨b,G,H,L,M,P j _<|by grind[C8]⟩
   go_in;go_wp2;go_loopw [37,6] (λv a8 wr=>∃j:Nat,j<=Q a/\v=U j/\a8=U (lN ((a.take j).map λx=>tr T x.toNat):Int)/\Hid (I No w wr)) (λv _ _=>Q a-(intOf v).toNat);case atStart=>exact⟨0,wQ _,K,Θ,I.alloc _ _ _⟩
   case round=>
    obtain⟨j,p,rfl,rfl,c⟩:=hrel;by_cases g:j<Q a
    .obtain⟨b,rfl,a2,af,a4,y0⟩:=a5.u j g;have y1:wr.cell? (J b j)=C (U a[j]):=by rw[ý<|c.u.block b a2 λx=>x];exact y0
     have hx:=k.u a[j]<|mQ g;obtain⟨z,r⟩:∃z:Nat,a[j]=(z:Int):=⟨a[j].toNat,W⟩;have F:Hid (lN ((a.take<|j+1).map λx=>tr T x.toNat)=lN ((a.take j).map λx=>tr T x.toNat)|||jJ (tr T z)):=by
      show _=_;rw[nQ g,zY,List.map_singleton,Ja,r];simp
     rw[r]at y1 hx;have A:=ih z W wr W<|B.u.y c.u;unfold Γ at a4;have u:=O<|TU<|(a.take j).map λx=>tr T x.toNat;have y:=O<|KK<|tr T z;generalize lN ((a.take j).map λx=>tr T x.toNat)=t1 at*;generalize jJ (tr T z)=t2 at*;go_wp2_with fail;refine A.mono ?_;rintro e ak ⟨rfl,R⟩;go_wp2;go_roundw;case rel=>exact⟨j+1,W,ç,by rw[F.u,yo _ _ u.u y.u],c.u.trans R λ_ _ x=>x⟩
     grind[intOf]
    .have a3:j=Q a:=W;subst a3;rw[vZ]at*;go_wp2;go_ret;exact⟨K,c.u⟩
  .have q:=m.u o;rw[q];clear q m n k l;go_in;go_wp2;all_goals go_ret
   all_goals exact⟨M9<|by simp_all [uO],I.alloc _ _ _⟩
def mI(c d N:Nat)(T:List Ty)(m:Nat):Prop:=∀(a b) (w) (D),a+b+1<=m->a<Q T->b<Q T->dY w c d N T D->
 μ η 158 #[pV c,U a,U b] w (lV w d N T D (a+b)<|F7 (tr T a)<|tr T b)
structure fU(w:E)(q:Nat)(v:Value)(e:TypeId):Prop where
 at':w.heap[q]?=C (γ #[v] e (0,0))
theorem fU.cell{w}{q}{v}{e}(h:fU w q v e):δ w (J q 0)=C v:=cr h.at' K
theorem fU.lt{w}{q}{v}{e}(h:fU w q v e):q<V w.heap:=(aG h.at')
def fU.jg{w b}{q a N}{T}{D}{v}{e}(h:fU w q v e)(d:gT w a N T D)(c:I (λk=>k=a) w b):fU b q v e:=
 ⟨by rw[c.block q h.lt λx=>by have f:=x;subst f;exact d.tag _ _ _ h.at'];exact h.at'⟩
theorem fU.y{w a}{q}{v}{e}(h:fU w q v e)(b:I No w a):fU a q v e:=⟨by rw[b.block q h.lt λx=>x];exact h.at'⟩
def WW(w:E)(v)(e):fU (w.alloc<|γ #[v] e) (V w.heap) v e:=⟨rY w _⟩
theorem fU.alloc{w}{q}{v}{e}(h:fU w q v e)(o):fU (w.alloc o) q v e:=h.y<|I.alloc _ _ _
def D6{w:E}{b}{a}{ls}(h:ξ w 0 3 1 (Y b (Q ls) a) (Q ls)<|C8 ls){j}(c):∃g,b=C (J g 0)/\g<V w.heap/\Q ls<=a/\a<=Γ/\δ w (J g j)=C (U ls[j]):=by
 grind[D5,C8]
def Y5{w d}{a c n b N}{T}{D}{e}{v}{f}(h:ξ w a e c v n f)(m:gT w b N T D)(i:I (λk=>k=b) w d):ξ d a e c v n f:=
 A3 h i λg j x=>by
  have o:=x;subst o;obtain⟨_,p,l⟩:=A9 h g j;exact m.tag _ _ _ l
section
variable{a b N:Nat}{T:List Ty}
def B4d(m)(g:mI a b N T m)(w)(D)(h:dY w a b N T D)(k c f d)(n:k<Q T)(i:c<Q T)(p:k+c+1<=m)(o:fU w f (pV a) 62)(q:fU w d (U c) 3):
 μ η 198 #[U k,pV f,pV d] w (lV w b N T D (k+c)<|!F7 (tr T k) (tr T c)):=by
 have H:=g k c w D p n i h;have s:=o.cell;have t:=q.cell;generalize F7 (tr T k) (tr T c)=r at*;go_in;go_wp2_with fail;refine H.mono ?_;rintro e u ⟨rfl,j,l⟩;go_wp2;go_ret;exact⟨K,j,l⟩
def B3d(m)(g:mI a b N T m)(w)(D)(h:dY w a b N T D)(k c f d)(n:k<Q T)(i:c<Q T)(p:c+k+1<=m)(o:fU w f (pV a) 62)(q:fU w d (U c) 3):
 μ η 199 #[U k,pV f,pV d] w (lV w b N T D (c+k)<|F7 (tr T c)<|tr T k):=by
 have H:=g c k w D p i n h;have s:=o.cell;have t:=q.cell;generalize F7 (tr T c) (tr T k)=r at*;go_in;go_wp2_with fail;refine H.mono ?_;rintro e u ⟨rfl,j,l⟩;go_wp2;go_ret;exact⟨K,j,l⟩
end
structure cH(w:E)(mb N:Nat)(T:List Ty)(D:Dt)(m:Nat)(w':E):Prop where
 P:I (λk=>k=mb) w w'
 jg:∃D',gT w' mb N T D'/\∀p q,p<N->q<N->m<=p+q->gX D' p q=gX D p q
theorem cH.refl{w}{b a N}{T}{D}(h:dY w b a N T D)(m):cH w a N T D m w:=⟨I.refl _ _,D,h.gm,λ_ _ _ _ _=>K⟩
def cH.lx{w d}{c b N}{T}{D}{m}(h:cH w b N T D m d)(g:dY w c b N T D):∃a,dY d c b N T a/\∀p q,p<N->q<N->m<=p+q->gX a p q=gX D p q:=by
 obtain⟨a,e,f⟩:=h.jg;exact⟨a,g.jg h.P e,f⟩
def cH.after{w f g}{a N}{T}{D b}{m m1}{r}{e}(h:cH w a N T D m f)(o:∀p q,p<N->q<N->m<=p+q->gX b p q=gX D p q)(t:m1+1<=m)(k:lV f a N T b m1 r e g):cH w a N T D m g:=by
 obtain⟨_,j,i,l,n⟩:=k;exact⟨h.P.trans j λ_ _ x=>x,i,l,λp q c d s=>(n p q c d W).trans<|o p q c d s⟩
theorem cH.alloc{w b}{a N}{T}{D}{m}(h:cH w a N T D m b)(o):cH w a N T D m (b.alloc o):=by
 obtain⟨c,d,e⟩:=h.jg;exact⟨h.P.trans (I.alloc No _ _) λ_ _ x=>x.elim,c,d.P (I.alloc No _ _) λx=>x,e⟩
def SE{a:Type}{p}{l:List a}{j}(b):(l.take<|j+1).any p=((l.take j).any p||p l[j]):=by
 grind[nQ]
section
variable{b a N:Nat}{T:List Ty}
def wj(m)(IH:mI b a N T m)(w)(D)(h:dY w b a N T D)(Z)(lc)(c)(M:ξ w 0 3 1 (Y Z (Q c) lc) (Q c)<|C8 c)(d s q)(hb:d<Q T)(H:∀x∈c,0<=x/\x<Q T/\x+d+1<=m)
 (L:fU w s (pV b) 62) (P:fU w q (U d) 3):
 μ η 226 #[Y Z (Q c) lc,.func (.func 198) #[] #[pV s,pV q]] w λe w'=>
  (∃r,e=π (U r)/\decide (0<=r)=c.any λx=>!F7 (tr T x.toNat) (tr T d))/\cH w a N T D m w':=by
 have i:=O h;have HO:=O M;have a2:=O L;have a3:=O P;have HI:=O H;clear h M L P H;go_in;go_wp2;go_loopw [8] (λv wr=>∃j:Nat,j<=Q c/\v=U (j:Int)/\Hid ((c.take j).any (λx=>!F7 (tr T x.toNat) (tr T d))=κ)/\Hid (cH w a N T D m wr)) (λv _=>Q c-(intOf v).toNat);case atStart=>exact⟨0,wQ _,K,Θ,cH.refl i.u m⟩
 case round=>
  obtain⟨j,hj,rfl,t,f⟩:=hrel;by_cases l:j<Q c
  .obtain⟨a8,rfl,hg,a9,a6,y0⟩:=D6 (Y5 HO.u i.u.gm f.u.P) l;have S:=HI.u c[j]<|mQ l;obtain⟨z,p⟩:∃z:Nat,c[j]=(z:Int):=⟨c[j].toNat,W⟩;have B:=O<|SE (p:=λx:Int=>!F7 (tr T x.toNat) (tr T d)) l;have y:=O<|mQ l;simp only[p,tQ]at B y;rw[p]at y0 S;obtain⟨D1,R,G⟩:=f.u.lx i.u;have g:=B4d m IH wr D1 R z d s q W hb W (a2.u.jg i.u.gm f.u.P)<|a3.u.jg i.u.gm f.u.P;have u:=O G;unfold Γ at a6;have F:=O (show z+d+1<=m by omega);clear p S R G;have A:Hid (∀r,r=(!F7 (tr T z) (tr T d))->(∃x∈c,(!F7 (tr T x.toNat) (tr T d))=τ)\/r=κ):=by
    intro r o;cases r
    .simp
    .exact .inl ⟨_,y.u,θ⟩
   generalize o:(!F7 (tr T z) (tr T d))=r at B g;have a4:=O<|A.u r o.symm;clear o A;cases r
   .go_wp2_with fail;refine g.mono ?_;clear g;rintro e a7 k;have n:=O<|f.u.after u.u (by have:=F.u;omega) k;obtain⟨rfl,-,-⟩:=k;go_wp2;go_roundw;case rel=>exact⟨j+1,W,ç,θ,n.u⟩
    grind[intOf]
   .go_wp2_with fail;refine g.mono ?_;clear g;rintro e a7 k;have n:=O<|f.u.after u.u (by have:=F.u;omega) k;obtain⟨rfl,-,-⟩:=k;go_wp2;go_ret;refine⟨⟨_,K,?_⟩,n.u⟩;obtain⟨x,aa,ab⟩|h0:=a4.u<;>grind
  .have a5:j=Q c:=W;subst a5;rw[vZ]at t;go_wp2;go_ret;exact⟨⟨_,K,by rw[t.u];simp⟩,f.u⟩
def xm(m)(q:mI b a N T m)(w)(D)(h:dY w b a N T D)(f)(g)(c)(o:ξ w 0 3 1 (Y f (Q c) g) (Q c)<|C8 c)(d j i)(s:d<Q T)(l:∀x∈c,0<=x/\x<Q T/\x+d+1<=m)
 (n:fU w j (pV b) 62) (p:fU w i (U d) 3):
 μ η 197 #[Y f (Q c) g,.func (.func 198) #[] #[pV j,pV i]] w λe u=>
  e=π (.bool<|c.any λx=>!F7 (tr T x.toNat) (tr T d))/\cH w a N T D m u:=by
 have H:=wj m q w D h f g c o d j i s l n p;clear h o n p l;generalize (c.any λx=>!F7 (tr T x.toNat) (tr T d))=r at*;go_in;go_wp2_with fail;refine H.mono ?_;clear H;rintro e y ⟨⟨k,rfl,v⟩,t⟩;go_wp2;all_goals go_ret
 all_goals exact⟨F9 Θ,t⟩
def wo(m)(IH:mI b a N T m)(w)(D)(h:dY w b a N T D)(Z)(lc)(c)(M:ξ w 0 3 1 (Y Z (Q c) lc) (Q c)<|C8 c)(d s q)(hb:d<Q T)(H:∀x∈c,0<=x/\x<Q T/\x+d+1<=m)
 (L:fU w s (pV b) 62) (P:fU w q (U d) 3):
 μ η 226 #[Y Z (Q c) lc,.func (.func 199) #[] #[pV s,pV q]] w λe w'=>
  (∃r,e=π (U r)/\decide (0<=r)=c.any λx=>F7 (tr T d)<|tr T x.toNat)/\cH w a N T D m w':=by
 have i:=O h;have HO:=O M;have a2:=O L;have a3:=O P;have HI:=O H;clear h M L P H;go_in;go_wp2;go_loopw [8] (λv wr=>∃j:Nat,j<=Q c/\v=U (j:Int)/\Hid ((c.take j).any (λx=>F7 (tr T d)<|tr T x.toNat)=κ)/\Hid (cH w a N T D m wr)) (λv _=>Q c-(intOf v).toNat);case atStart=>exact⟨0,wQ _,K,Θ,cH.refl i.u m⟩
 case round=>
  obtain⟨j,hj,rfl,t,f⟩:=hrel;by_cases l:j<Q c
  .obtain⟨a8,rfl,hg,a9,a6,y0⟩:=D6 (Y5 HO.u i.u.gm f.u.P) l;have S:=HI.u c[j]<|mQ l;obtain⟨z,p⟩:∃z:Nat,c[j]=(z:Int):=⟨c[j].toNat,W⟩;have B:=O<|SE (p:=λx:Int=>F7 (tr T d)<|tr T x.toNat) l;have y:=O<|mQ l;simp only[p,tQ]at B y;rw[p]at y0 S;obtain⟨D1,R,G⟩:=f.u.lx i.u;have g:=B3d m IH wr D1 R z d s q W hb W (a2.u.jg i.u.gm f.u.P)<|a3.u.jg i.u.gm f.u.P;have u:=O G;unfold Γ at a6;have F:=O (show z+d+1<=m by omega);clear p S R G;have A:Hid (∀r,r=(F7 (tr T d)<|tr T z)->(∃x∈c,(F7 (tr T d)<|tr T x.toNat)=τ)\/r=κ):=by
    intro r o;cases r
    .simp
    .exact .inl ⟨_,y.u,θ⟩
   generalize o:(F7 (tr T d)<|tr T z)=r at B g;have a4:=O<|A.u r o.symm;clear o A;cases r
   .go_wp2_with fail;refine g.mono ?_;clear g;rintro e a7 k;have n:=O<|f.u.after u.u (by have:=F.u;omega) k;obtain⟨rfl,-,-⟩:=k;go_wp2;go_roundw;case rel=>exact⟨j+1,W,ç,θ,n.u⟩
    grind[intOf]
   .go_wp2_with fail;refine g.mono ?_;clear g;rintro e a7 k;have n:=O<|f.u.after u.u (by have:=F.u;omega) k;obtain⟨rfl,-,-⟩:=k;go_wp2;go_ret;refine⟨⟨_,K,?_⟩,n.u⟩;obtain⟨x,aa,ab⟩|h0:=a4.u<;>grind
  .have a5:j=Q c:=W;subst a5;rw[vZ]at t;go_wp2;go_ret;exact⟨⟨_,K,by rw[t.u];simp⟩,f.u⟩
def xr(m)(q:mI b a N T m)(w)(D)(h:dY w b a N T D)(f)(g)(c)(o:ξ w 0 3 1 (Y f (Q c) g) (Q c)<|C8 c)(d j i)(s:d<Q T)(l:∀x∈c,0<=x/\x<Q T/\x+d+1<=m)
 (n:fU w j (pV b) 62) (p:fU w i (U d) 3):
 μ η 197 #[Y f (Q c) g,.func (.func 199) #[] #[pV j,pV i]] w λe u=>
  e=π (.bool<|c.any λx=>F7 (tr T d)<|tr T x.toNat)/\cH w a N T D m u:=by
 have H:=wo m q w D h f g c o d j i s l n p;clear h o n p l;generalize (c.any λx=>F7 (tr T d)<|tr T x.toNat)=r at*;go_in;go_wp2_with fail;refine H.mono ?_;clear H;rintro e y ⟨⟨k,rfl,v⟩,t⟩;go_wp2;all_goals go_ret
 all_goals exact⟨F9 Θ,t⟩
end
def SP:∀(L) (k) (h) (j),j<2->(I0 L)[2*k+j]?=(O0 L[k])[j]?
 |[],k,h,_,_=>θ
 |t::r,0,_,j,a=>by
  grind[I0,O0]
 |t::r,k+1,h,j,a=>by
  simp only[I0,List.flatMap_cons,List.getElem_cons_succ];rw[List.getElem?_append_right<|by grind[O0]];have:=SP r k θ j a;rw[<-this];grind[O0,I0]
def Y8{w:E}{c}{b}{a}(h:ξ w 0 156 2 (Y c (Q a) b) (Q a)<|I0 a){j}(e):∃g,c=C (J g 0)/\g<V w.heap/\Q a<=b/\b<=Γ/\
 δ w (J g<|j*2)=C (ζ ⟨ν a[j].1⟩)/\δ w (J g<|j*2+1)=C (U a[j].2):=by
 obtain⟨f,i,_,k,l,m,d⟩:=D5 h W;refine⟨f,i,k,l,m,?_,?_⟩
 .have:=SP a j e 0 W;rw[Nat.mul_comm];exact d _ _ this
 .have:=SP a j e 1 W;rw[Nat.mul_comm];exact d _ _ this
section
variable{d c N:Nat}{T:List Ty}
def Qq(w:E)(a b:bZ)(x)(f)(g:δ w (J f 0)=C (ζ ⟨ν a⟩)):
 μ η 229 #[.agg #[ζ ⟨ν b⟩,U x],pV f] w λe i=>e=π (.bool<|b==a)/\I No w i:=by
 have j:=Ì w _ g;by_cases h:b=a
 .subst h;go_in;go_wp2;go_ret;exact⟨F9 ι,I.alloc _ _ _⟩
 .go_in;go_wp2;go_ret;exact⟨F9 ι,I.alloc _ _ _⟩
def RL(a:List<|bZ×Int)(b:bZ)(r:Int):Prop:=(∃k,∃f:k<Q a,r=k/\a[k].1=b/\∀i (e),i<k->a[i].1≠b)\/(r=-1/\∀p∈a,p.1≠b)
theorem RI{b}{f:bZ×Int->Tr}:∀{a:List (bZ×Int)},(∀p∈a,p.1≠b)->I8 b (a.map (·.1)) (a.map f)=none
 |[],_=>K
 |p::a,h=>by
  rw[bY,bY,I8,wY<|h p ι];exact RI λq e=>h q θ
theorem OT{b}{f:bZ×Int->Tr}:∀{a:List (bZ×Int)} {k} (h:k<Q a),a[k].1=b->(∀i (l:i<Q a),i<k->a[i].1≠b)->I8 b (a.map (·.1)) (a.map f)=C (f a[k])
 |[],_,h,_,_=>θ
 |p::a,0,_,e,_=>by
  simp_all[bY,I8,yY]
 |p::a,k+1,h,e,g=>by
  have j:p.1≠b:=g 0 ι W;rw[bY,bY,I8,wY j];exact OT θ e (λi l m=>g (i+1) W W)
def Js(k:Nat)(cf:∀(t) (s:E),(callFunc k t).run η s=.ok (.enter k t) s)(w)(y)(z)(a)(R:ξ w 0 156 2 (Y y (Q a) z) (Q a)<|I0 a)(b)(D)(Z:∀u,I No w u->∀B x,μ η k #[.agg #[ζ ⟨B.toArray⟩,U x],pV D] u λe p=>e=π (.bool<|B==b)/\I No u p):
 μ η 117 #[Y y (Q a) z,.func (.func k) #[] #[pV D]] w λe p=>
  (∃r,e=π (U r)/\RL a b r)/\I No w p:=by
 have G:=O R;have H:=O Z;go_in;go_wp2;go_loopw [8] (λv wr=>∃j:Nat,j<=Q a/\v=U j/\Hid (∀i (g:i<Q a),i<j->a[i].1≠b)/\Hid (I No w wr)) (λv _=>Q a-(intOf v).toNat);case atStart=>exact⟨0,wQ _,K,λ_ _ h=>W,I.refl _ _⟩
 case round=>
  obtain⟨j,hj,rfl,l,f⟩:=hrel;by_cases A:j<Q a
  .obtain⟨a3,rfl,hg,a5,P,y0,y1⟩:=Y8 (A3 G.u f.u λ_ _ x=>x) A;have m:=H.u wr f.u a[j].1 a[j].2;have F:Hid (∀r,r=(a[j].1==b)->(r=τ->a[j].1=b)/\(r=κ->a[j].1≠b)):=by
    rintro r rfl;exact⟨λh=>θ,λh=>θ⟩
   unfold Γ at P;generalize hr:(a[j].1==b)=r at m;have q:=O<|F.u r hr.symm;generalize a[j].2=fv at*;generalize hx:(⟨ν a[j].1⟩:ByteArray)=bx at*;cases r
   .go_wp2;refine m.mono ?_;rintro e a2 ⟨rfl,o⟩;have n:=O<|f.u.trans o λ_ _ x=>x;go_wp2;go_roundw;case rel=>
     refine⟨j+1,W,ç,λi g a4=>?_,n.u⟩;by_cases L:i=j
     .subst L;exact q.u.2 trivial
     .exact l.u i g W
    grind[intOf]
   .go_wp2;refine m.mono ?_;rintro e a2 ⟨rfl,o⟩;have n:=O<|f.u.trans o λ_ _ x=>x;go_wp2;go_ret;exact⟨⟨_,K,.inl ⟨j,A,K,q.u.1 trivial,l.u⟩⟩,n.u⟩
  .have M:j=Q a:=W;subst M;go_wp2;go_ret;refine⟨⟨_,K,.inr ⟨K,λa6 S=>?_⟩⟩,f.u⟩;obtain⟨i,g,rfl⟩:=List.mem_iff_getElem.1 S;exact l.u i g g
def S8(T:List Ty)(a:List<|bZ×Int)(p:bZ×Int):Bool:=match I8 p.1 (a.map (·.1)) (a.map λq=>tr T q.2.toNat) with
 |none=>κ
 |C x=>F7 x<|tr T p.2.toNat
def I4{w a b}{D}{m q o}{v}(i:cH w c N T D m a)(g:I (λk=>k=c) a b)(h:δ a (J q o)=C v):δ b (J q o)=C v:=by
 obtain⟨p,e,_⟩:=i.jg;have j:q≠c:=by
  intro l;subst l;obtain⟨n,⟨s,r,f,_⟩,_⟩:=e.own;simp[δ,f]at h
 rw[ý<|g.block q (Ì a _ h) j];omega
def cH.drewN{w a}{D}{m}(h:cH w c N T D m a)(n):cH w c N T D m (a.drewN n):=by
 obtain⟨b,e,f⟩:=h.jg;exact⟨h.P.trans (I.drewN No _ n) λ_ _ x=>x.elim,b,e.P (I.drewN No _ n) λx=>x,f⟩
def DF{m}(n:mI d c N T m){w}{D}(s:dY w d c N T D){a b}(i:a+b+1<=m)(q:a<Q T)(r:b<Q T)(f)(h:cH w c N T D m f):
 μ η 158 #[pV d,U a,U b] f λe j=>e=π (.bool<|F7 (tr T a)<|tr T b)/\I (λk=>k=c) f j/\cH w c N T D m j:=by
 obtain⟨l,o,p⟩:=h.lx s;refine(n a b f l i q r o).mono ?_;rintro e t g;exact⟨g.1,g.2.1,h.after p i g⟩
def Ļ{w a b}{D}{m}{p1 p2 p3 p4:Nat×Nat}{f g i j}(e:I (λk=>k=c) a b)(l:cH w c N T D m b)(h:δ a (J p1.1 p1.2)=C f/\δ a (J p2.1 p2.2)=C g/\δ a (J p3.1 p3.2)=C i/\δ a (J p4.1 p4.2)=C j/\Hid (cH w c N T D m a)):δ b (J p1.1 p1.2)=C f/\δ b (J p2.1 p2.2)=C g/\δ b (J p3.1 p3.2)=C i/\δ b (J p4.1 p4.2)=C j/\Hid (cH w c N T D m b):=
 ⟨I4 h.2.2.2.2.u e h.1,I4 h.2.2.2.2.u e h.2.1,I4 h.2.2.2.2.u e h.2.2.1,I4 h.2.2.2.2.u e h.2.2.2.1,l⟩
def vr(m)(IH:mI d c N T m)(w)(D)(h:dY w d c N T D)(s)(n)(b)(H:ξ w 0 156 2 (Y s (Q b) n) (Q b)<|I0 b)(a)(y)(o q)(hy:y<Q T)
 (a9:∀p∈b,0<=p.2/\p.2<Q T/\p.2+y+1<=m) (hl:fU w q (pV d) 62) (u:fU w o (Y s (Q b) n) 86):
 μ η 228 #[.agg #[ζ ⟨ν a⟩,U y],pV o,pV q] w λe f=>e=π (.bool<|!S8 T b (a,y))/\cH w c N T D m f:=by
 have j:=h.alloc<|γ #[ζ ⟨ν a⟩,U y] 156;have HF:=Js 229 (λ_ _=>ú) (w.alloc<|γ #[ζ ⟨ν a⟩,U y] 156) s n b (H.alloc _) a (V w.heap) (λaf hu ae x=>Qq af a ae x _<|by rw[ý<|hu.block _ ι λx=>x,World.cell?_alloc_new];rfl);have A:Hid (∀r,RL b a r->(r=-1/\(!S8 T b (a,y))=τ)\/∃(k:Nat) (x:Nat) (l:k<Q b),r=k/\b[k].2=x/\x<Q T/\x+y+1<=m/\(!S8 T b (a,y))=!F7 (tr T x) (tr T y)):=by
  intro r hr;obtain⟨k,l,rfl,j,F⟩|⟨rfl,j⟩:=hr
  .have hp:=a9 _<|mQ l;refine .inr ⟨k,b[k].2.toNat,l,K,W,W,W,?_⟩;grind[S8,OT]
  .refine .inl ⟨K,?_⟩;grind[S8,RI]
 have HS:=O j;have HO:=O<|H.alloc<|γ #[ζ ⟨ν a⟩,U y] 156;have a2:=O<|hl.alloc<|γ #[ζ ⟨ν a⟩,U y] 156;have a3:=O<|u.alloc<|γ #[ζ ⟨ν a⟩,U y] 156;have z:=O<|cH.refl h m;have S:=O h;have Z:=O<|rY w<|γ #[ζ ⟨ν a⟩,U y] 156;have aj:=u.lt;have cq:=u.cell;generalize (!S8 T b (a,y))=ag at*;go_in;go_wp2_with fail;refine HF.mono ?_;rintro e v ⟨⟨r,rfl,G⟩,i⟩;have S1:=O<|HS.u.y i;have O1:=O<|A3 HO.u i λ_ _ x=>x;have Q1:=O<|a2.u.y i;have Q2:=O<|a3.u.y i;have a6:=Q1.u.cell;have a7:=Q2.u.cell;have M:Hid (v.heap[V w.heap]?=C (γ #[ζ ⟨ν a⟩,U (y:Int)] 156 (0,0))):=(i.block (V w.heap) ι λx=>x).trans Z.u;have c3:δ v (J (V w.heap) 1)=C (U y):=cr M.u K;have B:Hid (cH w c N T D m v):=by
  obtain⟨P,j,F⟩:=(z.u.alloc<|γ #[ζ ⟨ν a⟩,U y] 156).jg;exact⟨((z.u.alloc _).P).trans i λ_ _ x=>x.elim,P,j.P i λx=>x,F⟩
 obtain⟨rfl,t⟩|⟨k,x,l,rfl,hx,ac,ad,t⟩:=A.u r G
 .clear G A;subst t;go_wp2;go_quiet (fail);go_wp2;go_ret;exact⟨F9 ι,B.u.drewN _⟩
 .obtain⟨g,rfl,hg,ai,aa,-,L⟩:=Y8 O1.u l;rw[hx]at L;have R:=λa5 ha=>DF IH S.u ad ac hy a5 ha;unfold Γ at aa;have ah:decide ((k:Int)<0)=κ:=ι;generalize F7 (tr T x) (tr T y)=r at*;have a4:=O t;go_wp2;go_region_held3 (λf=>δ f (J o 0)=C (Y (C<|J g 0) (Q b) n)/\δ f (J q 0)=C (pV d)/\δ f (J g<|k*2+1)=C (U x)/\δ f (J (V w.heap) 1)=C (U (y:Int))/\Hid (cH w c N T D m f))
   (first
    |exact⟨a7,a6,L,c3,B.u.drewN 1⟩
    |exact Ļ (p1:=(o,0)) (p2:=(q,0)) (p3:=(g,k*2+1)) (p4:=(V w.heap,1)) a8 ab ⟨W,W,W,W,W⟩
    |(go_split_ands;exact⟨ö,ö,ö,ö,ö⟩))
   (first
    |((go_at_call 158;go_split_ands;refine(R _<|Hid.u W).mono ?_;rintro e f ⟨rfl,a8,ab⟩)));have M2:Hid (cH w c N T D m f):=ö;go_wp2;go_ret;exact⟨F9<|by rw[a4.u],M2.u⟩
end
