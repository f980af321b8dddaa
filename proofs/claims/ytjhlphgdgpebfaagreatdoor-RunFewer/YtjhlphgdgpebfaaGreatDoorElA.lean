/-
  A part of the proof.
-/
import Derived.Test.YtjhlphgdgpebfaaGreatDoorShm
import Derived.Maps.OwnSet
import Derived.MapFrom
import Derived.Test.YtjhlphgdgpebfaaGreatDoorBindD
import Derived.Test.YtjhlphgdgpebfaaGreatDoorShs
set_option maxHeartbeats 0
set_option linter.all false
set_option maxRecDepth 100000
namespace Go.Proofs.YtjhlphgdgpebfaaGreatDoor
open _root_.Array renaming size->V
open Bool renaming false->κ,true->τ
open Go renaming Calls->μ,Value->υ,frozen_of_row->æ,heap_setCell_same->ð,maxLen->Δ,bits->û,cell_of_row->ä,wpList_append_own->Ù,Addr->í
open Ending renaming returned->π
open Instr renaming lookup->Ì
open Obj renaming cells->γ
open Go.Proofs.Tryz renaming prog->ε
open RowKit.Below renaming refl->ñ
open Value renaming slice->Y,ownBlock->Θ,string->ι
open World renaming ownsRow->ρ,cell?->δ,setCell->σ,news_of_block->Ó,alloc->ω
open I renaming refl->ì,alloc->ν,grown->ü,drewN->Ψ
open List renaming length->Q,length_singleton->Û,toArray->ξ
open Nat renaming zero_add->Þ,add_assoc->þ
open Option renaming some->C
open Go.Proofs.Tryz
open Go.RowKit Go.Maps Go.WideElems Go.ChangeMaps
def Gz{w a}{q}(h:w.mapTurned a q):I (λk=>k=q) w a:=by
 obtain⟨g,d,i,f,j,rfl⟩:=h;refine⟨K,K,K,by simp[setBlock],λk l b=>?_⟩;have c:q≠k:=λe=>b e.symm;simp[setBlock,c]
def cQ.del{w}{q m}{f}(h:cQ w q m f)(s)(r:0<=s/\s<=1000000):
 ∃a,(∀c,(Builtin.delete_ #[46,3] c #[.map<|C q,U s]).run ε w=.ok (.tuple #[]) a)/\cQ a q m (λu=>if u=s then none else f u)/\I (λk=>k=q) w a:=by
 obtain⟨n,D,l,j,i,e⟩:=h.own;obtain⟨a,p,o,g⟩:=l.drop yV underlying46 (zH s r) 0;refine⟨a,λc=>p,⟨n,_,o,j,i.del _,λu d=>?_⟩,Gz g⟩;by_cases b:u=s
 .subst b;rw[atKey_del_same];simp
 .rw[atKey_del_other<|by simpa using b,e u];simp[b]
def cQ.clear{w}{q m}{f:Int->Option Int}(h:cQ w q m f):
 ∃c,(∀e,(Builtin.clear_ #[46] e #[.map<|C q]).run ε w=.ok (.tuple #[]) c)/\cQ c q m (λ_=>none)/\I (λk=>k=q) w c:=by
 obtain⟨n,D,⟨g,a,b,F,p,rfl⟩,o,l,i⟩:=h.own;have hF:WideElems.Fit ε 3 (plainElem (H:=Unit) ε 3) #[] a:=⟨θ,⟨θ,θ,θ⟩,θ⟩;refine⟨setBlock w q<|.map #[] a,λe=>?_,⟨0,.map [],⟨#[],a,heap_setBlock_same b _,hF,vQ _,K⟩,wQ _,isMap_empty,λu d=>K⟩,Gz ⟨g,a,_,_,b,K⟩⟩;simp[Builtin.clear_,run_underlying underlying46,MapKept.run_getObj_map b,MapKept.run_setObj_map _ b,Result.andThen,setBlock]
def cQ.clone{w}{q m}{f}(h:cQ w q m f):
 μ ε 123 #[.map<|C q] w λe a=>e=π (.map<|C (V w.heap))/\cQ a (V w.heap) m f/\I No w a/\V w.heap<V a.heap:=by
 obtain⟨n,D,d,r⟩:=h.own;refine(AnyW.maps_Clone_owns Tryz.mapsClone 3 (plainElem (H:=Unit) ε 3) q n D w d).mono ?_;rintro e a ⟨rfl,b,_,c⟩;exact⟨K,⟨n,D,b,r⟩,(I.below c).mono λ_ g x=>W,b.lt⟩
structure iU(w:E)(c:Cx)(pb qb:Nat)(nv cv:υ)(ct:uZ):Prop where
 ok:jG c
 ey:cU w nv c.N
 names:cQ w qb 5000<|lS c
 blk:∃yv mn lb fv ov,w.heap[pb]?=C (γ (rM c nv yv mn lb qb fv ov) 66 (0,0))
 ue:ρ w 0 3 1 cv (Q ct)<|C8 ct
 fq:Q ct<=1000000
def cZ(B c:Nat)(w d:E):Prop:=I (λk=>B<=k/\(k=c\/∃a e b,w.heap[k]?=C (γ a e b)/\(e=74\/e=55))) w d
theorem cZ.y{B b}{w a}(h:I No w a):cZ B b w a:=h.mono λ_ _ x=>x.elim
theorem cZ.trans{B d f}{a b c}(h:cZ B d a b)(k:cZ B f b c)(l:f=d\/V a.heap<=f):cZ B d a c:=by
 refine⟨k.os.trans h.os,k.tape.trans h.tape,k.output.trans h.output,kQ h.size k.size,λi j m=>?_⟩;have g:=h.block i j m;refine(k.block i (yQ j h.size) λx=>m ⟨x.1,?_⟩).trans g;obtain rfl|⟨cs,e,fz,hh,he⟩:=x.2
 .obtain rfl|l:=l
  .exact .inl K
  .omega
 .exact .inr ⟨cs,e,fz,by rw[<-g];exact hh,he⟩
theorem cZ.one{B a q}{w b}(h:I (λk=>k=q) w b)(f:B<=q)(g:q=a\/∃c e d,w.heap[q]?=C (γ c e d)/\(e=74\/e=55)):cZ B a w b:=h.mono λk _ x=>by
 have i:k=q:=x;subst i;exact⟨f,g⟩
theorem cZ.cells{B d}{w f}(h:cZ B d w f)(j:∀a e b,w.heap[d]?≠C (γ a e b)){q:Nat}{a}{e}{b}(c:w.heap[q]?=C (γ a e b))(g:e≠74)(i:e≠55):f.heap[q]?=C (γ a e b):=by
 rw[h.block q (aG c) λx=>?_]
 .exact c
 obtain rfl|⟨cs',e',fz',hh,he⟩:=x.2
 .exact j _ _ _ c
 .rw[c]at hh;simp only[zQ,xW]at hh;obtain rfl|rfl:=he
  .exact g hh.2.1
  .exact i hh.2.1
def cZ.rr{B b}{w c}(h:cZ B b w c){q m}{f}(a:cQ w q m f)(d:q≠b):cQ c q m f:=
 a.P h λx=>by
  obtain x|⟨cs,e,fz,hh,_⟩:=x.2
  .exact d x
  .exact a.et hh
def cZ.below{B d}{w b a}(h:cZ B d w b)(c:I No a w)(e:V a.heap<=B):I No a b:=
 c.trans h λi f x=>W
def cZ.row{B i}{w k}(h:cZ B i w k)(o:∀b e c,w.heap[i]?≠C (γ b e c)){a}{j}{v}{n}{l}(f:ρ w a 3 j v n l):ρ k a 3 j v n l:=
 A3 f h λg m x=>by
  obtain⟨_,p,d⟩:=A9 f g m;obtain rfl|⟨b,e,c,h2,he⟩:=x.2
  .exact o _ _ _ d
  .rw[d]at h2;simp only[zQ,xW]at h2;obtain rfl|rfl:=he<;>simp at h2
structure dL(wB w:E)(pb:Nat)(cv:υ)(fb gb kb:Nat)(g:Gm)(m:Nat)(s:Es):Prop where
 P:I No wB w
 blk:∃lv,w.heap[fb]?=C (γ #[pV pb,.map<|C gb,cv,.map<|C kb,lv] 74 (0,0))/\ρ w (V wB.heap) 55 2 lv (Q s.lf) (S4 s.lf)
 gs:cQ w gb 5000 g
 ks:cQ w kb m s.kn
 lo:V wB.heap<=fb/\V wB.heap<=gb/\V wB.heap<=kb
 ne:gb≠kb
 fq:Q s.lf<=m
 tg:bP s.kn
 gt:bP g
section
variable{wB w h:E}{c:Cx}{d j a f b m:Nat}{i e:υ}{k:uZ}{g:Gm}{s:Es}
theorem iU.y(l:iU w c d j i e k)(n:I No w h):iU h c d j i e k:=by
 obtain⟨t,r,q,o,ov,p⟩:=l.blk;exact⟨l.ok,l.ey.eu n λ_ _ _ _ _ _ x=>x,l.names.P n λx=>x,⟨t,r,q,o,ov,D9 n p⟩,A3 l.ue n Ξ,l.fq⟩
theorem iU.cell(n:iU w c d j i e k):d<V w.heap/\δ w (J d 0)=C i/\δ w (J d 4)=C (.map<|C j):=by
 obtain⟨r,q,p,o,ov,l⟩:=n.blk;exact⟨(aG l),cr l K,cr l K⟩
def dL.j2(l:dL wB w d e a f b g m s)(n:iU wB c d j i e k):iU w c d j i e k:=n.y l.P
theorem dL.y(l:dL wB w d e a f b g m s)(n:I No w h):dL wB h d e a f b g m s:=by
 obtain⟨q,o,p⟩:=l.blk;exact⟨B6 l.P n,⟨q,D9 n o,A3 p n Ξ⟩,l.gs.P n λx=>x,l.ks.P n λx=>x,l.lo,l.ne,l.fq,l.tg,l.gt⟩
def dL.more{o}(l:dL wB w d e a f b g m s)(n:m<=o):dL wB w d e a f b g o s:=
 ⟨l.P,l.blk,l.gs,l.ks.more n,l.lo,l.ne,kQ l.fq n,l.tg,l.gt⟩
def dL.nc(p:dL wB w d e a f b g m s):∀l n o,w.heap[b]?≠C (γ l n o):=λ_ _ _=>p.ks.et
theorem dL.cell(r:dL wB w d e a f b g m s):a<V w.heap/\(∀o,w.frozen? (J a o)=κ)/\δ w (J a 0)=C (pV d)/\δ w (J a 1)=C (.map<|C f)/\δ w (J a 2)=C e/\δ w (J a 3)=C (.map<|C b)/\
 ∃n p,δ w (J a 4)=C (Y n (Q s.lf) p)/\w.heap[a]?=C (γ #[pV d,.map<|C f,e,.map<|C b,Y n (Q s.lf) p] 74 (0,0))/\ρ w (V wB.heap) 55 2 (Y n (Q s.lf) p) (Q s.lf) (S4 s.lf):=by
 obtain⟨t,l,q⟩:=r.blk;obtain⟨n,p,rfl⟩:=B8 q;exact⟨(aG l),λo=>æ w a o _ _ l,cr l K,cr l K,cr l K,cr l K,n,p,cr l K,l,q⟩
def dL.put{t}{r:Gm}(l:dL wB w d e a f b g m s)(o:I (λF=>F=b) w h)(z:cQ h b t r)(A:m<=t)(D:bP r):dL wB h d e a f b g t ⟨r,s.lf⟩/\cZ (V wB.heap) b w h:=by
 obtain⟨G,n,v⟩:=l.blk;have p:cZ (V wB.heap) b w h:=.one o l.lo.2.2<|.inl K;refine⟨⟨p.below l.P<|vQ _,⟨G,?_,A3 v o λq B x=>?_⟩,p.rr l.gs l.ne,z,l.lo,l.ne,kQ l.fq A,D,l.gt⟩,p⟩
 .rw[o.block a (aG n) λx=>?_]
  .exact n
  .have u:a=b:=x;subst u;exact l.nc _ _ _ n
 .have u:q=b:=x;subst u;obtain⟨_,H,y⟩:=A9 v q B;exact l.nc _ _ _ y
def dL.turn{n v}{u:Gm}(l:dL wB w d e a f b g m s)(y:cQ w n v u)(A:V wB.heap<=n)(D:f≠n)(B:Q s.lf<=v)(G:bP u):
 dL wB (σ w (J a 3)<|.map<|C n) d e a f n g v ⟨u,s.lf⟩/\I (λr=>r=a) w (σ w (J a 3)<|.map<|C n):=by
 obtain⟨H,t,z⟩:=l.blk;have p:I (λr=>r=a) w (σ w (J a 3)<|.map<|C n):=I.set w (J a 3) _;refine⟨⟨l.P.trans p λr L x=>by have:=l.lo.1;have o:r=a:=x;omega,⟨H,?_,A3 z p λq F x=>?_⟩,l.gs.P p λx=>?_,y.P p λx=>?_,⟨l.lo.1,l.lo.2.1,A⟩,D,B,G,l.gt⟩,p⟩
 .rw[ð w a 3 _ _ _ t];rfl
 .have o:q=a:=x;subst o;exact I6 z t ζ F
 .have o:f=a:=x;subst o;exact l.gs.et t
 .have o:n=a:=x;subst o;exact y.et t
def dL.left{u}{v}{l}{o}{p}{M}(n:dL wB w d e a f b g m s)(z:w.heap[a]?=C (γ #[pV d,.map<|C f,e,.map<|C b,Y u (Q s.lf) v] 74 (0,0)))(D:ρ w (V wB.heap) 55 2 (Y u (Q s.lf) v) (Q s.lf)<|S4 s.lf)
 (A:I (λr=>Θ (Y u (Q s.lf) v)=C r) w l) (L:ρ l (V wB.heap) 55 2 o (Q s.lf+1)<|S4 s.lf++[U p.1,U p.2]) (hm:m+1<=M):
 dL wB (σ l (J a 4) o) d e a f b g M ⟨s.kn,s.lf++[p]⟩/\cZ (V wB.heap) b w (σ l (J a 4) o):=by
 have S:=(aG z);have P:cZ (V wB.heap) b w l:=A.mono λr _ x=>by
  obtain⟨T,N,B⟩:=A9 D r x;exact⟨T,.inr ⟨_,_,_,B,.inr K⟩⟩
 have t:l.heap[a]?=C (γ #[pV d,.map<|C f,e,.map<|C b,Y u (Q s.lf) v] 74 (0,0)):=by
  rw[A.block a S λx=>I6 D z ζ x];exact z
 have F:I (λr=>r=a) l (σ l (J a 4) o):=I.set l (J a 4) _;have R:cZ (V wB.heap) b l (σ l (J a 4) o):=.one F n.lo.1<|.inr ⟨_,_,_,t,.inl K⟩;have y:=P.trans R<|.inl K;have H:cQ l b m s.kn:=n.ks.P A λx=>by
  obtain⟨_,N,B⟩:=A9 D _ x;exact n.nc _ _ _ B
 refine⟨⟨y.below n.P<|vQ _,⟨o,?_,?_⟩,y.rr n.gs n.ne,(H.P F λx=>?_).more W,n.lo,n.ne,?_,n.tg,n.gt⟩,y⟩
 .rw[ð l a 4 _ _ _ t];rfl
 .rw[OM,qQ,Û];exact A3 L F (λq Z x=>by
   have G:q=a:=x;subst G;exact I6 L t ζ Z)
 .have G:b=a:=x;subst G;exact H.et t
 .have:=n.fq;simp only[qQ,Û];omega
end
def EQ(c:E)(i:Nat)(d:υ)(f h a:Nat)(g:Gm)(m:Nat)(s:Es)(w:E)(e:Ending)(b:E):Prop:=
 e=rT/\dL c b i d f h a g m s/\cZ (V c.heap) a w b
section
variable{f w:E}{c:Cx}{e j d h i m:Nat}{k b:υ}{a:uZ}{g:Gm}{s:Es}
def Hk(o:dL f w e b d h i g m s)(x)(q:0<=x/\x<=1000000):
 μ ε 84 #[pV d,U x] w λp r=>p=π (U<|eX s.kn x)/\r=w:=by
 obtain⟨u,-,-,-,-,t,-⟩:=o.cell;have n:=o.ks.look x q;unfold eX;clear o;cases l:s.kn x with
 |none=>
  rw[l]at n;simp only[Option.getD_none,Option.isSome_none]at n⊢;clear l;go_in;go_wp2;go_ret;exact⟨K,K⟩
 |some v=>
  rw[l]at n;simp only[Option.getD_some,Option.isSome_some]at n⊢;clear l;go_in;go_wp2;go_ret;exact⟨K,K⟩
def iu{w:E}{b}(o:ρ w 0 3 1 b (Q a)<|C8 a)(y:Q a<=1000000)(x):
 μ ε 83 #[b,U x] w λl v=>l=π (.bool<|a.contains x)/\v=w:=by
 obtain⟨r,n,rfl⟩:=B8 o;by_cases t:Q a=0
 .have:a=[]:=List.length_eq_zero_iff.1 t;subst this;exact Tryz.slices_Contains_int_empty r n x w
 .obtain⟨q,rfl,_⟩:=D6 o (j:=0) W;have:=Tryz.slices_Contains_int q 0 (Q a) n a x w (vQ _) W (λz p=>by
   obtain⟨A,l,_,_,_,u⟩:=D6 o p;simp only[zQ,Addr.mk.injEq,and_true]at l;subst l;rw[Þ,u,lQ,gQ p];rfl);rw[vZ]at this;exact this
def YC(q:iU f c e j k b a)(l:dL f w e b d h i g m s)(M:m<=10000000)(x v)(D:0<=x/\x<=1000000)(B:0<=v/\v<128):
 μ ε 44 #[pV d,U x,U v] w (EQ f e b d h i g (m+1) ⟨bN a s.kn x v,s.lf⟩ w):=by
 obtain⟨L,-,-,-,G,H,-⟩:=l.cell;have n:=O<|iu (l.j2 q).ue q.fq x;obtain⟨N,A,y,t⟩:=l.ks.put x v D W W;have p:=O<|l.put t y (Nat.le_succ m)<|l.tg.set x B;have r:=O<|l.more<|Nat.le_succ m;have u:a.contains x=decide (x∈a):=by simp[List.contains_eq_mem]
 rw[u]at n;unfold bN;clear l q y t u;by_cases o:x∈a
 .rw[yY o];simp only[o,decide_true]at n;clear A p;go_in;go_wp2_with fail;refine n.u.mono ?_;rintro z F ⟨rfl,rfl⟩;go_wp2_with fail;go_end0;exact⟨K,r.u,.y<|ì _ _⟩
 .rw[wY o];simp only[o,decide_false]at n;clear r;go_in;go_wp2_with fail;refine n.u.mono ?_;rintro z F ⟨rfl,rfl⟩;go_wp2_with fail;go_end0;exact⟨K,p.u.1,p.u.2⟩
theorem iU.nm(o:iU w c e j k b a){l}(u:l<Q c.N)(v:c.N[l].x=5\/c.N[l].x=18):(0<=eH c l/\eH c l<=1000000)/\(Ì 46 (.map<|C j) (U l) κ).run ε w=.ok (U<|eH c l) w:=by
 have x:=o.ok.fp;obtain⟨n,p,y,_⟩:=o.ok.mw.tg l u v;have q:=o.names.get (l:Int) W;have r:eH c l=(n:Int):=by
  unfold eH;rw[tQ];exact p
 have t:lS c (l:Int)=C (n:Int):=by
  unfold lS;rw[tQ,p,yY ⟨W,W,W⟩]
 rw[t]at q;rw[r];exact⟨W,q⟩
def Ux(o:iU f c e j k b a)(n:dL f w e b d h i g m s)(l)(u:l<Q c.N):
 μ ε 86 #[pV d,U l] w λv y=>v=π (U<|fY c l)/\y=w:=by
 obtain⟨F,-,z,-,-,-,-⟩:=n.cell;obtain⟨M,T,Z⟩:=(n.j2 o).cell;obtain⟨S,R,N,P,rfl,D,L,x,⟨x0,-,-,-,-,-,-,-,-⟩,-,-⟩:=(n.j2 o).ey.at (ñ _ _) l u;have G:=o.ok.fp;have p:=(n.j2 o).nm u;unfold Δ at x;unfold fY;rw[B7 u];clear n o;generalize c.N[l].x=q at*;by_cases r:q=16
 .subst r;rw[yY K];clear p;go_in;go_wp2;go_ret;exact⟨K,K⟩
 .have A:(q==16)=κ:=by simpa using r
  rw[wY r];by_cases t:q=5
  .subst t;rw[yY K];obtain⟨-,H⟩:=p<|.inl K;clear p;generalize eH c l=a2 at*;go_in;go_wp2;go_ret;exact⟨K,K⟩
  .have B:(q==5)=κ:=by simpa using t
   rw[wY t];clear p;go_in;go_wp2;go_ret;exact⟨K,K⟩
def Xy(w:E)(l):μ ε 125 #[ι ⟨ξ l⟩] w λn v=>n=π (U<|pC l)/\v=w:=by
 go_in;by_cases o:l=[61,61]
 .subst o;go_wp2;go_ret;exact⟨K,K⟩
 have x:(l==[61,61])=κ:=by simpa using o
 by_cases p:l=[60]
 .subst p;go_wp2;go_ret;exact⟨K,K⟩
 have y:(l==[60])=κ:=by simpa using p
 by_cases q:l=[33]
 .subst q;go_wp2;go_ret;exact⟨K,K⟩
 have z:(l==[33])=κ:=by simpa using q
 by_cases r:l=[45]
 .subst r;go_wp2;go_ret;exact⟨K,K⟩
 have A:(l==[45])=κ:=by simpa using r
 by_cases t:l=[42]
 .subst t;go_wp2;go_ret;exact⟨K,K⟩
 have B:(l==[42])=κ:=by simpa using t
 by_cases u:l=[116,121,112,101,111,102]
 .subst u;go_wp2;go_ret;exact⟨K,K⟩
 have D:(l==[116,121,112,101,111,102])=κ:=by simpa using u
 have n:pC l=0:=by
  unfold pC;simp[o,p,q,r,t,u]
 rw[n];clear n;go_wp2;go_ret;exact⟨K,K⟩
end
def ů(w:E)(b)(i)(j):μ ε 85 #[eE b i j] w λe l=>e=π (U<|hY b)/\I No w l:=by
 obtain⟨a,x,z,A,v,d,B,F,D⟩:=b;unfold eE hY;simp only;by_cases h:a=1\/a=2\/a=3\/a=4\/a=6\/a=10\/a=11
 .obtain rfl|rfl|rfl|rfl|rfl|rfl|rfl:=h<;>
   (go_in;go_wp2;go_ret;exact⟨K,ν _ _ _⟩)
 have c:=O λf=>Xy f d;generalize pC d=y at*;by_cases g:a=12\/a=13
 .obtain rfl|rfl:=g<;>
   (go_in;go_wp2_with fail;refine(c.u _).mono ?_;rintro e f ⟨rfl,rfl⟩;go_wp2_with fail;go_ret;exact⟨K,ν _ _ _⟩)
 have k:(a==1)=κ/\(a==2)=κ/\(a==3)=κ/\(a==4)=κ/\(a==6)=κ/\(a==10)=κ/\(a==11)=κ/\(a==12)=κ/\(a==13)=κ:=by
  simp only[beq_eq_false_iff_ne];omega
 obtain⟨m,r,s,t,u,n,o,p,q⟩:=k;rw[wY W,wY W,wY W,wY W,wY W,wY W,wY W,wY W];clear c;go_in;go_wp2;go_ret;exact⟨K,ν _ _ _⟩
section
variable{f w:E}{c:Cx}{e k a b i m:Nat}{j d:υ}{h:uZ}{g:Gm}{s:Es}
def Yd(r:iU f c e k j d h)(o:dL f w e d a b i g m s)(l)(P:l<Q c.N):
 μ ε 45 #[pV a,U l] w λn w'=>n=π (U<|kM c g s.kn l)/\I No w w':=by
 obtain⟨hl,-,b0,b1,-,-,-⟩:=o.cell;obtain⟨a9,aa,p4⟩:=(o.j2 r).cell;obtain⟨ng,nc,la,lc,rfl,hg,a8,a3,⟨x0,x1,x2,x3,x4,x5,x6,x7,x8⟩,-,-⟩:=(o.j2 r).ey.at (ñ _ _) l P;have a6:=r.ok.fp;have t:=ν No w<|γ #[U c.N[l].x,U c.N[l].a,U c.N[l].b,U c.N[l].c,Y la (Q c.N[l].M) lc,ι ⟨ξ c.N[l].text⟩,U c.N[l].n,U c.N[l].ty,U c.N[l].at'] 93;have G:=O λhk=>((o.y t).j2 r).nm P hk;have H:=O λx D=>Hk (o.y t) x D;have A:Hid (∀u,I No w u->δ u (J a 1)=C (.map<|C b)/\a<V u.heap/\(Ì 46 (.map<|C b) (U (l:Int)) τ).run ε u=.ok (.tuple #[U<|(g l).getD 0,.bool (g l).isSome]) u):=λu S=>⟨A4 S b1,yQ hl S.size,(o.gs.P S λx=>x).look (l:Int) W⟩;have B:=O λT=>ů T c.N[l] la lc;have Z:=O t;unfold Δ at a3;unfold kM;rw[B7 P];unfold eE at B;clear o r t;generalize a4:c.N[l]=nd at*;clear a4;obtain⟨kd,va,vb,vc,ls,tx,vn,vt,vp⟩:=nd;simp only at*;by_cases M:kd=5
 .subst M;rw[yY K];obtain⟨D,a7⟩:=G.u<|.inl K;have a2:=O<|H.u _ D;clear G A B H D;generalize eH c l=y at*;generalize eX s.kn y=ab at*;go_in;go_wp2_with fail;refine a2.u.mono ?_;rintro n T ⟨rfl,rfl⟩;go_wp2_with fail;go_ret;exact⟨K,Z.u⟩
 .have g5:(kd==5)=κ:=by simpa using M
  rw[wY M];clear G H;generalize hY _=y at*;obtain⟨R,N⟩:∃R,(if y≠0 then y else (g (l:Int)).getD 127)=R:=⟨_,K⟩;rw[N];have p:=O N;clear N;go_in;go_wp2_with fail;refine(B.u _).mono ?_;rintro n T ⟨rfl,hc⟩;have z:=O<|B6 Z.u hc;clear hc B;by_cases L:y=0
  .subst L;obtain⟨a5,l1,F⟩:=A.u _ z.u;clear A;cases q:g l with
   |none=>
    have n:R=127:=by rw[<-p.u,q];rfl
    subst n;rw[q]at F;simp only[Option.getD_none,Option.isSome_none]at F;clear q p;go_wp2_with fail;go_ret;exact⟨K,z.u⟩
   |some v=>
    have n:R=v:=by rw[<-p.u,q];rfl
    subst n;rw[q]at F;simp only[Option.getD_some,Option.isSome_some]at F;clear q p;go_wp2_with fail;go_ret;exact⟨K,z.u⟩
  .have g0:(y !=0)=τ:=by simpa using L
   have n:R=y:=by rw[<-p.u,yY L]
   subst n;clear A p;go_wp2_with fail;go_ret;exact⟨K,z.u⟩
end
def Tryz.qe:(prog.info? 55).map (λi=>(i.zero,i.size,i.bytes))=C (C<|.agg #[U 0,U 0],2,16):=î
section
variable{b w:E}{c:Cx}{h k a i f m:Nat}{j e:υ}{d:uZ}{g:Gm}{s:Es}
def XW(D:iU b c h k j e d)(q:dL b w h e a i f g m s)(hm:m<=9000000)(l)(hi:l<Q c.N):
 μ ε 46 #[pV a,U l] w (EQ b h e a i f g (m+2) (dH c g d l s) w):=by
 obtain⟨i0,ac,ae,af,ag⟩:=info_parts Tryz.qe;obtain⟨hl,fz,b0,b1,-,-,la,lc,b4,a3,ho⟩:=q.cell;obtain⟨aw,ay,p4⟩:=(q.j2 D).cell;obtain⟨ng,nc,-,-,ao,hg,av,an,⟨x0,-,-,-,-,-,-,-,-⟩,-,-⟩:=(q.j2 D).ey.at (ñ _ _) l hi;have ar:=D.ok.fp;have aa:=q.gs.look (l:Int) W;have a5:=O<|Ux D q l hi;have aq:=q.fq;have ax:=q.P.size;unfold Δ at an;have ab:fY c l≠-1->0<=fY c l/\fY c l<=1000000:=by
  unfold fY;rw[B7 hi];intro a6;split
  .omega
  .split
   .rename_i B;exact((q.j2 D).nm hi<|.inl B).1
   .rename_i h1 h2;rw[wY h1,wY h2]at a6;exact absurd K a6
 have ad:c.N[l].x=5->fY c l≠-1:=λB o=>by
  unfold fY at o;rw[B7 hi,wY W,yY B]at o;have:=((q.j2 D).nm hi<|.inl B).1;omega
 cases a4:g l with
 |none=>
  have o:dH c g d l s=s:=by unfold dH;rw[a4]
  rw[o];rw[a4]at aa;simp only[Option.getD_none,Option.isSome_none]at aa;have G:=O (q.more<|show m<=m+2 by omega);clear q D a5 ab ad ho a3 o a4;go_in;go_wp2_with fail;go_end0;exact⟨K,G.u,.y<|ì _ _⟩
 |some t=>
  have o:dH c g d l s=⟨if fY c l=-1 then s.kn else bN d s.kn (fY c l)<|û .and .i64 (eX s.kn<|fY c l) t,if c.N[l].x≠5\/û .andNot .i64 (eX s.kn<|fY c l) t≠0 then s.lf++[((l:Int),t)] else s.lf⟩:=by
   unfold dH;rw[a4,B7 hi]
  rw[o];rw[a4]at aa;simp only[Option.getD_some,Option.isSome_some]at aa;have ht:=q.gt _ _ a4;have F:Hid (∀u ah,dL b u h e a i f g (m+1) ⟨s.kn,ah⟩->fY c l≠-1->μ ε 84 #[pV a,U<|fY c l] u (λo w'=>o=π (U<|eX s.kn<|fY c l)/\w'=u)/\
   μ ε 44 #[pV a,U<|fY c l,U<|û .and .i64 (eX s.kn<|fY c l) t] u (EQ b h e a i f g (m+2) ⟨bN d s.kn (fY c l)<|û .and .i64 (eX s.kn<|fY c l) t,ah⟩ u)):=λu ah z a6=>
   ⟨Hk z _<|ab a6,YC D z W _ _ (ab a6)<|Jf _ _ (q.tg.lu _) ht⟩;have Z:Hid (∀n v',I (λv=>Θ (Y la (Q s.lf) lc)=C v) w n->ρ n (V b.heap) 55 2 v' (Q s.lf+1) (S4 s.lf++[U (l:Int),U t])->dL b (σ n (J a 4) v') h e a i f g (m+1) ⟨s.kn,s.lf++[((l:Int),t)]⟩/\cZ (V b.heap) f w (σ n (J a 4) v')):=λn v' hc ap=>q.left (p:=((l:Int),t)) a3 ho hc ap<|vQ _;have G:=O (q.more<|show m<=m+1 by omega);have a2:=O<|ho.alloc<|γ #[U (l:Int),U t] 55;have au:=(C6d s.lf);have T:Hid (∀n,I (λv=>Θ (Y la (Q s.lf) lc)=C v) w n->a<V n.heap/\∀ai,n.frozen? (J a ai)=κ):=λn hc=>by
   have a9:n.heap[a]?=_:=(hc.block a hl λx=>I6 ho a3 ζ x).trans a3;exact⟨(aG a9),λai=>æ n a ai _ _ a9⟩
  have S:Hid (∀(n:E),I (λv=>Θ (Y la (Q s.lf) lc)=C v) w n->δ n (J a 4)=C (Y la (Q s.lf) lc)):=λn hc=>by
   have a9:n.heap[a]?=_:=(hc.block a hl λx=>I6 ho a3 ζ x).trans a3;rw[ä n a 4 _ _ _ a9];rfl
  subst ao;have am:=O ad;clear q D ab ho a3 o a4 ad;generalize fY c l=x at*;generalize hz:eX s.kn x=a8 at*;clear hz;generalize c.N[l].x=kd at*;by_cases B:kd=5
  .subst B;have A:=am.u K;have gx:(x !=-1)=τ:=by simpa using A
   rw[wY A];by_cases ha:û .andNot .i64 a8 t=0
   .have ga:(û .andNot .i64 a8 t !=0)=κ:=by simpa using ha
    rw[wY<|by simp[ha]];obtain⟨N,P⟩:=F.u _ _ G.u A;have H1:=O N;have H2:=O P;clear F Z T S a2 N P G;go_in;go_wp2_with fail;refine a5.u.mono ?_;rintro o R ⟨rfl,rfl⟩;go_wp2_with fail;refine H1.u.mono ?_;rintro o R ⟨rfl,rfl⟩;go_wp2_with fail;refine H1.u.mono ?_;rintro o R ⟨rfl,rfl⟩;go_wp2_with fail;refine H2.u.mono ?_;rintro o al ⟨rfl,ak⟩;have HR:=O ak;clear ak;go_wp2_with fail;go_end0;exact⟨K,HR.u⟩
   .have ga:(û .andNot .i64 a8 t !=0)=τ:=by simpa using ha
    rw[yY<|.inr ha];go_in;go_wp2_with fail;refine a5.u.mono ?_;rintro o R ⟨rfl,p⟩;replace p:=p.symm;subst p;have H1:=O (F.u _ _ G.u A).1;go_wp2_with fail;refine H1.u.mono ?_;rintro o R ⟨rfl,p⟩;replace p:=p.symm;subst p;go_wp2_with (at_builtin;refine Ù _ K _ _ 37 K (V b.heap) 55 i0 (.agg #[U 0,U 0]) 2 16 underlying37 ac ae af ag K ζ _ _ _ K a2.u (J (V w.heap) 0) 1 1 [U (l:Int),U t] K K ?c1 ?c2 ?c3 ?c4 ?c5 ?_);case c1=>exact Ó (cs:=#[U (l:Int),U t]) (t:=55) (fr:=(0,0))<|rY w _
    case c2=>intro u z;simp at z;obtain rfl|rfl:=z<;>rfl
    case c3=>simp only[Δ];omega
    case c4=>omega
    case c5=>simp;omega
    intro v' n y L _;obtain⟨aj,c4,rfl⟩:=B8 y;have r:I (λv=>Θ (Y la (Q s.lf) lc)=C v) w n:=(ν _ w<|γ #[U (l:Int),U t] 55).trans (ü L) λv hk x=>x.symm;obtain⟨l4,z4⟩:=T.u _ r;have y4:=S.u _ r;obtain⟨H,M⟩:=Z.u _ _ r y;obtain⟨N,P⟩:=F.u _ _ H A;have G1:=O N;have G2:=O P;have K5:=O M;clear F Z T S a2 N P G H M r y L H1;go_wp2_with fail;refine G1.u.mono ?_;rintro o R ⟨rfl,p⟩;replace p:=p.symm;subst p;go_wp2_with fail;refine G2.u.mono ?_;rintro o al ⟨rfl,a7,r2⟩;have HR:=O a7;have HK:=O<|K5.u.trans r2<|.inl K;clear a7 r2 K5;go_wp2_with fail;go_end0;exact⟨K,HR.u,HK.u⟩
  .have g5:(kd !=5)=τ:=by simpa using B
   by_cases A:x=-1
   .have gx:(x !=-1)=κ:=by simpa using A
    rw[yY A,yY<|show kd≠5\/û .andNot .i64 a8 t≠0 from .inl B];go_in;go_wp2_with fail;refine a5.u.mono ?_;rintro o R ⟨rfl,p⟩;replace p:=p.symm;subst p;go_wp2_with (at_builtin;refine Ù _ K _ _ 37 K (V b.heap) 55 i0 (.agg #[U 0,U 0]) 2 16 underlying37 ac ae af ag K ζ _ _ _ K a2.u (J (V w.heap) 0) 1 1 [U (l:Int),U t] K K ?c1 ?c2 ?c3 ?c4 ?c5 ?_);case c1=>exact Ó (cs:=#[U (l:Int),U t]) (t:=55) (fr:=(0,0))<|rY w _
    case c2=>intro u z;simp at z;obtain rfl|rfl:=z<;>rfl
    case c3=>simp only[Δ];omega
    case c4=>omega
    case c5=>simp;omega
    intro v' n y L _;obtain⟨aj,c4,rfl⟩:=B8 y;have r:I (λv=>Θ (Y la (Q s.lf) lc)=C v) w n:=(ν _ w<|γ #[U (l:Int),U t] 55).trans (ü L) λv hk x=>x.symm;obtain⟨l4,z4⟩:=T.u _ r;have y4:=S.u _ r;obtain⟨H,M⟩:=Z.u _ _ r y;have HR:=O (H.more<|show m+1<=m+2 by omega);have K5:=O M;clear F Z T S a2 G H M r y L;go_wp2_with fail;go_end0;exact⟨K,HR.u,K5.u⟩
   .have gx:(x !=-1)=τ:=by simpa using A
    rw[wY A,yY<|show kd≠5\/û .andNot .i64 a8 t≠0 from .inl B];go_in;go_wp2_with fail;refine a5.u.mono ?_;rintro o R ⟨rfl,p⟩;replace p:=p.symm;subst p;go_wp2_with (at_builtin;refine Ù _ K _ _ 37 K (V b.heap) 55 i0 (.agg #[U 0,U 0]) 2 16 underlying37 ac ae af ag K ζ _ _ _ K a2.u (J (V w.heap) 0) 1 1 [U (l:Int),U t] K K ?c1 ?c2 ?c3 ?c4 ?c5 ?_);case c1=>exact Ó (cs:=#[U (l:Int),U t]) (t:=55) (fr:=(0,0))<|rY w _
    case c2=>intro u z;simp at z;obtain rfl|rfl:=z<;>rfl
    case c3=>simp only[Δ];omega
    case c4=>omega
    case c5=>simp;omega
    intro v' n y L _;obtain⟨aj,c4,rfl⟩:=B8 y;have r:I (λv=>Θ (Y la (Q s.lf) lc)=C v) w n:=(ν _ w<|γ #[U (l:Int),U t] 55).trans (ü L) λv hk x=>x.symm;obtain⟨l4,z4⟩:=T.u _ r;have y4:=S.u _ r;obtain⟨H,M⟩:=Z.u _ _ r y;obtain⟨N,P⟩:=F.u _ _ H A;have G1:=O N;have G2:=O P;have K5:=O M;clear F Z T S a2 N P G H M r y L;go_wp2_with fail;refine G1.u.mono ?_;rintro o R ⟨rfl,rfl⟩;go_wp2_with fail;refine G2.u.mono ?_;rintro o al ⟨rfl,a7,r2⟩;have HR:=O a7;have HK:=O<|K5.u.trans r2<|.inl K;clear a7 r2 K5;go_wp2_with fail;go_end0;exact⟨K,HR.u,HK.u⟩
end
def qG(c:Cx)(f:Nat)(l:uZ):Prop:=Q l<=100000/\∀x∈l,∃j:Nat,x=j/\j<f/\j<Q c.N
def qG.r8{c}(a:jG c){i}(b){f}(h:i<=f):qG c f (aD c.N[i]):=by
 refine⟨?_,λx d=>?_⟩
 .have g:=a.ls i b;unfold aD;repeat' split
  all_goals simp
  all_goals omega
 .obtain⟨j,e,k⟩:=Gv (a.ew i b) x d;exact⟨j,e,W,W⟩
def xT{w:E}{q}{a b c d e f g h i}(j:w.heap[q]?=C (γ #[a,b,c,d,e,f,g,h,i] 93 (0,0))):q<V w.heap/\δ w (J q 0)=C a/\δ w (J q 1)=C b/\δ w (J q 2)=C c/\δ w (J q 3)=C d/\δ w (J q 4)=C e/\δ w (J q 5)=C f/\δ w (J q 6)=C g/\δ w (J q 7)=C h/\δ w (J q 8)=C i:=
 ⟨(aG j),cr j K,cr j K,cr j K,cr j K,cr j K,cr j K,cr j K,cr j K,cr j K⟩
def oY(w:E)(c:Option í)(a:Nat)(l:uZ):Prop:=∀j (h),∃q o b,c=C (J q o)/\w.heap[q]?=C (γ b 3 (0,0))/\δ w (J q<|o+j)=C (U l[j])/\Q l<=a/\a<=Δ
theorem oY.of{w}{a}{b}{l}(h:ρ w 0 3 1 (Y a (Q l) b) (Q l)<|C8 l):oY w a b l:=λj i=>by
 obtain⟨q,rfl,k,d,e,f⟩:=D6 h i;obtain⟨_,c,g⟩:=A9 h q K;exact⟨q,0,c,K,g,by rw[Þ];exact f,d,e⟩
def oY.eu{B d}{w i}{f}{g}{l}(h:oY w f g l)(s:cZ B d w i)(t:∀k e n,w.heap[d]?≠C (γ k e n)):oY i f g l:=λj p=>by
 obtain⟨q,o,m,rfl,c,b,r⟩:=h j p;have a:=s.cells t c ζ ζ;refine⟨q,o,m,K,a,?_,r⟩;rw[ä _ _ _ _ _ _ c]at b;rw[ä _ _ _ _ _ _ a];exact b
section
variable{b:E}{c:Cx}{f i d h a m:Nat}{k e:υ}{j:uZ}{g:Gm}
def SM(hP:iU b c f i k e j):∀(o) (l) (w) (s) (v) (x),qG c o l->dL b w f e d h a g m s->oY w v x l->
 μ ε 80 #[pV d,Y v (Q l) x] w (EQ b f e d h a g m ⟨gP c o l s.kn,s.lf⟩ w)
 |o,l,w,s,v,x,hl,ai,ho=>by
  have IH:Hid (∀(L:uZ) (w:E) (s:Es) (v:Option í) (x:Nat),qG c (o-1) L->0<o->dL b w f e d h a g m s->oY w v x L->
   μ ε 80 #[pV d,Y v (Q L) x] w (EQ b f e d h a g m ⟨gP c (o-1) L s.kn,s.lf⟩ w)):=λL w s v x h1 h0 h2 h3=>SM hP (o-1) L w s v x h1 h2 h3;have bd:=hl.1;have HL:=O hl.2;have HW:=O ai;have HO:=O ho;have z:=O hP;clear ai ho hl hP;go_in;go_wp2_with fail;go_loopw [9] (λaf wr=>∃p:Nat,p<=Q l/\af=U (p:Int)/\Hid (dL b wr f e d h a g m ⟨gP c o (l.take p) s.kn,s.lf⟩)/\Hid (cZ (V b.heap) a w wr)) (λaf _=>Q l-(intOf af).toNat);case atStart=>exact⟨0,wQ _,K,HW.u,.y<|ì _ _⟩
  case round=>
   obtain⟨p,hj,rfl,q,M⟩:=hrel;by_cases ac:p<Q l
   .obtain⟨bg,be,b1,e1,ak,x1,b4,ar⟩:=HO.u.eu M.u HW.u.nc p ac;have hq:=(aG ak);subst e1;obtain⟨n,ab,b6,H⟩:=HL.u l[p]<|mQ ac;have P:Hid (gP c o (l.take<|p+1) s.kn=kR c o n (gP c o (l.take p) s.kn)):=by
     show _=_;rw[nQ ac,ab];unfold gP;rw[List.foldl_append];rfl
    rw[ab]at x1;clear ab;obtain⟨B,am⟩:∃B,gP c o (l.take p) s.kn=B:=⟨_,K⟩;rw[am]at q P;clear am;obtain⟨b5,-,b0,-,-,b3,-⟩:=q.u.cell;obtain⟨ba,bf,p4⟩:=(q.u.j2 z.u).cell;obtain⟨ng,nc,D,F,ax,hg,b9,av,⟨y0,y1,y2,y3,y4,y5,y6,y7,y8⟩,ao,-⟩:=(q.u.j2 z.u).ey.at (ñ _ _) n H;subst ax;have b7:=z.u.ok.fp;unfold Δ at ar av;have a4:Hid (∀u,cZ (V b.heap) a wr u->μ ε 43 #[eE c.N[n] D F] u (oE u<|aD c.N[n])):=λu hu=>PI (z.u.ok.ew n H) u D F (hu.row q.u.nc ao) (by have:=z.u.ok.ls n H;omega);have a7:Hid (∀u a5 r t,dL b u f e d h a g m ⟨a5,s.lf⟩->oY u r t (aD c.N[n])->μ ε 80 #[pV d,Y r (Q (aD c.N[n])) t] u (EQ b f e d h a g m ⟨gP c (o-1) (aD c.N[n]) a5,s.lf⟩ u)):=λu a5 r t h1 h2=>IH.u _ u ⟨a5,s.lf⟩ r t (qG.r8 z.u.ok H W) W h1 h2;have HE:Hid (kR c o n B=if c.N[n].x=6 then B else gP c (o-1) (aD c.N[n])<|if c.N[n].x=18 then kX B (eH c n) else B):=by
     show _=_;obtain⟨f',rfl⟩:∃f',o=f'+1:=⟨o-1,W⟩;rw[kR,B7 H];rfl
    have A1:=ν No wr<|γ #[U c.N[n].x,U c.N[n].a,U c.N[n].b,U c.N[n].c,Y D (Q c.N[n].M) F,ι ⟨ξ c.N[n].text⟩,U c.N[n].n,U c.N[n].ty,U c.N[n].at'] 93;have y:=O<|q.u.y A1;have a3:=O λhk=>((y.u.y<|Ψ No _ 1).j2 z.u).nm H<|.inr hk;have nb:=rY wr<|γ #[U c.N[n].x,U c.N[n].a,U c.N[n].b,U c.N[n].c,Y D (Q c.N[n].M) F,ι ⟨ξ c.N[n].text⟩,U c.N[n].n,U c.N[n].ty,U c.N[n].at'] 93;have ah:=O nb;have a6:=O A1;unfold eE at a4;clear ao IH A1 nb ak;generalize aw:c.N[n]=nd at*;clear aw;obtain⟨kd,va,vb,vc,ls,tx,vn,vt,vp⟩:=nd;simp only at*;by_cases k6:kd=6
    .subst k6;have G:gP c o (l.take<|p+1) s.kn=B:=by rw[P.u,HE.u,yY K]
     have N:=O G;clear G a4 a7 a3 ah HE P;go_wp2_with fail;go_roundw;case rel=>exact⟨p+1,W,ï,by rw[N.u];exact y.u,M.u.trans (.y a6.u)<|.inl K⟩
     case measure=>simp[intOf];omega
    .have g6:(kd==6)=κ:=by simpa using k6
     by_cases ae:kd=18
     .subst ae;obtain⟨hx,an⟩:=a3.u K;obtain⟨ag,ad,al,aj⟩:=(y.u.y<|Ψ No _ 1).ks.del _ hx;have b8:(Ì 46 (.map<|C i) (U (n:Int)) κ).run ε (wr.alloc<|aM 18 va vb vc (Y D (Q ls) F) tx vn vt vp).drew=.ok (U<|eH c n) _:=an;have bb:(Builtin.delete_ #[46,3] 0 #[.map<|C a,U<|eH c n]).run ε ((wr.alloc<|aM 18 va vb vc (Y D (Q ls) F) tx vn vt vp).drewN 1)=.ok (.tuple #[]) ag:=ad 0;have bc:(Builtin.delete_ #[46,3] 0 #[.map<|C a,U<|eH c n]).run ε (wr.alloc<|aM 18 va vb vc (Y D (Q ls) F) tx vn vt vp).drew=.ok (.tuple #[]) ag:=ad 0;obtain⟨aq,S⟩:=(y.u.y<|Ψ No _ 1).put aj al (vQ _)<|y.u.tg.del _;have ap:cZ (V b.heap) a wr ag:=(cZ.y<|B6 a6.u<|Ψ No _ 1).trans S<|.inl K;have n5:=S.cells y.u.nc (D9 (Ψ No _ 1) ah.u) ζ ζ;clear a3 an ad al aj hx;generalize eH c n=bh at*;go_wp2_with fail;go_region;obtain⟨az,d0,d1,d2,d3,d4,d5,d6,d7,d8⟩:=xT n5;go_wp2_with fail;refine(a4.u _ ap).mono ?_;rintro G a2 ⟨r,t,rfl,A,R⟩;have a8:=O<|a7.u a2 _ r t (aq.y A)<|.of<|C7 R<|wQ _;have a9:Hid (cZ (V b.heap) a wr a2):=ap.trans (.y A)<|.inl K;generalize aD _=ps at*;clear A R;go_wp2_with fail;refine a8.u.mono ?_;rintro G ay ⟨rfl,T,Z⟩;have N:=O T;have aa:=O<|a9.u.trans Z<|.inl K;clear T Z;go_wp2_with fail;go_roundw;case rel=>exact⟨p+1,W,ï,by rw[P.u,HE.u,wY k6,yY trivial];exact N.u,M.u.trans aa.u<|.inl K⟩
      case measure=>simp[intOf];omega
     .have b2:(kd==18)=κ:=by simpa using ae
      have S:cZ (V b.heap) a wr _:=.y a6.u;clear a3;go_wp2_with fail;refine(a4.u _ S).mono ?_;rintro G a2 ⟨r,t,rfl,A,R⟩;have a8:=O<|a7.u a2 _ r t (y.u.y A)<|.of<|C7 R<|wQ _;have a9:Hid (cZ (V b.heap) a wr a2):=S.trans (.y A)<|.inl K;generalize aD _=ps at*;clear A R;go_wp2_with fail;refine a8.u.mono ?_;rintro G ay ⟨rfl,T,Z⟩;have N:=O T;have aa:=O<|a9.u.trans Z<|.inl K;clear T Z;go_wp2_with fail;go_roundw;case rel=>exact⟨p+1,W,ï,by rw[P.u,HE.u,wY k6,wY ae];exact N.u,M.u.trans aa.u<|.inl K⟩
      case measure=>simp[intOf];omega
   .have au:p=Q l:=W;subst au;rw[vZ]at q;go_wp2_with fail;go_end0;exact⟨K,q.u,M.u⟩
termination_by o=>o
decreasing_by omega
end
def qT(j:E)(c:Cx)(h:Nat)(b:υ)(a d:Nat)(g:Gm)(k:uZ)(f:Nat):Prop:=∀(i) (w) (e m) (s),i<f->i<Q c.N->dL j w h b a d e g m s->m+iW c f i<=8000000->
 μ ε 22 #[pV a,U i] w (EQ j h b a d e g (m+iW c f i) (bH c g k f i s) w)
section
variable{b w:E}{c:Cx}{i l a h d m f:Nat}{k e:υ}{j:uZ}{g:Gm}{s:Es}
def Gn(o:uZ)(n)(p):T8 c f (o.take<|n+1)=T8 c f (o.take n)+iW c f o[n]:=by
 rw[nQ p];unfold T8;rw[zY,List.sum_append];simp
def ZY(n)(o):T8 c f (n.take o)<=T8 c f n:=by
 have p:T8 c f n=T8 c f (n.take o)+T8 c f (n.drop o):=by
  conv=>lhs;rw[<-List.take_append_drop o n]
  unfold T8;rw[zY,List.sum_append]
 omega
def LY(B:qT b c i e a h g j f){n}(u:qG c f n)(A:dL b w i e a h d g m s){G}{H}(D:ρ w 0 3 1 (Y G (Q n) H) (Q n)<|C8 n)(hm:m+T8 c f n<=8000000):
 μ ε 42 #[pV a,Y G (Q n) H] w (EQ b i e a h d g (m+T8 c f n) (gB c g j f n s) w):=by
 have a9:=u.1;have P:=O u.2;have z:=O A;have S:=O D;have R:=O B;clear A D u B;go_in;go_wp2_with fail;go_loopw [8] (λv wr=>∃o:Nat,o<=Q n/\v=U (o:Int)/\Hid (dL b wr i e a h d g (m+T8 c f (n.take o))<|gB c g j f (n.take o) s)/\Hid (cZ (V b.heap) d w wr)) (λv _=>Q n-(intOf v).toNat);case atStart=>exact⟨0,wQ _,K,z.u,.y<|ì _ _⟩
 case round=>
  obtain⟨o,hj,rfl,q,r⟩:=hrel;by_cases p:o<Q n
  .obtain⟨aa,e1,hq,a8,a2,x1⟩:=D6 (r.u.row z.u.nc S.u) p;subst e1;obtain⟨F,t,a4,a3⟩:=P.u n[o]<|mQ p;have Z:Hid (gB c g j f (n.take<|o+1) s=bH c g j f F (gB c g j f (n.take o) s)):=by
    show _=_;rw[nQ p,t];unfold gB;rw[List.foldl_append];rfl
   have x:=Gn (c:=c) (f:=f) n o p;have a6:=ZY (c:=c) (f:=f) n<|o+1;rw[t]at x1 x;have y:=O (R.u F wr d _ _ a4 a3 q.u W);have HV:=O x;unfold Δ at a2;clear t x a6;go_wp2_with fail;refine y.u.mono ?_;rintro a7 ab ⟨rfl,L,M⟩;have T:=O L;have N:=O<|r.u.trans M<|.inl K;clear L M y;go_wp2_with fail;go_roundw;case rel=>exact⟨o+1,W,ï,by rw[Z.u,HV.u,<-þ];exact T.u,N⟩
   case measure=>simp[intOf];omega
  .have a5:o=Q n:=W;subst a5;rw[vZ]at q;go_wp2_with fail;go_end0;exact⟨K,q.u,r.u⟩
def MP(r:dL b w i e a h d g m s)(v:Nat)(R)(cf:∀(P) (N:E),(callFunc v P).run ε N=.ok (.enter v P) N)(y)(s')(hm:m<=y)
 (F:∀u,cZ (V b.heap) d w u->∀a4,dL b u i e a h a4 g m s->μ ε v R u (EQ b i e a h a4 g y s' u)):
 μ ε 77 #[pV a,.func (.func v) #[] R] w (EQ b i e a h d g y ⟨s.kn,s'.lf⟩ w):=by
 obtain⟨hl,fz,-,-,-,b3,-⟩:=r.cell;have D:=O r.ks.clone;have n:=O r;have G:=O F;clear r F;go_in;go_wp2_with fail;refine D.u.mono ?_;rintro a9 a6 ⟨rfl,a2,t,ai⟩;have o:=n.u.y t;obtain⟨ag,ac,-,-,-,aa,-⟩:=o.cell;have af:=n.u.ks.lt;have ae:=n.u.gs.lt;have aj:=n.u.P.size;obtain⟨S,z⟩:=o.turn a2 W W o.fq o.tg;have A:cZ (V b.heap) d w (σ a6 (J a 3)<|.map<|C (V w.heap)):=(cZ.y t).trans (.one z o.lo.1 (.inr (by obtain⟨a5,p,_⟩:=o.blk;exact⟨_,_,_,p,.inl K⟩)))<|.inl K;have a3:d≠a:=λx=>by
  obtain⟨a5,p,_⟩:=n.u.blk;rw[<-x]at p;exact n.u.nc _ _ _ p
 have H:Hid (∀u,cZ (V b.heap) (V w.heap) (σ a6 (J a 3)<|.map<|C (V w.heap)) u->cQ u d y s.kn):=λu hu=>(hu.rr ((n.u.ks.P t λx=>x).P z a3) W).more hm;have L:=O<|G.u _ A _ S;have M:=O A;clear G D o S z A a2 t a3;go_wp2_with fail;refine L.u.mono ?_;rintro a9 ak ⟨rfl,q,B⟩;obtain⟨ah,ad,-,-,-,ab,-⟩:=q.cell;obtain⟨T,Z⟩:=q.turn (H.u _ B) n.u.lo.2.2 n.u.ne q.fq n.u.tg;have a8:=O ((M.u.trans B<|.inr<|vQ _).trans (.one Z q.lo.1 (.inr (by obtain⟨a5,p,_⟩:=q.blk;exact⟨_,_,_,p,.inl K⟩)))<|.inl K);have a7:=O T;clear T Z q B H L M;go_wp2_with fail;go_end0;exact⟨K,a7.u,a8.u⟩
end
def fO(n:Nd)(a:Option í)(b:Nat):Obj:=aM n.x n.a n.b n.c (Y a (Q n.M) b) n.text n.n n.ty n.at'
section
variable{wB w:E}{c:Cx}{j n a k d m f:Nat}{l e:υ}{b:uZ}{g:Gm}{s:Es}
structure lK(w:E)(c:Cx)(f i:Nat)(nd:Nd)(la:Option í)(lc:Nat):Prop where
 lt:∃h:i<Q c.N,c.N[i]=nd
 le:i<=f
 row:ρ w 0 3 1 (Y la (Q nd.M) lc) (Q nd.M)<|C8 nd.M
def lK.eu{B d}{r}{i}{q}{o}{p}(h:lK w c f i q o p)(x:cZ B d w r)(y:∀t u v,w.heap[d]?≠C (γ t u v)):lK r c f i q o p:=⟨h.lt,h.le,x.row y h.row⟩
theorem lK.y{r}{i}{q}{o}{p}(h:lK w c f i q o p)(t:I No w r):lK r c f i q o p:=⟨h.lt,h.le,A3 h.row t Ξ⟩
theorem lK.parts{i}{q}{o}{p}(r:iU wB c j n l e b)(h:lK w c f i q o p):μ ε 43 #[eE q o p] w (oE w<|aD q):=by
 obtain⟨t,rfl⟩:=h.lt;exact PI (r.ok.ew i t) w o p h.row (by have:=r.ok.ls i t;omega)
def lK.jh{i}{o}{r}{t}(p:iU wB c j n l e b)(h:lK w c f i o r t):qG c f (aD o):=by
 obtain⟨q,rfl⟩:=h.lt;exact qG.r8 p.ok q h.le
def B7c(B:iU wB c j n l e b)(M:qT wB c j e a k g b f)(h:dL wB w j e a k d g m s){a6}{i}{F:Option í}{G}(D:lK w c f a6 i F G){o nb:Nat}(x:w.heap[o]?=C (γ #[pV a] 71 (0,0)))(S:w.heap[nb]?=C (fO i F G))(R:m+T8 c f (aD i)<=8000000):
 μ ε 78 #[pV o,pV nb] w (EQ wB j e a k d g (m+T8 c f (aD i)) (gB c g b f (aD i) ⟨λ_=>none,s.lf⟩) w):=by
 obtain⟨hl,-,-,-,-,b3,-⟩:=h.cell;have x0:δ w (J o 0)=C (pV a):=cr x K;have a9:=(aG x);obtain⟨a3,T,P,N⟩:=h.ks.clear;obtain⟨L,v⟩:=h.put N P (vQ _) bP.no;have A:=v.cells h.nc x ζ ζ;have Z:=v.cells h.nc S ζ ζ;have y0:δ a3 (J o 0)=C (pV a):=cr A K;have a5:=(aG A);obtain⟨a8,d0,d1,d2,d3,d4,d5,d6,d7,d8⟩:=xT Z;have H:Hid (∀u,I No a3 u->μ ε 43 #[eE i F G] u λp z=>∃q r,p=π (Y q (Q (aD i)) r)/\δ z (J o 0)=C (pV a)/\o<V z.heap/\
  Hid (μ ε 42 #[pV a,Y q (Q (aD i)) r] z<|EQ wB j e a k d g (m+T8 c f (aD i)) (gB c g b f (aD i) ⟨λ_=>none,s.lf⟩) w)):=λu t=>by
  refine(((D.eu v h.nc).y t).parts B).mono ?_;rintro p z ⟨q,r,rfl,y,ho⟩;refine⟨q,r,K,A4 (B6 t y) y0,yQ a5 (B6 t y).size,?_⟩;refine(LY M (D.jh B) (L.y<|B6 t y) (C7 ho<|wQ _) R).mono ?_;rintro p ab ⟨rfl,a7,r2⟩;exact⟨K,a7,(v.trans (.y<|B6 t y)<|.inl K).trans r2<|.inl K⟩
 have aa:=T 0;unfold eE at H;unfold fO at Z;clear h D B M x S P N L v T A R;generalize aD _=ps at*;obtain⟨kd,va,vb,vc,ls,tx,vn,vt,vp⟩:=i;simp only at*;go_in;go_wp2_with fail;go_region_with (first|(go_at_call 43;refine(H.u _<|Ψ _ _ 1).mono ?_;rintro p ac ⟨q,r,rfl,z0,zl,a4⟩)|(go_at_call 42;refine a4.u.mono ?_;rintro p ad ⟨rfl,a2⟩;have HR:=O a2;clear a2));all_goals
  go_wp2_with fail;go_end0;exact⟨K,HR.u⟩
def ť(t:qT wB c j e a k g b f)(h:dL wB w j e a k d g m s){i}{G}{H}(u:qG c f [i.a,i.b]){p y}(q:w.heap[p]?=C (γ #[pV a] 71 (0,0)))(x:w.heap[y]?=C (fO i G H))(v:m+T8 c f [i.a,i.b]<=8000000):
 μ ε 81 #[pV p,pV y] w (EQ wB j e a k d g (m+T8 c f [i.a,i.b]) (gB c g b f [i.a,i.b] s) w):=by
 have x0:δ w (J p 0)=C (pV a):=cr q K;have S:=(aG q);obtain⟨M,-,N,P,-⟩:=xT x;have o:=ν No w<|γ #[U i.a,U i.b] 3;have r:=O (LY t u (h.y o) (rJ (wQ _) [i.a,i.b] θ) v);have B:=O o;clear h t u q x o v;generalize i.a=T at*;generalize i.b=Z at*;go_in;go_wp2_with fail;refine r.u.mono ?_;rintro R L ⟨rfl,z,A⟩;have F:=O z;have D:Hid (cZ (V wB.heap) d w L):=(cZ.y B.u).trans A<|.inl K;clear z A r;go_wp2_with fail;go_end0;exact⟨K,F.u,D.u⟩
def C4d(v:qT wB c j e a k g b f)(h:dL wB w j e a k d g m s){i o t}(A:i<f)(z:i<Q c.N)(p:w.heap[o]?=C (γ #[pV a] 71 (0,0)))(q:w.heap[t]?=C (γ #[U i] 3 (0,0)))(x:m+iW c f i<=8000000):
 μ ε 79 #[pV o,pV t] w (EQ wB j e a k d g (m+iW c f i) (bH c g b f i s) w):=by
 have H:δ w (J o 0)=C (pV a):=cr p K;have D:=(aG p);have L:δ w (J t 0)=C (U (i:Int)):=cr q K;have F:=(aG q);have u:=O<|v i w d m s A z h x;clear h v p q x;go_in;go_wp2_with fail;refine u.u.mono ?_;rintro B G ⟨rfl,r⟩;have y:=O r;clear r u;go_wp2_with fail;go_end0;exact⟨K,y.u⟩
def vv(x:iU wB c j n l e b)(v:qT wB c j e a k g b f)(h:dL wB w j e a k d g m s){i}{o}{q:Option í}{r}(z:lK w c f i o q r)(A:m+T8 c f (aD o)<=8000000):
 μ ε 39 #[pV a,eE o q r] w (EQ wB j e a k d g (m+T8 c f (aD o)) ⟨s.kn,(gB c g b f (aD o) ⟨λ_=>none,s.lf⟩).lf⟩ w):=by
 have P:=uG;have p:I No w ((ω w<|γ #[pV a] 71).alloc<|fO o q r):=B6 (ν _ _ _)<|ν _ _ _;have y:((ω w<|γ #[pV a] 71).alloc<|fO o q r).heap[V w.heap]?=C (γ #[pV a] 71 (0,0)):=D9 (ν _ _ _)<|rY w _;have B:((ω w<|γ #[pV a] 71).alloc<|fO o q r).heap[V w.heap+1]?=C (fO o q r):=by
  have:=rY (ω w<|γ #[pV a] 71)<|fO o q r;simpa using this
 have u:=O (MP (h.y p) 78 #[pV (V w.heap),pV<|V w.heap+1] (λ_ _=>by go_simp) _ _ (Nat.le_add_right _ _) λa2 t R hF=>B7c x v hF ((z.y p).eu t (h.y p).nc) (t.cells (h.y p).nc y ζ ζ) (t.cells (h.y p).nc B ζ ζ) A);have G:=O p;unfold eE fO at*;clear h z x v p y B A;generalize aD _=Z at*;obtain⟨S,va,vb,vc,T,tx,vn,vt,vp⟩:=o;simp only at*;go_in;go_wp2_with fail;refine u.u.mono ?_;rintro N M ⟨rfl,D,F⟩;have L:=O D;have H:Hid (cZ (V wB.heap) d w M):=(cZ.y G.u).trans F<|.inl K;clear D F u;go_wp2_with fail;go_end0;exact⟨K,L.u,H.u⟩
def Ug(R:iU wB c j n l e b)(P:qT wB c j e a k g b f)(h:dL wB w j e a k d g m s){i}{o}{p}(G:qG c f [i.a,i.b])(Z:m+T8 c f [i.a,i.b]<=8000000):
 μ ε 41 #[pV a,eE i o p] w (EQ wB j e a k d g (m+T8 c f [i.a,i.b]) ⟨gP c f [i.a,i.b] s.kn,(gB c g b f [i.a,i.b] ⟨gP c f [i.a,i.b] s.kn,s.lf⟩).lf⟩ w):=by
 have a9:=uG;have x:I No w ((ω w<|γ #[pV a] 71).alloc<|fO i o p):=B6 (ν _ _ _)<|ν _ _ _;have F:((ω w<|γ #[pV a] 71).alloc<|fO i o p).heap[V w.heap]?=C (γ #[pV a] 71 (0,0)):=D9 (ν _ _ _)<|rY w _;have H:((ω w<|γ #[pV a] 71).alloc<|fO i o p).heap[V w.heap+1]?=C (fO i o p):=by
  have:=rY (ω w<|γ #[pV a] 71)<|fO i o p;simpa using this
 obtain⟨q,D⟩:∃q,(ω w<|γ #[pV a] 71).alloc (fO i o p)=q:=⟨_,K⟩;have a7:V q.heap=V w.heap+2:=by rw[<-D];simp
 rw[D]at x F H;have t:=ν No q<|γ #[U i.a,U i.b] 3;have y:=(h.y x).y t;have A:=O (SM R f [i.a,i.b] _ s _ _ G y<|.of<|rJ (wQ _) [i.a,i.b] θ);have N:Hid (cZ (V wB.heap) d w<|q.alloc<|γ #[U i.a,U i.b] 3):=.y<|B6 x t;have T:=D9 t F;have a2:=D9 t H;have M:Hid (∀u,cZ (V wB.heap) d (q.alloc<|γ #[U i.a,U i.b] 3) u->∀z:Es,dL wB u j e a k d g m z->δ u (J (V w.heap) 0)=C (pV a)/\V w.heap<V u.heap/\
  μ ε 77 #[pV a,.func (.func 81) #[] #[pV (V w.heap),pV<|V w.heap+1]] u (EQ wB j e a k d g (m+T8 c f [i.a,i.b]) ⟨z.kn,(gB c g b f [i.a,i.b] z).lf⟩ u)):=λu hu z hF=>by
  have B:=hu.cells y.nc T ζ ζ;have n2:=hu.cells y.nc a2 ζ ζ;refine⟨cr B K,(aG B),?_⟩;exact MP hF 81 _ (λ_ _=>by go_simp) _ _ (Nat.le_add_right _ _) (λab hv aa a6=>ť P a6 G (hv.cells hF.nc B ζ ζ) (hv.cells hF.nc n2 ζ ζ) Z)
 subst D;simp only[World.size_alloc]at A;unfold eE fO at*;clear h G R P x F H Z y T a2 t a7;obtain⟨kd,va,vb,vc,ls,tx,vn,vt,vp⟩:=i;simp only at*;go_in;go_wp2_with fail;refine A.u.mono ?_;rintro a5 a8 ⟨rfl,v,r⟩;obtain⟨z0,zl,S⟩:=M.u a8 r _ v;have L:=O S;have a3:=O<|N.u.trans r<|.inl K;clear A M v r S N;go_wp2_with fail;refine L.u.mono ?_;rintro a5 ac ⟨rfl,v,r⟩;have HR:=O v;have a4:=O<|a3.u.trans r<|.inl K;clear v r L;go_wp2_with fail;go_end0;exact⟨K,HR.u,a4.u⟩
def oY.tail{w}{r}{o}{x}{i:uZ}(h:ρ w 0 3 1 (Y r (Q i+1) o) (Q i+1)<|C8<|x::i):∃q p,r=C (J q 0)/\w.heap[q]?=C (γ p 3 (0,0))/\Q i+1<=o/\o<=Δ/\oY w (C<|J q 1) (o-1) i:=by
 have u:ρ w 0 3 1 (Y r (Q (x::i)) o) (Q (x::i)) (C8<|x::i):=h;obtain⟨q,rfl,F,v,A,_⟩:=D6 u (j:=0) θ;obtain⟨_,p,y⟩:=A9 h q K;simp only[jQ]at v;refine⟨q,p,K,y,v,A,λz D=>?_⟩;obtain⟨G,t,_,_,_,B⟩:=D6 u (j:=z+1) (by simpa using D);simp only[zQ,Addr.mk.injEq,and_true]at t;subst t;refine⟨q,1,p,K,y,?_,W,W⟩;rw[Nat.add_comm 1 z,B];rfl
def Tc(S:iU wB c j n l e b)(hN:qT wB c j e a k g b f)(ai:dL wB w j e a k d g m s){a5}{h}{p}{r}(hh:lK w c f a5 h p r){i:uZ}(Z:aD h=h.a::i)(bd:0<Q i)(hm:m+T8 c f (aD h)<=8000000):
 μ ε 40 #[pV a,eE h p r] w (EQ wB j e a k d g (m+T8 c f (aD h)) ⟨gP c f i (bH c g b f h.a s).kn,qL c g b f (bH c g b f h.a s).kn i (bH c g b f h.a s).lf⟩ w):=by
 have bc:=uG;have H:=hh.jh S;rw[Z]at H;obtain⟨ja,ea,aw,av⟩:=H.2 h.a θ;have a3:qG c f i:=⟨by have:=H.1;simp at this;omega,λb6 hx=>H.2 b6<|by simp[hx]⟩;have b2:T8 c f (aD h)=iW c f h.a+T8 c f i:=by rw[Z];simp[T8]
 rw[b2]at hm⊢;have P:I No w ((ω w<|γ #[pV a] 71).alloc<|fO h p r):=B6 (ν _ _ _)<|ν _ _ _;have hb:((ω w<|γ #[pV a] 71).alloc<|fO h p r).heap[V w.heap]?=C (γ #[pV a] 71 (0,0)):=D9 (ν _ _ _)<|rY w _;have hn:((ω w<|γ #[pV a] 71).alloc<|fO h p r).heap[V w.heap+1]?=C (fO h p r):=by
  have:=rY (ω w<|γ #[pV a] 71)<|fO h p r;simpa using this
 have G:=ai.y P;have HC:=O (hN ja _ d m s aw av G<|by rw[<-ea];omega);rw[<-ea]at HC;have ah:Hid (∀u,cZ (V wB.heap) d ((ω w<|γ #[pV a] 71).alloc<|fO h p r) u->u.heap[V w.heap]?=C (γ #[pV a] 71 (0,0))/\u.heap[V w.heap+1]?=C (fO h p r)/\lK u c f a5 h p r):=λu y=>⟨y.cells G.nc hb ζ ζ,y.cells G.nc hn ζ ζ,(hh.y P).eu y G.nc⟩;have ao:=O S;have an:=O hN;have HA:=O P;have aa:=O a3;have be:=a3.1;have ag:Hid (∀u,lK u c f a5 h p r->μ ε 43 #[eE h p r] u λA w'=>∃q x,A=π (Y (C<|J q 0) (Q i+1) x)/\Hid (I No u w')/\q<V w'.heap/\Q i+1<=x/\x<=Δ/\Hid (oY w' (C<|J q 1) (x-1) i)):=λu y=>by
  refine(y.parts S).mono ?_;rintro A w' ⟨ga,x,rfl,hc,ho⟩;rw[Z]at ho⊢;obtain⟨q,aq,rfl,hq,h1,h2,h3⟩:=oY.tail<|C7 ho<|wQ _;exact⟨q,x,K,hc,(aG hq),h1,h2,h3⟩
 unfold eE fO at*;clear ai hh S hN P hb hn G H a3 Z;obtain⟨kd,va,vb,vc,ls,tx,vn,vt,vp⟩:=h;simp only at*;subst ea;go_in;go_wp2_with fail;refine HC.u.mono ?_;rintro A b4 ⟨rfl,z,v⟩;obtain⟨b1,n1,hd⟩:=ah.u _ v;have af:=O<|ag.u _ hd;have ae:Hid (cZ (V wB.heap) d w b4):=(cZ.y HA.u).trans v<|.inl K;have ab:=O z;have a9:=O b1;obtain⟨ap,d0,d1,d2,d3,d4,d5,d6,d7,d8⟩:=xT n1;clear HC ah ag z v hd b1 n1 HA;generalize bH c g b f ja s=t at*;go_wp2_with fail;refine af.u.mono ?_;rintro A a7 ⟨q,x,rfl,M,hq,ba,au,ad⟩;unfold Δ at au;have bb:x≠1:=W;have N:=O<|ab.u.y M.u;have ak:=O<|D9 M.u a9.u;have al:Hid (cZ (V wB.heap) d w a7):=ae.u.trans (.y M.u)<|.inl K;clear af ab a9 ae M d0 d1 d2 d3 d4 d5 d6 d7 d8 ap;go_wp2_with fail;go_loopw [16] (λa6 wr=>∃o:Nat,o<=Q i/\a6=U (o:Int)/\Hid (dL wB wr j e a k d g (m+iW c f ja+T8 c f (i.take o)) ⟨t.kn,qL c g b f t.kn (i.take o) t.lf⟩)/\Hid (cZ (V wB.heap) d a7 wr)) (λa6 _=>Q i-(intOf a6).toNat);case atStart=>exact⟨0,wQ _,K,N.u,.y<|ì _ _⟩
 case round=>
  obtain⟨o,hj,rfl,HF,D⟩:=hrel;have F:=D.u.cells N.u.nc ak.u ζ ζ;have x0:wr.cell? (J (V w.heap) 0)=C (pV a):=cr F K;have b9:=(aG F);by_cases T:o<Q i
  .obtain⟨q',bg,aq,e1,aj,x1,b7,b8⟩:=ad.u.eu D.u N.u.nc o T;simp only[zQ,Addr.mk.injEq,and_true]at e1;obtain⟨rfl,rfl⟩:=e1;have hq:=(aG aj);obtain⟨B,a4,az,ay⟩:=aa.u.2 i[o]<|mQ T;have hv:=Gn (c:=c) (f:=f) i o T;have b0:=ZY (c:=c) (f:=f) i<|o+1;have HT:Hid (qL c g b f t.kn (i.take<|o+1) t.lf=(bH c g b f B ⟨t.kn,qL c g b f t.kn (i.take o) t.lf⟩).lf):=by
    show _=_;rw[nQ T,a4];unfold qL;rw[List.foldl_append];rfl
   rw[a4]at x1 hv;have L:=ν No wr<|γ #[U (B:Int)] 3;have R:=HF.u.y L;have b3:=D9 L F;have n3:=rY wr<|γ #[U (B:Int)] 3;have a8:=O (MP R 79 #[pV (V w.heap),pV wr.heap.size] (λ_ _=>by go_simp) (m+iW c f ja+T8 c f (i.take o)+iW c f B) (bH c g b f B ⟨t.kn,qL c g b f t.kn (i.take o) t.lf⟩) (Nat.le_add_right _ _) λu y bf ar=>C4d an.u ar az ay (y.cells R.nc b3 ζ ζ) (y.cells R.nc n3 ζ ζ) W);have HV:=O hv;have am:Hid (cZ (V wB.heap) d a7<|wr.alloc<|γ #[U (B:Int)] 3):=D.u.trans (.y L)<|.inl K;clear L R b3 n3 F a4 hv b0 aj;go_wp2_with fail;refine a8.u.mono ?_;rintro A b5 ⟨rfl,z,v⟩;have HR:=O z;have a2:=O<|am.u.trans v<|.inl K;clear z v a8;go_wp2_with fail;go_roundw;case rel=>exact⟨o+1,W,ï,by rw[HT.u,HV.u,<-þ];exact HR.u,a2⟩
   case measure=>simp[intOf];omega
  .have ax:o=Q i:=W;subst ax;rw[vZ]at HF;have ac:=O<|SM ao.u f i _ _ _ _ aa.u HF.u<|ad.u.eu D.u N.u.nc;clear F;go_wp2_with fail;refine ac.u.mono ?_;rintro A b5 ⟨rfl,z,v⟩;have HR:=O z;have a2:=O<|(al.u.trans D.u<|.inl K).trans v<|.inl K;clear z v ac;go_wp2_with fail;go_end0;exact⟨K,by rw[<-þ];exact HR.u,a2.u⟩
end
theorem AP{c}{g}{b}{i:Nat}{s}{a}(f:aA c.N i=a)(d:a.x≠17)(e:a.x≠18):cP c g b i s=dH c g b i s:=by
 subst f;rw[cP,wY d,wY e]
section
variable{d:E}{c:Cx}{e j a i f:Nat}{k h:υ}{b:uZ}{g:Gm}
def D8e(o:iU d c e j k h b)(D:qT d c e h a i g b f)(l)(w)(v m)(s)(ab:l<=f)(t)(y:dL d w e h a i v g m s)(H:m+iW c (f+1) l<=8000000)(n:c.N[l].x=6 \/c.N[l].x=22 \/c.N[l].x=23):
 μ ε 22 #[pV a,U l] w (EQ d e h a i v g (m+iW c (f+1) l) (bH c g b (f+1) l s) w):=by
 obtain⟨hl,-,b0,-,-,-,-⟩:=y.cell;obtain⟨ah,ai,-⟩:=(y.j2 o).cell;obtain⟨ng,nc,p,q,ad,hg,ag,ac,⟨x0,x1,x2,x3,x4,x5,x6,x7,x8⟩,a3,-⟩:=(y.j2 o).ey.at (ñ _ _) l t;have af:=o.ok.fp;have aa:=o.ok.ew l t;have hv:iW c (f+1) l=2+T8 c f (aD c.N[l]):=by rw[iW,B7 t];rfl
 have he:=qN c g b f l s _<|B7 t;rw[hv]at H⊢;rw[he,AP (B7 t) W W];have B:=ν No w<|fO c.N[l] p q;have hF:=y.y B;have G:lK (w.alloc<|fO c.N[l] p q) c f l c.N[l] p q:=⟨⟨t,K⟩,ab,A3 a3 B λ_ _ ae=>ae⟩;have a4:=rY w<|fO c.N[l] p q;obtain⟨F,a9,A,a5,hC⟩:∃F,(c.N[l].x=6/\F=39\/c.N[l].x=22/\F=40\/c.N[l].x=23/\F=41)/\∃A:Es,gM c g b f s c.N[l]=A/\μ ε F #[pV a,eE c.N[l] p q] (w.alloc<|fO c.N[l] p q) (EQ d e h a i v g (m+T8 c f (aD c.N[l])) A<|w.alloc<|fO c.N[l] p q):=by
  obtain n|n|n:=n
  .refine⟨_,.inl ⟨n,K⟩,_,?_,vv o D hF G W⟩;unfold gM;rw[yY n]
  .have L:∃ r,aD c.N[l]=c.N[l].a::r/\ 0<Q r:=by
    unfold aD;simp only[n];by_cases h1:c.N[l].c=-1
    .exact⟨[c.N[l].b],by simp[h1],θ⟩
    .exact⟨[c.N[l].b,c.N[l].c],by simp[h1],θ⟩
   obtain⟨r,hr,h0⟩:=L;refine⟨_,.inr<|.inl ⟨n,K⟩,_,?_,Tc o D hF G hr h0 W⟩;unfold gM;rw[wY W,yY n,hr];rfl
  .have L:aD c.N[l]=[c.N[l].a,c.N[l].b]:=by
    unfold aD;simp[n]
   have hb:=G.jh o;rw[L]at hb H⊢;refine⟨_,.inr<|.inr ⟨n,K⟩,_,?_,Ug o D hF hb W⟩;unfold gM;rw[wY W,wY W,yY n]
 rw[a5];have N:=O hC;have R:Hid (∀u,dL d u e h a i v g (m+T8 c f (aD c.N[l])) A->cZ (V d.heap) v (w.alloc<|fO c.N[l] p q) u->δ u (J (V w.heap) 0)=C (U c.N[l].x)/\V w.heap<V u.heap/\μ ε 46 #[pV a,U (l:Int)] u (EQ d e h a i v g (m+(2+T8 c f (aD c.N[l]))) (dH c g b l A) u)):=λu hu n=>by
  obtain⟨T,Z,-⟩:=xT (n.cells hF.nc a4 ζ ζ);refine⟨Z,T,?_⟩;have:=XW o hu W l t;rw[show m+T8 c f (aD c.N[l])+2=m+(2+T8 c f (aD c.N[l])) by omega]at this;exact this
 have M:=O B;unfold Δ at ac;subst ad;unfold eE fO at*;clear y o D H hv he B hF G a4 hC a5 a3 aa n;generalize T8 c f _=ό at*;generalize c.N[l]=nd at*;obtain⟨kd,va,vb,vc,ls,tx,vn,vt,vp⟩:=nd;simp only at*;obtain⟨rfl,rfl⟩|⟨rfl,rfl⟩|⟨rfl,rfl⟩:=a9<;>
  (go_in;go_wp2_with fail;refine N.u.mono ?_;rintro a8 a6 ⟨rfl,z,x⟩;obtain⟨Z,T,a2⟩:=R.u a6 z x;have P:=O a2;have S:Hid (cZ (V d.heap) v w a6):=(cZ.y M.u).trans x<|.inl K;clear z x a2 R N M;go_wp2_with fail;refine P.u.mono ?_;rintro a8 aj ⟨rfl,z,x⟩;have HR:=O z;have a7:=O<|S.u.trans x<|.inl K;clear z x P S;go_wp2_with fail;go_end0;exact⟨K,HR.u,a7.u⟩)
def D7e(y:iU d c e j k h b)(hN:qT d c e h a i g b f)(l)(w)(z m)(s)(ap:l<=f)(D)(T:dL d w e h a i z g m s)(hm:m+iW c (f+1) l<=8000000)(t:c.N[l].x≠6/\c.N[l].x≠22/\c.N[l].x≠23):
 μ ε 22 #[pV a,U l] w (EQ d e h a i z g (m+iW c (f+1) l) (bH c g b (f+1) l s) w):=by
 obtain⟨hl,-,b0,-,-,-,-⟩:=T.cell;obtain⟨ba,bd,p4⟩:=(T.j2 y).cell;obtain⟨ng,nc,M,N,au,hg,b9,ar,⟨x0,x1,x2,x3,x4,x5,x6,x7,x8⟩,aj,-⟩:=(T.j2 y).ey.at (ñ _ _) l D;have b6:=y.ok.fp;have ag:=y.ok.ew l D;have hv:iW c (f+1) l=2+T8 c f (aD c.N[l]):=by rw[iW,B7 D];rfl
 have he:=qN c g b f l s _<|B7 D;have h1:gM c g b f s c.N[l]=gB c g b f (aD c.N[l]) s:=by
  unfold gM;rw[wY t.1,wY t.2.1,wY t.2.2]
 rw[hv]at hm⊢;rw[he,h1];have A1:=ν No w<|fO c.N[l] M N;have hF:=T.y A1;have hh:lK (w.alloc<|fO c.N[l] M N) c f l c.N[l] M N:=⟨⟨D,K⟩,ap,A3 aj A1 Ξ⟩;have ak:=rY w<|fO c.N[l] M N;have L:Hid (μ ε 43 #[eE c.N[l] M N] (w.alloc<|fO c.N[l] M N) λq w'=>∃R S,q=π (Y R (Q (aD c.N[l])) S)/\
  Hid (μ ε 42 #[pV a,Y R (Q (aD c.N[l])) S] w'<|EQ d e h a i z g (m+T8 c f (aD c.N[l])) (gB c g b f (aD c.N[l]) s)<|w.alloc<|fO c.N[l] M N)):=by
  refine(hh.parts y).mono ?_;rintro q w' ⟨R,S,rfl,B,ho⟩;refine⟨R,S,K,?_⟩;refine(LY hN (hh.jh y) (hF.y B) (C7 ho<|wQ _) W).mono ?_;rintro q ay ⟨rfl,p,n⟩;exact⟨K,p,(cZ.y B).trans n<|.inl K⟩
 have al:=bP.qk T.gt (c:=c) (ct:=b) f (aD c.N[l]) T.tg;obtain⟨o,ah⟩:∃o,gB c g b f (aD c.N[l]) s=o/\bP o.kn:=⟨_,K,al⟩;rw[ah.1]at L⊢;have av:=ah.2;clear ah al;obtain⟨G,hV⟩:∃G,T8 c f (aD c.N[l])=G:=⟨_,K⟩;rw[hV]at L hm⊢;have HC:Hid (∀u,cZ (V d.heap) z (w.alloc<|fO c.N[l] M N) u->δ u (J (V w.heap) 0)=C (U c.N[l].x)/\δ u (J (V w.heap) 1)=C (U c.N[l].a)/\V w.heap<V u.heap):=λu t=>by
  obtain⟨a7,d0,d1,-⟩:=xT (t.cells hF.nc ak ζ ζ);exact⟨d0,d1,a7⟩
 have HA:=O A1;have a3:c.N[l].x=17\/c.N[l].x=18->∃r:Nat,c.N[l].a=r/\r<Q c.N:=λt=>by
  have:Pe c.N l c.N[l].a:=by
   obtain t|t:=t
   .exact(ag.ly t).2
   .exact ag.k1 W
  obtain⟨r,q,h1,h2,_⟩:=this;exact⟨r,q,h2⟩
 have aa:c.N[l].x≠17->c.N[l].x≠18->cP c g b l o=dH c g b l o:=AP<|B7 D;have a4:Hid (∀u,dL d u e h a i z g (m+G) o->μ ε 46 #[pV a,U (l:Int)] u (EQ d e h a i z g (m+(2+G)) (dH c g b l o) u)):=λu F=>by
  have:=XW y F W l D;rw[show m+G+2=m+(2+G) by omega]at this;exact this
 have a2:Hid (∀u,dL d u e h a i z g (m+G) o->∀(r:Nat),r<Q c.N->∀x:Int,0<=x/\x<=1000000->∀A,I No u A->μ ε 45 #[pV a,U (r:Int)] A (λq w'=>q=π (U<|kM c g o.kn r)/\Hid (I No u w')/\
  Hid (μ ε 44 #[pV a,U x,U<|kM c g o.kn r] w'<|EQ d e h a i z g (m+(2+G)) ⟨bN b o.kn x<|kM c g o.kn r,o.lf⟩ u))):=λu F r ha x hx A B=>by
  refine(Yd y (F.y B) r ha).mono ?_;rintro q w' ⟨rfl,af⟩;refine⟨K,B6 B af,?_⟩;refine(YC y (F.y<|B6 B af) W x _ hx<|QI c F.gt av _).mono ?_;rintro q ay ⟨rfl,p,n⟩;exact⟨K,p.more W,(cZ.y<|B6 B af).trans n<|.inl K⟩
 have a6:Hid (∀u,dL d u e h a i z g (m+G) o->c.N[l].x=18->(0<=eH c l/\eH c l<=1000000)/\∀A,I No u A->a<V A.heap/\e<V A.heap/\A.cell? (J a 0)=C (pV e)/\A.cell? (J e 4)=C (.map<|C j)/\(Ì 46 (.map<|C j) (U (l:Int)) κ).run ε A=.ok (U<|eH c l) A):=λu F t=>by
  refine⟨((F.j2 y).nm D<|.inr t).1,λA B=>?_⟩;obtain⟨l1,-,y0,-,-,-,-⟩:=(F.y B).cell;obtain⟨l2,-,y4⟩:=((F.y B).j2 y).cell;exact⟨l1,l2,y0,y4,(((F.y B).j2 y).nm D<|.inr t).2⟩
 have a8:c.N[l].x=17->cP c g b l o=⟨bN b o.kn l<|kM c g o.kn c.N[l].a,o.lf⟩:=λt=>by rw[cP,B7 D,yY t]
 have a9:c.N[l].x=18->cP c g b l o=⟨bN b o.kn (eH c l)<|kM c g o.kn c.N[l].a,o.lf⟩:=λt=>by rw[cP,B7 D,wY W,yY t]
 unfold Δ at ar;subst au;unfold eE fO at*;clear T y hN hm hv he A1 hF hh ak aj ag h1 hV;generalize aD _=ps at*;generalize c.N[l]=nd at*;obtain⟨Z,va,vb,vc,ls,tx,vn,vt,vp⟩:=nd;simp only at*;obtain⟨k6,aw,ax⟩:=t;have g6:(Z==6)=κ:=by simpa using k6
 have b4:(Z==22)=κ:=by simpa using aw
 have b5:(Z==23)=κ:=by simpa using ax
 by_cases ad:Z=17
 .subst ad;rw[a8 K];obtain⟨r,rfl,ha⟩:=a3<|.inl K;clear a8 a9 aa a3 a4 a6;go_in;go_wp2_with fail;refine L.u.mono ?_;rintro q am ⟨R,S,rfl,H⟩;go_wp2_with fail;refine H.u.mono ?_;rintro q v ⟨rfl,p,n⟩;obtain⟨d0,d1,a7⟩:=HC.u v n;have HS:=O (a2.u v p r ha (l:Int) W v<|ì _ _);have P:Hid (cZ (V d.heap) z w v):=(cZ.y HA.u).trans n<|.inl K;clear p n a2 HC L H HA;generalize kM c g o.kn r=b1 at*;go_wp2_with fail;refine HS.u.mono ?_;rintro q an ⟨rfl,ab,a5⟩;go_wp2_with fail;refine a5.u.mono ?_;rintro q az ⟨rfl,p,n⟩;have HR:=O p;have ac:=O<|P.u.trans n<|.inl K;clear p n HS a5 ab P;go_wp2_with fail;go_end0;exact⟨K,HR.u,ac.u⟩
 have b2:(Z==17)=κ:=by simpa using ad
 by_cases ae:Z=18
 .subst ae;rw[a9 K];obtain⟨r,rfl,ha⟩:=a3<|.inr K;clear a8 a9 aa a3 a4;go_in;go_wp2_with fail;refine L.u.mono ?_;rintro q am ⟨R,S,rfl,H⟩;go_wp2_with fail;refine H.u.mono ?_;rintro q v ⟨rfl,p,n⟩;obtain⟨d0,d1,a7⟩:=HC.u v n;obtain⟨hx,hq⟩:=a6.u v p trivial;have HS:=O<|a2.u v p r ha (eH c l) hx;have P:Hid (cZ (V d.heap) z w v):=(cZ.y HA.u).trans n<|.inl K;have HQ:=O hq;obtain⟨l1,l2,y0,y4,aq⟩:=hq _<|Ψ No v 1;obtain⟨bb,bc,be,bf,-⟩:=hq _<|ì No v;have b7:(Ì 46 (.map<|C j) (U (l:Int)) κ).run ε v.drew=.ok (U<|eH c l) v.drew:=aq;clear p n a2 HC L H HA hq a6 hx;generalize kM c g o.kn r=b1 at*;generalize eH c l=x at*;go_wp2_with fail;go_region_with (first|(go_at_call 45;refine(HS.u _<|Ψ _ _ 1).mono ?_;rintro q an ⟨rfl,ab,a5⟩;obtain⟨m1,m2,v0,v4,b8⟩:=HQ.u _ ab.u)|(go_at_call 44;refine a5.u.mono ?_;rintro q az ⟨rfl,p,n⟩;have HR:=O p;have ac:=O<|P.u.trans n<|.inl K;clear p n));all_goals
   go_wp2_with fail;go_end0;exact⟨K,HR.u,ac.u⟩
 have b3:(Z==18)=κ:=by simpa using ae
 rw[aa ad ae];clear a8 a9 aa a3 a2 a6;go_in;go_wp2_with fail;refine L.u.mono ?_;rintro q am ⟨R,S,rfl,H⟩;go_wp2_with fail;refine H.u.mono ?_;rintro q v ⟨rfl,p,n⟩;obtain⟨d0,d1,a7⟩:=HC.u v n;have ai:=O<|a4.u v p;have P:Hid (cZ (V d.heap) z w v):=(cZ.y HA.u).trans n<|.inl K;clear p n HC L H HA a4;go_wp2_with fail;refine ai.u.mono ?_;rintro q an ⟨rfl,p,n⟩;have HR:=O p;have ao:=O<|P.u.trans n<|.inl K;clear p n ai P;go_wp2_with fail;go_end0;exact⟨K,HR.u,ao.u⟩
def RH(n:iU d c e j k h b):∀f,qT d c e h a i g b f
 |0,l,_,_,_,_,q,_,_,_=>absurd q<|Nat.not_lt_zero l
 |f+1,l,w,t,m,s,q,p,o,r=>by
  by_cases u:c.N[l].x=6\/c.N[l].x=22\/c.N[l].x=23
  .exact D8e n (RH n f) l w t m s W p o r u
  .exact D7e n (RH n f) l w t m s W p o r W
end
