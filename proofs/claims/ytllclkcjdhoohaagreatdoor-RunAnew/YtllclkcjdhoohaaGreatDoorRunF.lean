/-
  A part of the proof.
-/
import Derived.Test.YtllclkcjdhoohaaGreatDoorShm
import Derived.Test.YtllclkcjdhoohaaGreatDoorShs
import Derived.Maps.OwnSet
import Derived.MapFrom
import Derived.Test.YtllclkcjdhoohaaGreatDoorRunA
import Derived.Test.YtllclkcjdhoohaaGreatDoorCheckF
import Derived.Test.YtllclkcjdhoohaaGreatDoorSht
import Derived.Sort.OwnSortedInts
import Derived.Test.YtllclkcjdhoohaaGreatDoorXp
import Derived.Test.YtllclkcjdhoohaaGreatDoorRows
set_option maxHeartbeats 0
set_option linter.all false
set_option maxRecDepth 100000
set_option linter.all false
namespace Go.Proofs.YtllclkcjdhoohaaGreatDoor
open _root_.Array renaming size->V,getElem?_eq_some_iff->ş
open Bool renaming false->κ,true->τ
open Go renaming Calls->μ,Value->υ,frozen_of_row->æ,heap_setCell_same->ð,Ending->ò,maxLen->Δ,info_parts->ý,bits->û,cell_of_row->ä,wpList_append_own->Ù,Addr->í,bodyPost_ret->ç,results->ã,undef->Φ
open Ending renaming returned->π
open Instr renaming lookup->Ì,mapUpdate->Ï
open IntKind renaming i64->χ,i32->à
open Obj renaming cells->γ
open Go.Proofs.Tryz renaming prog->ε
open RowKit renaming Below->á
open RowKit.Below renaming refl->ñ
open Value renaming slice->Y,ownBlock->Θ,string->ι,pointer->Γ
open World renaming ownsRow->ρ,cell?->δ,setCell->σ,news_of_block->Ó,alloc->ω,size_alloc->Ô,drew->Ø
open I renaming set->é,refl->ì,alloc->ν,grown->ü,drewN->Ψ,ep->ô
open List renaming length->Q,length_singleton->Û,toArray->ξ,prefix_refl->ö,replicate->ó
open Nat renaming zero_add->Þ,add_assoc->þ
open Nd renaming fl->ģ
open Option renaming some->C
open Go.Proofs.Tryz
open Go.RowKit Go.Maps Go.WideElems Go.ChangeMaps
def Gz{w a}{q}(h:w.mapTurned a q):I (λk=>k=q) w a:=by
 obtain⟨g,d,i,f,j,rfl⟩:=h;refine⟨K,K,K,by simp[setBlock],λk l b=>?_⟩;have c:q≠k:=λe=>b e.symm;simp[setBlock,c]
def cQ.del{w}{q m}{f}(h:cQ w q m f)(s)(r:0<=s/\s<=1000000):
 ∃a,(∀c,(Builtin.delete_ #[64,3] c #[.map<|C q,U s]).run ε w=.ok (.tuple #[]) a)/\cQ a q m (λu=>if u=s then none else f u)/\I (λk=>k=q) w a:=by
 obtain⟨n,D,l,j,i,e⟩:=h.own;obtain⟨a,p,o,g⟩:=l.drop yV underlying64 (zH s r) 0;refine⟨a,λc=>p,⟨n,_,o,j,i.del _,λu d=>?_⟩,Gz g⟩;by_cases b:u=s
 .subst b;rw[atKey_del_same];simp
 .rw[atKey_del_other<|by simpa using b,e u];simp[b]
def cQ.clear{w}{q m}{f:Int->Option Int}(h:cQ w q m f):
 ∃c,(∀e,(Builtin.clear_ #[64] e #[.map<|C q]).run ε w=.ok (.tuple #[]) c)/\cQ c q m (λ_=>none)/\I (λk=>k=q) w c:=by
 obtain⟨n,D,⟨g,a,b,F,p,rfl⟩,o,l,i⟩:=h.own;have hF:WideElems.Fit ε 3 (plainElem (H:=Unit) ε 3) #[] a:=⟨θ,⟨θ,θ,θ⟩,θ⟩;refine⟨setBlock w q<|.map #[] a,λe=>?_,⟨0,.map [],⟨#[],a,heap_setBlock_same b _,hF,vQ _,K⟩,wQ _,isMap_empty,λu d=>K⟩,Gz ⟨g,a,_,_,b,K⟩⟩;simp[Builtin.clear_,run_underlying underlying64,MapKept.run_getObj_map b,MapKept.run_setObj_map _ b,Result.andThen,setBlock]
def cQ.clone{w}{q m}{f}(h:cQ w q m f):
 μ ε 221 #[.map<|C q] w λe a=>e=π (.map<|C (V w.heap))/\cQ a (V w.heap) m f/\I No w a/\V w.heap<V a.heap:=by
 obtain⟨n,D,d,r⟩:=h.own;refine(AnyW.maps_Clone_owns Tryz.mapsClone 3 (plainElem (H:=Unit) ε 3) q n D w d).mono ?_;rintro e a ⟨rfl,b,_,c⟩;exact⟨K,⟨n,D,b,r⟩,(I.below c).mono λ_ g x=>W,b.lt⟩
structure iU(w:E)(c:Cx)(pb qb:Nat)(nv cv:υ)(ct:uZ):Prop where
 ok:jG c
 ey:cU w nv c.N
 names:cQ w qb 5000<|lS c
 blk:∃yv mn lb fv ov,w.heap[pb]?=C (γ (rM c nv yv mn lb qb fv ov) 96 (0,0))
 ue:ρ w 0 3 1 cv (Q ct)<|C8 ct
 fq:Q ct<=1000000
def cZ(B c:Nat)(w d:E):Prop:=I (λk=>B<=k/\(k=c\/∃a e b,w.heap[k]?=C (γ a e b)/\(e=123\/e=90))) w d
theorem cZ.y{B b}{w a}(h:I No w a):cZ B b w a:=h.mono λ_ _ x=>x.elim
theorem cZ.trans{B d f}{a b c}(h:cZ B d a b)(k:cZ B f b c)(l:f=d\/V a.heap<=f):cZ B d a c:=by
 refine⟨k.os.trans h.os,k.tape.trans h.tape,k.output.trans h.output,kQ h.size k.size,λi j m=>?_⟩;have g:=h.block i j m;refine(k.block i (yQ j h.size) λx=>m ⟨x.1,?_⟩).trans g;obtain rfl|⟨cs,e,fz,hh,he⟩:=x.2
 .obtain rfl|l:=l
  .exact .inl K
  .omega
 .exact .inr ⟨cs,e,fz,by rw[<-g];exact hh,he⟩
theorem cZ.one{B a q}{w b}(h:I (λk=>k=q) w b)(f:B<=q)(g:q=a\/∃c e d,w.heap[q]?=C (γ c e d)/\(e=123\/e=90)):cZ B a w b:=h.mono λk _ x=>by
 have i:k=q:=x;subst i;exact⟨f,g⟩
theorem cZ.cells{B d}{w f}(h:cZ B d w f)(j:∀a e b,w.heap[d]?≠C (γ a e b)){q:Nat}{a}{e}{b}(c:w.heap[q]?=C (γ a e b))(g:e≠123)(i:e≠90):f.heap[q]?=C (γ a e b):=by
 rw[h.block q (aG c) λx=>?_]
 .exact c
 obtain rfl|⟨cs',e',fz',hh,he⟩:=x.2
 .exact j _ _ _ c
 .rw[c]at hh;simp only[zQ,xW]at hh;obtain rfl|rfl:=he
  .exact g hh.2.1
  .exact i hh.2.1
def cZ.rr{B b}{w c}(h:cZ B b w c){q m}{f}(a:cQ w q m f)(d:q≠b):cQ c q m f:=
 a.P h λx=>by
  obtain x|⟨cs,e,fz,hh,_⟩:=x.2
  .exact d x
  .exact a.et hh
def cZ.below{B d}{w b a}(h:cZ B d w b)(c:I No a w)(e:V a.heap<=B):I No a b:=
 c.trans h λi f x=>W
def cZ.row{B i}{w k}(h:cZ B i w k)(o:∀b e c,w.heap[i]?≠C (γ b e c)){a}{j}{v}{n}{l}(f:ρ w a 3 j v n l):ρ k a 3 j v n l:=
 A3 f h λg m x=>by
  obtain⟨_,p,d⟩:=A9 f g m;obtain rfl|⟨b,e,c,h2,he⟩:=x.2
  .exact o _ _ _ d
  .rw[d]at h2;simp only[zQ,xW]at h2;obtain rfl|rfl:=he<;>simp at h2
structure dL(wB w:E)(pb:Nat)(cv:υ)(fb gb kb:Nat)(g:Gm)(m:Nat)(s:Es):Prop where
 P:I No wB w
 blk:∃lv,w.heap[fb]?=C (γ #[pV pb,.map<|C gb,cv,.map<|C kb,lv] 123 (0,0))/\ρ w (V wB.heap) 90 2 lv (Q s.lf) (S4 s.lf)
 gs:cQ w gb 5000 g
 ks:cQ w kb m s.kn
 lo:V wB.heap<=fb/\V wB.heap<=gb/\V wB.heap<=kb
 ne:gb≠kb
 fq:Q s.lf<=m
 tg:bP s.kn
 gt:bP g
section
variable{wB w h:E}{c:Cx}{d j a f b m:Nat}{i e:υ}{k:uZ}{g:Gm}{s:Es}
theorem iU.y(l:iU w c d j i e k)(n:I No w h):iU h c d j i e k:=by
 obtain⟨t,r,q,o,ov,p⟩:=l.blk;exact⟨l.ok,l.ey.eu n λ_ _ _ _ _ _ x=>x,l.names.P n λx=>x,⟨t,r,q,o,ov,D9 n p⟩,A3 l.ue n Ξ,l.fq⟩
theorem iU.cell(n:iU w c d j i e k):d<V w.heap/\δ w (J d 0)=C i/\δ w (J d 4)=C (.map<|C j):=by
 obtain⟨r,q,p,o,ov,l⟩:=n.blk;exact⟨(aG l),cr l K,cr l K⟩
def dL.j2(l:dL wB w d e a f b g m s)(n:iU wB c d j i e k):iU w c d j i e k:=n.y l.P
theorem dL.y(l:dL wB w d e a f b g m s)(n:I No w h):dL wB h d e a f b g m s:=by
 obtain⟨q,o,p⟩:=l.blk;exact⟨B6 l.P n,⟨q,D9 n o,A3 p n Ξ⟩,l.gs.P n λx=>x,l.ks.P n λx=>x,l.lo,l.ne,l.fq,l.tg,l.gt⟩
def dL.more{o}(l:dL wB w d e a f b g m s)(n:m<=o):dL wB w d e a f b g o s:=
 ⟨l.P,l.blk,l.gs,l.ks.more n,l.lo,l.ne,kQ l.fq n,l.tg,l.gt⟩
def dL.nc(p:dL wB w d e a f b g m s):∀l n o,w.heap[b]?≠C (γ l n o):=λ_ _ _=>p.ks.et
theorem dL.cell(r:dL wB w d e a f b g m s):a<V w.heap/\(∀o,w.frozen? (J a o)=κ)/\δ w (J a 0)=C (pV d)/\δ w (J a 1)=C (.map<|C f)/\δ w (J a 2)=C e/\δ w (J a 3)=C (.map<|C b)/\
 ∃n p,δ w (J a 4)=C (Y n (Q s.lf) p)/\w.heap[a]?=C (γ #[pV d,.map<|C f,e,.map<|C b,Y n (Q s.lf) p] 123 (0,0))/\ρ w (V wB.heap) 90 2 (Y n (Q s.lf) p) (Q s.lf) (S4 s.lf):=by
 obtain⟨t,l,q⟩:=r.blk;obtain⟨n,p,rfl⟩:=B8 q;exact⟨(aG l),λo=>æ w a o _ _ l,cr l K,cr l K,cr l K,cr l K,n,p,cr l K,l,q⟩
def dL.put{t}{r:Gm}(l:dL wB w d e a f b g m s)(o:I (λF=>F=b) w h)(z:cQ h b t r)(A:m<=t)(D:bP r):dL wB h d e a f b g t ⟨r,s.lf⟩/\cZ (V wB.heap) b w h:=by
 obtain⟨G,n,v⟩:=l.blk;have p:cZ (V wB.heap) b w h:=.one o l.lo.2.2<|.inl K;refine⟨⟨p.below l.P<|vQ _,⟨G,?_,A3 v o λq B x=>?_⟩,p.rr l.gs l.ne,z,l.lo,l.ne,kQ l.fq A,D,l.gt⟩,p⟩
 .rw[o.block a (aG n) λx=>?_]
  .exact n
  .have u:a=b:=x;subst u;exact l.nc _ _ _ n
 .have u:q=b:=x;subst u;obtain⟨_,H,y⟩:=A9 v q B;exact l.nc _ _ _ y
def dL.turn{n v}{u:Gm}(l:dL wB w d e a f b g m s)(y:cQ w n v u)(A:V wB.heap<=n)(D:f≠n)(B:Q s.lf<=v)(G:bP u):
 dL wB (σ w (J a 3)<|.map<|C n) d e a f n g v ⟨u,s.lf⟩/\I (λr=>r=a) w (σ w (J a 3)<|.map<|C n):=by
 obtain⟨H,t,z⟩:=l.blk;have p:I (λr=>r=a) w (σ w (J a 3)<|.map<|C n):=é w (J a 3) _;refine⟨⟨l.P.trans p λr L x=>by have:=l.lo.1;have o:r=a:=x;omega,⟨H,?_,A3 z p λq F x=>?_⟩,l.gs.P p λx=>?_,y.P p λx=>?_,⟨l.lo.1,l.lo.2.1,A⟩,D,B,G,l.gt⟩,p⟩
 .rw[ð w a 3 _ _ _ t];rfl
 .have o:q=a:=x;subst o;exact I6 z t ζ F
 .have o:f=a:=x;subst o;exact l.gs.et t
 .have o:n=a:=x;subst o;exact y.et t
def dL.left{u}{v}{l}{o}{p}{M}(n:dL wB w d e a f b g m s)(z:w.heap[a]?=C (γ #[pV d,.map<|C f,e,.map<|C b,Y u (Q s.lf) v] 123 (0,0)))(D:ρ w (V wB.heap) 90 2 (Y u (Q s.lf) v) (Q s.lf)<|S4 s.lf)
 (A:I (λr=>Θ (Y u (Q s.lf) v)=C r) w l) (L:ρ l (V wB.heap) 90 2 o (Q s.lf+1)<|S4 s.lf++[U p.1,U p.2]) (hm:m+1<=M):
 dL wB (σ l (J a 4) o) d e a f b g M ⟨s.kn,s.lf++[p]⟩/\cZ (V wB.heap) b w (σ l (J a 4) o):=by
 have S:=(aG z);have P:cZ (V wB.heap) b w l:=A.mono λr _ x=>by
  obtain⟨T,N,B⟩:=A9 D r x;exact⟨T,.inr ⟨_,_,_,B,.inr K⟩⟩
 have t:l.heap[a]?=C (γ #[pV d,.map<|C f,e,.map<|C b,Y u (Q s.lf) v] 123 (0,0)):=by
  rw[A.block a S λx=>I6 D z ζ x];exact z
 have F:I (λr=>r=a) l (σ l (J a 4) o):=é l (J a 4) _;have R:cZ (V wB.heap) b l (σ l (J a 4) o):=.one F n.lo.1<|.inr ⟨_,_,_,t,.inl K⟩;have y:=P.trans R<|.inl K;have H:cQ l b m s.kn:=n.ks.P A λx=>by
  obtain⟨_,N,B⟩:=A9 D _ x;exact n.nc _ _ _ B
 refine⟨⟨y.below n.P<|vQ _,⟨o,?_,?_⟩,y.rr n.gs n.ne,(H.P F λx=>?_).more W,n.lo,n.ne,?_,n.tg,n.gt⟩,y⟩
 .rw[ð l a 4 _ _ _ t];rfl
 .rw[OM,qQ,Û];exact A3 L F (λq Z x=>by
   have G:q=a:=x;subst G;exact I6 L t ζ Z)
 .have G:b=a:=x;subst G;exact H.et t
 .have:=n.fq;simp only[qQ,Û];omega
end
def EQ(c:E)(i:Nat)(d:υ)(f h a:Nat)(g:Gm)(m:Nat)(s:Es)(w:E)(e:ò)(b:E):Prop:=
 e=rT/\dL c b i d f h a g m s/\cZ (V c.heap) a w b
section
variable{f w:E}{c:Cx}{e j d h i m:Nat}{k b:υ}{a:uZ}{g:Gm}{s:Es}
def Hk(o:dL f w e b d h i g m s)(x)(q:0<=x/\x<=1000000):
 μ ε 162 #[pV d,U x] w λp r=>p=π (U<|eX s.kn x)/\r=w:=by
 obtain⟨u,-,-,-,-,t,-⟩:=o.cell;have n:=o.ks.look x q;unfold eX;clear o;cases l:s.kn x with
 |none=>
  rw[l]at n;simp only[Option.getD_none,Option.isSome_none]at n⊢;clear l;go_in;go_wp2;go_ret;exact⟨K,K⟩
 |some v=>
  rw[l]at n;simp only[Option.getD_some,Option.isSome_some]at n⊢;clear l;go_in;go_wp2;go_ret;exact⟨K,K⟩
def iu{w:E}{b}(o:ρ w 0 3 1 b (Q a)<|C8 a)(y:Q a<=1000000)(x):
 μ ε 161 #[b,U x] w λl v=>l=π (.bool<|a.contains x)/\v=w:=by
 obtain⟨r,n,rfl⟩:=B8 o;by_cases t:Q a=0
 .have:a=[]:=List.length_eq_zero_iff.1 t;subst this;exact Tryz.slices_Contains_int_empty r n x w
 .obtain⟨q,rfl,_⟩:=D6 o (j:=0) W;have:=Tryz.slices_Contains_int q 0 (Q a) n a x w (vQ _) W (λz p=>by
   obtain⟨A,l,_,_,_,u⟩:=D6 o p;simp only[zQ,Addr.mk.injEq,and_true]at l;subst l;rw[Þ,u,lQ,gQ p];rfl);rw[vZ]at this;exact this
def YC(q:iU f c e j k b a)(l:dL f w e b d h i g m s)(M:m<=10000000)(x v)(D:0<=x/\x<=1000000)(B:0<=v/\v<128):
 μ ε 102 #[pV d,U x,U v] w (EQ f e b d h i g (m+1) ⟨bN a s.kn x v,s.lf⟩ w):=by
 obtain⟨L,-,-,-,G,H,-⟩:=l.cell;have n:=O<|iu (l.j2 q).ue q.fq x;obtain⟨N,A,y,t⟩:=l.ks.put x v D W W;have p:=O<|l.put t y (Nat.le_succ m)<|l.tg.set x B;have r:=O<|l.more<|Nat.le_succ m;have u:a.contains x=decide (x∈a):=by simp[List.contains_eq_mem]
 rw[u]at n;unfold bN;clear l q y t u;by_cases o:x∈a
 .rw[yY o];simp only[o,decide_true]at n;clear A p;go_in;go_wp2_with fail;refine n.u.mono ?_;rintro z F ⟨rfl,rfl⟩;go_wp2_with fail;go_end0;exact⟨K,r.u,.y<|ì _ _⟩
 .rw[wY o];simp only[o,decide_false]at n;clear r;go_in;go_wp2_with fail;refine n.u.mono ?_;rintro z F ⟨rfl,rfl⟩;go_wp2_with fail;go_end0;exact⟨K,p.u.1,p.u.2⟩
def iU.nm(o:iU w c e j k b a){l}(u:l<Q c.N)(v:c.N[l].x=5\/c.N[l].x=18):(0<=eH c l/\eH c l<=1000000)/\(Ì 64 (.map<|C j) (U l) κ).run ε w=.ok (U<|eH c l) w:=by
 have x:=o.ok.fp;obtain⟨n,p,y,_⟩:=o.ok.mw.tg l u v;have q:=o.names.get (l:Int) W;have r:eH c l=(n:Int):=by
  unfold eH;rw[tQ];exact p
 have t:lS c (l:Int)=C (n:Int):=by
  unfold lS;rw[tQ,p,yY ⟨W,W,W⟩]
 rw[t]at q;rw[r];exact⟨W,q⟩
def Ux(o:iU f c e j k b a)(n:dL f w e b d h i g m s)(l)(u:l<Q c.N):
 μ ε 164 #[pV d,U l] w λv y=>v=π (U<|fY c l)/\y=w:=by
 obtain⟨F,-,z,-,-,-,-⟩:=n.cell;obtain⟨M,T,Z⟩:=(n.j2 o).cell;obtain⟨S,R,N,P,rfl,D,L,x,⟨x0,-,-,-,-,-,-,-,-⟩,-,-⟩:=(n.j2 o).ey.at (ñ _ _) l u;have G:=o.ok.fp;have p:=(n.j2 o).nm u;unfold Δ at x;unfold fY;rw[B7 u];clear n o;generalize c.N[l].x=q at*;by_cases r:q=16
 .subst r;rw[yY K];clear p;go_in;go_wp2;go_ret;exact⟨K,K⟩
 .have A:(q==16)=κ:=by simpa using r
  rw[wY r];by_cases t:q=5
  .subst t;rw[yY K];obtain⟨-,H⟩:=p<|.inl K;clear p;generalize eH c l=a2 at*;go_in;go_wp2;go_ret;exact⟨K,K⟩
  .have B:(q==5)=κ:=by simpa using t
   rw[wY t];clear p;go_in;go_wp2;go_ret;exact⟨K,K⟩
def Xy(w:E)(l):μ ε 223 #[ι ⟨ξ l⟩] w λn v=>n=π (U<|pC l)/\v=w:=by
 go_in;by_cases o:l=[61,61]
 .subst o;go_wp2;go_ret;exact⟨K,K⟩
 have x:(l==[61,61])=κ:=by simpa using o
 by_cases p:l=[60]
 .subst p;go_wp2;go_ret;exact⟨K,K⟩
 have y:(l==[60])=κ:=by simpa using p
 by_cases q:l=[33]
 .subst q;go_wp2;go_ret;exact⟨K,K⟩
 have z:(l==[33])=κ:=by simpa using q
 by_cases r:l=[45]
 .subst r;go_wp2;go_ret;exact⟨K,K⟩
 have A:(l==[45])=κ:=by simpa using r
 by_cases t:l=[42]
 .subst t;go_wp2;go_ret;exact⟨K,K⟩
 have B:(l==[42])=κ:=by simpa using t
 by_cases u:l=[116,121,112,101,111,102]
 .subst u;go_wp2;go_ret;exact⟨K,K⟩
 have D:(l==[116,121,112,101,111,102])=κ:=by simpa using u
 have n:pC l=0:=by
  unfold pC;simp[o,p,q,r,t,u]
 rw[n];clear n;go_wp2;go_ret;exact⟨K,K⟩
end
def ů(w:E)(b)(i)(j):μ ε 163 #[eE b i j] w λe l=>e=π (U<|hY b)/\I No w l:=by
 obtain⟨a,x,z,A,v,d,B,F,D⟩:=b;unfold eE hY;simp only;by_cases h:a=1\/a=2\/a=3\/a=4\/a=6\/a=10\/a=11
 .obtain rfl|rfl|rfl|rfl|rfl|rfl|rfl:=h<;>
   (go_in;go_wp2;go_ret;exact⟨K,ν _ _ _⟩)
 have c:=O λf=>Xy f d;generalize pC d=y at*;by_cases g:a=12\/a=13
 .obtain rfl|rfl:=g<;>
   (go_in;go_wp2_with fail;refine(c.u _).mono ?_;rintro e f ⟨rfl,rfl⟩;go_wp2_with fail;go_ret;exact⟨K,ν _ _ _⟩)
 have k:(a==1)=κ/\(a==2)=κ/\(a==3)=κ/\(a==4)=κ/\(a==6)=κ/\(a==10)=κ/\(a==11)=κ/\(a==12)=κ/\(a==13)=κ:=by
  simp only[beq_eq_false_iff_ne];omega
 obtain⟨m,r,s,t,u,n,o,p,q⟩:=k;rw[wY W,wY W,wY W,wY W,wY W,wY W,wY W,wY W];clear c;go_in;go_wp2;go_ret;exact⟨K,ν _ _ _⟩
section
variable{f w:E}{c:Cx}{e k a b i m:Nat}{j d:υ}{h:uZ}{g:Gm}{s:Es}
def Yd(r:iU f c e k j d h)(o:dL f w e d a b i g m s)(l)(P:l<Q c.N):
 μ ε 103 #[pV a,U l] w λn w'=>n=π (U<|kM c g s.kn l)/\I No w w':=by
 obtain⟨hl,-,b0,b1,-,-,-⟩:=o.cell;obtain⟨a9,aa,p4⟩:=(o.j2 r).cell;obtain⟨ng,nc,la,lc,rfl,hg,a8,a3,⟨x0,x1,x2,x3,x4,x5,x6,x7,x8⟩,-,-⟩:=(o.j2 r).ey.at (ñ _ _) l P;have a6:=r.ok.fp;have t:=ν No w<|γ #[U c.N[l].x,U c.N[l].a,U c.N[l].b,U c.N[l].c,Y la (Q c.N[l].M) lc,ι ⟨ξ c.N[l].text⟩,U c.N[l].n,U c.N[l].ty,U c.N[l].at'] 82;have G:=O λhk=>((o.y t).j2 r).nm P hk;have H:=O λx D=>Hk (o.y t) x D;have A:Hid (∀u,I No w u->δ u (J a 1)=C (.map<|C b)/\a<V u.heap/\(Ì 64 (.map<|C b) (U (l:Int)) τ).run ε u=.ok (.tuple #[U<|(g l).getD 0,.bool (g l).isSome]) u):=λu S=>⟨A4 S b1,yQ hl S.size,(o.gs.P S λx=>x).look (l:Int) W⟩;have B:=O λT=>ů T c.N[l] la lc;have Z:=O t;unfold Δ at a3;unfold kM;rw[B7 P];unfold eE at B;clear o r t;generalize a4:c.N[l]=nd at*;clear a4;obtain⟨kd,va,vb,vc,ls,tx,vn,vt,vp⟩:=nd;simp only at*;by_cases M:kd=5
 .subst M;rw[yY K];obtain⟨D,a7⟩:=G.u<|.inl K;have a2:=O<|H.u _ D;clear G A B H D;generalize eH c l=y at*;generalize eX s.kn y=ab at*;go_in;go_wp2_with fail;refine a2.u.mono ?_;rintro n T ⟨rfl,rfl⟩;go_wp2_with fail;go_ret;exact⟨K,Z.u⟩
 .have g5:(kd==5)=κ:=by simpa using M
  rw[wY M];clear G H;generalize hY _=y at*;obtain⟨R,N⟩:∃R,(if y≠0 then y else (g (l:Int)).getD 127)=R:=⟨_,K⟩;rw[N];have p:=O N;clear N;go_in;go_wp2_with fail;refine(B.u _).mono ?_;rintro n T ⟨rfl,hc⟩;have z:=O<|B6 Z.u hc;clear hc B;by_cases L:y=0
  .subst L;obtain⟨a5,l1,F⟩:=A.u _ z.u;clear A;cases q:g l with
   |none=>
    have n:R=127:=by rw[<-p.u,q];rfl
    subst n;rw[q]at F;simp only[Option.getD_none,Option.isSome_none]at F;clear q p;go_wp2_with fail;go_ret;exact⟨K,z.u⟩
   |some v=>
    have n:R=v:=by rw[<-p.u,q];rfl
    subst n;rw[q]at F;simp only[Option.getD_some,Option.isSome_some]at F;clear q p;go_wp2_with fail;go_ret;exact⟨K,z.u⟩
  .have g0:(y !=0)=τ:=by simpa using L
   have n:R=y:=by rw[<-p.u,yY L]
   subst n;clear A p;go_wp2_with fail;go_ret;exact⟨K,z.u⟩
end
def Tryz.qe:(prog.info? 90).map (λi=>(i.zero,i.size,i.bytes))=C (C<|.agg #[U 0,U 0],2,16):=î
section
variable{b w:E}{c:Cx}{h k a i f m:Nat}{j e:υ}{d:uZ}{g:Gm}{s:Es}
def XW(D:iU b c h k j e d)(q:dL b w h e a i f g m s)(hm:m<=9000000)(l)(hi:l<Q c.N):
 μ ε 104 #[pV a,U l] w (EQ b h e a i f g (m+2) (dH c g d l s) w):=by
 obtain⟨i0,ac,ae,af,ag⟩:=ý Tryz.qe;obtain⟨hl,fz,b0,b1,-,-,la,lc,b4,a3,ho⟩:=q.cell;obtain⟨aw,ay,p4⟩:=(q.j2 D).cell;obtain⟨ng,nc,-,-,ao,hg,av,an,⟨x0,-,-,-,-,-,-,-,-⟩,-,-⟩:=(q.j2 D).ey.at (ñ _ _) l hi;have ar:=D.ok.fp;have aa:=q.gs.look (l:Int) W;have a5:=O<|Ux D q l hi;have aq:=q.fq;have ax:=q.P.size;unfold Δ at an;have ab:fY c l≠-1->0<=fY c l/\fY c l<=1000000:=by
  unfold fY;rw[B7 hi];intro a6;split
  .omega
  .split
   .rename_i B;exact((q.j2 D).nm hi<|.inl B).1
   .rename_i h1 h2;rw[wY h1,wY h2]at a6;exact absurd K a6
 have ad:c.N[l].x=5->fY c l≠-1:=λB o=>by
  unfold fY at o;rw[B7 hi,wY W,yY B]at o;have:=((q.j2 D).nm hi<|.inl B).1;omega
 cases a4:g l with
 |none=>
  have o:dH c g d l s=s:=by unfold dH;rw[a4]
  rw[o];rw[a4]at aa;simp only[Option.getD_none,Option.isSome_none]at aa;have G:=O (q.more<|show m<=m+2 by omega);clear q D a5 ab ad ho a3 o a4;go_in;go_wp2_with fail;go_end0;exact⟨K,G.u,.y<|ì _ _⟩
 |some t=>
  have o:dH c g d l s=⟨if fY c l=-1 then s.kn else bN d s.kn (fY c l)<|û .and χ (eX s.kn<|fY c l) t,if c.N[l].x≠5\/û .andNot χ (eX s.kn<|fY c l) t≠0 then s.lf++[((l:Int),t)] else s.lf⟩:=by
   unfold dH;rw[a4,B7 hi]
  rw[o];rw[a4]at aa;simp only[Option.getD_some,Option.isSome_some]at aa;have ht:=q.gt _ _ a4;have F:Hid (∀u ah,dL b u h e a i f g (m+1) ⟨s.kn,ah⟩->fY c l≠-1->μ ε 162 #[pV a,U<|fY c l] u (λo w'=>o=π (U<|eX s.kn<|fY c l)/\w'=u)/\
   μ ε 102 #[pV a,U<|fY c l,U<|û .and χ (eX s.kn<|fY c l) t] u (EQ b h e a i f g (m+2) ⟨bN d s.kn (fY c l)<|û .and χ (eX s.kn<|fY c l) t,ah⟩ u)):=λu ah z a6=>
   ⟨Hk z _<|ab a6,YC D z W _ _ (ab a6)<|Jf _ _ (q.tg.lu _) ht⟩;have Z:Hid (∀n v',I (λv=>Θ (Y la (Q s.lf) lc)=C v) w n->ρ n (V b.heap) 90 2 v' (Q s.lf+1) (S4 s.lf++[U (l:Int),U t])->dL b (σ n (J a 4) v') h e a i f g (m+1) ⟨s.kn,s.lf++[((l:Int),t)]⟩/\cZ (V b.heap) f w (σ n (J a 4) v')):=λn v' hc ap=>q.left (p:=((l:Int),t)) a3 ho hc ap<|vQ _;have G:=O (q.more<|show m<=m+1 by omega);have a2:=O<|ho.alloc<|γ #[U (l:Int),U t] 90;have au:=(C6d s.lf);have T:Hid (∀n,I (λv=>Θ (Y la (Q s.lf) lc)=C v) w n->a<V n.heap/\∀ai,n.frozen? (J a ai)=κ):=λn hc=>by
   have a9:n.heap[a]?=_:=(hc.block a hl λx=>I6 ho a3 ζ x).trans a3;exact⟨(aG a9),λai=>æ n a ai _ _ a9⟩
  have S:Hid (∀(n:E),I (λv=>Θ (Y la (Q s.lf) lc)=C v) w n->δ n (J a 4)=C (Y la (Q s.lf) lc)):=λn hc=>by
   have a9:n.heap[a]?=_:=(hc.block a hl λx=>I6 ho a3 ζ x).trans a3;rw[ä n a 4 _ _ _ a9];rfl
  subst ao;have am:=O ad;clear q D ab ho a3 o a4 ad;generalize fY c l=x at*;generalize hz:eX s.kn x=a8 at*;clear hz;generalize c.N[l].x=kd at*;by_cases B:kd=5
  .subst B;have A:=am.u K;have gx:(x !=-1)=τ:=by simpa using A
   rw[wY A];by_cases ha:û .andNot χ a8 t=0
   .have ga:(û .andNot χ a8 t !=0)=κ:=by simpa using ha
    rw[wY<|by simp[ha]];obtain⟨N,P⟩:=F.u _ _ G.u A;have H1:=O N;have H2:=O P;clear F Z T S a2 N P G;go_in;go_wp2_with fail;refine a5.u.mono ?_;rintro o R ⟨rfl,rfl⟩;go_wp2_with fail;refine H1.u.mono ?_;rintro o R ⟨rfl,rfl⟩;go_wp2_with fail;refine H1.u.mono ?_;rintro o R ⟨rfl,rfl⟩;go_wp2_with fail;refine H2.u.mono ?_;rintro o al ⟨rfl,ak⟩;have HR:=O ak;clear ak;go_wp2_with fail;go_end0;exact⟨K,HR.u⟩
   .have ga:(û .andNot χ a8 t !=0)=τ:=by simpa using ha
    rw[yY<|.inr ha];go_in;go_wp2_with fail;refine a5.u.mono ?_;rintro o R ⟨rfl,p⟩;replace p:=p.symm;subst p;have H1:=O (F.u _ _ G.u A).1;go_wp2_with fail;refine H1.u.mono ?_;rintro o R ⟨rfl,p⟩;replace p:=p.symm;subst p;go_wp2_with (at_builtin;refine Ù _ K _ _ 55 K (V b.heap) 90 i0 (.agg #[U 0,U 0]) 2 16 underlying55 ac ae af ag K ζ _ _ _ K a2.u (J (V w.heap) 0) 1 1 [U (l:Int),U t] K K ?c1 ?c2 ?c3 ?c4 ?c5 ?_);case c1=>exact Ó (cs:=#[U (l:Int),U t]) (t:=90) (fr:=(0,0))<|rY w _
    case c2=>intro u z;simp at z;obtain rfl|rfl:=z<;>rfl
    case c3=>simp only[Δ];omega
    case c4=>omega
    case c5=>simp;omega
    intro v' n y L _;obtain⟨aj,c4,rfl⟩:=B8 y;have r:I (λv=>Θ (Y la (Q s.lf) lc)=C v) w n:=(ν _ w<|γ #[U (l:Int),U t] 90).trans (ü L) λv hk x=>x.symm;obtain⟨l4,z4⟩:=T.u _ r;have y4:=S.u _ r;obtain⟨H,M⟩:=Z.u _ _ r y;obtain⟨N,P⟩:=F.u _ _ H A;have G1:=O N;have G2:=O P;have K5:=O M;clear F Z T S a2 N P G H M r y L H1;go_wp2_with fail;refine G1.u.mono ?_;rintro o R ⟨rfl,p⟩;replace p:=p.symm;subst p;go_wp2_with fail;refine G2.u.mono ?_;rintro o al ⟨rfl,a7,r2⟩;have HR:=O a7;have HK:=O<|K5.u.trans r2<|.inl K;clear a7 r2 K5;go_wp2_with fail;go_end0;exact⟨K,HR.u,HK.u⟩
  .have g5:(kd !=5)=τ:=by simpa using B
   by_cases A:x=-1
   .have gx:(x !=-1)=κ:=by simpa using A
    rw[yY A,yY<|show kd≠5\/û .andNot χ a8 t≠0 from .inl B];go_in;go_wp2_with fail;refine a5.u.mono ?_;rintro o R ⟨rfl,p⟩;replace p:=p.symm;subst p;go_wp2_with (at_builtin;refine Ù _ K _ _ 55 K (V b.heap) 90 i0 (.agg #[U 0,U 0]) 2 16 underlying55 ac ae af ag K ζ _ _ _ K a2.u (J (V w.heap) 0) 1 1 [U (l:Int),U t] K K ?c1 ?c2 ?c3 ?c4 ?c5 ?_);case c1=>exact Ó (cs:=#[U (l:Int),U t]) (t:=90) (fr:=(0,0))<|rY w _
    case c2=>intro u z;simp at z;obtain rfl|rfl:=z<;>rfl
    case c3=>simp only[Δ];omega
    case c4=>omega
    case c5=>simp;omega
    intro v' n y L _;obtain⟨aj,c4,rfl⟩:=B8 y;have r:I (λv=>Θ (Y la (Q s.lf) lc)=C v) w n:=(ν _ w<|γ #[U (l:Int),U t] 90).trans (ü L) λv hk x=>x.symm;obtain⟨l4,z4⟩:=T.u _ r;have y4:=S.u _ r;obtain⟨H,M⟩:=Z.u _ _ r y;have HR:=O (H.more<|show m+1<=m+2 by omega);have K5:=O M;clear F Z T S a2 G H M r y L;go_wp2_with fail;go_end0;exact⟨K,HR.u,K5.u⟩
   .have gx:(x !=-1)=τ:=by simpa using A
    rw[wY A,yY<|show kd≠5\/û .andNot χ a8 t≠0 from .inl B];go_in;go_wp2_with fail;refine a5.u.mono ?_;rintro o R ⟨rfl,p⟩;replace p:=p.symm;subst p;go_wp2_with (at_builtin;refine Ù _ K _ _ 55 K (V b.heap) 90 i0 (.agg #[U 0,U 0]) 2 16 underlying55 ac ae af ag K ζ _ _ _ K a2.u (J (V w.heap) 0) 1 1 [U (l:Int),U t] K K ?c1 ?c2 ?c3 ?c4 ?c5 ?_);case c1=>exact Ó (cs:=#[U (l:Int),U t]) (t:=90) (fr:=(0,0))<|rY w _
    case c2=>intro u z;simp at z;obtain rfl|rfl:=z<;>rfl
    case c3=>simp only[Δ];omega
    case c4=>omega
    case c5=>simp;omega
    intro v' n y L _;obtain⟨aj,c4,rfl⟩:=B8 y;have r:I (λv=>Θ (Y la (Q s.lf) lc)=C v) w n:=(ν _ w<|γ #[U (l:Int),U t] 90).trans (ü L) λv hk x=>x.symm;obtain⟨l4,z4⟩:=T.u _ r;have y4:=S.u _ r;obtain⟨H,M⟩:=Z.u _ _ r y;obtain⟨N,P⟩:=F.u _ _ H A;have G1:=O N;have G2:=O P;have K5:=O M;clear F Z T S a2 N P G H M r y L;go_wp2_with fail;refine G1.u.mono ?_;rintro o R ⟨rfl,rfl⟩;go_wp2_with fail;refine G2.u.mono ?_;rintro o al ⟨rfl,a7,r2⟩;have HR:=O a7;have HK:=O<|K5.u.trans r2<|.inl K;clear a7 r2 K5;go_wp2_with fail;go_end0;exact⟨K,HR.u,HK.u⟩
end
def qG(c:Cx)(f:Nat)(l:uZ):Prop:=Q l<=100000/\∀x∈l,∃j:Nat,x=j/\j<f/\j<Q c.N
def qG.r8{c}(a:jG c){i}(b){f}(h:i<=f):qG c f (aD c.N[i]):=by
 refine⟨?_,λx d=>?_⟩
 .have g:=a.ls i b;unfold aD;repeat' split
  all_goals simp
  all_goals omega
 .obtain⟨j,e,k⟩:=Gv (a.ew i b) x d;exact⟨j,e,W,W⟩
def xT{w:E}{q}{a b c d e f g h i}(j:w.heap[q]?=C (γ #[a,b,c,d,e,f,g,h,i] 82 (0,0))):q<V w.heap/\δ w (J q 0)=C a/\δ w (J q 1)=C b/\δ w (J q 2)=C c/\δ w (J q 3)=C d/\δ w (J q 4)=C e/\δ w (J q 5)=C f/\δ w (J q 6)=C g/\δ w (J q 7)=C h/\δ w (J q 8)=C i:=
 ⟨(aG j),cr j K,cr j K,cr j K,cr j K,cr j K,cr j K,cr j K,cr j K,cr j K⟩
def oY(w:E)(c:Option í)(a:Nat)(l:uZ):Prop:=∀j (h),∃q o b,c=C (J q o)/\w.heap[q]?=C (γ b 3 (0,0))/\δ w (J q<|o+j)=C (U l[j])/\Q l<=a/\a<=Δ
theorem oY.of{w}{a}{b}{l}(h:ρ w 0 3 1 (Y a (Q l) b) (Q l)<|C8 l):oY w a b l:=λj i=>by
 obtain⟨q,rfl,k,d,e,f⟩:=D6 h i;obtain⟨_,c,g⟩:=A9 h q K;exact⟨q,0,c,K,g,by rw[Þ];exact f,d,e⟩
def oY.eu{B d}{w i}{f}{g}{l}(h:oY w f g l)(s:cZ B d w i)(t:∀k e n,w.heap[d]?≠C (γ k e n)):oY i f g l:=λj p=>by
 obtain⟨q,o,m,rfl,c,b,r⟩:=h j p;have a:=s.cells t c ζ ζ;refine⟨q,o,m,K,a,?_,r⟩;rw[ä _ _ _ _ _ _ c]at b;rw[ä _ _ _ _ _ _ a];exact b
section
variable{b:E}{c:Cx}{f i d h a m:Nat}{k e:υ}{j:uZ}{g:Gm}
def SM(hP:iU b c f i k e j):∀(o) (l) (w) (s) (v) (x),qG c o l->dL b w f e d h a g m s->oY w v x l->
 μ ε 158 #[pV d,Y v (Q l) x] w (EQ b f e d h a g m ⟨gP c o l s.kn,s.lf⟩ w)
 |o,l,w,s,v,x,hl,ai,ho=>by
  have IH:Hid (∀(L:uZ) (w:E) (s:Es) (v:Option í) (x:Nat),qG c (o-1) L->0<o->dL b w f e d h a g m s->oY w v x L->
   μ ε 158 #[pV d,Y v (Q L) x] w (EQ b f e d h a g m ⟨gP c (o-1) L s.kn,s.lf⟩ w)):=λL w s v x h1 h0 h2 h3=>SM hP (o-1) L w s v x h1 h2 h3;have bd:=hl.1;have HL:=O hl.2;have HW:=O ai;have HO:=O ho;have z:=O hP;clear ai ho hl hP;go_in;go_wp2_with fail;go_loopw [9] (λaf wr=>∃p:Nat,p<=Q l/\af=U (p:Int)/\Hid (dL b wr f e d h a g m ⟨gP c o (l.take p) s.kn,s.lf⟩)/\Hid (cZ (V b.heap) a w wr)) (λaf _=>Q l-(intOf af).toNat);case atStart=>exact⟨0,wQ _,K,HW.u,.y<|ì _ _⟩
  case round=>
   obtain⟨p,hj,rfl,q,M⟩:=hrel;by_cases ac:p<Q l
   .obtain⟨bg,be,b1,e1,ak,x1,b4,ar⟩:=HO.u.eu M.u HW.u.nc p ac;have hq:=(aG ak);subst e1;obtain⟨n,ab,b6,H⟩:=HL.u l[p]<|mQ ac;have P:Hid (gP c o (l.take<|p+1) s.kn=kR c o n (gP c o (l.take p) s.kn)):=by
     show _=_;rw[nQ ac,ab];unfold gP;rw[List.foldl_append];rfl
    rw[ab]at x1;clear ab;obtain⟨B,am⟩:∃B,gP c o (l.take p) s.kn=B:=⟨_,K⟩;rw[am]at q P;clear am;obtain⟨b5,-,b0,-,-,b3,-⟩:=q.u.cell;obtain⟨ba,bf,p4⟩:=(q.u.j2 z.u).cell;obtain⟨ng,nc,D,F,ax,hg,b9,av,⟨y0,y1,y2,y3,y4,y5,y6,y7,y8⟩,ao,-⟩:=(q.u.j2 z.u).ey.at (ñ _ _) n H;subst ax;have b7:=z.u.ok.fp;unfold Δ at ar av;have a4:Hid (∀u,cZ (V b.heap) a wr u->μ ε 101 #[eE c.N[n] D F] u (oE u<|aD c.N[n])):=λu hu=>PI (z.u.ok.ew n H) u D F (hu.row q.u.nc ao) (by have:=z.u.ok.ls n H;omega);have a7:Hid (∀u a5 r t,dL b u f e d h a g m ⟨a5,s.lf⟩->oY u r t (aD c.N[n])->μ ε 158 #[pV d,Y r (Q (aD c.N[n])) t] u (EQ b f e d h a g m ⟨gP c (o-1) (aD c.N[n]) a5,s.lf⟩ u)):=λu a5 r t h1 h2=>IH.u _ u ⟨a5,s.lf⟩ r t (qG.r8 z.u.ok H W) W h1 h2;have HE:Hid (kR c o n B=if c.N[n].x=6 then B else gP c (o-1) (aD c.N[n])<|if c.N[n].x=18 then kX B (eH c n) else B):=by
     show _=_;obtain⟨f',rfl⟩:∃f',o=f'+1:=⟨o-1,W⟩;rw[kR,B7 H];rfl
    have A1:=ν No wr<|γ #[U c.N[n].x,U c.N[n].a,U c.N[n].b,U c.N[n].c,Y D (Q c.N[n].M) F,ι ⟨ξ c.N[n].text⟩,U c.N[n].n,U c.N[n].ty,U c.N[n].at'] 82;have y:=O<|q.u.y A1;have a3:=O λhk=>((y.u.y<|Ψ No _ 1).j2 z.u).nm H<|.inr hk;have nb:=rY wr<|γ #[U c.N[n].x,U c.N[n].a,U c.N[n].b,U c.N[n].c,Y D (Q c.N[n].M) F,ι ⟨ξ c.N[n].text⟩,U c.N[n].n,U c.N[n].ty,U c.N[n].at'] 82;have ah:=O nb;have a6:=O A1;unfold eE at a4;clear ao IH A1 nb ak;generalize aw:c.N[n]=nd at*;clear aw;obtain⟨kd,va,vb,vc,ls,tx,vn,vt,vp⟩:=nd;simp only at*;by_cases k6:kd=6
    .subst k6;have G:gP c o (l.take<|p+1) s.kn=B:=by rw[P.u,HE.u,yY K]
     have N:=O G;clear G a4 a7 a3 ah HE P;go_wp2_with fail;go_roundw;case rel=>exact⟨p+1,W,ï,by rw[N.u];exact y.u,M.u.trans (.y a6.u)<|.inl K⟩
     case measure=>simp[intOf];omega
    .have g6:(kd==6)=κ:=by simpa using k6
     by_cases ae:kd=18
     .subst ae;obtain⟨hx,an⟩:=a3.u K;obtain⟨ag,ad,al,aj⟩:=(y.u.y<|Ψ No _ 1).ks.del _ hx;have b8:(Ì 64 (.map<|C i) (U (n:Int)) κ).run ε (wr.alloc<|aM 18 va vb vc (Y D (Q ls) F) tx vn vt vp).drew=.ok (U<|eH c n) _:=an;have bb:(Builtin.delete_ #[64,3] 0 #[.map<|C a,U<|eH c n]).run ε ((wr.alloc<|aM 18 va vb vc (Y D (Q ls) F) tx vn vt vp).drewN 1)=.ok (.tuple #[]) ag:=ad 0;have bc:(Builtin.delete_ #[64,3] 0 #[.map<|C a,U<|eH c n]).run ε (wr.alloc<|aM 18 va vb vc (Y D (Q ls) F) tx vn vt vp).drew=.ok (.tuple #[]) ag:=ad 0;obtain⟨aq,S⟩:=(y.u.y<|Ψ No _ 1).put aj al (vQ _)<|y.u.tg.del _;have ap:cZ (V b.heap) a wr ag:=(cZ.y<|B6 a6.u<|Ψ No _ 1).trans S<|.inl K;have n5:=S.cells y.u.nc (D9 (Ψ No _ 1) ah.u) ζ ζ;clear a3 an ad al aj hx;generalize eH c n=bh at*;go_wp2_with fail;go_region;obtain⟨az,d0,d1,d2,d3,d4,d5,d6,d7,d8⟩:=xT n5;go_wp2_with fail;refine(a4.u _ ap).mono ?_;rintro G a2 ⟨r,t,rfl,A,R⟩;have a8:=O<|a7.u a2 _ r t (aq.y A)<|.of<|C7 R<|wQ _;have a9:Hid (cZ (V b.heap) a wr a2):=ap.trans (.y A)<|.inl K;generalize aD _=ps at*;clear A R;go_wp2_with fail;refine a8.u.mono ?_;rintro G ay ⟨rfl,T,Z⟩;have N:=O T;have aa:=O<|a9.u.trans Z<|.inl K;clear T Z;go_wp2_with fail;go_roundw;case rel=>exact⟨p+1,W,ï,by rw[P.u,HE.u,wY k6,yY trivial];exact N.u,M.u.trans aa.u<|.inl K⟩
      case measure=>simp[intOf];omega
     .have b2:(kd==18)=κ:=by simpa using ae
      have S:cZ (V b.heap) a wr _:=.y a6.u;clear a3;go_wp2_with fail;refine(a4.u _ S).mono ?_;rintro G a2 ⟨r,t,rfl,A,R⟩;have a8:=O<|a7.u a2 _ r t (y.u.y A)<|.of<|C7 R<|wQ _;have a9:Hid (cZ (V b.heap) a wr a2):=S.trans (.y A)<|.inl K;generalize aD _=ps at*;clear A R;go_wp2_with fail;refine a8.u.mono ?_;rintro G ay ⟨rfl,T,Z⟩;have N:=O T;have aa:=O<|a9.u.trans Z<|.inl K;clear T Z;go_wp2_with fail;go_roundw;case rel=>exact⟨p+1,W,ï,by rw[P.u,HE.u,wY k6,wY ae];exact N.u,M.u.trans aa.u<|.inl K⟩
      case measure=>simp[intOf];omega
   .have au:p=Q l:=W;subst au;rw[vZ]at q;go_wp2_with fail;go_end0;exact⟨K,q.u,M.u⟩
termination_by o=>o
decreasing_by omega
end
def qT(j:E)(c:Cx)(h:Nat)(b:υ)(a d:Nat)(g:Gm)(k:uZ)(f:Nat):Prop:=∀(i) (w) (e m) (s),i<f->i<Q c.N->dL j w h b a d e g m s->m+iW c f i<=8000000->
 μ ε 53 #[pV a,U i] w (EQ j h b a d e g (m+iW c f i) (bH c g k f i s) w)
section
variable{b w:E}{c:Cx}{i l a h d m f:Nat}{k e:υ}{j:uZ}{g:Gm}{s:Es}
def Gn(o:uZ)(n)(p):T8 c f (o.take<|n+1)=T8 c f (o.take n)+iW c f o[n]:=by
 rw[nQ p];unfold T8;rw[zY,List.sum_append];simp
def ZY(n)(o):T8 c f (n.take o)<=T8 c f n:=by
 have p:T8 c f n=T8 c f (n.take o)+T8 c f (n.drop o):=by
  conv=>lhs;rw[<-List.take_append_drop o n]
  unfold T8;rw[zY,List.sum_append]
 omega
def LY(B:qT b c i e a h g j f){n}(u:qG c f n)(A:dL b w i e a h d g m s){G}{H}(D:ρ w 0 3 1 (Y G (Q n) H) (Q n)<|C8 n)(hm:m+T8 c f n<=8000000):
 μ ε 100 #[pV a,Y G (Q n) H] w (EQ b i e a h d g (m+T8 c f n) (gB c g j f n s) w):=by
 have a9:=u.1;have P:=O u.2;have z:=O A;have S:=O D;have R:=O B;clear A D u B;go_in;go_wp2_with fail;go_loopw [8] (λv wr=>∃o:Nat,o<=Q n/\v=U (o:Int)/\Hid (dL b wr i e a h d g (m+T8 c f (n.take o))<|gB c g j f (n.take o) s)/\Hid (cZ (V b.heap) d w wr)) (λv _=>Q n-(intOf v).toNat);case atStart=>exact⟨0,wQ _,K,z.u,.y<|ì _ _⟩
 case round=>
  obtain⟨o,hj,rfl,q,r⟩:=hrel;by_cases p:o<Q n
  .obtain⟨aa,e1,hq,a8,a2,x1⟩:=D6 (r.u.row z.u.nc S.u) p;subst e1;obtain⟨F,t,a4,a3⟩:=P.u n[o]<|mQ p;have Z:Hid (gB c g j f (n.take<|o+1) s=bH c g j f F (gB c g j f (n.take o) s)):=by
    show _=_;rw[nQ p,t];unfold gB;rw[List.foldl_append];rfl
   have x:=Gn (c:=c) (f:=f) n o p;have a6:=ZY (c:=c) (f:=f) n<|o+1;rw[t]at x1 x;have y:=O (R.u F wr d _ _ a4 a3 q.u W);have HV:=O x;unfold Δ at a2;clear t x a6;go_wp2_with fail;refine y.u.mono ?_;rintro a7 ab ⟨rfl,L,M⟩;have T:=O L;have N:=O<|r.u.trans M<|.inl K;clear L M y;go_wp2_with fail;go_roundw;case rel=>exact⟨o+1,W,ï,by rw[Z.u,HV.u,<-þ];exact T.u,N⟩
   case measure=>simp[intOf];omega
  .have a5:o=Q n:=W;subst a5;rw[vZ]at q;go_wp2_with fail;go_end0;exact⟨K,q.u,r.u⟩
def MP(r:dL b w i e a h d g m s)(v:Nat)(R)(cf:∀(P) (N:E),(callFunc v P).run ε N=.ok (.enter v P) N)(y)(s')(hm:m<=y)
 (F:∀u,cZ (V b.heap) d w u->∀a4,dL b u i e a h a4 g m s->μ ε v R u (EQ b i e a h a4 g y s' u)):
 μ ε 155 #[pV a,.func (.func v) #[] R] w (EQ b i e a h d g y ⟨s.kn,s'.lf⟩ w):=by
 obtain⟨hl,fz,-,-,-,b3,-⟩:=r.cell;have D:=O r.ks.clone;have n:=O r;have G:=O F;clear r F;go_in;go_wp2_with fail;refine D.u.mono ?_;rintro a9 a6 ⟨rfl,a2,t,ai⟩;have o:=n.u.y t;obtain⟨ag,ac,-,-,-,aa,-⟩:=o.cell;have af:=n.u.ks.lt;have ae:=n.u.gs.lt;have aj:=n.u.P.size;obtain⟨S,z⟩:=o.turn a2 W W o.fq o.tg;have A:cZ (V b.heap) d w (σ a6 (J a 3)<|.map<|C (V w.heap)):=(cZ.y t).trans (.one z o.lo.1 (.inr (by obtain⟨a5,p,_⟩:=o.blk;exact⟨_,_,_,p,.inl K⟩)))<|.inl K;have a3:d≠a:=λx=>by
  obtain⟨a5,p,_⟩:=n.u.blk;rw[<-x]at p;exact n.u.nc _ _ _ p
 have H:Hid (∀u,cZ (V b.heap) (V w.heap) (σ a6 (J a 3)<|.map<|C (V w.heap)) u->cQ u d y s.kn):=λu hu=>(hu.rr ((n.u.ks.P t λx=>x).P z a3) W).more hm;have L:=O<|G.u _ A _ S;have M:=O A;clear G D o S z A a2 t a3;go_wp2_with fail;refine L.u.mono ?_;rintro a9 ak ⟨rfl,q,B⟩;obtain⟨ah,ad,-,-,-,ab,-⟩:=q.cell;obtain⟨T,Z⟩:=q.turn (H.u _ B) n.u.lo.2.2 n.u.ne q.fq n.u.tg;have a8:=O ((M.u.trans B<|.inr<|vQ _).trans (.one Z q.lo.1 (.inr (by obtain⟨a5,p,_⟩:=q.blk;exact⟨_,_,_,p,.inl K⟩)))<|.inl K);have a7:=O T;clear T Z q B H L M;go_wp2_with fail;go_end0;exact⟨K,a7.u,a8.u⟩
end
def fO(n:Nd)(a:Option í)(b:Nat):Obj:=aM n.x n.a n.b n.c (Y a (Q n.M) b) n.text n.n n.ty n.at'
section
variable{wB w:E}{c:Cx}{j n a k d m f:Nat}{l e:υ}{b:uZ}{g:Gm}{s:Es}
structure lK(w:E)(c:Cx)(f i:Nat)(nd:Nd)(la:Option í)(lc:Nat):Prop where
 lt:∃h:i<Q c.N,c.N[i]=nd
 le:i<=f
 row:ρ w 0 3 1 (Y la (Q nd.M) lc) (Q nd.M)<|C8 nd.M
def lK.eu{B d}{r}{i}{q}{o}{p}(h:lK w c f i q o p)(x:cZ B d w r)(y:∀t u v,w.heap[d]?≠C (γ t u v)):lK r c f i q o p:=⟨h.lt,h.le,x.row y h.row⟩
theorem lK.y{r}{i}{q}{o}{p}(h:lK w c f i q o p)(t:I No w r):lK r c f i q o p:=⟨h.lt,h.le,A3 h.row t Ξ⟩
theorem lK.parts{i}{q}{o}{p}(r:iU wB c j n l e b)(h:lK w c f i q o p):μ ε 101 #[eE q o p] w (oE w<|aD q):=by
 obtain⟨t,rfl⟩:=h.lt;exact PI (r.ok.ew i t) w o p h.row (by have:=r.ok.ls i t;omega)
def lK.jh{i}{o}{r}{t}(p:iU wB c j n l e b)(h:lK w c f i o r t):qG c f (aD o):=by
 obtain⟨q,rfl⟩:=h.lt;exact qG.r8 p.ok q h.le
def B7c(B:iU wB c j n l e b)(M:qT wB c j e a k g b f)(h:dL wB w j e a k d g m s){a6}{i}{F:Option í}{G}(D:lK w c f a6 i F G){o nb:Nat}(x:w.heap[o]?=C (γ #[pV a] 120 (0,0)))(S:w.heap[nb]?=C (fO i F G))(R:m+T8 c f (aD i)<=8000000):
 μ ε 156 #[pV o,pV nb] w (EQ wB j e a k d g (m+T8 c f (aD i)) (gB c g b f (aD i) ⟨λ_=>none,s.lf⟩) w):=by
 obtain⟨hl,-,-,-,-,b3,-⟩:=h.cell;have x0:δ w (J o 0)=C (pV a):=cr x K;have a9:=(aG x);obtain⟨a3,T,P,N⟩:=h.ks.clear;obtain⟨L,v⟩:=h.put N P (vQ _) bP.no;have A:=v.cells h.nc x ζ ζ;have Z:=v.cells h.nc S ζ ζ;have y0:δ a3 (J o 0)=C (pV a):=cr A K;have a5:=(aG A);obtain⟨a8,d0,d1,d2,d3,d4,d5,d6,d7,d8⟩:=xT Z;have H:Hid (∀u,I No a3 u->μ ε 101 #[eE i F G] u λp z=>∃q r,p=π (Y q (Q (aD i)) r)/\δ z (J o 0)=C (pV a)/\o<V z.heap/\
  Hid (μ ε 100 #[pV a,Y q (Q (aD i)) r] z<|EQ wB j e a k d g (m+T8 c f (aD i)) (gB c g b f (aD i) ⟨λ_=>none,s.lf⟩) w)):=λu t=>by
  refine(((D.eu v h.nc).y t).parts B).mono ?_;rintro p z ⟨q,r,rfl,y,ho⟩;refine⟨q,r,K,A4 (B6 t y) y0,yQ a5 (B6 t y).size,?_⟩;refine(LY M (D.jh B) (L.y<|B6 t y) (C7 ho<|wQ _) R).mono ?_;rintro p ab ⟨rfl,a7,r2⟩;exact⟨K,a7,(v.trans (.y<|B6 t y)<|.inl K).trans r2<|.inl K⟩
 have aa:=T 0;unfold eE at H;unfold fO at Z;clear h D B M x S P N L v T A R;generalize aD _=ps at*;obtain⟨kd,va,vb,vc,ls,tx,vn,vt,vp⟩:=i;simp only at*;go_in;go_wp2_with fail;go_region_with (first|(go_at_call 101;refine(H.u _<|Ψ _ _ 1).mono ?_;rintro p ac ⟨q,r,rfl,z0,zl,a4⟩)|(go_at_call 100;refine a4.u.mono ?_;rintro p ad ⟨rfl,a2⟩;have HR:=O a2;clear a2));all_goals
  go_wp2_with fail;go_end0;exact⟨K,HR.u⟩
def ť(t:qT wB c j e a k g b f)(h:dL wB w j e a k d g m s){i}{G}{H}(u:qG c f [i.a,i.b]){p y}(q:w.heap[p]?=C (γ #[pV a] 120 (0,0)))(x:w.heap[y]?=C (fO i G H))(v:m+T8 c f [i.a,i.b]<=8000000):
 μ ε 159 #[pV p,pV y] w (EQ wB j e a k d g (m+T8 c f [i.a,i.b]) (gB c g b f [i.a,i.b] s) w):=by
 have x0:δ w (J p 0)=C (pV a):=cr q K;have S:=(aG q);obtain⟨M,-,N,P,-⟩:=xT x;have o:=ν No w<|γ #[U i.a,U i.b] 3;have r:=O (LY t u (h.y o) (rJ (wQ _) [i.a,i.b] θ) v);have B:=O o;clear h t u q x o v;generalize i.a=T at*;generalize i.b=Z at*;go_in;go_wp2_with fail;refine r.u.mono ?_;rintro R L ⟨rfl,z,A⟩;have F:=O z;have D:Hid (cZ (V wB.heap) d w L):=(cZ.y B.u).trans A<|.inl K;clear z A r;go_wp2_with fail;go_end0;exact⟨K,F.u,D.u⟩
def C4d(v:qT wB c j e a k g b f)(h:dL wB w j e a k d g m s){i o t}(A:i<f)(z:i<Q c.N)(p:w.heap[o]?=C (γ #[pV a] 120 (0,0)))(q:w.heap[t]?=C (γ #[U i] 3 (0,0)))(x:m+iW c f i<=8000000):
 μ ε 157 #[pV o,pV t] w (EQ wB j e a k d g (m+iW c f i) (bH c g b f i s) w):=by
 have H:δ w (J o 0)=C (pV a):=cr p K;have D:=(aG p);have L:δ w (J t 0)=C (U (i:Int)):=cr q K;have F:=(aG q);have u:=O<|v i w d m s A z h x;clear h v p q x;go_in;go_wp2_with fail;refine u.u.mono ?_;rintro B G ⟨rfl,r⟩;have y:=O r;clear r u;go_wp2_with fail;go_end0;exact⟨K,y.u⟩
def vv(x:iU wB c j n l e b)(v:qT wB c j e a k g b f)(h:dL wB w j e a k d g m s){i}{o}{q:Option í}{r}(z:lK w c f i o q r)(A:m+T8 c f (aD o)<=8000000):
 μ ε 97 #[pV a,eE o q r] w (EQ wB j e a k d g (m+T8 c f (aD o)) ⟨s.kn,(gB c g b f (aD o) ⟨λ_=>none,s.lf⟩).lf⟩ w):=by
 have P:=uG;have p:I No w ((ω w<|γ #[pV a] 120).alloc<|fO o q r):=B6 (ν _ _ _)<|ν _ _ _;have y:((ω w<|γ #[pV a] 120).alloc<|fO o q r).heap[V w.heap]?=C (γ #[pV a] 120 (0,0)):=D9 (ν _ _ _)<|rY w _;have B:((ω w<|γ #[pV a] 120).alloc<|fO o q r).heap[V w.heap+1]?=C (fO o q r):=by
  have:=rY (ω w<|γ #[pV a] 120)<|fO o q r;simpa using this
 have u:=O (MP (h.y p) 156 #[pV (V w.heap),pV<|V w.heap+1] (λ_ _=>ũ) _ _ (Nat.le_add_right _ _) λa2 t R hF=>B7c x v hF ((z.y p).eu t (h.y p).nc) (t.cells (h.y p).nc y ζ ζ) (t.cells (h.y p).nc B ζ ζ) A);have G:=O p;unfold eE fO at*;clear h z x v p y B A;generalize aD _=Z at*;obtain⟨S,va,vb,vc,T,tx,vn,vt,vp⟩:=o;simp only at*;go_in;go_wp2_with fail;refine u.u.mono ?_;rintro N M ⟨rfl,D,F⟩;have L:=O D;have H:Hid (cZ (V wB.heap) d w M):=(cZ.y G.u).trans F<|.inl K;clear D F u;go_wp2_with fail;go_end0;exact⟨K,L.u,H.u⟩
def Ug(R:iU wB c j n l e b)(P:qT wB c j e a k g b f)(h:dL wB w j e a k d g m s){i}{o}{p}(G:qG c f [i.a,i.b])(Z:m+T8 c f [i.a,i.b]<=8000000):
 μ ε 99 #[pV a,eE i o p] w (EQ wB j e a k d g (m+T8 c f [i.a,i.b]) ⟨gP c f [i.a,i.b] s.kn,(gB c g b f [i.a,i.b] ⟨gP c f [i.a,i.b] s.kn,s.lf⟩).lf⟩ w):=by
 have a9:=uG;have x:I No w ((ω w<|γ #[pV a] 120).alloc<|fO i o p):=B6 (ν _ _ _)<|ν _ _ _;have F:((ω w<|γ #[pV a] 120).alloc<|fO i o p).heap[V w.heap]?=C (γ #[pV a] 120 (0,0)):=D9 (ν _ _ _)<|rY w _;have H:((ω w<|γ #[pV a] 120).alloc<|fO i o p).heap[V w.heap+1]?=C (fO i o p):=by
  have:=rY (ω w<|γ #[pV a] 120)<|fO i o p;simpa using this
 obtain⟨q,D⟩:∃q,(ω w<|γ #[pV a] 120).alloc (fO i o p)=q:=⟨_,K⟩;have a7:V q.heap=V w.heap+2:=by rw[<-D];simp
 rw[D]at x F H;have t:=ν No q<|γ #[U i.a,U i.b] 3;have y:=(h.y x).y t;have A:=O (SM R f [i.a,i.b] _ s _ _ G y<|.of<|rJ (wQ _) [i.a,i.b] θ);have N:Hid (cZ (V wB.heap) d w<|q.alloc<|γ #[U i.a,U i.b] 3):=.y<|B6 x t;have T:=D9 t F;have a2:=D9 t H;have M:Hid (∀u,cZ (V wB.heap) d (q.alloc<|γ #[U i.a,U i.b] 3) u->∀z:Es,dL wB u j e a k d g m z->δ u (J (V w.heap) 0)=C (pV a)/\V w.heap<V u.heap/\
  μ ε 155 #[pV a,.func (.func 159) #[] #[pV (V w.heap),pV<|V w.heap+1]] u (EQ wB j e a k d g (m+T8 c f [i.a,i.b]) ⟨z.kn,(gB c g b f [i.a,i.b] z).lf⟩ u)):=λu hu z hF=>by
  have B:=hu.cells y.nc T ζ ζ;have n2:=hu.cells y.nc a2 ζ ζ;refine⟨cr B K,(aG B),?_⟩;exact MP hF 159 _ (λ_ _=>ũ) _ _ (Nat.le_add_right _ _) (λab hv aa a6=>ť P a6 G (hv.cells hF.nc B ζ ζ) (hv.cells hF.nc n2 ζ ζ) Z)
 subst D;simp only[Ô]at A;unfold eE fO at*;clear h G R P x F H Z y T a2 t a7;obtain⟨kd,va,vb,vc,ls,tx,vn,vt,vp⟩:=i;simp only at*;go_in;go_wp2_with fail;refine A.u.mono ?_;rintro a5 a8 ⟨rfl,v,r⟩;obtain⟨z0,zl,S⟩:=M.u a8 r _ v;have L:=O S;have a3:=O<|N.u.trans r<|.inl K;clear A M v r S N;go_wp2_with fail;refine L.u.mono ?_;rintro a5 ac ⟨rfl,v,r⟩;have HR:=O v;have a4:=O<|a3.u.trans r<|.inl K;clear v r L;go_wp2_with fail;go_end0;exact⟨K,HR.u,a4.u⟩
def oY.tail{w}{r}{o}{x}{i:uZ}(h:ρ w 0 3 1 (Y r (Q i+1) o) (Q i+1)<|C8<|x::i):∃q p,r=C (J q 0)/\w.heap[q]?=C (γ p 3 (0,0))/\Q i+1<=o/\o<=Δ/\oY w (C<|J q 1) (o-1) i:=by
 have u:ρ w 0 3 1 (Y r (Q (x::i)) o) (Q (x::i)) (C8<|x::i):=h;obtain⟨q,rfl,F,v,A,_⟩:=D6 u (j:=0) θ;obtain⟨_,p,y⟩:=A9 h q K;simp only[jQ]at v;refine⟨q,p,K,y,v,A,λz D=>?_⟩;obtain⟨G,t,_,_,_,B⟩:=D6 u (j:=z+1) (by simpa using D);simp only[zQ,Addr.mk.injEq,and_true]at t;subst t;refine⟨q,1,p,K,y,?_,W,W⟩;rw[Nat.add_comm 1 z,B];rfl
def Tc(S:iU wB c j n l e b)(hN:qT wB c j e a k g b f)(ai:dL wB w j e a k d g m s){a5}{h}{p}{r}(hh:lK w c f a5 h p r){i:uZ}(Z:aD h=h.a::i)(bd:0<Q i)(hm:m+T8 c f (aD h)<=8000000):
 μ ε 98 #[pV a,eE h p r] w (EQ wB j e a k d g (m+T8 c f (aD h)) ⟨gP c f i (bH c g b f h.a s).kn,qL c g b f (bH c g b f h.a s).kn i (bH c g b f h.a s).lf⟩ w):=by
 have bc:=uG;have H:=hh.jh S;rw[Z]at H;obtain⟨ja,ea,aw,av⟩:=H.2 h.a θ;have a3:qG c f i:=⟨by have:=H.1;simp at this;omega,λb6 hx=>H.2 b6<|by simp[hx]⟩;have b2:T8 c f (aD h)=iW c f h.a+T8 c f i:=by rw[Z];simp[T8]
 rw[b2]at hm⊢;have P:I No w ((ω w<|γ #[pV a] 120).alloc<|fO h p r):=B6 (ν _ _ _)<|ν _ _ _;have hb:((ω w<|γ #[pV a] 120).alloc<|fO h p r).heap[V w.heap]?=C (γ #[pV a] 120 (0,0)):=D9 (ν _ _ _)<|rY w _;have hn:((ω w<|γ #[pV a] 120).alloc<|fO h p r).heap[V w.heap+1]?=C (fO h p r):=by
  have:=rY (ω w<|γ #[pV a] 120)<|fO h p r;simpa using this
 have G:=ai.y P;have HC:=O (hN ja _ d m s aw av G<|by rw[<-ea];omega);rw[<-ea]at HC;have ah:Hid (∀u,cZ (V wB.heap) d ((ω w<|γ #[pV a] 120).alloc<|fO h p r) u->u.heap[V w.heap]?=C (γ #[pV a] 120 (0,0))/\u.heap[V w.heap+1]?=C (fO h p r)/\lK u c f a5 h p r):=λu y=>⟨y.cells G.nc hb ζ ζ,y.cells G.nc hn ζ ζ,(hh.y P).eu y G.nc⟩;have ao:=O S;have an:=O hN;have HA:=O P;have aa:=O a3;have be:=a3.1;have ag:Hid (∀u,lK u c f a5 h p r->μ ε 101 #[eE h p r] u λA w'=>∃q x,A=π (Y (C<|J q 0) (Q i+1) x)/\Hid (I No u w')/\q<V w'.heap/\Q i+1<=x/\x<=Δ/\Hid (oY w' (C<|J q 1) (x-1) i)):=λu y=>by
  refine(y.parts S).mono ?_;rintro A w' ⟨ga,x,rfl,hc,ho⟩;rw[Z]at ho⊢;obtain⟨q,aq,rfl,hq,h1,h2,h3⟩:=oY.tail<|C7 ho<|wQ _;exact⟨q,x,K,hc,(aG hq),h1,h2,h3⟩
 unfold eE fO at*;clear ai hh S hN P hb hn G H a3 Z;obtain⟨kd,va,vb,vc,ls,tx,vn,vt,vp⟩:=h;simp only at*;subst ea;go_in;go_wp2_with fail;refine HC.u.mono ?_;rintro A b4 ⟨rfl,z,v⟩;obtain⟨b1,n1,hd⟩:=ah.u _ v;have af:=O<|ag.u _ hd;have ae:Hid (cZ (V wB.heap) d w b4):=(cZ.y HA.u).trans v<|.inl K;have ab:=O z;have a9:=O b1;obtain⟨ap,d0,d1,d2,d3,d4,d5,d6,d7,d8⟩:=xT n1;clear HC ah ag z v hd b1 n1 HA;generalize bH c g b f ja s=t at*;go_wp2_with fail;refine af.u.mono ?_;rintro A a7 ⟨q,x,rfl,M,hq,ba,au,ad⟩;unfold Δ at au;have bb:x≠1:=W;have N:=O<|ab.u.y M.u;have ak:=O<|D9 M.u a9.u;have al:Hid (cZ (V wB.heap) d w a7):=ae.u.trans (.y M.u)<|.inl K;clear af ab a9 ae M d0 d1 d2 d3 d4 d5 d6 d7 d8 ap;go_wp2_with fail;go_loopw [16] (λa6 wr=>∃o:Nat,o<=Q i/\a6=U (o:Int)/\Hid (dL wB wr j e a k d g (m+iW c f ja+T8 c f (i.take o)) ⟨t.kn,qL c g b f t.kn (i.take o) t.lf⟩)/\Hid (cZ (V wB.heap) d a7 wr)) (λa6 _=>Q i-(intOf a6).toNat);case atStart=>exact⟨0,wQ _,K,N.u,.y<|ì _ _⟩
 case round=>
  obtain⟨o,hj,rfl,HF,D⟩:=hrel;have F:=D.u.cells N.u.nc ak.u ζ ζ;have x0:wr.cell? (J (V w.heap) 0)=C (pV a):=cr F K;have b9:=(aG F);by_cases T:o<Q i
  .obtain⟨q',bg,aq,e1,aj,x1,b7,b8⟩:=ad.u.eu D.u N.u.nc o T;simp only[zQ,Addr.mk.injEq,and_true]at e1;obtain⟨rfl,rfl⟩:=e1;have hq:=(aG aj);obtain⟨B,a4,az,ay⟩:=aa.u.2 i[o]<|mQ T;have hv:=Gn (c:=c) (f:=f) i o T;have b0:=ZY (c:=c) (f:=f) i<|o+1;have HT:Hid (qL c g b f t.kn (i.take<|o+1) t.lf=(bH c g b f B ⟨t.kn,qL c g b f t.kn (i.take o) t.lf⟩).lf):=by
    show _=_;rw[nQ T,a4];unfold qL;rw[List.foldl_append];rfl
   rw[a4]at x1 hv;have L:=ν No wr<|γ #[U (B:Int)] 3;have R:=HF.u.y L;have b3:=D9 L F;have n3:=rY wr<|γ #[U (B:Int)] 3;have a8:=O (MP R 157 #[pV (V w.heap),pV wr.heap.size] (λ_ _=>ũ) (m+iW c f ja+T8 c f (i.take o)+iW c f B) (bH c g b f B ⟨t.kn,qL c g b f t.kn (i.take o) t.lf⟩) (Nat.le_add_right _ _) λu y bf ar=>C4d an.u ar az ay (y.cells R.nc b3 ζ ζ) (y.cells R.nc n3 ζ ζ) W);have HV:=O hv;have am:Hid (cZ (V wB.heap) d a7<|wr.alloc<|γ #[U (B:Int)] 3):=D.u.trans (.y L)<|.inl K;clear L R b3 n3 F a4 hv b0 aj;go_wp2_with fail;refine a8.u.mono ?_;rintro A b5 ⟨rfl,z,v⟩;have HR:=O z;have a2:=O<|am.u.trans v<|.inl K;clear z v a8;go_wp2_with fail;go_roundw;case rel=>exact⟨o+1,W,ï,by rw[HT.u,HV.u,<-þ];exact HR.u,a2⟩
   case measure=>simp[intOf];omega
  .have ax:o=Q i:=W;subst ax;rw[vZ]at HF;have ac:=O<|SM ao.u f i _ _ _ _ aa.u HF.u<|ad.u.eu D.u N.u.nc;clear F;go_wp2_with fail;refine ac.u.mono ?_;rintro A b5 ⟨rfl,z,v⟩;have HR:=O z;have a2:=O<|(al.u.trans D.u<|.inl K).trans v<|.inl K;clear z v ac;go_wp2_with fail;go_end0;exact⟨K,by rw[<-þ];exact HR.u,a2.u⟩
end
theorem AP{c}{g}{b}{i:Nat}{s}{a}(f:aA c.N i=a)(d:a.x≠17)(e:a.x≠18):cP c g b i s=dH c g b i s:=by
 subst f;rw[cP,wY d,wY e]
section
variable{d:E}{c:Cx}{e j a i f:Nat}{k h:υ}{b:uZ}{g:Gm}
def D8e(o:iU d c e j k h b)(D:qT d c e h a i g b f)(l)(w)(v m)(s)(ab:l<=f)(t)(y:dL d w e h a i v g m s)(H:m+iW c (f+1) l<=8000000)(n:c.N[l].x=6 \/c.N[l].x=22 \/c.N[l].x=23):
 μ ε 53 #[pV a,U l] w (EQ d e h a i v g (m+iW c (f+1) l) (bH c g b (f+1) l s) w):=by
 obtain⟨hl,-,b0,-,-,-,-⟩:=y.cell;obtain⟨ah,ai,-⟩:=(y.j2 o).cell;obtain⟨ng,nc,p,q,ad,hg,ag,ac,⟨x0,x1,x2,x3,x4,x5,x6,x7,x8⟩,a3,-⟩:=(y.j2 o).ey.at (ñ _ _) l t;have af:=o.ok.fp;have aa:=o.ok.ew l t;have hv:iW c (f+1) l=2+T8 c f (aD c.N[l]):=by rw[iW,B7 t];rfl
 have he:=qN c g b f l s _<|B7 t;rw[hv]at H⊢;rw[he,AP (B7 t) W W];have B:=ν No w<|fO c.N[l] p q;have hF:=y.y B;have G:lK (w.alloc<|fO c.N[l] p q) c f l c.N[l] p q:=⟨⟨t,K⟩,ab,A3 a3 B λ_ _ ae=>ae⟩;have a4:=rY w<|fO c.N[l] p q;obtain⟨F,a9,A,a5,hC⟩:∃F,(c.N[l].x=6/\F=97\/c.N[l].x=22/\F=98\/c.N[l].x=23/\F=99)/\∃A:Es,gM c g b f s c.N[l]=A/\μ ε F #[pV a,eE c.N[l] p q] (w.alloc<|fO c.N[l] p q) (EQ d e h a i v g (m+T8 c f (aD c.N[l])) A<|w.alloc<|fO c.N[l] p q):=by
  obtain n|n|n:=n
  .refine⟨_,.inl ⟨n,K⟩,_,?_,vv o D hF G W⟩;unfold gM;rw[yY n]
  .have L:∃ r,aD c.N[l]=c.N[l].a::r/\ 0<Q r:=by
    unfold aD;simp only[n];by_cases h1:c.N[l].c=-1
    .exact⟨[c.N[l].b],by simp[h1],θ⟩
    .exact⟨[c.N[l].b,c.N[l].c],by simp[h1],θ⟩
   obtain⟨r,hr,h0⟩:=L;refine⟨_,.inr<|.inl ⟨n,K⟩,_,?_,Tc o D hF G hr h0 W⟩;unfold gM;rw[wY W,yY n,hr];rfl
  .have L:aD c.N[l]=[c.N[l].a,c.N[l].b]:=by
    unfold aD;simp[n]
   have hb:=G.jh o;rw[L]at hb H⊢;refine⟨_,.inr<|.inr ⟨n,K⟩,_,?_,Ug o D hF hb W⟩;unfold gM;rw[wY W,wY W,yY n]
 rw[a5];have N:=O hC;have R:Hid (∀u,dL d u e h a i v g (m+T8 c f (aD c.N[l])) A->cZ (V d.heap) v (w.alloc<|fO c.N[l] p q) u->δ u (J (V w.heap) 0)=C (U c.N[l].x)/\V w.heap<V u.heap/\μ ε 104 #[pV a,U (l:Int)] u (EQ d e h a i v g (m+(2+T8 c f (aD c.N[l]))) (dH c g b l A) u)):=λu hu n=>by
  obtain⟨T,Z,-⟩:=xT (n.cells hF.nc a4 ζ ζ);refine⟨Z,T,?_⟩;have:=XW o hu W l t;rw[show m+T8 c f (aD c.N[l])+2=m+(2+T8 c f (aD c.N[l])) by omega]at this;exact this
 have M:=O B;unfold Δ at ac;subst ad;unfold eE fO at*;clear y o D H hv he B hF G a4 hC a5 a3 aa n;generalize T8 c f _=ό at*;generalize c.N[l]=nd at*;obtain⟨kd,va,vb,vc,ls,tx,vn,vt,vp⟩:=nd;simp only at*;obtain⟨rfl,rfl⟩|⟨rfl,rfl⟩|⟨rfl,rfl⟩:=a9<;>
  (go_in;go_wp2_with fail;refine N.u.mono ?_;rintro a8 a6 ⟨rfl,z,x⟩;obtain⟨Z,T,a2⟩:=R.u a6 z x;have P:=O a2;have S:Hid (cZ (V d.heap) v w a6):=(cZ.y M.u).trans x<|.inl K;clear z x a2 R N M;go_wp2_with fail;refine P.u.mono ?_;rintro a8 aj ⟨rfl,z,x⟩;have HR:=O z;have a7:=O<|S.u.trans x<|.inl K;clear z x P S;go_wp2_with fail;go_end0;exact⟨K,HR.u,a7.u⟩)
def D7e(y:iU d c e j k h b)(hN:qT d c e h a i g b f)(l)(w)(z m)(s)(ap:l<=f)(D)(T:dL d w e h a i z g m s)(hm:m+iW c (f+1) l<=8000000)(t:c.N[l].x≠6/\c.N[l].x≠22/\c.N[l].x≠23):
 μ ε 53 #[pV a,U l] w (EQ d e h a i z g (m+iW c (f+1) l) (bH c g b (f+1) l s) w):=by
 obtain⟨hl,-,b0,-,-,-,-⟩:=T.cell;obtain⟨ba,bd,p4⟩:=(T.j2 y).cell;obtain⟨ng,nc,M,N,au,hg,b9,ar,⟨x0,x1,x2,x3,x4,x5,x6,x7,x8⟩,aj,-⟩:=(T.j2 y).ey.at (ñ _ _) l D;have b6:=y.ok.fp;have ag:=y.ok.ew l D;have hv:iW c (f+1) l=2+T8 c f (aD c.N[l]):=by rw[iW,B7 D];rfl
 have he:=qN c g b f l s _<|B7 D;have h1:gM c g b f s c.N[l]=gB c g b f (aD c.N[l]) s:=by
  unfold gM;rw[wY t.1,wY t.2.1,wY t.2.2]
 rw[hv]at hm⊢;rw[he,h1];have A1:=ν No w<|fO c.N[l] M N;have hF:=T.y A1;have hh:lK (w.alloc<|fO c.N[l] M N) c f l c.N[l] M N:=⟨⟨D,K⟩,ap,A3 aj A1 Ξ⟩;have ak:=rY w<|fO c.N[l] M N;have L:Hid (μ ε 101 #[eE c.N[l] M N] (w.alloc<|fO c.N[l] M N) λq w'=>∃R S,q=π (Y R (Q (aD c.N[l])) S)/\
  Hid (μ ε 100 #[pV a,Y R (Q (aD c.N[l])) S] w'<|EQ d e h a i z g (m+T8 c f (aD c.N[l])) (gB c g b f (aD c.N[l]) s)<|w.alloc<|fO c.N[l] M N)):=by
  refine(hh.parts y).mono ?_;rintro q w' ⟨R,S,rfl,B,ho⟩;refine⟨R,S,K,?_⟩;refine(LY hN (hh.jh y) (hF.y B) (C7 ho<|wQ _) W).mono ?_;rintro q ay ⟨rfl,p,n⟩;exact⟨K,p,(cZ.y B).trans n<|.inl K⟩
 have al:=bP.qk T.gt (c:=c) (ct:=b) f (aD c.N[l]) T.tg;obtain⟨o,ah⟩:∃o,gB c g b f (aD c.N[l]) s=o/\bP o.kn:=⟨_,K,al⟩;rw[ah.1]at L⊢;have av:=ah.2;clear ah al;obtain⟨G,hV⟩:∃G,T8 c f (aD c.N[l])=G:=⟨_,K⟩;rw[hV]at L hm⊢;have HC:Hid (∀u,cZ (V d.heap) z (w.alloc<|fO c.N[l] M N) u->δ u (J (V w.heap) 0)=C (U c.N[l].x)/\δ u (J (V w.heap) 1)=C (U c.N[l].a)/\V w.heap<V u.heap):=λu t=>by
  obtain⟨a7,d0,d1,-⟩:=xT (t.cells hF.nc ak ζ ζ);exact⟨d0,d1,a7⟩
 have HA:=O A1;have a3:c.N[l].x=17\/c.N[l].x=18->∃r:Nat,c.N[l].a=r/\r<Q c.N:=λt=>by
  have:Pe c.N l c.N[l].a:=by
   obtain t|t:=t
   .exact(ag.ly t).2
   .exact ag.k1 W
  obtain⟨r,q,h1,h2,_⟩:=this;exact⟨r,q,h2⟩
 have aa:c.N[l].x≠17->c.N[l].x≠18->cP c g b l o=dH c g b l o:=AP<|B7 D;have a4:Hid (∀u,dL d u e h a i z g (m+G) o->μ ε 104 #[pV a,U (l:Int)] u (EQ d e h a i z g (m+(2+G)) (dH c g b l o) u)):=λu F=>by
  have:=XW y F W l D;rw[show m+G+2=m+(2+G) by omega]at this;exact this
 have a2:Hid (∀u,dL d u e h a i z g (m+G) o->∀(r:Nat),r<Q c.N->∀x:Int,0<=x/\x<=1000000->∀A,I No u A->μ ε 103 #[pV a,U (r:Int)] A (λq w'=>q=π (U<|kM c g o.kn r)/\Hid (I No u w')/\
  Hid (μ ε 102 #[pV a,U x,U<|kM c g o.kn r] w'<|EQ d e h a i z g (m+(2+G)) ⟨bN b o.kn x<|kM c g o.kn r,o.lf⟩ u))):=λu F r ha x hx A B=>by
  refine(Yd y (F.y B) r ha).mono ?_;rintro q w' ⟨rfl,af⟩;refine⟨K,B6 B af,?_⟩;refine(YC y (F.y<|B6 B af) W x _ hx<|QI c F.gt av _).mono ?_;rintro q ay ⟨rfl,p,n⟩;exact⟨K,p.more W,(cZ.y<|B6 B af).trans n<|.inl K⟩
 have a6:Hid (∀u,dL d u e h a i z g (m+G) o->c.N[l].x=18->(0<=eH c l/\eH c l<=1000000)/\∀A,I No u A->a<V A.heap/\e<V A.heap/\A.cell? (J a 0)=C (pV e)/\A.cell? (J e 4)=C (.map<|C j)/\(Ì 64 (.map<|C j) (U (l:Int)) κ).run ε A=.ok (U<|eH c l) A):=λu F t=>by
  refine⟨((F.j2 y).nm D<|.inr t).1,λA B=>?_⟩;obtain⟨l1,-,y0,-,-,-,-⟩:=(F.y B).cell;obtain⟨l2,-,y4⟩:=((F.y B).j2 y).cell;exact⟨l1,l2,y0,y4,(((F.y B).j2 y).nm D<|.inr t).2⟩
 have a8:c.N[l].x=17->cP c g b l o=⟨bN b o.kn l<|kM c g o.kn c.N[l].a,o.lf⟩:=λt=>by rw[cP,B7 D,yY t]
 have a9:c.N[l].x=18->cP c g b l o=⟨bN b o.kn (eH c l)<|kM c g o.kn c.N[l].a,o.lf⟩:=λt=>by rw[cP,B7 D,wY W,yY t]
 unfold Δ at ar;subst au;unfold eE fO at*;clear T y hN hm hv he A1 hF hh ak aj ag h1 hV;generalize aD _=ps at*;generalize c.N[l]=nd at*;obtain⟨Z,va,vb,vc,ls,tx,vn,vt,vp⟩:=nd;simp only at*;obtain⟨k6,aw,ax⟩:=t;have g6:(Z==6)=κ:=by simpa using k6
 have b4:(Z==22)=κ:=by simpa using aw
 have b5:(Z==23)=κ:=by simpa using ax
 by_cases ad:Z=17
 .subst ad;rw[a8 K];obtain⟨r,rfl,ha⟩:=a3<|.inl K;clear a8 a9 aa a3 a4 a6;go_in;go_wp2_with fail;refine L.u.mono ?_;rintro q am ⟨R,S,rfl,H⟩;go_wp2_with fail;refine H.u.mono ?_;rintro q v ⟨rfl,p,n⟩;obtain⟨d0,d1,a7⟩:=HC.u v n;have HS:=O (a2.u v p r ha (l:Int) W v<|ì _ _);have P:Hid (cZ (V d.heap) z w v):=(cZ.y HA.u).trans n<|.inl K;clear p n a2 HC L H HA;generalize kM c g o.kn r=b1 at*;go_wp2_with fail;refine HS.u.mono ?_;rintro q an ⟨rfl,ab,a5⟩;go_wp2_with fail;refine a5.u.mono ?_;rintro q az ⟨rfl,p,n⟩;have HR:=O p;have ac:=O<|P.u.trans n<|.inl K;clear p n HS a5 ab P;go_wp2_with fail;go_end0;exact⟨K,HR.u,ac.u⟩
 have b2:(Z==17)=κ:=by simpa using ad
 by_cases ae:Z=18
 .subst ae;rw[a9 K];obtain⟨r,rfl,ha⟩:=a3<|.inr K;clear a8 a9 aa a3 a4;go_in;go_wp2_with fail;refine L.u.mono ?_;rintro q am ⟨R,S,rfl,H⟩;go_wp2_with fail;refine H.u.mono ?_;rintro q v ⟨rfl,p,n⟩;obtain⟨d0,d1,a7⟩:=HC.u v n;obtain⟨hx,hq⟩:=a6.u v p trivial;have HS:=O<|a2.u v p r ha (eH c l) hx;have P:Hid (cZ (V d.heap) z w v):=(cZ.y HA.u).trans n<|.inl K;have HQ:=O hq;obtain⟨l1,l2,y0,y4,aq⟩:=hq _<|Ψ No v 1;obtain⟨bb,bc,be,bf,-⟩:=hq _<|ì No v;have b7:(Ì 64 (.map<|C j) (U (l:Int)) κ).run ε v.drew=.ok (U<|eH c l) v.drew:=aq;clear p n a2 HC L H HA hq a6 hx;generalize kM c g o.kn r=b1 at*;generalize eH c l=x at*;go_wp2_with fail;go_region_with (first|(go_at_call 103;refine(HS.u _<|Ψ _ _ 1).mono ?_;rintro q an ⟨rfl,ab,a5⟩;obtain⟨m1,m2,v0,v4,b8⟩:=HQ.u _ ab.u)|(go_at_call 102;refine a5.u.mono ?_;rintro q az ⟨rfl,p,n⟩;have HR:=O p;have ac:=O<|P.u.trans n<|.inl K;clear p n));all_goals
   go_wp2_with fail;go_end0;exact⟨K,HR.u,ac.u⟩
 have b3:(Z==18)=κ:=by simpa using ae
 rw[aa ad ae];clear a8 a9 aa a3 a2 a6;go_in;go_wp2_with fail;refine L.u.mono ?_;rintro q am ⟨R,S,rfl,H⟩;go_wp2_with fail;refine H.u.mono ?_;rintro q v ⟨rfl,p,n⟩;obtain⟨d0,d1,a7⟩:=HC.u v n;have ai:=O<|a4.u v p;have P:Hid (cZ (V d.heap) z w v):=(cZ.y HA.u).trans n<|.inl K;clear p n HC L H HA a4;go_wp2_with fail;refine ai.u.mono ?_;rintro q an ⟨rfl,p,n⟩;have HR:=O p;have ao:=O<|P.u.trans n<|.inl K;clear p n ai P;go_wp2_with fail;go_end0;exact⟨K,HR.u,ao.u⟩
def RH(n:iU d c e j k h b):∀f,qT d c e h a i g b f
 |0,l,_,_,_,_,q,_,_,_=>absurd q<|Nat.not_lt_zero l
 |f+1,l,w,t,m,s,q,p,o,r=>by
  by_cases u:c.N[l].x=6\/c.N[l].x=22\/c.N[l].x=23
  .exact D8e n (RH n f) l w t m s W p o r u
  .exact D7e n (RH n f) l w t m s W p o r W
end
open Go.RowKit Go.Maps
section
variable{b w h:E}{mb a e gq z:Nat}{d:υ}{G:Int->Option Int}{c:Cx}{s:Ms}{g f:Gh}
def AZ{k}(r:fJ b c a e d)(u:gA b mb a gq G c k)(x:∀y,y<k->gA b mb a gq G c y)(A:nK b mb a gq G c k)(F:CE b mb a gq G c (iB c 10) λi l=>rn c.N (aR c) G (k+1) (.e i) l):CE b mb a gq G c (oM c) λi l=>rn c.N (aR c) G (k+1) (.e i) l:=by
 have D:TZ b mb a gq G c k:=λw s g z a2 a5 Z T B S R m q P o L H N p=>Nq r A m q P o L H N p;intro w s g z l i m q t v p;have o:∀n:Int,(aA c.N i).x=n->iB c n i:=λn j=>⟨v.1,v.2.1,j⟩;obtain⟨a3,a4⟩:=v.2.2;have M:(aA c.N i).x=1\/(aA c.N i).x=2\/(aA c.N i).x=3\/(aA c.N i).x=4\/(aA c.N i).x=5\/(aA c.N i).x=6\/(aA c.N i).x=7\/(aA c.N i).x=8\/(aA c.N i).x=9\/(aA c.N i).x=10\/(aA c.N i).x=11\/(aA c.N i).x=12\/(aA c.N i).x=13\/(aA c.N i).x=14:=W;obtain j|j|j|j|j|j|j|j|j|j|j|j|j|j:=M
 .exact AW r w s g z l i m q t (o _ j) p
 .exact Qr r w s g z l i m q t (o _ j) p
 .exact Qi r w s g z l i m q t (o _ j) p
 .exact Qp r w s g z l i m q t (o _ j) p
 .exact AQ r w s g z l i m q t (o _ j) p
 .exact LR r w s g z l i m q t (o _ j) p
 .exact Qk r u x D w s g z l i m q t (o _ j) p
 .exact AX r u w s g z l i m q t (o _ j) p
 .exact LS r u w s g z l i m q t (o _ j) p
 .exact F w s g z l i m q t (o _ j) p
 .exact AY r x w s g z l i m q t (o _ j) p
 .exact AR r u w s g z l i m q t (o _ j) p
 .exact AU r u w s g z l i m q t (o _ j) p
 .exact LU r u w s g z l i m q t (o _ j) p
def ź{k}(t:fJ b c a e d)(u:gA b mb a gq G c k)(F:∀v,v<k->gA b mb a gq G c v)(A:nK b mb a gq G c k)(B:∀v,v<k->nK b mb a gq G c v)(D:qF b mb a gq G c 20 λi y=>rn c.N (aR c) G (k+1) (.s i) y):CT b mb a gq G c 62 (LL c) λi y=>rn c.N (aR c) G (k+1) (.s i) y:=by
 intro w s g z j i m r o x q;have p:∀n:Int,(aA c.N i).x=n->iB c n i:=λn l=>⟨x.1,x.2.1,l⟩;obtain⟨L,M⟩:=x.2.2;have H:(aA c.N i).x=17\/(aA c.N i).x=18\/(aA c.N i).x=19\/(aA c.N i).x=20\/(aA c.N i).x=21\/(aA c.N i).x=22\/(aA c.N i).x=23\/(aA c.N i).x=24\/(aA c.N i).x=25:=W;obtain l|l|l|l|l|l|l|l|l:=H
 .exact E3f t u w s g z j i m r o (p _ l) q
 .exact E0f t u w s g z j i m r o (p _ l) q
 .exact E2f t u w s g z j i m r o (p _ l) q
 .exact D w s g z j i m r o (p _ l) q
 .exact C0e t u w s g z j i m r o (p _ l) q
 .exact KV t u A w s g z j i m r o (p _ l) q
 .exact B9e t F B w s g z j i m r o (p _ l) q
 .exact E1f t u w s g z j i m r o (p _ l) q
 .exact KW t u w s g z j i m r o (p _ l) q
def ŕ(q:fJ b c a e d)(A:∀k,(∀l,l<=k->gA b mb a gq G c l)->CE b mb a gq G c (iB c 10) λi m=>rn c.N (aR c) G (k+1) (.e i) m)(y:∀k,gA b mb a gq G c k->qF b mb a gq G c 20 λi m=>rn c.N (aR c) G (k+1) (.s i) m)(k):
 (CE b mb a gq G c (oM c) λi m=>rn c.N (aR c) G k (.e i) m)/\gA b mb a gq G c k/\(CT b mb a gq G c 62 (LL c) λi m=>rn c.N (aR c) G k (.s i) m)/\nK b mb a gq G c k:=by
 induction k using Nat.strongRecOn with
 |ind k p=>
  cases k with
  |zero=>exact⟨λw s g z m i n u x r o=>absurd K o,λw s g z m i n u x r o=>absurd K o,λw s g z j i n u D r o=>absurd K o,λw s g z m i n u x r o=>absurd K o⟩
  |succ k=>
   obtain⟨B,t,F,v⟩:=p k W;exact⟨AZ q t (λl n=>(p l W).2.1) v<|A k λl n=>(p l W).2.1,Oe q.ok B,ź q t (λl n=>(p l W).2.1) v (λl n=>(p l W).2.2.2)<|y k t,Mz q λl n=>(p l W).2.2.1⟩
end
open Go.Proofs.Tryz
section
variable{b w h:E}{a e j d z:Nat}{i:υ}{G:Int->Option Int}{N:List Nd}{c:Cx}{s:Ms}{g f:Gh}
def Rm.ru{q}(l:Rm b w a e d G N s g z)(v:I (λk=>k=q) w h)(L:V b.heap<=q)(P:q≠a)(M:q≠d)(R:g.ow q=none)(A:∀o p u,w.heap[q]?≠C (γ o p u)):Rm b h a e d G N s g z:=by
 have B:∀k r,g.ow k=C r->¬k=q:=λk r n x=>η;refine l.gen (d:=0) v (λk m (x:k=q)=>W) (l.rows v λk m (x:k=q)=>⟨W,λo p u y=>absurd (x ▸ y)<|A o p u⟩) ⟨ö _,ö _,λ_ _=>K⟩ l.tl l.sl (λk r m n=>?_) (λk r n x=>(B k r n x).elim) l.ok W (λH t F=>.inl ⟨F,λk m=>?_⟩) λH q D=>.inl ⟨D,λk m=>?_⟩
 .have:=(l.low k r n).2;omega
 .grind
 grind
def aJ.oz(l:aJ b a w g h f){k}(m:k<V w.heap)(u:∀n o p,w.heap[k]?≠C (γ n o p))(q:g.ow k=none)(t:k≠a):h.heap[k]?=w.heap[k]?/\f.ow k=none:=by
 refine⟨l.P.block k m λx=>?_,l.no m q⟩;obtain x|⟨r,x,_⟩|⟨_,cs',e',fz',y,_⟩:=x<;>grind
def ę{l}{k}(m:Q l=Q k)(x)(v):parts (l++[x]) (k++[v])=λy=>if y=x then C v else parts l k y:=by
 simp_all[parts,List.zip_append,List.foldl_append]
theorem TN{c}:∀(o) (m),(∀v∈m,aZ c v)->∀x v,parts o m x=C v->aZ c v:=by
 intro o m q x v t;have A:∀(l:List<|bZ×Vl) (k:bZ->Option Vl),(∀p∈l,aZ c p.2)->(∀y u,k y=C u->aZ c u)->∀y u,l.foldl (λk p y=>if y=p.1 then C p.2 else k y) k y=C u->aZ c u:=by
  intro l;induction l with
  |nil=>simp
  |cons p l F=>
   intro k n D y u r;rw[List.foldl_cons]at r;grind
 exact A _ _ (λp n=>q _ (List.of_mem_zip (a:=p.1) (b:=p.2) n).2) (λ_ _ B=>η) x v t
theorem ŷ{N}{n}{F:List Vl->X (List Vl)}(k)(p)(l:uZ)(o)(m)(s):
 ((rn N n G (k+1) (.vs<|p::l) o).bd λq=>F<|m++q) s=((rn N n G k (.v p) o).bd λr=>(rn N n G k (.vs l) o).bd λq=>F<|(m++[r1 r])++q) s:=by
 rw[rn];simp only[MB];congr 2;funext r;congr 1;funext q;show F (m++r1 r::q)=_;simp
theorem rL{m n}(l)(k:m->X n):(aF l).bd k=k l:=rfl
def uE(k:Int)(n:List bZ)(m:List Vl):X (List Vl):=(bX k).bd λ_=>(eL ⟨16,parts n m,[],0,none⟩).bd λl=>aF [⟨16,0,[],C l⟩]
def gH.nc{k}{w}{q m}{p}(r:gH k w q m p):∀l n o,w.heap[q]?≠C (γ l n o):=λl n o y=>by
 obtain⟨u,t,v⟩:=r.isMap;grind
theorem gH.lt{k}{w}{q m}{l}(n:gH k w q m l):q<V w.heap:=by
 obtain⟨p,o,r⟩:=n.isMap;grind
def D7d{ϋ}(M:fJ b c e j i)(hV:∀k,k<ϋ->gA b a e d G c k)(v:Rm b w a e d G c.N s g z)(hz:z+4000<=1000000000){A}(ay:iL s.c A){p}(au:p<Q c.N)(be:c.N[p].x=10){R}
 (hR:R=((rn c.N (aR c) G ϋ (.vs<|c.N[p].M.map λx=>(aA c.N x).a) A).bd λvs=>uE p (c.N[p].M.map λx=>(aA c.N x).text) vs) s) (bh:R≠.stk):
 μ ε 235 #[pV a,U p,Γ<|pad g.sb A] w (RP b a e d G c.N (z+3000) w g s Kv R):=by
 obtain⟨bq,-,-⟩:=(M.ok.ew p au).mz be;have c9:=M.ok.ls p au;have cu:=M.ok.fp;obtain⟨fz,lt,m0,m1,m2,m3,m4⟩:=v.mc;obtain⟨gn,nc,la,lc,q0,q1,q2,q3,q4,q5,⟨x0,x1,x2,x3,x4,x5,x6,x7,x8⟩,ho⟩:=M.node v au;obtain⟨b7,c5,ca⟩:=iT w Ab<|.map #[] 0;have aw:gH 9 (ω (w.alloc Ab)<|.map #[] 0) (V w.heap+1) 0 (λ_=>none):=by
  have:=gH.new 9 (w.alloc Ab) 0;simpa using this
 have c7:=v.gs.lt;have bg:(λ_=>none)=mK (parts [] []) g.tb:=by
  funext ce;cases ce<;>rfl
 rw[bg]at aw;have ao:=O (⟨v.new<|vQ _,v.mc.2.1,v.P.size,v.new<|Nat.le_succ _,c7⟩:g.ow (V w.heap)=none/\a<V w.heap/\V b.heap<=V w.heap/\g.ow (V w.heap+1)=none/\d<V w.heap);have bb:=aJ.y (wB:=b) (mb:=a) (g:=g) ca;have HX:Hid (∀b1 r q,Rm b b1 a e d G c.N r q z->∀l (y:l<Q c.N),_):=λb1 r q (H:Rm b b1 a e d G c.N r q z) l y=>(⟨H.mc,M.node H y⟩:_/\_);have bx:Hid (∀x∈c.N[p].M,∃l:Nat,x=l/\∃y:l<Q c.N,oM c c.N[l].a/\Q c.N[l].text<=1000000):=λx hx=>by
  obtain⟨l,rfl,_,y,hk⟩:=bq x hx;exact⟨l,K,y,M4<|(M.ok.ew l y).k1 W,by have:=M.ok.tx c.N[l]<|mQ y;omega⟩
 have bw:=O (λ(f:Gh) (hp:g.sb<+:f.sb)=>N8 hp (o:=A) λl m=>by rw[v.sl];exact ay l m);have bz:Hid (R=((rn c.N (aR c) G ϋ (.vs<|(c.N[p].M.drop 0).map λx=>(aA c.N x).a) A).bd λa5=>uE (p:Int) (c.N[p].M.map λx=>(aA c.N x).text)<|[]++a5) s):=hR;have R0:=O<|v.y ca;have F0:=O bb;have bv:=O aw;have bt:=O (⟨b7,v.new<|vQ _⟩:_/\g.ow (V w.heap)=none);have an:=O bh;have HV:=O hV;have c3:=O ay;have HL:=O ho;have cs:(p:Int)<(Q c.N:Int):=W;have cw:=@run_makeMap ε;generalize pad g.sb A=ch at*;generalize c.N[p].M=o at*;clear M hV v hR bh bq ay ca ho b7 c5 bb aw bg be;go_in;go_wp2_with fail;go_loopw [25] (λb0 wr=>∃(n k:Nat) (t:List Vl) (r:Ms) (q:Gh),n<=Q o/\b0=U (n:Int)/\Q t=n/\k<=ϋ/\Hid (R=((rn c.N (aR c) G k (.vs<|(o.drop n).map λx=>(aA c.N x).a) A).bd λa5=>uE (p:Int) (o.map λx=>(aA c.N x).text)<|t++a5) r)/\Hid (Rm b wr a e d G c.N r q z)/\Hid (aJ b a w g wr q)/\Hid (wr.heap[V w.heap]?=C Ab/\q.ow (V w.heap)=none)/\Hid (Gr s.c r.c)/\Hid (∀u∈t,aZ r.c u)/\Hid (gH 9 wr (V w.heap+1) n (mK (parts ((o.take n).map λx=>(aA c.N x).text) t) q.tb)/\q.ow (V w.heap+1)=none)) (λb0 _=>Q o-(intOf b0).toNat);case atStart=>exact⟨0,ϋ,[],s,g,wQ _,K,K,vQ _,bz,R0,F0,bt,Gr.refl _,(λ_ hu=>η),bv,ao.u.2.2.2.1⟩
 case round=>
  obtain⟨n,k,t,r,q,cx,rfl,b6,hk,aa,D,S,a8,a7,HA,ae⟩:=hrel;by_cases av:n<Q o
  .obtain⟨k,rfl⟩:∃l,k=l+1:=by
    cases k with
    |zero=>exact absurd (aa.u.trans K) an.u
    |succ l=>simp
   obtain⟨l,az,y,bp,bm⟩:=bx.u o[n]<|mQ av;have ax:aA c.N o[n]=c.N[l]:=by rw[az,B7 y]
   have ad:=aa.u;rw[List.drop_eq_getElem_cons av,bY,ŷ,ax]at ad;have bi:=P8 (by rw[<-ad];exact an.u);have b9:=A3 HL.u D.u.P λ_ _ x=>x;obtain⟨gl,c8,-,cq,cp,c6,b8⟩:=D5 b9 W;subst c8;have v0:=b8 n (U o[n]) (by grind[C8]);rw[az]at v0;obtain⟨⟨cm,d0,n0,n1,n2,n3,n4⟩,cn,d5,br,bs,o0,o1,o2,o3,o4,o5,⟨y0,y1,y2,y3,y4,y5,y6,y7,y8⟩,-⟩:=HX.u wr r q D.u l y;have cb:=ν No wr<|Ac c.N[l] br bs;have bo:∀ύ,I No (wr.alloc<|Ac c.N[l] br bs) ύ->μ ε 114 #[pV a,U c.N[l].a,Γ ch] ύ λm B=>(∃ps,m=.panicked ps/\RP b a e d G c.N (z+3000) w g s Kv R (.panicked ps) B)\/∃ug un ut up P,m=π (.agg #[U ug,.int à un,ι ut,Γ up])/\(B.cell? (J wr.heap.size 5)=C (ι ⟨ξ c.N[l].text⟩)/\wr.heap.size<V B.heap)/\(Ï 206 (.map<|C<|V w.heap+1) (ι ⟨ξ c.N[l].text⟩)<|.agg #[U ug,.int à un,ι ut,Γ up]).run ε B=.ok () P/\
    Hid (∃k' a9 s4 T,Q a9=n+1/\k'<=ϋ/\R=((rn c.N (aR c) G k' (.vs<|(o.drop<|n+1).map λx=>(aA c.N x).a) A).bd λa5=>uE (p:Int) (o.map λx=>(aA c.N x).text)<|a9++a5) s4/\Rm b P a e d G c.N s4 T z/\aJ b a w g P T/\(P.heap[V w.heap]?=C Ab/\T.ow (V w.heap)=none)/\Gr s.c s4.c/\(∀u∈a9,aZ s4.c u)/\gH 9 P (V w.heap+1) (n+1) (mK (parts ((o.take<|n+1).map λx=>(aA c.N x).text) a9) T.tb)/\T.ow (V w.heap+1)=none):=by
    intro ύ hW;have bc:=aJ.y (wB:=b) (mb:=a) (g:=q)<|B6 cb hW;have bn:=HV.u k W ύ r q z A c.N[l].a (D.u.y<|B6 cb hW) W (c3.u.gr a7.u) bp bi;rw[bw.u q S.u.sb]at bn;refine bn.mono ?_;rintro m B hq;obtain⟨ps,rfl,hh⟩|⟨cl,s3,g3,am,rfl,e1,-,F,r3,b4,u,rfl,hu,rfl⟩:=RP.cut (K':=Kv) (λci=>(rn c.N (aR c) G k (.vs<|(o.drop<|n+1).map λx=>(aA c.N x).a) A).bd λa5=>uE (p:Int) (o.map λx=>(aA c.N x).text)<|(t++[r1 ci])++a5) hq
    .refine .inl ⟨ps,K,?_⟩;rw[ad];exact((hh.pre (S.u.trans bc) a7.u)).more W
    .have ag:=bc.trans F;obtain⟨a4,al⟩:=ae.u;obtain⟨ak,ab⟩:=ag.oz a4.lt a4.nc al W;have bj:=ag.eu a8.u.1 a8.u.2 W ζ ζ;have hA3:=λa6 hy=>(HA.u a6 hy).gr b4;have Z:=a4.P ak;rw[<-TJ ag.tb (TN _ _ HA.u) D.u.tl]at Z;obtain⟨H,L⟩:=Kl (parts ((o.take n).map λx=>(aA c.N x).text) t) g3.tb c.N[l].text u;obtain⟨P,cc,ac,ar⟩:=Z.put EO underlying206 (DH c.N[l].text bm) (show WideAt.IsKeyLit (.string c.N[l].text) from trivial) W (bT g3.tb u) _ H L;have cd:parts ((o.take<|n+1).map λx=>(aA c.N x).text) (t++[u])=λa6=>if a6=c.N[l].text then C u else parts ((o.take n).map λx=>(aA c.N x).text) t a6:=by
      rw[nQ av,zY,bY,List.map_nil,ax];exact ę η _ _
     rw[<-cd]at ac;have ba:=((aJ.y (wB:=b) (mb:=a) (g:=q) hW).trans F).eu (rY wr _) (D.u.new<|vQ _) W ζ ζ;refine .inr ⟨u.g,u.n,⟨ξ u.t⟩,pad g3.tb u.h,P,K,⟨(ä _ _ 5 _ _ _ ba.1).trans K,(aG ba.1)⟩,cc,k,t++[u],s3,g3,η,W,ad.trans e1,r3.ru ar (by have:=ao.u;omega) W W ab Z.nc,(S.u.trans ag).fresh ar λa6 hy (m:a6=w.heap.size+1)=>W,⟨?_,bj.2⟩,a7.u.trans b4,λa6 hy=>?_,ac,ab⟩
     .rw[ar.block _ (aG bj.1) λ(m:w.heap.size=w.heap.size+1)=>W];grind
     grind
   have c4:=O bo;have ck:=O b6;unfold Δ at c6;have cv:(n:Int)<(Q o:Int):=W;have ct:(l:Int)<(Q c.N:Int):=W;clear bo b8 b9 ad bi aa b6 bp bm ax az ae a8 D S a7 HA cb hk;generalize c.N[l]=cg at*;obtain⟨kd,va,vb,vc,cz,tx,vn,vt,vp⟩:=cg;simp only at*;go_wp2_with fail;go_region_with (go_at_call 114;refine(c4.u _<|Ψ No _ 1).mono ?_;rintro m B (⟨ps,rfl,hh⟩|⟨ug,un,ut,up,P,rfl,⟨t1,t2⟩,e3,E4⟩);exact⟨K,hh⟩);all_goals go_wp2_with fail
   all_goals
    obtain⟨k',a9,s4,T,H,L,h3,h4,h5,h6,h7,h8,h9⟩:=E4.u;exact⟨⟨n+1,k',a9,s4,T,W,ï,H,L,h3,h4,h5,h6,h7,h8,h9⟩,by grind[intOf]⟩
  .have bf:n=Q o:=W;have ah:=aa.u;rw[bf,List.drop_length,List.map_nil]at ah;have b5:R=uE (p:Int) (o.map λx=>(aA c.N x).text) t r:=by
    cases k with
    |zero=>exact absurd (ah.trans K) an.u
    |succ k=>
     rw[ah,rn,rL,iY]
   obtain⟨a4,al⟩:=ae.u;rw[bf,vZ]at a4;have b2:=O<|IQ D.u (p:Int);have af:=O a4;have b3:=O al;have ap:=O b5;have cy:¬(n:Int)<(Q o:Int):=W;have HN:=O (show Q o<=1200 from c9);clear ah b5 a4 al aa ae;go_wp2_with fail;refine b2.u.mono ?_;rintro m B ⟨F,⟨H,L,rfl,r3⟩|⟨H,L,rfl,r3⟩⟩
   .exact⟨K,by rw[ap.u];unfold uE;rw[I5 L];exact⟨q,[],K,S.u.trans F,r3.more W⟩⟩
   have ai:=ap.u;unfold uE at ai;rw[J0 L]at ai;obtain⟨a2,a3⟩:=F.eu a8.u.1 a8.u.2 W ζ ζ;obtain⟨ak,ab⟩:=F.oz af.u.lt af.u.nc b3.u W;have Z:=af.u.P ak;obtain⟨d1,d2,cf,d3,d4⟩:=ao.u;have aq:=ν No B<|γ #[.map<|C<|V w.heap+1,sN,U 0,Γ none] 209;have ac:=Z.P (w':=B.alloc<|γ #[.map<|C<|V w.heap+1,sN,U 0,Γ none] 209)<|Below.heap_alloc _ _ _ Z.lt;obtain⟨y0,y1,y2,y3,yz,yl⟩:=eU a2 aq;have aj:Gr r.c (cS r r.c.ca<|r.c.th+1).c:=⟨λ_ cj ht=>⟨cj,ht,K⟩,vQ _⟩;have bd:=QR (t:=⟨16,parts (o.map λx=>(aA c.N x).text) t,[],0,none⟩) (mq:=Q o) (qm:=V w.heap+1) (pv:=.map<|C<|V w.heap+1) (la:=none) (lc:=0) a2 a3 (vQ _) W cf (λ_ m=>by cases m) (λ_=>W) (S.u.trans F) r3 (a7.u.trans aj) ⟨.inl K,λx am m=>((TN _ _ HA.u x am m).gr aj).gr<|W8 _,(λ_ m=>by cases m),(λ_ m=>by cases m),θ,λm=>absurd (show (16:Int)=64 from m) ζ⟩ aq (vQ _) (rY _ _) (by rw[yY K];exact⟨K,W,ab,W,ac⟩) (kW _ _ _ _) (λ_ m=>by cases m) (λx am m=>(TN _ _ HA.u x am m).gr aj) (λ_ m=>by cases m) W ai;have bu:=O bd;clear bd ai a2 a3 ak ab Z ac aq F r3 aj L b2 ap af b3 HA a7 S D a8;go_wp2;refine ç (by simp[ã,results235,go_sem,y0,y1,y2,y3];rfl) K ?_;exact bu.u
end
section
variable{a w j:E}{b d h e z:Nat}{f:υ}{G:Int->Option Int}{c:Cx}{s:Ms}{g i:Gh}
def AV{k}(r:fJ a c d h f)(F:∀M,M<k->gA a b d e G c M):CE a b d e G c (iB c 10) λl t=>rn c.N (aR c) G (k+1) (.e l) t:=by
 refine Ad r ?_;rintro w s g z t l R N P m a7 L p o a5 y n v u x A q a2 ho m0 q2 _ _ ⟨⟩;rw[mZ]at n;simp only[B7 p,o]at n;simp at n;have Z:=O q;have H:=(D7d r F A a7 L p o n y).mono λa3 B hq=>Rv.of v q.1 (vQ _) W q.2.2 x hq;have D:=O H;have T:=O x;have R0:=O A;have HR:=O n;generalize pad g.sb t=ps at*;generalize c.N[l]=nd at*;obtain⟨kd,va,vb,vc,ls,tx,vn,vt,vp⟩:=nd;simp only[Ac]at*;subst o;clear r m n y a5 u ho v x A L q F H HR a2 Z R0 T;go_in;go_wp2_with fail;refine D.u.mono ?_;rintro a3 B (⟨a9,rfl,hh⟩|⟨vg,aa,ac,ab,rfl,y0,y1,y2,y3,yz,yl,S⟩)
 .exact⟨K,hh⟩
 go_wp2;refine ç (by simp[ã,results176,go_sem,y0,y1,y2,y3];rfl) K ?_;exact S.u
end
def Sr(q)(c i)(a b)(d)(w:E)(g:δ w (J q 0)=C a)(n:δ w (J q 1)=C b)(s:∀o,w.frozen? (J q o)=κ):
 CallsD ε 30 #[pV q] (.panicking<|{v:=.iface 61<|.agg #[U c,U i],recovered:=κ}::d) w λe j k=>
  e=rT/\j=.panicking ({v:=.iface 61<|.agg #[U c,U i],recovered:=τ}::d)/\k=ω (σ (σ w (J q 0)<|U c) (J q 1)<|U i) (γ #[U c,U i] 61):=by
 refine callsD_of_wpS func30 K λm l h=>?_;apply wpS_seq;apply wpS_region;simp[wpOpsS,go_sem,recoverD,h,ntmps30,Exit.thenS];refine wpS_of_wp ?_;have r:∀w:E,(Instr.typeAssert (.iface 61<|.agg #[U c,U i]) 20 61 τ).run ε w=.ok (.tuple #[.agg #[U c,U i],.bool τ]) w:=λ_=>î;have f:(#[pV q]++((Array.replicate 14 Φ).setIfInBounds 3<|.iface 61<|.agg #[U c,U i]).setIfInBounds 0 (.iface 61<|.agg #[U c,U i]):Array υ)=#[pV q,.iface 61<|.agg #[U c,U i],Φ,Φ,.iface 61<|.agg #[U c,U i],Φ,Φ,Φ,Φ,Φ,Φ,Φ,Φ,Φ,Φ]:=K;rw[f];have p:=World.block_lt_of_cell? w _ g;go_wp2;exact⟨K,_,K,_,by simp[ã,results30],K,K,K⟩
def C5d(q)(w:E):
 CallsD ε 30 #[pV q] .returning w λe d f=>
  e=rT/\d=.returning/\I No w f:=by
 refine callsD_of_wpS func30 K λb g a=>?_;apply wpS_seq;apply wpS_region;simp[wpOpsS,go_sem,recoverD,a,ntmps30,Exit.thenS];refine wpS_of_wp ?_;have h:∀w:E,(Instr.typeAssert .nilIface 20 61 τ).run ε w=.ok (.tuple #[.agg #[U 0,U 0],.bool κ]) w:=λ_=>î;have c:(#[pV q]++((Array.replicate 14 Φ).setIfInBounds 3 .nilIface).setIfInBounds 0 .nilIface:Array υ)=#[pV q,.nilIface,Φ,Φ,.nilIface,Φ,Φ,Φ,Φ,Φ,Φ,Φ,Φ,Φ,Φ]:=K;rw[c];go_wp2;cases b;simp only at a;subst a;exact⟨K,_,K,_,by simp[ã,results30],K,K,ν _ _ _⟩
section
variable{b w i:E}{a d k h z:Nat}{j:υ}{G:Int->Option Int}{c:Cx}{s:Ms}{g f:Gh}
def Ho(r:Rr<|List Vl)(l m:Int)(n:Ms):Prop:=match r with
 |.ok _ s=>l=1/\m=-1/\n=s
 |.over e o s=>l=e/\m=o/\n=s
 |_=>False
def Rm.mu(n:Rm b w a d h G c.N s g z){q}{m}(t:w.heap[q]?=C (γ m 61 (0,0)))(r:g.ow q=none)(o:V b.heap<=q)(p:q≠a)(e l):Rm b (σ (σ w (J q 0) e) (J q 1) l) a d h G c.N s g z:=
 n.calm ((é w (J q 0) e).trans (é _ (J q 1) l) λ_ _ x=>x) λu _ x=>η
def aJ.mu{l}{f}(e:aJ b a w g l f){q}(v:V w.heap<=q)(p r):aJ b a w g (σ (σ l (J q 0) p) (J q 1) r) f:=by
 have n:∀{m:E} o (x:υ),I (DR b a w g) w m->I (DR b a w g) w (σ m (J q o) x):=λo x t=>t.trans (é _ (J q o) x) λA u y=>η;exact⟨n 1 r<|n 0 p e.P,e.ow,e.tb,e.sb⟩
def B4f{a5}(hB:nK b a d h G c a5)(t:Rm b w a d h G c.N s g z)(hz:z<=1000000000)(ai:δ w (J d 2)=C (U<|Q c.N-1))(aj:d<V w.heap)(hk:iB c 26<|Q c.N-1){R}(hR:R=rn c.N (aR c) G a5 (.b<|Q c.N-1) none s)(ad:R≠.stk)(ac:∀v m,R≠.back v m):
 μ ε 17 #[pV a] w λe i=>∃Z nd m f,Ho R Z nd m/\e=π (.agg #[U Z,U nd])/\aJ b a w g i f/\Rm b i a d h G c.N m f z:=by
 obtain⟨fz,lt,m0,m1,m2,m3,m4⟩:=t.mc;have a8:=rY w<|γ #[U 0,U 0] 61;have T:=ν No w<|γ #[U 0,U 0] 61;have ab:=aJ.y (wB:=b) (mb:=a) (g:=g) T;have u:=O (⟨t.new<|vQ _,t.mc.2.1,t.P.size⟩:g.ow (V w.heap)=none/\a<V w.heap/\V b.heap<=V w.heap);have a9:=nK.at hB (t.y T) hz (λ_ e=>η) hk hR ad;have a6:=O a9;have P:Hid (∀q n,aJ b a (ω w<|γ #[U 0,U 0] 61) g q n->_):=λq n hf=>hf.eu a8 u.u.1 W ζ ζ;have N:=O ab;have a7:=O ac;generalize Q c.N-1=mn at*;go_enter_defers func17,ntmps17;go_wp2_with fail;refine a6.u.mono ?_;rintro e q F;cases R with
 |stk=>exact F.elim
 |back v m=>exact absurd K<|a7.u v m
 |over x H m=>
  obtain⟨n,qs,rfl,r,M⟩:=F;obtain⟨l,y⟩:=P.u q n r;obtain⟨n1,n2,L⟩:=u.u;have A:=ä _ _ 0 _ _ _ l;have B:=ä _ _ 1 _ _ _ l;have cl:=(aG l);unfold ov;refine leaves_cons θ Ω ?_;refine(Sr (V w.heap) x H _ _ _ q A B λo=>æ _ _ o _ _ l).mono ?_;rintro e' u' af ⟨rfl,rfl,rfl⟩;have aa:(qs.map λp=>({p with goexit:=κ}:PanicEntry)).dropWhile (λp=>!p.goexit)=[]:=by
   induction qs with
   |nil=>rfl
   |cons p ak ih=>simp_all
  simp only[Leaves,settle,aa];refine⟨.agg #[U x,U H],?_,x,H,m,n,⟨K,K,K⟩,K,((N.u.trans r).mu (vQ _) _ _).trans<|aJ.y<|ν _ _ _,(M.mu l y L W _ _).y<|ν _ _ _⟩;simp[ã,results17,go_sem,A,B,cl]
 |ok ag m=>
  obtain⟨n,v,rfl,r,M,ah,rfl⟩:=F;obtain⟨l,y⟩:=P.u q n r;obtain⟨n1,n2,L⟩:=u.u;have A:=ä _ _ 0 _ _ _ l;have B:=ä _ _ 1 _ _ _ l;have cz:=λo=>æ _ _ o _ _ l;have F2:=O<|(N.u.trans r).mu (vQ _) (U 1)<|U<|-1;have R2:=O (M.mu l y L W (U 1)<|U<|-1);have ae:=ð _ (V w.heap) 1 _ _ (U<|-1)<|ð q (V w.heap) 0 _ _ (U 1) l;have S:=O ae;go_wp2;refine leaves_cons θ Ω ?_;refine(C5d (V w.heap) _).mono ?_;rintro e' u' af ⟨rfl,rfl,D⟩;have a4:=(D.block _ (aG S.u) λx=>x).trans S.u;have z0:=(ä _ _ 0 _ _ _ a4).trans K;have z1:=(ä _ _ 1 _ _ _ a4).trans K;simp only[Leaves,settle];refine⟨.agg #[U 1,U<|-1],?_,1,-1,m,n,⟨K,K,K⟩,K,F2.u.trans<|aJ.y D,R2.u.y D⟩;simp[ã,results17,go_sem,z0,z1]
end
section
variable{j w:E}{c e b g:Nat}{f m d:υ}{h:Int}{Z:List Ty}{n:uZ}{l:bZ}{N:List Nd}{T:List Ty}{a:List (Nat×Int)}{i:Of}
def Yc(p:fQ l N T a i)(o:dO j (aQ N T a) c e b g f d)(k:aW j w (aQ N T a) c e b g f m h d Z n)(u:Tbl w):fJ w (aQ N T a) c g f:=by
 obtain⟨y,x,_,q,_,_⟩:=p;obtain⟨ov,D,r,_⟩:=k.st;exact⟨o.ok,o.fx k.P,o.nm k.P,⟨m,h,e,d,ov,r⟩,u,λv s t=>q.pg v s t⟩
theorem Ep(k)(o:(dG (ó (Q N)<|-1) a).getD k 0≠-1)(p:k<Q N):aR (aQ N T a) k=(dG (ó (Q N)<|-1) a).getD k 0:=by
 unfold aR lS;grind[aQ]
def Cz(p:∀o∈N,Q o.text<=30)(k):Q (aA N k).text<=30:=by
 unfold aA;grind[kB]
def Cv(o:∀k (p:k<Q N),Q N[k].M<=1200)(k):Q (aA N k).M<=1200:=by
 unfold aA;grind[kB]
def XO(x:fQ l N T a i)(t:jG<|aQ N T a)(G)(o):
 rn N (aR<|aQ N T a) G (8*o+20) (.b<|Q N-1) none (eK o)≠.stk/\(∀v H,rn N (aR<|aQ N T a) G (8*o+20) (.b<|Q N-1) none (eK o)≠.back v H)/\∃r,jL N (aR<|aQ N T a) G o=C r/\vI r.2.2:=by
 obtain⟨F,P,_,s,u,y⟩:=x;have B:∀k:Nat,(dG (ó (Q N)<|-1) a).getD k 0≠-1->Q N<=k->(dG (ó (Q N)<|-1) a).getD k 0=0:=λk _ q=>by
  grind[lQ,List.getElem?_eq_none,yX]
 refine Ĉ s u (λk q=>?_) (λp D L=>?_) (λk q A=>((XT t y).dn k q).ret A) (Cz t.tx) (Cv t.ls) G o
 .by_cases S:k<Q N
  .grind[Ep]
  .rw[B k q W];unfold aR lS;grind[aQ]
 .have z:Em N 0 0 (.nd 26 [] 0 F):=⟨[],[],by simp[s.ey],K⟩;obtain⟨a2,hn,_⟩:=((MW _ [] 0 0 (mM s.wn) z λM R=>η) _ _ u).tg p D|>.2;omega
def Xq{v w}{b c s}{G:Int->Option Int}{N:List Nd}{p:Nat}(y:I No v w)(A:V v.heap<=b)(z:cQ w s 5000 G)(x:w.heap[b]?=C (γ #[pV c,.map<|C s,U (p:Int),U 0,U 0,sN,sN] 66 (0,0))):Rm v w b c s G N (eK p) ⟨[],[],λ_=>none⟩ (4000*p) where
 P:=y;j5:=⟨A,K,K⟩;gs:=z;blk:=⟨_,_,x,kW _ _ _ _,kW _ _ _ _⟩;tl:=K;sl:=K;low k r o:=η;ty k r o:=η;ok:=⟨(λu t o=>by grind[eK]),(λu q o=>by grind[eK]),by simp[eK],by simp[eK]⟩;mem:=⟨0,by simp[eK],(λu t o=>by grind[eK]),λu q o=>by grind[eK]⟩
def gK:List (Int×Int)->Int->Option Int
 |[],_=>none
 |p::l,k=>match gK l k with
  |C t=>C t
  |none=>if k=p.1 then C p.2 else none
theorem Jz(l)(p):gK (l++[p])=λk=>if k=p.1 then C p.2 else gK l k:=by
 funext k;induction l<;>grind[gK]
end
def sF(l:List<|Int×Int):List υ:=l.flatMap λp=>[U p.1,U p.2]
def TB:∀(l) (j) (h),(sF l)[j*2]?=C (U l[j].1)/\(sF l)[j*2+1]?=C (U l[j].2)
 |[],j,h=>η
 |p::l,0,_=>by simp[sF]
 |p::l,j+1,h=>by
  have a:=TB l j η;grind[sF]
def Zt(w:E)(g:Nat->E->Prop)(i:List<|Int×Int)(h:Nat)(e:ò)(c:E):Prop:=∃f a b d,g f a/\á (V w.heap) w a/\e=π (pV b)/\I No a c/\V a.heap<=b/\cQ c d 5000 (gK i)/\c.heap[b]?=C (γ #[pV f,.map<|C d,U h,U 0,U 0,sN,sN] 66 (0,0))
def Yz{s}{w:E}{y}{a}{l}{h M fu:Nat}(a6:μ ε 29 #[ι s] w λe b=>∃g,e=π (.tuple #[pV g,.agg #[U 0,U 0]])/\á (V w.heap) w b/\y g b)(i:ρ w M 90 2 (Y l (Q a) h) (Q a)<|sF a)(t:Q a<=5000)(a3:∀p∈a,(0<=p.1/\p.1<=1000000)/\0<=p.2/\p.2<=1000000):
 μ ε 16 #[ι s,Y l (Q a) h,U fu] w (Zt w y a fu):=by
 have L:=O a6;have F:=O i;have G:=O a3;have ag:=@run_makeMap ε;go_in;go_wp2_with fail;refine L.u.mono ?_;rintro e b ⟨g,rfl,S,R⟩;have H:=O R;have j:=O S;go_wp2;obtain⟨c,m⟩:∃a9,a9=γ #[pV g,.map<|C<|V b.heap+1,U fu,U 0,U 0,sN,sN] 66:=⟨_,K⟩;have ab:Hid (I No b (((b.alloc<|γ #[U 0,U 0] 25).alloc<|.map #[] 0).alloc c)/\cQ (((b.alloc<|γ #[U 0,U 0] 25).alloc<|.map #[] 0).alloc c) (V b.heap+1) 0 (gK [])/\(((b.alloc<|γ #[U 0,U 0] 25).alloc<|.map #[] 0).alloc c).heap[V b.heap+1+1]?=C c):=by
  refine⟨B6 (B6 (ν _ _ _)<|ν _ _ _)<|ν _ _ _,?_,?_⟩
  .have:=(cQ.new<|b.alloc<|γ #[U 0,U 0] 25).P (ν No _ c) λx=>x;simp_all[gK]
  .have:=rY ((b.alloc<|γ #[U 0,U 0] 25).alloc<|.map #[] 0) c;simp_all
 have D:Hid (∀wr,I No b wr->∀n (t:n<Q a),∃d,l=C (J d 0)/\d<wr.heap.size/\Q a<=h/\h<=Δ/\wr.cell? (J d<|n*2)=C (U a[n].1)/\wr.cell? (J d<|n*2+1)=C (U a[n].2)):=λwr T n t=>by
  obtain⟨d,e1,_,i,N,P,ae⟩:=D5 F.u W;obtain⟨ac,ad⟩:=TB a n t;have hb:=(T.block d (yQ i j.u.size) λx=>x).trans<|j.u.block d i;grind[yQ,kQ,δ]
 rw[<-m];go_loopw [24] (λu wr=>∃n:Nat,n<=Q a/\u=U n/\Hid (I No b wr/\cQ wr (V b.heap+1) n (gK<|a.take n)/\wr.heap[V b.heap+1+1]?=C c)) (λu _=>Q a-(intOf u).toNat);case atStart=>grind
 case round=>
  obtain⟨n,ah,rfl,f⟩:=hrel;by_cases q:n<Q a
  .obtain⟨d,Z,aj,ak,a8,k4,k5⟩:=D.u wr f.u.1 n q;subst Z;obtain⟨a4,a5⟩:=G.u a[n]<|mQ q;have r:=f.u.2.2;rw[m]at r;have m1:=(ä _ _ 1 _ _ _ r).trans K;have B:=(aG r);obtain⟨v,a7,af,A⟩:=(f.u.2.1.P (B6 (ν No wr<|γ #[U a[n].1,U a[n].2] 90)<|Ψ No _ 1) λx=>x).put a[n].1 a[n].2 a4 W a5;change Sem.run _ _ (Ø _)=_ at a7;have aa:Hid (I No b v/\cQ v (V b.heap+1) (n+1) (gK<|a.take<|n+1)/\v.heap[V b.heap+1+1]?=C c):=by
    have o:=B6 (ν No wr<|γ #[U a[n].1,U a[n].2] 90)<|Ψ No _ 1;refine⟨(B6 f.u.1 o).trans A λai hi e=>W,?_,?_⟩
    .rw[nQ q,Jz];omega
    .have N:=o.block _ B λx=>x;have P:=A.block (V b.heap+1+1) (yQ B o.size) (λ(e:b.heap.size+1+1=b.heap.size+1)=>W);grind
   unfold Δ at a8;generalize a[n].1=al at*;generalize a[n].2=am at*;go_wp2;go_region;all_goals go_wp2
   grind[intOf]
  .have a2:n=Q a:=W;have z:=f.u;rw[a2,vZ,m]at z;have k:=O z;go_wp2;go_ret;exact⟨g,b,V b.heap+1+1,V b.heap+1,H.u,j.u,K,k.u.1,W,k.u.2.1.more W,k.u.2.2⟩
section
variable{a w h:E}{b e k d z:Nat}{j:υ}{G:Int->Option Int}{N:List Nd}{c:Cx}{s:Ms}{g f:Gh}
def Rm.oh(p:Rm a w b e d G N s g z){u}{t}(T:s.c.T[u]?=C t){A}{pv}{la la'}{lc lc'}{l}{S}(e1:g.tb[u]?=C A)(e3:w.heap[A]?=C (γ #[pv,Y la (Q t.l) lc,U t.nd,Γ<|pad g.sb t.sc] 209 (0,0)))(R:I S w h)(hS:∀m,m<V w.heap->S m->m=A\/g.ow m=C (.l u))
 (hb:h.heap[A]?=C (γ #[pv,Y la' (Q l) lc',U t.nd,Γ<|pad g.sb t.sc] 209 (0,0))) (ho:ρ h (V a.heap) 180 4 (Y la' (Q l) lc') (Q l)<|l.flatMap<|gF g.tb) {ow'} (a6:∀m,m<V w.heap->ow' m=g.ow m\/(S m/\ow' m=none/\g.ow m=C (.l u))) (ab:∀m r,V w.heap<=m->ow' m=C r->m<V h.heap/\∀L n P,h.heap[m]?=C (γ L n P)->n≠9/\n≠69) (hw:∀a8,la'=C a8->ow' a8.block=C (.l u)) (hT:jP N (tS s u {t with l:=l}).c {t with l:=l}) (ag:∀m,g.ow m=C (.l u)->ow' m=C (.l u)->S m->∀L n P,h.heap[m]?=C (γ L n P)->n≠9/\n≠69):
 Rm a h b e d G N (tS s u {t with l:=l}) ⟨g.tb,g.sb,ow'⟩ z/\aJ a b w g h ⟨g.tb,g.sb,ow'⟩:=by
 have af:=(List.getElem?_eq_some_iff.1 T).1;have e2:g.ow A=C (.t u):=by
  obtain⟨ak,_,a2,_⟩:=p.mem;obtain⟨b',_,_,_,H,ae,_⟩:=a2 u t T;rw[e1]at H;cases H;exact ae
 have v:=λm o x=>(hS m o x).imp (λn=>n ▸ e2) id;have ad:∀m r,g.ow m=C r->(∀i,r≠.l i)->ow' m=C r:=λm r n D=>by
  obtain y|⟨_,_,y⟩:=a6 m (p.low m r n).2<;>grind
 have a5:∀m,m<V w.heap->g.ow m=none->ow' m=none:=λm o n=>η;obtain⟨_,_,b1,_⟩:=p.blk;refine⟨p.qy (d:=0) R (λm o x=>?_) (p.rows R λm o x=>?_) ⟨ö _,ö _,λm r n=>?_⟩ ⟨a5 b (aG b1) p.j5.2.1,a5 d p.gs.lt p.j5.2.2⟩ (by simp[tS,p.tl]) p.sl (λm r n v=>?_) (λm r o aa x=>?_) (p.ok.ld T K hT) (by grind[tS]) (λi am F=>?_) λi q hq=>.inl ⟨hq,λm o x=>?_⟩,⟨R.mono λm o x=>.inr<|.inl ?_,λm r o n=>?_,ö _,ö _⟩⟩
 .obtain n|n:=v m o x;all_goals
   refine⟨(p.low m _ n).1,λB=>?_⟩;have:=p.j5.2.2;rw[<-B,n]at this;cases this
 .obtain n|n:=v m o x;all_goals
   refine⟨λB=>?_,p.ty m _ n⟩;have:=p.j5.2.1;rw[<-B,n]at this;cases this
 .obtain y|⟨y,y2,_⟩:=a6 m (p.low m r n).2
  .exact .inl<|y.trans n
  .exact .inr ⟨y,y2⟩
 .obtain D|D:=Nat.lt_or_ge m (V w.heap)
  .have ac:ow' m=C r:=v;rw[a5 m D n]at ac;cases ac
  .exact⟨⟨kQ p.P.size D,(ab m r D v).1⟩,(ab m r D v).2⟩
 .obtain n|n:=hS m (p.low m r o).2 x
  .subst n;intro L n P y;rw[hb]at y;simp at y;rw[<-y.2.1];decide
  .have e':=aa;rw[o]at n;cases n;exact ag m o aa x
 .simp only[tS]at F;by_cases a3:u=i
  .subst a3;rw[List.getElem?_set_self af,zQ]at F;subst F;refine .inr λm0 m' ah hd a2=>?_;obtain⟨b',al,ai,aj,H,ae,a7,Z,k5,k6⟩:=a2 u t T;rw[e1]at H;cases H;rw[e3]at a7;simp at a7;obtain⟨rfl,rfl,rfl⟩:=a7;refine⟨A,pv,la',lc',e1,ad A _ e2 (λ_ n=>by cases n),hb,?_,ho,hw⟩;by_cases a9:t.k=16
   .rw[yY a9]at Z⊢;obtain⟨q,rfl,M,f6⟩:=Z;refine⟨q,K,ad q _ M (λ_ n=>by cases n),(f6.P<|R.block q (p.low q _ M).2 λx=>?_).more W⟩;obtain n|n:=v q (p.low q _ M).2 x<;>(rw[M]at n;cases n)
   .rw[wY a9]at Z⊢;exact Z
  .rw[List.getElem?_set_ne a3]at F;refine .inl ⟨F,λm o x=>?_⟩;have a4:m<V w.heap:=by obtain o|o|o:=o<;>exact(p.low m _ o).2
   obtain n|n:=v m a4 x<;>obtain o|o|o:=o<;>(rw[n]at o;simp at o)<;>exact a3 o
 .have a4:m<V w.heap:=by obtain o|o:=o<;>exact(p.low m _ o).2
  obtain n|n:=v m a4 x<;>obtain o|o:=o<;>(rw[n]at o;cases o)
 .obtain n|n:=v m o x
  .exact⟨_,n,λ_ B=>by cases B⟩
  .exact⟨_,n,λ_ B=>by cases B⟩
 .obtain y|⟨_,y,_⟩:=a6 m o
  .exact y.symm.trans n
  .have e':ow' m=C r:=n;rw[y]at e';cases e'
def Rm.se(y:Rm a w b e d G N s g z){p}{t}(B:s.c.T[p]?=C t){n}(S:g.tb[p]?=C n){x}(hx:x<Q t.l){v}(hv:aZ s.c v):
 ∃i u,δ w (J n 1)=C (Y (C<|J i 0) (Q t.l) u)/\n<V w.heap/\i<V w.heap/\Q t.l<=u/\u<=Δ/\(∃D F H L,δ w (J i<|x*4)=C D/\δ w (J i<|x*4+1)=C F/\δ w (J i<|x*4+2)=C H/\δ w (J i<|x*4+3)=C L)/\(∀o,w.frozen? (J i o)=κ)/\
  Rm a (σ (σ (σ (σ w (J i<|x*4)<|U v.g) (J i<|x*4+1)<|.int à v.n) (J i<|x*4+2)<|ι ⟨ξ v.t⟩) (J i<|x*4+3)<|Γ<|pad g.tb v.h) b e d G N (tS s p {t with l:=t.l.set x v}) g z/\
  aJ a b w g (σ (σ (σ (σ w (J i<|x*4)<|U v.g) (J i<|x*4+1)<|.int à v.n) (J i<|x*4+2)<|ι ⟨ξ v.t⟩) (J i<|x*4+3)<|Γ<|pad g.tb v.h) g:=by
 obtain⟨aj,_,hT,_⟩:=y.mem;obtain⟨b',pv,la,u,a4,ai,r,k4,R,k6⟩:=hT p t B;rw[S]at a4;cases a4;obtain⟨i,a8,ag,a7,a5,a6,A⟩:=D5 R W;subst a8;have aa:=k6 _ K;have a9:n≠i:=λm=>η;obtain⟨D,F,H,L⟩:=MZ (tb:=g.tb)<|gQ hx;obtain⟨_,af,Z⟩:=A9 R i K;have P:=y.ok.T p t B;have M:=tW (u:={t with l:=t.l.set x v}) B K;have ah:=ĕ R hx v;have T:I (λq=>q=i) w (σ (σ (σ (σ w (J i<|x*4)<|U v.g) (J i<|x*4+1)<|.int à v.n) (J i<|x*4+2)<|ι ⟨ξ v.t⟩) (J i<|x*4+3)<|Γ<|pad g.tb v.h):=
  (((é w (J i<|x*4) _).trans (é _ (J i<|x*4+1) _) λ_ _ m=>m).trans (é _ (J i<|x*4+2) _) λ_ _ m=>m).trans (é _ (J i<|x*4+3) _) λ_ _ m=>m;have a2:Q (t.l.set x v)=Q t.l:=List.length_set;have a3:=y.oh B S r T (λq _ m=>.inr<|m ▸ aa) (by rw[a2];exact(T.block n (aG r) a9).trans r) η (λ_ _=>.inl K) (λq ab hk hr=>by have:=(y.low q ab hr).2;omega) (λae m=>η)
  (Fv P M (λac hu=>by
   obtain m|m:=List.mem_or_eq_of_mem_set hu
   .exact(P.l ac m).gr M
   .rw[m];exact hv.gr M)<|by rw[a2];exact P.fq)
  (λq _ _ m cs ty fz ad=>by
   subst m;rw[ð _ _ _ _ _ _<|ð _ _ _ _ _ _<|ð _ _ _ _ _ _<|ð w _ _ _ _ _ Z]at ad;grind);exact⟨i,u,cr r K,(aG r),a7,a5,a6,⟨_,_,_,_,A _ _ D,A _ _ F,A _ _ H,A _ _ L⟩,λo=>æ _ _ o _ _ Z,a3.1,a3.2⟩
def Rm.sf(B:Rm a w b e d G N s g z){p}{t}(H:s.c.T[p]?=C t){o}(T:g.tb[p]?=C o){v}(hv:aZ s.c v)(ad:Q t.l+1<=1200+s.c.th){R}{S}(P:δ w (J o 1)=C (Y R (Q t.l) S)){r}{n q}(aj:ρ r (V a.heap) 180 4 (Y (C<|J n 0) (Q t.l+1) q) (Q t.l+1)<|t.l.flatMap (gF g.tb)++gF g.tb v)(Z:I (λi=>Θ (Y R (Q t.l) S)=C i) w r)(am:Θ (Y R (Q t.l) S)=C n\/V w.heap<=n):
 ∃f,Rm a (σ r (J o 1)<|Y (C<|J n 0) (Q t.l+1) q) b e d G N (tS s p {t with l:=t.l++[v]}) f z/\aJ a b w g (σ r (J o 1)<|Y (C<|J n 0) (Q t.l+1) q) f:=by
 obtain⟨ap,_,hT,_⟩:=B.mem;obtain⟨b',pv,x,A,a5,ak,L,k4,k5,k6⟩:=hT p t H;rw[T]at a5;cases a5;have e1:δ w (J o 1)=C (Y x (Q t.l) A):=cr L K;rw[e1]at P;simp at P;obtain⟨rfl,rfl⟩:=P;have ai:∀i,Θ (Y x (Q t.l) A)=C i->g.ow i=C (.l p):=λi m=>by
  cases x with
  |none=>grind[Θ]
  |some a7=>
   grind[Θ]
 have aa:=(aG L);have ah:¬Θ (Y x (Q t.l) A)=C o:=λm=>η;have a9:=(Z.block o aa ah).trans L;obtain⟨an,a8,ac⟩:=A9 aj n K;have ae:n≠o:=λm=>η;have a4:=B.ok.T p t H;have M:=tW (u:={t with l:=t.l++[v]}) H K;have ab:I (λi=>i=o\/Θ (Y x (Q t.l) A)=C i) w (σ r (J o 1)<|Y (C<|J n 0) (Q t.l+1) q):=(Z.mono λ_ _ m=>.inr m).trans (é _ (J o 1) _) λ_ _ m=>.inl m;have ao:=ð r o 1 _ _ (Y (C<|J n 0) (Q t.l+1) q) a9;have af:(σ r (J o 1)<|Y (C<|J n 0) (Q t.l+1) q).heap[n]?=C (γ a8 180 (0,0)):=(heap_setCell_other _ _ _ _ ae).trans ac;have ag:Q (t.l++[v])=Q t.l+1:=θ;have a3:=B.oh H (la':=C<|J n 0) (lc':=q) (ow':=λi=>if i=n then C (.l p) else if Θ (Y x (Q t.l) A)=C i then none else g.ow i) T L ab (λi _ m=>m.imp id<|ai i) η
  (by grind[A3,é,Θ,zQ])
  (λi D=>η)
  (λi a6 D u=>by
   have u:(if i=n then C (Rl.l p) else if _ then none else g.ow i)=C a6:=u;split at u
   .grind
   .split at u
    .cases u
    .have:=(B.low i a6 u).2;omega)
  (λa7 m=>by cases m;simp)
  (Fv a4 M (λal hu=>by
   obtain m|m:=qW.1 hu
   .exact(a4.l al m).gr M
   .rw[zW]at m;rw[m];exact hv.gr M)<|by rw[ag];exact ad)
  (λi D F m cs ty fz y=>by
   obtain m|m:=m
   .subst m;rw[ak]at D;cases D
   .by_cases a2:i=n
    .subst a2;rw[af]at y;simp at y;rw[<-y.2.1];decide
    .have F:(if i=n then C (Rl.l p) else if _ then none else g.ow i)=_:=F;rw[wY a2,yY m]at F;cases F);exact⟨_,a3.1,a3.2⟩
theorem œ{i}{o l v}(m:¬(o.g=32/\l.g=1)):lE i o l v s=.over 3 i s:=by
 unfold lE;grind[J0,nY,I5,qY]
def ő{i}{o m v:Vl}(n:o.g=32/\m.g=1){p}{t}(q:o.h=C p)(r:s.c.T[p]?=C t):lE i o m v s=(if 0<=m.n/\m.n.toNat<Q t.l then fL o {t with l:=t.l.set m.n.toNat v} else if m.n=Q t.l then (bX i).bd λ_=>fL o {t with l:=t.l++[v]} else bR λ_=>.over 0 i) s:=by
 unfold lE;rw[J0<|nY n.1,J0<|nY n.2,J0<|xX q r]
theorem Fq{o}{t}{i}(l:o.h=C i):fL o t s=.ok () (tS s i t):=by
 simp only[fL,bR,l,Option.getD_some];rfl
def Rm.sj(H:Rm a w b e d G N s g z){A}{t}(M:s.c.T[A]?=C t){i}(L:g.tb[A]?=C i){v}(hv:aZ s.c v)(a3:Q t.l+1<=1200+s.c.th):
 ∃m n,δ w (J i 1)=C (Y m (Q t.l) n)/\i<V w.heap/\(∀o,w.frozen? (J i o)=κ)/\(C i≠Θ (Y m (Q t.l) n))/\∀q,I No w q->ρ q (V a.heap) 180 4 (Y m (Q t.l) n) (Q t.l) (t.l.flatMap<|gF g.tb)/\
  ∀p u r,ρ r (V a.heap) 180 4 (Y (C<|J p 0) (Q t.l+1) u) (Q t.l+1) (t.l.flatMap (gF g.tb)++gF g.tb v)->q.grownBy r (Θ (Y m (Q t.l) n))->(Θ (Y m (Q t.l) n)=C p\/p=V q.heap)->
   ∃f,Rm a (σ r (J i 1)<|Y (C<|J p 0) (Q t.l+1) u) b e d G N (tS s A {t with l:=t.l++[v]}) f z/\aJ a b w g (σ r (J i 1)<|Y (C<|J p 0) (Q t.l+1) u) f:=by
 obtain⟨a6,_,T,_⟩:=H.mem;obtain⟨b',pv,m,n,P,a5,B,k4,R,k6⟩:=T A t M;rw[L]at P;cases P;have F:δ w (J i 1)=C (Y m (Q t.l) n):=cr B K;refine⟨m,n,F,(aG B),λo=>æ _ _ o _ _ B,λD=>?_,λq y=>⟨A3 R y λ_ _ x=>x,λp u r ho hg Z=>?_⟩⟩
 .obtain⟨_,a4,a7⟩:=A9 R i D.symm;grind
 .obtain⟨f,a1,S⟩:=(H.y y).sf M L hv a3 ((World.cell?_of_block<|y.block i (aG B) id).trans F) ho ((ü hg).mono λ_ _ x=>x.symm) (Z.imp id λD=>W);exact⟨f,a1,(aJ.y y).trans S⟩
def B8f{aa}(hS:fJ a c e k j)(hV:gA a b e d G c aa)(a8:Rm a w b e d G c.N s g z)(hz:z<=1000000000){F i}(hj:F<Q s.c.S)(bs:i<Q c.N)(ay:c.N[i].x=20){a6:Rr (List Vl)}
 (hR:a6=((rn c.N (aR c) G aa (.v c.N[i].a)<|C F).bd λao=>(rn c.N (aR c) G aa (.v c.N[i].b)<|C F).bd λa7=>(rn c.N (aR c) G aa (.v c.N[i].c)<|C F).bd λab=>(lE (i:Int) (r1 ao) (r1 a7)<|r1 ab).bd λ_=>aF []) s) (bw:a6≠.stk):
 μ ε 117 #[pV b,U i,Γ<|pad g.sb<|C F] w (RP a b e d G c.N (z+1) w g s Kn a6):=by
 have aw:=hS.ok.ew i bs;have c5:=M4 (aw.ku ay).1;have c6:=M4 (aw.ku ay).2.1;have c7:=M4 (aw.ku ay).2.2;obtain⟨i0,cn,cw,cx,cy⟩:=ý Tryz.nt;obtain⟨fz,lt,m0,m1,m2,m3,m4⟩:=a8.mc;obtain⟨gn,nc,la,lc,q0,q1,q2,q3,q4,q5,⟨x0,x1,x2,x3,x4,x5,x6,x7,x8⟩,ho⟩:=hS.node a8 bs;have ca:=ν No w<|Ac c.N[i] la lc;have ap:=O<|aJ.y (wB:=a) (mb:=b) (g:=g) ca;have bm:=O (hV.at (a8.y ca) hz (sc:=C F) (λj' q=>η) c5<|P8<|by rw[<-hR];omega);have ac:Hid (∀a3 H,aJ a b (w.alloc<|Ac c.N[i] la lc) g a3 H->_):=λ_ _=>qK a8;have ad:=O (λ(f:Gh) (hp:g.sb<+:f.sb)=>N8 hp (o:=C F) λj' q=>by cases q;rw[a8.sl];omega);have HR:=O hR;have bj:=O bw;have HV:=O hV;have ck:=O c6;have cl:=O c7;have HJ:=O hj;have d5:=O a8.P.size;have d9:(i:Int)<(Q c.N:Int):=W;generalize pad g.sb (C F)=pj at*;generalize c.N[i]=nd at*;obtain⟨kd,va,vb,vc,ls,tx,vn,vt,vp⟩:=nd;simp only[Ac]at*;subst ay;clear hS hV a8 hR bw c5 c6 c7 aw ca ho hj;go_in;go_wp2_with fail;refine bm.u.mono ?_;rintro q a3 T;obtain⟨ps,rfl,hh⟩|⟨a7,s2,H,v,rfl,M,-,ba,r2,bd,u,rfl,hu,rfl⟩:=RP.cut (K':=Kn) (λao=>(rn c.N (aR c) G aa (.v vb)<|C F).bd λa7=>(rn c.N (aR c) G aa (.v vc)<|C F).bd λab=>(lE (i:Int) (r1 ao) (r1 a7)<|r1 ab).bd λ_=>aF []) T
 .exact⟨K,by rw[HR.u];exact(hh.pre ap.u<|Gr.refl _).more W⟩
 have P:r1 [u]=u:=K;have ar:=HR.u;rw[M,P]at ar;have cb:=ν No a3<|γ #[U u.g,.int à u.n,ι ⟨ξ u.t⟩,Γ<|pad H.tb u.h] 180;have fb:=ba.trans<|aJ.y (wB:=a) (mb:=b) (g:=H) cb;have b9:=O (HV.u.at (r2.y cb) hz (sc:=C F) (λj' q=>by cases q;exact yQ HJ.u bd.S) ck.u<|P8<|by rw[<-ar];exact bj.u);rw[ad.u H ba.sb]at b9;obtain⟨x0,x1,x2,x3,x4,x5,x6,x7,x8,xl⟩:=ac.u _ H fb;have bu:H.ow (V a3.heap)=none/\b<V a3.heap:=⟨r2.new<|vQ _,r2.mc.2.1⟩;have ah:Hid (∀a4 L,aJ a b _ H a4 L->_):=λa4 L (R:aJ a b (a3.alloc<|γ #[U u.g,.int à u.n,ι ⟨u.t.toArray⟩,Γ<|pad H.tb u.h] 180) H a4 L)=>eU (R.eu (rY a3 _) bu.1 W ζ ζ).1<|ì No _;have F2:=O fb;have G2:=O bd;have b7:=O ar;have HU:=O hu;have ci:=O r2.tl;clear T M ba r2 bd hu ar bm fb cb bu P;unfold bT;go_wp2_with fail;refine b9.u.mono ?_;rintro q a4 T;obtain⟨ps,rfl,hh⟩|⟨a7,s3,L,v,rfl,M,-,bb,r3,aq,y,rfl,hy,rfl⟩:=RP.cut (K':=Kn) (λa7=>(rn c.N (aR c) G aa (.v vc)<|C F).bd λab=>(lE (i:Int) u (r1 a7)<|r1 ab).bd λ_=>aF []) T
 .exact⟨K,by rw[b7.u];exact((hh.pre F2.u G2.u).pre ap.u<|Gr.refl _).more W⟩
 have P:r1 [y]=y:=K;have au:=b7.u;rw[M,P]at au;have cb:=ν No a4<|γ #[U y.g,.int à y.n,ι ⟨ξ y.t⟩,Γ<|pad L.tb y.h] 180;have bc:=bb.trans<|aJ.y (wB:=a) (mb:=b) (g:=L) cb;have fb:=F2.u.trans bc;have af:=O (HV.u.at (r3.y cb) hz (sc:=C F) (λj' q=>by cases q;exact yQ HJ.u (G2.u.trans aq).S) cl.u<|P8<|by rw[<-au];exact bj.u);rw[ad.u L<|F2.u.sb.trans bb.sb]at af;obtain⟨x0,x1,x2,x3,x4,x5,x6,x7,x8,xl⟩:=ac.u _ L fb;have bv:L.ow (V a4.heap)=none/\b<V a4.heap:=⟨r3.new<|vQ _,r3.mc.2.1⟩;have ai:Hid (∀t o,aJ a b _ L t o->_):=λt o (R:aJ a b (a4.alloc<|γ #[U y.g,.int à y.n,ι ⟨y.t.toArray⟩,Γ<|pad L.tb y.h] 180) L t o)=>eU (R.eu (rY a4 _) bv.1 W ζ ζ).1<|ì No _;have F3:=O fb;have bf:=O bc;have G3:=O<|G2.u.trans aq;have cf:=O aq;have ae:=O au;have HY:=O hy;have d7:=O r3.tl;clear T M bb r3 aq hy au b9 fb bc cb bv P b7;unfold bT;go_wp2_with fail;refine af.u.mono ?_;rintro q t T;obtain⟨ps,rfl,hh⟩|⟨a7,p,o,v,rfl,M,-,f4,B,ag,v,rfl,hv,rfl⟩:=RP.cut (K':=Kn) (λab=>(lE (i:Int) u y<|r1 ab).bd λ_=>aF []) T
 .exact⟨K,by rw[ae.u];exact((hh.pre F3.u G3.u).pre ap.u<|Gr.refl _).more W⟩
 have P:r1 [v]=v:=K;have D:=ae.u;rw[M,P]at D;have cv:=ν No t<|γ #[U v.g,.int à v.n,ι ⟨ξ v.t⟩,Γ<|pad o.tb v.h] 180;have CV:=O cv;obtain⟨t0,t1,t2,t3,tz,tl⟩:=ah.u t o<|bf.u.trans f4;obtain⟨y0,y1,y2,y3,yz,yl⟩:=ai.u t o f4;have ak:=HU.u.gr<|cf.u.trans ag;have cu:=HY.u.2.1;have al:=(N8 (bf.u.tb.trans f4.tb) λi q=>by rw[ci.u];exact HU.u.lt i q).symm;rw[al]at t3;have F4:=O<|ap.u.trans<|F3.u.trans f4;have G4:=O<|G3.u.trans ag;have aj:o.ow (V t.heap)=none/\b<V t.heap:=⟨B.new<|vQ _,B.mc.2.1⟩;have a9:=rY t<|γ #[U v.g,.int à v.n,ι ⟨ξ v.t⟩,Γ<|pad o.tb v.h] 180;have cg:=O λh=>eU (w':=h) a9;have HP:=O λi vg vn ug vt ut vp up w=>Jv i vg vn ug y.n vt ut vp up w cu;by_cases hg:u.g=32/\y.g=1
 .obtain⟨jt,r,bt,cz,z1,z2,z3,z4,z5,-,-⟩:=B.kh ak W;have S:=ő (i:=(i:Int)) (v:=v) hg z1 z2;have az:=B.ok.T jt r z2;have be:=B.ok.th;have d8:=az.fq;rw[z5]at t3;have b8:Hid (∀m,I No t m->∃la lc,δ m (J bt 1)=C (Y la (Q r.l) lc)/\bt<V m.heap):=λm x=>by
   obtain⟨cz,_,hT,_⟩:=(B.y x).mem;obtain⟨b',pv,la,lc,b4,c8,c9,k4,A,k6⟩:=hT jt r z2;rw[z4]at b4;cases b4;exact⟨la,lc,cr c9 K,(aG c9)⟩
  have HH:=O Gk;by_cases hx:0<=y.n/\y.n.toNat<Q r.l
  .rw[yY hx]at S;rw[J0<|S.trans<|Fq z1]at D;have HE:Hid (∀m,I No t m->_):=λm x=>(B.y x).se z2 z4 hx.2 hv;have b5:Hid (∀m,I No t m->∀n,aJ a b m o n o->Rm a n b e d G c.N (tS p jt {r with l:=r.l.set y.n.toNat v}) o z->RP a b e d G c.N (z+1) w g s Kn a6 (rT) n):=λm x n b4 c8=>by
    rw[D];exact⟨o,_,K,F4.u.trans<|(aJ.y x).trans b4,c8.more W,G4.u.trans<|tW z2 K,K⟩
   clear T M f4 B ag hv ak cv D af ah ai P aj a9 al ac ad HV ae HR S z1 z2 z3 z4 z5 az be;have hd:decide (0<=y.n/\y.n<(Q r.l:Int))=τ:=â;obtain⟨cq,cs⟩:=hx;generalize u.g=ug at*;generalize y.g=yg at*;obtain⟨rfl,rfl⟩:=hg;generalize y.n=yn at*;obtain⟨d4,rfl⟩:=Int.eq_ofNat_of_zero_le cq;simp only[tQ]at cs HE b5;unfold bT;go_wp2_with fail;refine(HP.u _ _ _ _ _ _ _ _ _).mono ?_;rintro q m ⟨A,rfl⟩;simp only[and_self,if_true];obtain⟨am,an,q1,q2⟩:=b8.u m<|B6 CV.u A;have H1:=O<|HH.u bt am _ an (d4:Int) m q1;have cd:=B6 (B6 CV.u A)<|Ψ No _ 1;obtain⟨gl,de,cc,ce,p3,p4,p5,⟨d0,d1,d2,d3,bo,bp,bq,c3⟩,p6,p7,p8⟩:=HE.u (Ø m) cd;have hp:=b5.u _ cd _ p8 p7;replace cc:δ m (J bt 1)=_:=cc;replace ce:bt<V m.heap:=ce;replace p3:gl<V m.heap:=p3;replace p6:∀ao,m.frozen? (J gl ao)=κ:=p6;replace bo:δ m _=_:=bo;replace bp:δ m _=_:=bp;replace bq:δ m _=_:=bq;replace c3:δ m _=_:=c3;obtain⟨b0,b1,b2,b3,bz,bl⟩:=cg.u m A;have b6:=O hp;unfold Δ at p5;clear q1 cd hp p7 p8 HE b5 A;go_wp2_with fail;refine H1.u.mono ?_;rintro q n ⟨rfl,rfl⟩;rw[hd];go_wp2_with fail;go_region;all_goals go_wp2_with fail
   all_goals go_end0
   all_goals exact b6.u
  .rw[wY hx]at S;have hd:decide (0<=y.n/\y.n<(Q r.l:Int))=κ:=â;by_cases hy:y.n=(Q r.l:Int)
   .rw[yY hy]at S;have cp:=hv;have bi:=O λm (x:I No t m)=>IQ (B.y x) (i:Int);have HO:Hid (∀m n,I No t m->aJ a b m o n o->p.c.th=2000->bX (i:Int) p=.over 6 (i:Int) p->Rm a n b e d G c.N p o z->RP a b e d G c.N (z+1) w g s Kn a6 (ov 6 (i:Int) []) n):=λm n x R h2 hm Z=>by
     rw[D,I5<|S.trans<|I5 hm];exact⟨o,[],K,F4.u.trans<|(aJ.y x).trans R,Z.more W⟩
    have HG:Hid (∀m n,I No t m->aJ a b m o n o->bX (i:Int) p=.ok () (cS p p.c.ca<|p.c.th+1)->Rm a n b e d G c.N (cS p p.c.ca<|p.c.th+1) o z->∀a5,(∃f,Rm a a5 b e d G c.N (tS (cS p p.c.ca<|p.c.th+1) jt {r with l:=r.l++[v]}) f z/\aJ a b n o a5 f)->RP a b e d G c.N (z+1) w g s Kn a6 (rT) a5):=λm n x R hm Z a5 ⟨f,a1,a2⟩=>by
     rw[D,J0<|S.trans<|(J0 hm).trans<|Fq z1];exact⟨f,_,K,F4.u.trans<|(aJ.y x).trans<|R.trans a2,a1.more W,(G4.u.trans<|NQ p.c _ _).trans<|tW (c:=(cS p p.c.ca<|p.c.th+1).c) z2 K,K⟩
    have bh:Hid (∀n,Rm a n b e d G c.N (cS p p.c.ca<|p.c.th+1) o z->_):=λn Z=>Z.sj (t:=r) z2 z4 (hv.gr<|NQ p.c _ _) (by grind[cS]);have bg:Hid (∀m n,I No (t.alloc<|γ #[U v.g,.int à v.n,ι ⟨ξ v.t⟩,Γ<|pad o.tb v.h] 180) m->aJ a b m o n o->_):=λm n x R=>eU (R.eu ((x.block _ (aG a9) id).trans a9) aj.1 W ζ ζ).1<|ì No _;have d6:Hid (V a.heap<=V t.heap):=B.P.size;have ct:(y.n==(Q r.l:Int))=τ:=by simpa using hy
    have da:Q r.l<=3200:=W;clear T M f4 B ag hv ak cv D af ah ai P aj a9 al ac ad HV ae HR S z1 z2 z3 z4 z5 az be hx cp;generalize u.g=ug at*;generalize y.g=yg at*;obtain⟨rfl,rfl⟩:=hg;generalize y.n=yn at*;subst hy;unfold bT;go_wp2_with fail;refine(HP.u _ _ _ _ _ _ _ _ _).mono ?_;rintro q m ⟨A,rfl⟩;simp only[and_self,if_true];obtain⟨am,an,q1,q2⟩:=b8.u m<|B6 CV.u A;have H1:=O<|HH.u bt am _ an (Q r.l:Int) m q1;have K5:=O<|B6 CV.u A;have bn:=O A;have M5:=O<|bi.u m K5.u;clear A;go_wp2_with fail;refine H1.u.mono ?_;rintro q m ⟨rfl,rfl⟩;rw[hd];go_wp2_with fail;refine M5.u.mono ?_;rintro q n ⟨av,⟨h2,hm,rfl,Z⟩|⟨h2,hm,rfl,Z⟩⟩
    .exact⟨K,HO.u _ _ K5.u av h2 hm Z⟩
    obtain⟨la,lc,l1,l2,l3,l4,l5⟩:=bh.u n Z;obtain⟨b0,b1,b2,b3,bz,bl⟩:=bg.u m n bn.u av;have GG:=O<|HG.u m n K5.u av hm Z;have cA:I No n (n.drew.alloc<|γ #[U v.g,.int à v.n,ι ⟨ξ v.t⟩,Γ<|pad o.tb v.h] 180):=B6 (Ψ No n 1)<|ν No _ _;have CA:=O cA;have L5:=O<|l5 _ cA;have cj:Hid (V a.heap<=V n.heap):=Z.P.size;have dc:=cj.u;clear cA l5 Z hm av h2 HO HG bh bg bi M5 H1 K5 bn q1 q2 t0 t1 t2 t3 y0 y1 y2 y3;go_wp2_with fail;go_region_law (
     refine step_append_lies _ Ω _ _ _ Ω (V a.heap) 180 i0 _ 4 40 underlying207 cn cw cx cy K W (Y la (Q r.l) lc) (Q r.l) (r.l.flatMap<|gF o.tb) Ω L5.u.1 (J (V n.heap) 0) 1 1 [U v.g,.int à v.n,ι ⟨ξ v.t⟩,Γ<|pad o.tb v.h] Ω Ω (Ó (cs:=#[U v.g,.int à v.n,ι ⟨ξ v.t⟩,Γ<|pad o.tb v.h]) (t:=180) (fr:=(0,0))<|rY n.drew _) (by simp[Value.oneCell']) W Ñ W â (V n.heap+1) θ ?_;intro gg cm a5 c4 ax br db;have z4:δ a5 (J bt 1)=C (Y la (Q r.l) lc):=by rw[ax.cell_far _ â l4];exact A4 CA.u l1
     have y4:a5.frozen? (J bt 1)=κ:=by rw[ax.frozen_far _ â l4];exact U4 (w:=n.drew) l2<|l3 1);all_goals
     have b6:=O (GG.u _<|L5.u.2 gg cm a5 c4 ax<|br.imp id λq=>by rw[q];simp);clear c4 ax br L5 GG;go_wp2_with fail;go_end0;exact b6.u
   .rw[wY hy]at S;have bx:lE (i:Int) u y v p=.over 3 (i:Int) p:=S;rw[I5 bx]at D;have HE:Hid (∀m,I No t m->RP a b e d G c.N (z+1) w g s Kn a6 (ov 3 (i:Int) []) m):=λm x=>by
     rw[D];exact⟨o,[],K,F4.u.trans<|aJ.y x,(B.y x).more W⟩
    have ch:=O yG;clear T M f4 B ag hv ak cv D af ah ai P aj a9 al ac ad HV ae HR S bx z1 z2 z3 z4 z5 az be hx;have ct:(y.n==(Q r.l:Int))=κ:=by simpa using hy
    generalize u.g=ug at*;generalize y.g=yg at*;obtain⟨rfl,rfl⟩:=hg;generalize y.n=yn at*;unfold bT;go_wp2_with fail;refine(HP.u _ _ _ _ _ _ _ _ _).mono ?_;rintro q m ⟨A,rfl⟩;simp only[and_self,if_true];obtain⟨am,an,q1,q2⟩:=b8.u m<|B6 CV.u A;have H1:=O<|HH.u bt am _ an yn m q1;have K5:=O<|B6 CV.u A;clear A;go_wp2_with fail;refine H1.u.mono ?_;rintro q n ⟨rfl,rfl⟩;rw[hd];go_wp2_with fail;refine(ch.u _ _ _).mono ?_;rintro q a5 ⟨rfl,rfl⟩;exact⟨K,HE.u _ K5.u⟩
 .rw[I5<|œ hg]at D;have HE:Hid (∀m,I No t m->RP a b e d G c.N (z+1) w g s Kn a6 (ov 3 (i:Int) []) m):=λm x=>by
   rw[D];exact⟨o,[],K,F4.u.trans<|aJ.y x,(B.y x).more W⟩
  clear T M f4 B ag hv ak cv D af ah ai P aj a9 al ac ad HV ae HR;unfold bT;go_wp2_with fail;refine(HP.u _ _ _ _ _ _ _ _ _).mono ?_;rintro q m ⟨A,rfl⟩;rw[wY hg];exact⟨K,HE.u _<|B6 CV.u A⟩
end
section
variable{a w j:E}{b d h e z:Nat}{f:υ}{G:Int->Option Int}{c:Cx}{s:Ms}{g i:Gh}
def ž{k}(r:fJ a c d h f)(v:gA a b d e G c k):qF a b d e G c 20 λl sc=>rn c.N (aR c) G (k+1) (.s l) sc:=by
 refine Al r ?_;rintro w s g z A l R la lc o N H h5 p n F x m q D r0 ho m0 q2 _ _ ⟨⟩;rw[sM]at m;simp only[B7 p,n]at m;simp at m;have L:=v.at r0 N h5 (M4 (F.ku n).1) (P8<|by rw[<-m];omega);have a2:=B8f r v r0 N H p n m x;have B:=O L;have P:=O D;have T:=O m;have t:=O a2;try generalize pad g.sb (C A)=pj at*
 generalize c.N[l]=nd at*;obtain⟨kd,va,vb,vc,ls,tx,vn,vt,vp⟩:=nd;simp only[Ac]at*;subst n;clear r v o m x F q ho H L D B T;go_in;go_wp2_with fail;refine t.u.mono ?_;rintro Z a5 u;have y:=RP.pre P.u (Gr.refl _) u;have S:=O y;obtain⟨ps,rfl⟩|rfl:=u.ends
 .exact⟨K,y⟩
 .clear y u t;go_wp2;go_end0;exact S.u
end
def Tbl.below{B}{w c:E}(h:Tbl w)(a:á B w c)(d:V w.heap<=B):Tbl c:=by
 obtain⟨i,g,e,b⟩:=h;have f:=a.block g<|yQ b d;refine⟨?_,g,e,yQ b a.size⟩;grind[Lib.TabIs,World.var?]
def SS(l:bZ)(w:E)(F:Int->Int->Prop)(c:Cx->Of->List (Int×Int))(e:ò)(h:E):Prop:=á (V w.heap) w h/\
 ((∃d p,d≠0/\F d p/\e=π (.tuple #[sN,.agg #[U d,U p]]))\/
  ∃N T a b g f,fQ l N T a b/\e=π (.tuple #[Y g (Q (c (aQ N T a) b)) f,.agg #[U 0,U 0]])/\ρ h (V w.heap) 90 2 (Y g (Q (c (aQ N T a) b)) f) (Q (c (aQ N T a) b)) (sF<|c (aQ N T a) b))
def yI(l:bZ)(w:E)(F:Int->Int->Prop)(o:Cx->Of->List (Int×Int))(n:Nat)(e:ò)(d:E):Prop:=á (V w.heap) w d/\
 ((∃b p,b≠0/\F b p/\e=π (.tuple #[.agg #[sN,U 0,U 0,sN],.agg #[U b,U p]]))\/
  ∃N T c m h k a i j f g,fQ l N T c m/\jL N (aR<|aQ N T c) (gK<|o (aQ N T c) m) n=C (h,k,a)/\e=π (.tuple #[.agg #[Y i (Q a.ln) j,U h,U k,Y f (Q a.ev) g],.agg #[U 0,U 0]])/\
   ρ d (V w.heap) 9 1 (Y i (Q a.ln) j) (Q a.ln) (strs a.ln)/\ρ d (V w.heap) 69 2 (Y f (Q a.ev) g) (Q a.ev) (jN a.ev))
def YW(s:ByteArray)(c:Cx)(w:E):Prop:=μ ε 29 #[ι s] w λe b=>∃a,e=π (.tuple #[pV a,.agg #[U 0,U 0]])/\á (V w.heap) w b/\∃f d,fJ b c a f d/\δ b (J a 2)=C (U<|Q c.N-1)/\a<V b.heap
def Tj{N}{c}{G}{b}{d f}{g}(h:Ho (rn N c G (8*b+20) (.b<|Q N-1) none<|eK b) d f g):jL N c G b=C (d,f,g):=by
 unfold jL;cases e:rn N c G (8*b+20) (.b<|Q N-1) none (eK b) with
 |ok a s=>rw[e]at h;obtain⟨rfl,rfl,rfl⟩:=h;rfl
 |over x i s=>rw[e]at h;obtain⟨rfl,rfl,rfl⟩:=h;rfl
 |back v s=>rw[e]at h;exact h.elim
 |stk=>rw[e]at h;exact h.elim
def Y9(w:E)(o):á (V w.heap) w (w.alloc o):=(ν No w o).ep å<|vQ _
def aJ.jh{a w c}{b j e z}{G}{N}{s}{g d}(h:Rm a w b j e G N s g z)(f:aJ a b w g c d):á (V a.heap) w c:=f.P.ep (λi _ x=>by
 obtain x|⟨r,x,_⟩|⟨x,_⟩:=x
 .have:=h.j5.1;omega
 .exact(h.low i r x).1
 omega) h.P.size
def WY(a)(q r)(b c d e f g):I (λk=>k=q\/k=r) a (σ (σ (σ (σ (σ (σ a (J q 0) b) (J q 1) c) (J q 2) d) (J q 3) e) (J r 0) f) (J r 1) g):=
 ((((((ì _ a).put<|.inl K).put<|.inl K).put<|.inl K).put<|.inl K).put<|.inr K).put<|.inr K
def MT{w a:E}(h:á (V w.heap) w a)(j:V w.heap<=V a.heap)(b c d e f g)(o):á (V w.heap) w (Ø<|World.alloc (σ (σ (σ (σ (σ (σ a (J (V w.heap) 0) b) (J (V w.heap) 1) c) (J (V w.heap) 2) d) (J (V w.heap) 3) e) (J (V w.heap+1) 0) f) (J (V w.heap+1) 1) g) o):=
 h.trans<|ô ((((WY a _ _ b c d e f g).trans (ν (λk=>k=V w.heap\/k=V w.heap+1) _ o) λ_ _ x=>x)).trans (Ψ (λk=>k=V w.heap\/k=V w.heap+1) _ 1) λ_ _ x=>x) (λi _ x=>W) j
def mN{a:E}{n}{e}{b m}{v}{j}(h:ρ a (n+2) e b v m j)(c d f i l p)(o):ρ (Ø<|World.alloc (σ (σ (σ (σ (σ (σ a (J n 0) c) (J n 1) d) (J n 2) f) (J n 3) i) (J (n+1) 0) l) (J (n+1) 1) p) o) n e b v m j:=
 C7 (A3 h ((((WY a _ _ c d f i l p).trans (ν (λk=>k=n\/k=n+1) _ o) λ_ _ x=>x)).trans (Ψ (λk=>k=n\/k=n+1) _ 1) λ_ _ x=>x) λg q x=>by
  have:=(A9 h g q).1;omega) W
def Kd{N}{T}{a}{i}{l}(h:fQ l N T a i):iB (aQ N T a) 26 (Q N-1):=by
 obtain⟨b,j,_,c,_,_⟩:=h;have f:Em N 0 0 (.nd 26 [] 0 b):=⟨[],[],by simp[c.ey],K⟩;obtain⟨_,g,e⟩:=f.parts;have k:Q N=aB b+1:=by
  have:=congrArg Q c.ey;rw[lZ,R6,nN]at this;exact this
 have d:(aQ N T a).N=N:=K;refine⟨W,η,?_⟩;rw[d,show Q N-1=((0+aB b:Nat):Int) by omega,B7 g];exact(congrArg Nd.x e).trans<|J7 _ _ _ _
def Xs{N}{T}{t}{a3}{a2}(u:fQ a2 N T t a3){b w}{p qb c q f:Nat}{nv}{G}(a4:f<=100000)(l:fJ b (aQ N T t) p qb nv)(M:δ b (J p 2)=C (U<|Q N-1))(R:p<V b.heap)
 (s:I No b w) (L:V b.heap<=c) (H:cQ w q 5000 G) (D:w.heap[c]?=C (γ #[pV p,.map<|C q,U f,U 0,U 0,sN,sN] 66 (0,0))):
 μ ε 17 #[pV c] w λe d=>∃j o a m n g i,jL N (aR<|aQ N T t) G f=C (j,o,a)/\e=π (.agg #[U j,U o])/\á (V b.heap) w d/\c<V d.heap/\δ d (J c 5)=C (Y m (Q a.ln) n)/\δ d (J c 6)=C (Y g (Q a.ev) i)/\
  ρ d (V b.heap) 9 1 (Y m (Q a.ln) n) (Q a.ln) (strs a.ln)/\ρ d (V b.heap) 69 2 (Y g (Q a.ev) i) (Q a.ev) (jN a.ev):=by
 have v:=Xq (N:=N) s L H D;obtain⟨z,A,_⟩:=XO u l.ok G f;have B:=(ŕ (mb:=c) (gq:=q) (G:=G) l (λk h=>AV l λZ hk=>h Z W) (λk h=>ž l h)<|8*f+20).2.2.2;refine(B4f B v W (A4 s M) (yQ R s.size) (Kd u) K z A).mono ?_;rintro e d ⟨j,o,a,g',P,rfl,F,S⟩;obtain⟨a5,ev,r,x,y⟩:=S.blk;obtain⟨m,n,rfl⟩:=B8 x;obtain⟨g,i,rfl⟩:=B8 y;exact⟨j,o,a,m,n,g,i,Tj P,K,F.jh v,(aG r),(ä _ _ 5 _ _ _ r).trans K,(ä _ _ 6 _ _ _ r).trans K,x,y⟩
def Gi{s}{w}{al}{a6}{G}{F:Nat}(b3:∀q N T d f,fQ s.data.toList N T d f->Tbl q->YW s (aQ N T d) q)(ht:Tbl w)(az:F<=100000)(hg:∀q,I No w q->μ ε 15 #[ι s,U al] q (SS s.data.toList q a6 G))
 (b2:∀N T d f,fQ s.data.toList N T d f->Q (G (aQ N T d) f)<=5000/\∀p∈G (aQ N T d) f,(0<=p.1/\p.1<=1000000)/\0<=p.2/\p.2<=1000000):
 μ ε 7 #[ι s,U al,U F] w (yI s.data.toList w a6 G F):=by
 obtain⟨i,au⟩:∃o,o=γ #[sN,U 0,U 0,sN] 31:=⟨_,K⟩;obtain⟨k,av⟩:∃o,o=γ #[U 0,U 0] 25:=⟨_,K⟩;have aw:=((ν No (w.alloc i) k).block _ θ λx=>x).trans<|rY w i;have ax:((w.alloc i).alloc k).heap[V w.heap+1]?=C k:=by simpa using rY (w.alloc i) k
 have ae:I No w ((w.alloc i).alloc k):=B6 (ν _ _ _)<|ν _ _ _;have HG:=O<|hg _ ae;have HB:Hid (∀a,á (V ((w.alloc i).alloc k).heap) ((w.alloc i).alloc k) a->a.heap[V w.heap]?=C i/\a.heap[V w.heap+1]?=C k/\á (V w.heap) w a/\V w.heap+2<=V a.heap):=λa H=>
  ⟨(H.block _ â).trans aw,(H.block _ θ).trans ax,(ae.ep å<|vQ _).trans<|H.mono â,by have:=H.size;simp_all⟩;have ar:=O ht;have an:=O b2;have aq:=O b3;subst au av;go_in;go_wp2_with fail;refine HG.u.mono ?_;rintro e a ⟨ab,⟨er,p,ay,hF,rfl⟩|⟨N,T,d,f,ad,ac,a5,rfl,b4⟩⟩
 .obtain⟨l,b,bl,bs⟩:=HB.u a ab;have c:∀j v,#[Y none 0 0,U 0,U 0,sN][j]?=C v->δ a (J (V w.heap) j)=C v:=λj v e=>(ä _ _ j _ _ _ l).trans e;have S:=c 0 _ K;have Z:=c 1 _ K;have d2:=c 2 _ K;have d3:=c 3 _ K;have e0:=ä _ _ 0 _ _ _ b;have e1:=ä _ _ 1 _ _ _ b;have dz:=λo=>æ _ _ o _ _ l;have ez:=λo=>æ _ _ o _ _ b;have a3:V w.heap<V a.heap:=W;have a4:V w.heap+1<V a.heap:=W;have B:=O bl;have HF:=O hF;go_wp2;go_region;all_goals go_wp2
  all_goals have R:=O (MT B.u W (sN) (U 0) (U 0) (sN) (U er) (U p)<|γ #[U er,U p] 25)
  all_goals exact ç (by simp[ã,results7,go_sem,S,Z,d2,d3,e0,e1,a3,a4]) K ⟨R.u,.inl ⟨er,p,ay,HF.u,K⟩⟩
 .obtain⟨l,b,bl,bs⟩:=HB.u a ab;have b5:=A3 b4 (ν No a<|γ #[U 0,U 0] 25) Ξ;have b8:Tbl (a.alloc<|γ #[U 0,U 0] 25):=(ar.u.below bl<|vQ _).below (Y9 a _)<|vQ _;obtain⟨b0,b1⟩:=an.u N T d f a5;have a8:=O<|Yz (fu:=F) (aq.u _ N T d f a5 b8) b5 b0 b1;have a9:=O a5;have B:=O bl;have P:=O<|And.intro l b;go_wp2_with fail;refine a8.u.mono ?_;clear a8;rintro e ak ⟨pb,M,mb,gq,⟨qb,nv,hS,ah,ai⟩,a2,rfl,L,ag,af,y⟩;have D:=O<|Xs a9.u az hS ah ai L ag af y;have a7:Hid (á (V a.heap) a ak/\V a.heap+1<=V M.heap/\V M.heap<=V ak.heap):=by
   have h1:=(Y9 a<|γ #[U 0,U 0] 25).trans (a2.mono θ);have h2:=a2.size;simp only[Ô]at h2;exact⟨h1.trans<|L.ep å h1.size,h2,L.size⟩
  clear hS ah ai a2 L ag af y;go_wp2_with fail;refine D.u.mono ?_;clear D;rintro e h ⟨m,n,g,z,A,r,t,aj,rfl,aa,bb,m5,m6,o1,o2⟩;obtain⟨y,b9,ba⟩:=a7.u;have u:=y.trans (aa.mono W);have bc:=u.size;have l:=(u.block (V w.heap) W).trans P.u.1;have b:=(u.block (V w.heap+1) W).trans P.u.2;have c:∀j v,#[Y none 0 0,U 0,U 0,sN][j]?=C v->δ h (J (V w.heap) j)=C v:=λj v e=>(ä _ _ j _ _ _ l).trans e;have S:δ h (J (V w.heap) 0)=C (sN):=c 0 _ K;have Z:δ h (J (V w.heap) 1)=C (U 0):=c 1 _ K;have d2:δ h (J (V w.heap) 2)=C (U 0):=c 2 _ K;have d3:δ h (J (V w.heap) 3)=C (sN):=c 3 _ K;have e0:δ h (J (V w.heap+1) 0)=C (U 0):=ä _ _ 0 _ _ _ b;have e1:δ h (J (V w.heap+1) 1)=C (U 0):=ä _ _ 1 _ _ _ b;have dz:=λo=>æ _ _ o _ _ l;have ez:=λo=>æ _ _ o _ _ b;have a3:V w.heap<V h.heap:=W;have a4:V w.heap+1<V h.heap:=W;have am:=O (B.u.trans<|u.mono W);have HO:=O (And.intro (C7 o1<|show V w.heap+2<=V M.heap by omega)<|C7 o2<|show V w.heap+2<=V M.heap by omega);have D:=O aj;clear y aa u l b c o1 o2 aj a7 P B;go_wp2_with fail;go_region;all_goals go_wp2
  all_goals have R:=O (MT am.u W (Y z (Q g.ln) A) (U m) (U n) (Y r (Q g.ev) t) (U 0) (U 0)<|γ #[U m,U n] 61)
  all_goals have ao:=O<|mN HO.u.1 (Y z (Q g.ln) A) (U m) (U n) (Y r (Q g.ev) t) (U 0) (U 0)<|γ #[U m,U n] 61
  all_goals have ap:=O<|mN HO.u.2 (Y z (Q g.ln) A) (U m) (U n) (Y r (Q g.ev) t) (U 0) (U 0)<|γ #[U m,U n] 61
  all_goals exact ç (v:=.tuple #[.agg #[Y z (Q g.ln) A,U m,U n,Y r (Q g.ev) t],.agg #[U 0,U 0]]) (by simp[ã,results7,go_sem,S,Z,d2,d3,e0,e1,a3,a4]) K ⟨R.u,.inr ⟨N,T,d,f,m,n,g,z,A,r,t,a9.u,D.u,K,ao.u,ap.u⟩⟩
def ķ(w:E)(g:Int)(P:Option í->Nat->Nat->Int->Int->E->Prop)(e:ò)(f:E):Prop:=∃b n c a p d,P b n c a p d/\I (λk=>k=V w.heap) d f/\e=π (if a≠0 then .tuple #[sN,.agg #[U a,U p]] else if g=1 then .tuple #[sN,.agg #[U 0,U 0]] else .tuple #[Y b n c,.agg #[U 0,U 0]])
def Ů{s}{w}{h}(D:h=1\/h=2){P}(A:∀g,I No w g->V w.heap<V g.heap->μ ε 27 #[ι s] g λe a=>∃c n d b p,e=π (.tuple #[Y c n d,.agg #[U b,U p]])/\á (V g.heap) g a/\P c n d b p a):
 μ ε 15 #[ι s,U h] w (ķ w h P):=by
 have u:=rY w<|γ #[U 0,U 0] 25;have r:=O (A _ (ν No w<|γ #[U 0,U 0] 25) θ);clear A;go_in;go_wp2_with fail;refine r.u.mono ?_;rintro e a ⟨c,n,d,b,p,rfl,v,t⟩;have f:=(v.block _ θ).trans u;have l:δ a (J (V w.heap) 0)=C (U 0):=ä _ _ 0 _ _ _ f;have m:δ a (J (V w.heap) 1)=C (U 0):=ä _ _ 1 _ _ _ f;have F:=λo=>æ _ _ o _ _ f;have q:=(aG f);have j:=O t;have i:∀(x y:υ) (o:Obj),I (λk=>k=V w.heap) a ((σ (σ a (J (V w.heap) 0) x) (J (V w.heap) 1) y).alloc o):=λx y o=>((é a (J (V w.heap) 0) x).trans (é _ (J (V w.heap) 1) y) λ_ _ e=>e).trans (ν No _ o) λ_ _ e=>e.elim;have B:∀(x y:υ) (o:Obj),I (λk=>k=V w.heap) a (Ø<|(σ (σ a (J (V w.heap) 0) x) (J (V w.heap) 1) y).alloc o):=λx y o=>(i x y o).trans (Ψ No _ 1) λ_ _ e=>e.elim;clear r t v u f;by_cases z:b=0
 .subst z;obtain rfl|rfl:=D
  .go_wp2;exact ç (v:=.tuple #[sN,.agg #[U 0,U 0]]) (by simp[ã,results15,go_sem,l,m,q]) K ⟨c,n,d,0,p,a,j.u,i _ _ _,θ⟩
  .go_wp2;exact ç (v:=.tuple #[Y c n d,.agg #[U 0,U 0]]) (by simp[ã,results15,go_sem,l,m,q]) K ⟨c,n,d,0,p,a,j.u,i _ _ _,θ⟩
 .have G:(b==0)=κ:=by simp[z]
  go_wp2_with fail;go_region;all_goals go_wp2
  all_goals exact ç (v:=.tuple #[sN,.agg #[U b,U p]]) (by simp[ã,results15,go_sem,l,m,q]) K ⟨c,n,d,b,p,a,j.u,B _ _ _,η⟩
def B2c(s)(w:E)(A:s.size<=Δ){l}(u:l=1\/l=2):
 μ ε 15 #[ι s,U l] w (SS s.data.toList w (iX s.data.toList) λc a=>if l=1 then [] else fS c a):=by
 refine(Ů (P:=λm n o f p k=>á (V w.heap) w k/\((iX s.data.toList f p/\f≠0)\/(f=0/\∃N T d a,fQ s.data.toList N T d a/\n=Q (fS (aQ N T d) a)/\ρ k (V w.heap+1) 90 2 (Y m n o) n (S4<|fS (aQ N T d) a)))) u λB h G=>(zN s B A).mono ?_).mono ?_
 .have t:=h.ep å<|vQ _;rintro e k ⟨b,⟨f,p,q,rfl⟩|⟨N,T,d,a,F,D,r,rfl,j⟩⟩
  .exact⟨_,_,_,f,p,K,b,t.trans<|b.mono h.size,.inl ⟨q,q.1⟩⟩
  .exact⟨_,_,_,0,0,K,b,t.trans<|b.mono h.size,.inr ⟨K,N,T,d,a,r,K,C7 j W⟩⟩
 .rintro e L ⟨m,n,o,f,p,k,⟨b,v⟩,h,rfl⟩;have y:=b.trans<|h.ep (λi _ x=>W) b.size;refine⟨y,?_⟩;obtain⟨q,H⟩|⟨rfl,N,T,d,a,r,rfl,j⟩:=v
  .grind
  .refine .inr ⟨N,T,d,a,?_⟩;obtain rfl|rfl:=u
   .grind[sF,kW]
   .refine⟨m,o,r,θ,?_⟩;simp;exact C7 (A3 j h λg z x=>by
     have:=(A9 j g z).1;omega) W
def ZI(s)(w)(k:s.size<=Δ)(m:Tbl w){N}{T}{b}{o}(a:fQ s.data.toList N T b o):YW s (aQ N T b) w:=by
 refine(MI s w k).mono ?_;rintro e a3 ⟨f,⟨v,p,a2,h,-⟩|⟨t,u,H,R,j,w0,q,L,M,r,n,yv,P,x,Z,S,A,G,B,F,g,rfl,z,y,c,i⟩⟩
 .exact absurd h a.not
 .obtain⟨rfl,rfl,rfl,rfl⟩:=a.one j;have l:=Yc a g c<|m.below f<|vQ _;obtain⟨ov,D,d,_⟩:=c.st;refine⟨q,K,f,r,n,l,?_,(aG d)⟩;rw[ä _ _ 2 _ _ _ d,show (aQ N T b).N=N from K,<-i];rfl
def Fs{w:E}{c}{b}{a}{d}(h:ρ w d 9 1 (Y c (Q a) b) (Q a)<|strs a){j}(e):∃g,c=C (J g 0)/\g<V w.heap/\Q a<=b/\b<=Δ/\δ w (J g j)=C (ι ⟨ξ a[j]⟩):=by
 grind[D5,strs]
def SJ(w:E){o p}{d f}{g i}{l a}(b:l<+:a)(A:ρ w o 9 1 (Y d (Q l) g) (Q l)<|strs l)(B:ρ w p 9 1 (Y f (Q a) i) (Q a)<|strs a):
 μ ε 18 #[Y d (Q l) g,Y f (Q l) i] w λe D=>e=π (.bool τ)/\I No w D:=by
 have m:=O A;have n:=O B;have k:Hid (∀j (h:j<Q l),∃M:j<Q a,a[j]=l[j]):=λj h=>⟨yQ h b.length_le,(b.getElem h).symm⟩;have G:=O b.length_le;go_in;go_wp2;go_loopw [5] (λv wr=>∃j:Nat,j<=Q l/\v=U j/\Hid (I No w wr)) (λv _=>Q l-(intOf v).toNat);case atStart=>exact⟨0,wQ _,K,ì _ _⟩
 case round=>
  obtain⟨j,T,rfl,CR⟩:=hrel;by_cases c:j<Q l
  .obtain⟨u,e⟩:=k.u j c;obtain⟨H,q,R,N,s,Z⟩:=Fs (A3 m.u CR.u Ξ) c;obtain⟨L,r,S,P,t,F⟩:=Fs (A3 n.u CR.u Ξ) u;subst q r;rw[e]at F;unfold Δ at s t;generalize l[j]=z at*;go_wp2;go_region;all_goals go_wp2
   all_goals go_roundw
   case rel=>exact⟨j+1,W,ï,CR.u.trans (Ψ No _ 1) Ξ⟩
   grind[intOf]
  .have y:j=Q l:=W;subst y;go_wp2;go_ret;exact⟨K,CR.u⟩
def kV(n:Int):Nat:=if n<0\/20000<n then 2000 else n.toNat
def JL(n):kV n<=20000:=by
 grind[kV]
def VB(w:E)(n):μ ε 8 #[U n] w λe a=>e=π (U<|kV n)/\a=w:=by
 have b:∀m:Int,(kV n:Int)=m->μ ε 8 #[U n] w λe a=>e=π (U m)/\a=w:=by
  intro m f;by_cases c:n<0
  .obtain rfl:m=2000:=by simp_all[kV,yY]
   go_in;go_wp2;go_ret;exact⟨K,K⟩
  .by_cases d:20000<n
   .obtain rfl:m=2000:=by simp_all[kV,yY]
    go_in;go_wp2;go_ret;exact⟨K,K⟩
   .obtain rfl:m=n:=by grind[kV]
    go_in;go_wp2;go_ret;exact⟨K,K⟩
 exact b _ K
def nR:List Nd:=[⟨1,0,0,0,[],[],1,-1,6⟩,⟨1,0,0,0,[],[],2,-1,10⟩,⟨12,0,1,0,[],[43],0,-1,6⟩,⟨21,2,0,0,[],[],0,-1,0⟩,⟨4,0,0,0,[],[],0,-1,26⟩,⟨13,4,0,0,[],[116,121,112,101,111,102],0,-1,19⟩,⟨21,5,0,0,[],[],0,-1,13⟩,⟨26,0,0,0,[3,6],[],0,-1,0⟩]
def pR:List Nt:=[.nd 21 [] 0 [.nd 12 [43] 0 [.nd 1 [] 1 [],.nd 1 [] 2 []]],.nd 21 [] 0 [.nd 13 [116,121,112,101,111,102] 0 [.nd 4 [] 0 []]]]
def Ut:dZ [112,114,105,110,116,32,49,32,43,32,50,59,32,112,114,105,110,116,32,116,121,112,101,111,102,32,110,117,108,108,59] (.inr (nR,[])):=YY Ω (λk=>Ω) ζ ζ
def ų:∀p∈pR,Wn p/\17<=p.k/\p.k<=25:=by
 intro p a;simp only[pR,jW,rZ,or_false]at a;obtain rfl|rfl:=a<;>grind[ER,KS,w1,aP,Nt.k,UL,w4]
def Wz:bJ nR [] pR:=⟨ų,Ω,Ω,by decide+kernel,by decide+kernel,ζ,ζ⟩
def ű:dU [] 0 (.nd 26 [] 0 pR)=.ok [] []:=Ω
def oR:Of:=[C<|.nd 1 [] [],C<|.nd 1 [] [],C<|.nd 1 [] [],none,C<|.nd 4 [] [],C<|.nd 3 [] [],none,none]
def Š:mW (aQ nR [] [])=.inr oR:=Ω
def Ť:fS (aQ nR [] []) oR=[]:=Ω
theorem AD:Lib.itoa 3=[51]:=by
 unfold Lib.itoa;grind[Lib.decDigits]
theorem Uv:jL nR (aR<|aQ nR [] []) (gK []) 100=C (1,-1,⟨⟨0,0,[],[⟨λ_=>none,none⟩]⟩,93,[[51],[110,117,108,108]],[]⟩):=by
 have h:jL nR (aR<|aQ nR [] []) (gK []) 100=C (1,-1,⟨⟨0,0,[],[⟨λ_=>none,none⟩]⟩,93,[Lib.itoa 3,[110,117,108,108]],[]⟩):=î;rw[h,AD]
def sR:ByteArray:=⟨ξ ([112,114,105,110,116,32,49,32,43,32,50,59,32,112,114,105,110,116,32,116,121,112,101,111,102,32,110,117,108,108,59])⟩
def UR:fQ sR.data.toList nR [] [] oR:=⟨pR,[],Ut,Wz,ű,Š⟩
open Go.Proofs.Tryz
open Go.RowKit Go.Maps
def uH(b:Int)(c:Cx)(a:Of):List (Int×Int):=if b=1 then [] else fS c a
def IG(s)(w)(d:s.size<=Δ)(f:Tbl w){a}(h:a=1\/a=2){fu:Nat}(e:fu<=100000):μ ε 7 #[ι s,U a,U fu] w (yI s.data.toList w (iX s.data.toList) (uH a) fu):=by
 refine Gi (λc N T i j b g=>ZI s c d g b) f e (λc _=>B2c s c d h) λN T i j b=>?_;unfold uH;split
 .simp
 .obtain⟨k,l,_⟩:=b.oj;grind
def Xt(w)(q:Tbl w):μ ε 7 #[ι sR,U 2,U 100] w λe b=>á (V w.heap) w b/\∃g a c d,e=π (.tuple #[.agg #[Y (C<|J g 0) 2 a,U 1,U<|-1,Y c 0 d],.agg #[U 0,U 0]])/\g<V b.heap/\2<=a/\a<=Δ/\δ b (J g 0)=C (ι ⟨ξ ([51])⟩)/\δ b (J g 1)=C (ι ⟨ξ ([110,117,108,108])⟩):=by
 refine(IG sR w ζ q (.inr K) (fu:=100) W).mono ?_;rintro e b ⟨j,⟨t,p,_,m,rfl⟩|⟨N,T,u,z,s,x,A,v,a,c,d,o,h,rfl,r,y⟩⟩
 .exact absurd m UR.not
 .obtain⟨rfl,rfl,rfl,rfl⟩:=o.one UR;have i:uH 2 (aQ nR [] []) oR=[]:=Ť;rw[i,Uv]at h;cases h;obtain⟨g,rfl,_,n,k,l,f⟩:=D5 r ζ;exact⟨j,g,a,c,d,K,n,k,l,f 0 _ K,f 1 _ K⟩
def YS(w)(f:Tbl w):μ ε 4 #[] w λe h=>e=π (.bool τ)/\á (V w.heap) w h:=by
 have c:=O<|Xt w f;go_in;go_wp2_with fail;refine c.u.mono ?_;rintro e o ⟨a,g,n,i,j,rfl,l,k,d,p,q⟩;have b:=O a;unfold Δ at d;have m:=a.size;go_wp2;go_ret;exact⟨K,(b.u.alloc W _).alloc â _⟩
def GZ(l:bZ)(F:Int->Int->Prop)(h:Cx->Of->List (Int×Int))(g:Nat)(a p e j:Int)(i:List bZ)(f:List<|Int×Int):Prop:=
 (a≠0/\F a p)\/(a=0/\p=0/\∃N T b d c,fQ l N T b d/\jL N (aR<|aQ N T b) (gK<|h (aQ N T b) d) g=C (e,j,c)/\i=c.ln/\f=c.ev)
def wF(l:bZ)(w:E)(F:Int->Int->Prop)(n:Cx->Of->List (Int×Int))(m:Nat)(e:ò)(c:E):Prop:=á (V w.heap) w c/\∃h p g k b a i j d f,GZ l F n m h p g k b a/\e=π (.tuple #[.agg #[Y i (Q b) j,U g,U k,Y d (Q a) f],.agg #[U h,U p]])/\
 ρ c (V w.heap) 9 1 (Y i (Q b) j) (Q b) (strs b)/\ρ c (V w.heap) 69 2 (Y d (Q a) f) (Q a) (jN a)
def yI.pd{l}{w}{F}{c}{b}{e}{f}(h:yI l w F c b e f):wF l w F c b e f:=by
 obtain⟨d,⟨k,p,m,n,rfl⟩|⟨N,T,r,y,j,u,a,s,t,g,i,o,q,rfl,v,x⟩⟩:=h
 .exact⟨d,k,p,0,0,[],[],none,0,none,0,.inl ⟨m,n⟩,K,kW _ _ _ _,kW _ _ _ _⟩
 .exact⟨d,0,0,j,u,a.ln,a.ev,s,t,g,i,.inr ⟨K,K,N,T,r,y,a,o,q,K,K⟩,K,v,x⟩
def Zf(k:E)(n:Nat)(i p h j:Int)(c:List bZ)(b:List<|Int×Int)(f:Option í)(g:Nat)(d:Option í)(e:Nat)(B:Nat):Prop:=∀a,I No k a->δ a (J n 0)=C (Y f (Q c) g)/\δ a (J n 1)=C (U h)/\δ a (J n 2)=C (U j)/\δ a (J n 3)=C (Y d (Q b) e)/\δ a (J (n+1) 0)=C (U i)/\δ a (J (n+1) 1)=C (U p)/\n+1<V a.heap/\
 ρ a B 9 1 (Y f (Q c) g) (Q c) (strs c)/\ρ a B 69 2 (Y d (Q b) e) (Q b) (jN b)
def KB{w:E}{er p en nd}{c}{b}{f}{g}{d}{e B}(r:ρ w B 9 1 (Y f (Q c) g) (Q c)<|strs c)(s:ρ w B 69 2 (Y d (Q b) e) (Q b)<|jN b):
 Zf (ω (ω w<|γ #[Y f (Q c) g,U en,U nd,Y d (Q b) e] 31)<|γ #[U er,U p] 25) (V w.heap) er p en nd c b f g d e B:=λa l=>by
 have m:=ν No w<|γ #[Y f (Q c) g,U en,U nd,Y d (Q b) e] 31;have k:=rY w<|γ #[Y f (Q c) g,U en,U nd,Y d (Q b) e] 31;have q:=Ô w<|γ #[Y f (Q c) g,U en,U nd,Y d (Q b) e] 31;generalize ω w (γ #[Y f (Q c) g,U en,U nd,Y d (Q b) e] 31)=u at*;have j:=B6 (ν No u<|γ #[U er,U p] 25) l;have o:=(aG k);have n:=rY u<|γ #[U er,U p] 25;have h:=(j.block _ o λx=>x).trans k;have i:=(l.block _ θ λx=>x).trans n;rw[q]at i;exact⟨(ä _ _ 0 _ _ _ h).trans K,(ä _ _ 1 _ _ _ h).trans K,(ä _ _ 2 _ _ _ h).trans K,(ä _ _ 3 _ _ _ h).trans K,(ä _ _ 0 _ _ _ i).trans K,(ä _ _ 1 _ _ _ i).trans K,(aG i),A3 r (B6 m j) Ξ,A3 s (B6 m j) Ξ⟩
def Uc{s}{w}{P ϊ:Option í->Nat->Nat->Int->Int->E->Prop}(S:∀h,I No w h->V w.heap<V h.heap->μ ε 27 #[ι s] h λe b=>∃d n f c p,e=π (.tuple #[Y d n f,.agg #[U c,U p]])/\á (V h.heap) h b/\P d n f c p b)
 (R:∀h,V w.heap<V h.heap->μ ε 28 #[ι s] h λe b=>∃d n f c p,e=π (.tuple #[Y d n f,.agg #[U c,U p]])/\á (V h.heap) h b/\ϊ d n f c p b):
 μ ε 15 #[ι s,U 3] w λe T=>(∃d n f c p b,P d n f c p b/\c≠0/\I (λk=>k=V w.heap) b T/\e=π (.tuple #[sN,.agg #[U c,U p]]))\/
  ∃d n f p b m t q l u g,P d n f 0 p b/\á (V b.heap) b g/\ϊ m t q l u g/\I (λk=>k=V w.heap) g T/\e=π (.tuple #[Y m t q,.agg #[U l,U u]]):=by
 have N:=rY w<|γ #[U 0,U 0] 25;have D:=O (S _ (ν No w<|γ #[U 0,U 0] 25) θ);have v:=O R;clear S R;go_in;go_wp2_with fail;refine D.u.mono ?_;rintro e b ⟨d,n,f,c,p,rfl,j,L⟩;have i:b.heap[V w.heap]?=C (γ #[U 0,U 0] 25 (0,0)):=(j.block _ θ).trans N;have F:δ b (J (V w.heap) 0)=C (U 0):=ä _ _ 0 _ _ _ i;have G:δ b (J (V w.heap) 1)=C (U 0):=ä _ _ 1 _ _ _ i;have cz:∀o,b.frozen? (J (V w.heap) o)=κ:=λo=>æ _ _ o _ _ i;have H:=(aG i);have B:=O L;have CH:∀(a:E) (x y:υ) (o:Obj),I (λk=>k=V w.heap) a ((σ (σ a (J (V w.heap) 0) x) (J (V w.heap) 1) y).alloc o):=λa x y o=>((é a (J (V w.heap) 0) x).trans (é _ (J (V w.heap) 1) y) λ_ _ e=>e).trans (ν No _ o) λ_ _ e=>e.elim;have Z:∀(a:E) (x y:υ) (o:Obj),I (λk=>k=V w.heap) a (Ø<|(σ (σ a (J (V w.heap) 0) x) (J (V w.heap) 1) y).alloc o):=λa x y o=>(CH a x y o).trans (Ψ No _ 1) λ_ _ e=>e.elim;have a2:=O i;clear D L j N i;by_cases z:c=0
 .subst z;have A:=O (v.u (b.alloc<|γ #[U 0,U p] 25) â);clear v;go_wp2_with fail;refine A.u.mono ?_;rintro e g ⟨m,t,q,l,u,rfl,j,M⟩;have r:g.heap[V w.heap]?=C (γ #[U 0,U 0] 25 (0,0)):=(j.block _ â).trans<|(ν No b<|γ #[U 0,U p] 25).block _ H (λx=>x)|>.trans a2.u;have d0:δ g (J (V w.heap) 0)=C (U 0):=ä _ _ 0 _ _ _ r;have d1:δ g (J (V w.heap) 1)=C (U 0):=ä _ _ 1 _ _ _ r;have dz:∀o,g.frozen? (J (V w.heap) o)=κ:=λo=>æ _ _ o _ _ r;have dl:=(aG r);have HQ:=O M;have a3:Hid (á (V b.heap) b g):=(ô (ν No b<|γ #[U 0,U p] 25) å<|vQ _).trans (j.mono θ);clear A M j r F G cz;go_wp2_with fail;exact ç (v:=.tuple #[Y m t q,.agg #[U l,U u]]) (by simp[ã,results15,go_sem,d0,d1]) K<|.inr ⟨d,n,f,p,b,m,t,q,l,u,g,B.u,a3.u,HQ.u,(é g (J (V w.heap) 0) _).trans (é _ (J (V w.heap) 1) _) λ_ _ e=>e,K⟩
 .have a4:(c==0)=κ:=by simp[z]
  clear v;go_wp2_with fail;go_region;all_goals go_wp2
  all_goals exact ç (v:=.tuple #[sN,.agg #[U c,U p]]) (by simp[ã,results15,go_sem,F,G,H]) K<|.inl ⟨d,n,f,c,p,b,B.u,z,Z _ _ _ _,K⟩
def Ua{s}{w}{g}(N:g≠1/\g≠2/\g≠3){P:Option í->Nat->Nat->Int->Int->E->Prop}(F:∀i,I No w i->V w.heap<V i.heap->μ ε 27 #[ι s] i λe c=>∃d n f b p,e=π (.tuple #[Y d n f,.agg #[U b,U p]])/\á (V i.heap) i c/\P d n f b p c):
 μ ε 15 #[ι s,U g] w λe R=>∃d n f b p c j m,P d n f b p c/\I (λk=>k=V w.heap) c R/\((b≠0/\j=b/\m=p)\/(b=0/\j=7/\m=0))/\e=π (.tuple #[sN,.agg #[U j,U m]]):=by
 obtain⟨G,H,L⟩:=N;have m1:(g==1)=κ:=by simpa using G
 have m2:(g==2)=κ:=by simpa using H
 have m3:(g==3)=κ:=by simpa using L
 have B:=rY w<|γ #[U 0,U 0] 25;have t:=O (F _ (ν No w<|γ #[U 0,U 0] 25) θ);clear F;go_in;go_wp2_with fail;refine t.u.mono ?_;rintro e c ⟨d,n,f,b,p,rfl,D,A⟩;have h:c.heap[V w.heap]?=C (γ #[U 0,U 0] 25 (0,0)):=(D.block _ θ).trans B;have u:δ c (J (V w.heap) 0)=C (U 0):=ä _ _ 0 _ _ _ h;have v:δ c (J (V w.heap) 1)=C (U 0):=ä _ _ 1 _ _ _ h;have S:∀o,c.frozen? (J (V w.heap) o)=κ:=λo=>æ _ _ o _ _ h;have z:=(aG h);have r:=O A;have q:∀(a:E) (x y:υ) (o:Obj),I (λk=>k=V w.heap) a ((σ (σ a (J (V w.heap) 0) x) (J (V w.heap) 1) y).alloc o):=λa x y o=>((é a (J (V w.heap) 0) x).trans (é _ (J (V w.heap) 1) y) λ_ _ e=>e).trans (ν No _ o) λ_ _ e=>e.elim;have M:∀(a:E) (x y:υ) (o:Obj),I (λk=>k=V w.heap) a (Ø<|(σ (σ a (J (V w.heap) 0) x) (J (V w.heap) 1) y).alloc o):=λa x y o=>(q a x y o).trans (Ψ No _ 1) λ_ _ e=>e.elim;clear t A D B h G H L;by_cases l:b=0
 .subst l;go_wp2;exact ç (v:=.tuple #[sN,.agg #[U 7,U 0]]) (by simp[ã,results15,go_sem,u,v,z]) K ⟨d,n,f,0,p,c,7,0,r.u,q _ _ _ _,.inr ⟨K,K,K⟩,K⟩
 .have T:(b==0)=κ:=by simp[l]
  go_wp2_with fail;go_region;all_goals go_wp2
  all_goals exact ç (v:=.tuple #[sN,.agg #[U b,U p]]) (by simp[ã,results15,go_sem,u,v,z]) K ⟨d,n,f,b,p,c,b,p,r.u,M _ _ _ _,.inl ⟨l,K,K⟩,K⟩
def iS(c:Cx):Nat->uZ
 |0=>[]
 |j+1=>iS c j++(if (aA c.N j).x=18/\c.fn.getD j 0≠c.fn.getD (eH c j).toNat 0 then [eH c j] else [])
theorem jX{g a}:∀n,(∀j,j<n->g j=a j)->U5 g n=U5 a n
 |0,_=>K
 |n+1,h=>by rw[U5,U5,jX n λj b=>h j W,h n W]
theorem Iu(g):∀(n) (x),fZ (U5 g n) x=if 0<=x/\x<n then g x else none
 |0,x=>by
  rw[wY W];rfl
 |n+1,x=>by
  have c:=Iu g n x;rw[U5];cases b:g (n:Int) with
  |none=>
   simp only[iY];rw[c];by_cases a:x=n
   .subst a;rw[wY W,yY W,b]
   .by_cases h:0<=x/\x<n
    .rw[yY h,yY W]
    .rw[wY h,wY W]
  |some v=>
   simp only;rw[CY];simp only;by_cases a:x=n
   .subst a;rw[yY K,yY W,b]
   .rw[wY a,c];by_cases h:0<=x/\x<n
    .rw[yY h,yY W]
    .rw[wY h,wY W]
def fQ.qw{l}{N:List Nd}{T:List Ty}{a:List (Nat×Int)}{b}(h:fQ l N T a b)(L):(bH (aQ N T a) (fZ<|fS (aQ N T a) b) L (Q (aQ N T a).N) ((Q (aQ N T a).N:Int)-1) ⟨λ_=>none,[]⟩).lf.Sublist (fS (aQ N T a) b):=by
 obtain⟨k,g,_,f,_,_⟩:=h;have c:=(YD f a (fZ<|fS (aQ N T a) b) L (Q (aQ N T a).N)).1;have d:U5 (fZ<|fS (aQ N T a) b) (Q N)=fS (aQ N T a) b:=by
  have e:fS (aQ N T a) b=U5 (pX (aQ N T a) b (Q N)) (Q N):=K;rw[e];exact jX _ λj i=>by rw[Iu,yY W]
 rw[d]at c;exact c
def mV(c):∀j,Q (iS c j)<=j
 |0=>vQ _
 |j+1=>by
  have:=mV c j;rw[iS,qQ];split<;>simp<;>omega
def Mr(l:uZ)(x):x∈Lib.compact l↔x∈l:=by
 unfold Lib.compact Lib.compactUpTo;have c:∀j,j<Q l->(ξ l)[j]!∈l:=λj a=>by
  rw[getElem!_pos (ξ l) j<|by simpa using a];simp
 have e:∀j,j<Q l->(ξ l)[j]!∈((List.range (Q l)).filter<|Lib.keeps (ξ l)).map ((ξ l)[·]!):=λj=>by
  induction j with
  |zero=>exact λa=>kZ.2 ⟨0,List.mem_filter.2 ⟨List.mem_range.2 a,Lib.keeps_lt_one _ 0 W⟩,K⟩
  |succ j d=>
   intro a;by_cases b:(ξ l)[j+1]! =(ξ l)[j+1-1]!
   .rw[b];exact d W
   .exact kZ.2 ⟨j+1,List.mem_filter.2 ⟨List.mem_range.2 a,Lib.keeps_pos b⟩,K⟩
 constructor
 .intro h;obtain⟨j,a,rfl⟩:=kZ.1 h;exact c j<|List.mem_range.1 (List.mem_filter.1 a).1
 .intro h;obtain⟨j,a,rfl⟩:=List.mem_iff_getElem.1 h;have:=e j a;rwa [getElem!_pos (ξ l) j<|by simpa using a]at this
def ZD{w}{B g a}{l d}(p:ρ w B 3 1 (Y (C<|J g 0) (Q l) a) (Q l)<|C8 l)(i:Q d=Q l)(n)(c):
 I (λk=>k=g) w (Sort.grow (Sort.putRow (Value.int χ) (Sort.ahead w n) g 0 (ξ d)) c)/\ρ (Sort.grow (Sort.putRow (Value.int χ) (Sort.ahead w n) g 0 (ξ d)) c) B 3 1 (Y (C<|J g 0) (Q l) a) (Q l) (C8 d):=by
 obtain⟨e,_⟩|⟨s,q,r,b,f,j,o,m,h,t⟩:=p.2
 .simp at e
 .simp only[Value.slice.injEq,zQ,Addr.mk.injEq,and_true,true_and]at b;obtain⟨rfl,rfl⟩:=b;exact⟨(ü<|grownBy_sortedI (ξ d)).mono λk _ x=>by simpa using x,ownsRow_sortedI i f j o m h⟩
def Pq{w:E}{B g c n}{a b}(d:ρ w B 3 1 (Y (C<|J g 0) n c) n<|C8<|a++b):ρ w B 3 1 (Y (C<|J g 0) (Q a) c) (Q a) (C8 a):=by
 have l:=d.1;simp only[C8,lZ,qQ,Nat.mul_one]at l;obtain⟨h,_⟩|⟨q,p,f,e,i,k,r,m,j,o⟩:=d.2
 .simp at h
 .simp only[Value.slice.injEq,zQ,Addr.mk.injEq,and_true,true_and]at e;obtain⟨rfl,rfl⟩:=e;refine⟨by simp[C8],.inr ⟨g,c,f,K,i,k,W,m,j,?_⟩⟩;have:=congrArg (List.take (Q a)) o;rw[List.take_take]at this;rw[Nat.mul_one]at this⊢;rw[Nat.min_eq_left W]at this;rw[this];simp[C8]
def Ya{w:E}{B}{b}{a}{l}(c:ρ w B 3 1 (Y b (Q l) a) (Q l)<|C8 l)(F:Q l<=1000000):
 μ ε 153 #[Y b (Q l) a] w λe d=>e=rT/\I (λk=>Θ (Y b (Q l) a)=C k) w d/\∃h,Q h=Q l/\(∀x,x∈h↔x∈l)/\ρ d B 3 1 (Y b (Q l) a) (Q l) (C8 h):=by
 by_cases f:Q l=0
 .rw[f];refine(Tryz.slices_Sort_int_none b a w).mono ?_;rintro e d ⟨rfl,rfl⟩;rw[f]at c;exact⟨K,ì _ _,l,f,λ_=>Iff.rfl,c⟩
 .obtain⟨g,rfl,D,o,z,A,m⟩:=D5 c W;obtain⟨_,v,p⟩:=A9 c g K;refine(Tryz.slices_Sort_int g 0 a l w (λj i=>?_) o W).mono ?_
  .have q:j<Q l:=by simpa using i
   refine⟨?_,æ w g _ _ _ p⟩;rw[Þ,m j (U l[j])<|by simp[C8,q],getElem!_pos (ξ l) j i];rfl
  .rintro e d ⟨rfl,n,r,rfl⟩;obtain⟨s,t⟩:=ZD c (d:=l.mergeSort λx y=>decide<|x<=y) (List.length_mergeSort _) n r;exact⟨K,s.mono λk _ x=>by have u:k=g:=x;rw[u];rfl,_,List.length_mergeSort _,λx=>List.mem_mergeSort,t⟩
def C2d{w:E}{B}{b}{a}{l}(d:ρ w B 3 1 (Y b (Q l) a) (Q l)<|C8 l)(H:Q l<=1000000):
 μ ε 154 #[Y b (Q l) a] w λe h=>I (λk=>Θ (Y b (Q l) a)=C k) w h/\∃c,Q c<=Q l/\(∀x,x∈c↔x∈l)/\e=π (Y b (Q c) a)/\ρ h B 3 1 (Y b (Q c) a) (Q c) (C8 c):=by
 by_cases f:Q l=0
 .rw[f];refine(Tryz.slices_Compact_int_empty b a w).mono ?_;rintro e h ⟨rfl,rfl⟩;rw[f]at d;exact⟨ì _ _,l,W,λ_=>Iff.rfl,by rw[f],by rw[f];exact d⟩
 .obtain⟨g,rfl,F,G,r,D,s⟩:=D5 d W;obtain⟨_,A,t⟩:=A9 d g K;refine(Tryz.slices_Compact_int g 0 a l w (λj m=>?_) W r).mono ?_
  .have u:j<Q l:=by simpa using m
   refine⟨?_,æ w g _ _ _ t⟩;rw[Þ,s j (U l[j])<|by simp[C8,u],getElem!_pos (ξ l) j m];rfl
  .rintro e h ⟨rfl,q,rfl⟩;have v:Q (Lib.compact l)<=Q l:=by
    unfold Lib.compact Lib.compactUpTo;rw[lZ];refine kQ (List.length_filter_le _ _) ?_;rw[List.length_range];exact vQ _
   have y:Q (Lib.compact l++ó (Q l-Q (Lib.compact l)) 0)=Q l:=by
    rw[qQ,List.length_replicate];omega
   obtain⟨n,o⟩:=ZD d y q #[];have p:∀i:E,Sort.grow i #[]=i:=λi=>by simp[Sort.grow]
   rw[p]at n o;refine⟨n.mono λk _ x=>by have z:k=g:=x;rw[z];rfl,_,v,Mr l,K,Pq o⟩
def Jo(c:Cx)(w:E)(e:ò)(d:E):Prop:=á (V w.heap) w d/\∃(b:Option í) (a:Nat) (L:uZ),e=π (.tuple #[Y b (Q L) a,.agg #[U 0,U 0]])/\Q L<=1200/\(∀x,x∈L↔x∈iS c (Q c.N))/\ρ d (V w.heap) 3 1 (Y b (Q L) a) (Q L) (C8 L)
def Sw(s)(w:E)(a6:s.size<=Δ){N}{T}{b}{ck}(c8:fQ s.data.toList N T b ck):μ ε 96 #[ι s] w (Jo (aQ N T b) w):=by
 obtain⟨ps,fs,hr,H,ae,bs⟩:=c8;have z:jG (aQ N T b):=yP H ae H.tx;have HR:Hid (∀u,μ ε 105 #[ι s] u λe g=>á (V u.heap) u g/\∃B h i tv av ms,V u.heap<=B/\e=π (.tuple #[pV h,.agg #[U 0,U 0]])/\hG g B h i av tv ms 2400 fs (aQ N T b).ts/\cU g i (aQ N T b).N):=λu=>by
  refine(Gy s u a6).mono ?_;rintro e g ⟨M,⟨er,cx,al,_⟩|⟨N',T',cl,B,h,i,tv,al,br,hB,hm⟩⟩
  .have:=al.one hr;simp at this
  .have e1:=al.one hr;simp only[Sum.inr.injEq,Prod.mk.injEq]at e1;obtain⟨rfl,rfl⟩:=e1;obtain rfl:=GK br H;rw[show kU cl=.ok fs b from ae]at hm;obtain⟨e0,av,ms,a6,hn⟩:=hm;exact⟨M,B,h,i,tv,av,ms,hB,e0,a6,hn⟩
 have bq:0<Q (aQ N T b).N:=by
  have:=H.j8;show 0<Q N;omega
 have bx:(aQ N T b).fn=kC (aQ N T b).N:=K;have HF:Hid (∀u i,cU u i (aQ N T b).N->μ ε 56 #[i] u λe g=>∃fv,e=π fv/\I No u g/\ρ g (V u.heap) 3 1 fv (Q (aQ N T b).N) (C8 (aQ N T b).fn)):=λu i a2=>VI z.ew z.ls bq z.fp u i a2;generalize aQ N T b=c at*;clear hr H ae bs bx a6;have b1:=rY w<|γ #[U 0,U 0] 25;obtain⟨i0,hi,cf,cg,ch⟩:=ý Tryz.fy;have HQ:Hid (∀g f d (L:uZ),á (V w.heap) w g->Q L<=1200->(∀x,x∈L↔x∈iS c (Q c.N))->ρ g (V w.heap) 3 1 (Y f (Q L) d) (Q L) (C8 L)->Jo c w (π<|.tuple #[Y f (Q L) d,.agg #[U 0,U 0]]) g):=λg f d L h1 h2 h3 h4=>⟨h1,f,d,L,K,h2,h3,h4⟩;go_in;go_wp2_with fail;refine(HR.u _).mono ?_;clear HR;rintro e R ⟨M,B,h,i,tv,av,ms,hB,rfl,P,a3⟩;have f0:R.heap[V w.heap]?=C (γ #[U 0,U 0] 25 (0,0)):=by
  rw[M.block _ θ];exact b1
 have gl:=(aG f0);have ap:Hid (á (V w.heap) w R):=(ô (ν No w _) å<|vQ _).trans (M.mono θ);have bi:=O f0;have b0:=O P;have bm:=O a3;have cn:=z.fp;have aa:=O z;obtain⟨na,nc,a4⟩:∃na nc,i=Y na (Q c.N) nc:=by
  obtain⟨nx,hn,_⟩:=a3;exact B8 hn
 subst a4;obtain⟨ta,tc,cc⟩:=B8 P.js;subst cc;have cj:=(aG P.blk);have bh:R.cell? (J h 0)=C (Y na (Q c.N) nc):=cr P.blk K;have C1:=ν No R<|γ #[U 0,U 0] 25;have au:=O<|HF.u _ _<|a3.eu C1 λ_ _ _ _ _ _ x=>x;have aq:=O C1;clear P a3 z M b1 f0 HF hB C1;go_wp2_with fail;refine au.u.mono ?_;rintro e a ⟨fv,rfl,b4,ah⟩;have v:=O<|B6 aq.u b4;have aw:=O ah;obtain⟨fa,fc,bz⟩:=B8 ah;subst bz;have pz:δ a (J h 0)=C (Y na (Q c.N) nc):=A4 v.u bh;have cv:h<V a.heap:=yQ cj v.u.size;clear b4 ah au aq bh;go_wp2_with fail;go_loopw [29,6] (λan u wr=>∃(j:Nat) (f:Option í) (d:Nat),j<=Q c.N/\an=U (j:Int)/\u=Y f (Q (iS c j)) d/\Hid (I No a wr)/\Hid (wr.ownsRow (V a.heap) 3 1 (Y f (Q (iS c j)) d) (Q (iS c j))<|C8<|iS c j)) (λan _ _=>Q c.N-(intOf an).toNat);case atStart=>exact⟨0,none,0,wQ _,K,K,ì _ _,kW _ _ _ _⟩
 case round=>
  obtain⟨j,f,d,hj,rfl,rfl,CR,q⟩:=hrel;have ce:V a.heap<=wr.heap.size:=CR.u.size;have bt:=mV c j;by_cases aj:j<Q c.N
  .have a9:Hid (I No R wr):=B6 v.u CR.u;obtain⟨ng,cw,la,lc,a4,hg,cq,c7,⟨x0,x1,x2,x3,x4,x5,x6,x7,x8⟩,-,-⟩:=(bm.u.eu a9.u λ_ _ _ _ _ _ x=>x).at (ñ _ _) j aj;simp only[Value.slice.injEq,true_and]at a4;obtain⟨rfl,rfl⟩:=a4;unfold Δ at c7;have ab:wr.heap[h]?=_:=D9 a9.u b0.u.blk;have b2:wr.cell? (J h 2)=C (Y ta (Q c.ts) tc):=cr ab K;have ci:=(aG ab);have l:Hid (iS c (j+1)=iS c j++(if c.N[j].x=18/\c.fn.getD j 0≠c.fn.getD (eH c j).toNat 0 then [eH c j] else [])):=by
    show _=_;rw[iS,B7 aj]
   have ag:=aa.u.sv;obtain⟨fg,bw,cp,bu,bv,y1⟩:=D6 (ls:=c.fn) (by rw[ag];exact C7 (A3 aw.u CR.u Ξ)<|wQ _) (j:=j) W;subst bw;rw[ag]at bu;unfold Δ at bv;have Z:=O λm=>aa.u.mw.tg j aj<|.inr m;have HY:Hid (∀n (a2:n<Q c.fn),wr.cell? (J fg n)=C (U c.fn[n])):=λn a2=>by
    obtain⟨cy,e,_,_,_,hy⟩:=D6 (ls:=c.fn) (by rw[ag];exact C7 (A3 aw.u CR.u Ξ)<|wQ _) a2;simp only[zQ,Addr.mk.injEq,and_true]at e;subst e;exact hy
   have ct:Q c.ts=Q c.N:=aa.u.mw.len;obtain⟨tg,ca,cb,cs,c9,t1⟩:=D6 (C7 (A3 b0.u.js a9.u Ξ)<|wQ _) (j:=j) W;subst ca;unfold Δ at c9;have b9:c.fn.getD j 0=c.fn[j]'W:=by rw[lQ,gQ W];rfl
   have ai:c.ts.getD j 0=c.ts[j]'W:=by rw[lQ,gQ W];rfl
   have hx:eH c j=c.ts[j]'W:=by unfold eH;rw[tQ];exact ai
   rw[b9]at l;rw[ai]at Z;rw[hx]at l;clear b9 ai hx ab;generalize c.ts[j]'W=tj at*;generalize c.fn[j]'W=fj at*;obtain⟨G,b3⟩:∃G,iS c j=G:=⟨_,K⟩;rw[b3]at q l bt⊢;clear b3;generalize c.N[j]=nd at*;obtain⟨kd,va,vb,vc,ls,tx,vn,vt,vp⟩:=nd;simp only at*;have t:=ν No wr<|aM kd va vb vc (Y la (Q ls) lc) tx vn vt vp;by_cases m:kd=18
   .subst m;obtain⟨n,rfl,hn,-⟩:=Z.u K;have yn:=HY.u n W;have ba:c.fn.getD ((n:Int)).toNat 0=c.fn[n]'W:=by rw[tQ,lQ,gQ W];rfl
    rw[ba]at l;clear ba HY Z;generalize c.fn[n]'W=fn at*;by_cases A:fj=fn
    .have gf:(fj !=fn)=κ:=by simpa using A
     have o:Hid (iS c (j+1)=G):=by
      show _=_;rw[l.u,wY<|by simp[A],iY]
     have a8:=O<|B6 CR.u t;clear l t A;go_wp2_with fail;go_quiet (fail);go_wp2_with fail;go_roundw;case rel=>exact⟨j+1,f,d,W,ï,by rw[o.u],B6 a8.u<|Ψ _ _ _,by rw[o.u];exact A3 q.u (B6 (ν No wr _)<|Ψ _ _ _) Ξ⟩
     case measure=>simp[intOf];omega
    .have gf:(fj !=fn)=τ:=by simpa using A
     have o:Hid (iS c (j+1)=G++[(n:Int)]):=by
      show _=_;rw[l.u,yY ⟨K,A⟩]
     clear l A;go_wp2_with fail;go_quiet (fail);have p:Hid (I No wr _):=B6 t<|Ψ _ _ nq;generalize (wr.alloc<|aM 18 va vb vc (Y la (Q ls) lc) tx vn vt vp).drewN nq=r at*;have z2:=A4 p.u b2;have zt:=A4 p.u t1;have b:h<V r.heap:=yQ ci p.u.size;have lt:tg<V r.heap:=yQ cb p.u.size;have cu:V a.heap<=V r.heap:=kQ ce p.u.size;have F:=O<|(A3 q.u p.u Ξ).alloc<|γ #[U (n:Int)] 3;clear t x0 x1 x2 x3 x4 x5 x6 x7 x8 y1 yn b2 t1;go_wp2_with (at_builtin;refine Ù _ K _ _ 80 K (V a.heap) 3 i0 (U 0) 1 8 underlying80 hi cf cg ch K ζ _ _ _ K F.u (J (V r.heap) 0) 1 1 [U (n:Int)] K K ?c1 ?c2 ?c3 ?c4 ?c5 ?_);case c1=>exact Ó (cs:=#[U (n:Int)]) (t:=3) (fr:=(0,0))<|rY r _
     case c2=>intro u hu;simp at hu;subst hu;rfl
     case c3=>simp only[Δ];omega
     case c4=>omega
     case c5=>simp;omega
     intro v' a7 ak b8 _;obtain⟨bp,c4,rfl⟩:=B8 ak;have bn:=O ak;have b7:I (λk=>V a.heap<=k) r a7:=(ν (λk=>V a.heap<=k) r<|γ #[U (n:Int)] 3).trans (ü b8) λk m x=>(A9 F.u k x.symm).1;have S:Hid (I No a a7):=(((B6 CR.u p.u).mono (S':=λk=>V a.heap<=k) å).trans b7 Ξ).mono (λk m x=>W);clear ak b8 b7;go_wp2_with fail;go_roundw;case rel=>exact⟨j+1,bp,c4,W,ï,by rw[o.u,qQ,Û],S,(show ρ _ _ _ _ _ _ _ from by rw[o.u,T4,qQ,Û];exact bn.u)⟩
     case measure=>simp[intOf];omega
   .have gk:(kd==18)=κ:=by simpa using m
    have o:Hid (iS c (j+1)=G):=by
     show _=_;rw[l.u,wY<|by simp[m],iY]
    have a8:=O<|B6 CR.u t;clear l t Z HY;go_wp2_with fail;go_quiet (fail);go_wp2_with fail;go_roundw;case rel=>exact⟨j+1,f,d,W,ï,by rw[o.u],B6 a8.u<|Ψ _ _ _,by rw[o.u];exact A3 q.u (B6 (ν No wr _)<|Ψ _ _ _) Ξ⟩
    case measure=>simp[intOf];omega
  .have c6:j=Q c.N:=W;subst c6;have az:=O (Ya q.u W);generalize iS c (Q c.N)=L0 at*;go_wp2_with fail;refine az.u.mono ?_;rintro e a7 ⟨rfl,b5,L1,bc,be,a5⟩;have c4:I No a a7:=((CR.u.mono (S':=λk=>V a.heap<=k) å).trans b5 λk _ x=>(A9 q.u k x).1).mono (λk m x=>W);rw[<-bc]at a5⊢;have ar:=O (C2d a5 W);have ay:=O be;have F:=O a5;have S:=O c4;have ax:Hid (L1.length<=1200):=by show _<=_;omega
   clear b5 be a5 c4 az q bc;go_wp2_with fail;refine ar.u.mono ?_;rintro e D ⟨b6,L2,bd,bf,rfl,bg⟩;have c5:I No a D:=((S.u.mono (S':=λk=>V a.heap<=k) å).trans b6 λk _ x=>(A9 F.u k x).1).mono (λk m x=>W);have y:D.heap[V w.heap]?=C (γ #[U 0,U 0] 25 (0,0)):=D9 c5<|D9 v.u bi.u;have g0:D.cell? (J (V w.heap) 0)=C (U 0):=cr y K;have g1:D.cell? (J (V w.heap) 1)=C (U 0):=cr y K;have gz:∀am,D.frozen? (J (V w.heap) am)=κ:=λam=>æ D _ am _ _ y;have cm:=(aG y);have af:=RZ y;have cd:V w.heap<=V a.heap:=kQ (Nat.le_of_lt gl) v.u.size;have ao:Hid (á (V w.heap) w _):=ap.u.trans<|ô (B6 (B6 v.u c5) af) å ap.u.size;have bo:=O<|HQ.u _ f d L2 ao.u (kQ bd ax.u) (λx=>(bf x).trans<|ay.u x)<|A3 (C7 bg cd) af Ξ;clear b6 bf bg c5 y af ao HQ ay F S ar bd ax;generalize L2.length=bl at*;go_wp2_with fail;exact ç (v:=.tuple #[Y f bl d,.agg #[U 0,U 0]]) (by simp[ã,results96,go_sem,g0,g1]) K bo.u
def Ci(c:Cx)(R:List<|Int×Int)(w:E)(e:ò)(b:E):Prop:=∃d a l k f L g i j h,h=(Q c.N:Int)-1/\δ b (J a 2)=C (U h)/\V w.heap<=V d.heap/\e=π (pV g)/\I No w b/\(∀x,x∈L↔x∈iS c (Q c.N))/\iU d c a l k f L/\dL d b a f g i j (fZ R) 0 ⟨λ_=>none,[]⟩
def GN(R:List<|Int×Int):Prop:=Q R<=1200/\∀p∈R,(0<=p.1/\p.1<=1000000)/\0<=p.2/\p.2<128
def GN.tn{R}(h:GN R):∀l,(∀p∈l,p∈R)->bP (fZ l):=by
 have g:∀(l:List<|Int×Int) (f:Int->Option Int),(∀p∈l,p∈R)->bP f->bP (l.foldl (λf p=>λx=>if x=p.1 then C p.2 else f x) f):=λl=>by
  induction l with
  |nil=>exact λf _ b=>b
  |cons p r d=>
   intro f a b;refine d _ (λq c=>a q<|by simp[c]) λx v e=>?_;simp only at e;split at e
   .simp only[zQ]at e;have:=h.2 p (a p θ);omega
   .exact b x v e
 exact λl a=>g l _ a bP.no
def dL.new(a)(c)(b):dL a (((a.alloc<|.map #[] 0).alloc<|.map #[] 0).alloc<|γ #[pV c,.map<|C (V a.heap),b,.map<|C<|V a.heap+1,sN] 123) c b (V a.heap+1+1) (V a.heap) (V a.heap+1) (λ_=>none) 0 ⟨λ_=>none,[]⟩:=by
 refine⟨B6 (B6 (ν _ _ _)<|ν _ _ _)<|ν _ _ _,⟨sN,?_,kW _ _ _ _⟩,?_,?_,⟨W,W,W⟩,W,vQ _,bP.no,bP.no⟩
 .have:=rY ((a.alloc<|.map #[] 0).alloc<|.map #[] 0)<|γ #[pV c,.map<|C (V a.heap),b,.map<|C<|V a.heap+1,sN] 123;simpa using this
 .exact((cQ.new a).P (B6 (ν No _ _)<|ν No _ _) λx=>x).more W
 .have:=(cQ.new<|a.alloc<|.map #[] 0).P (ν No _<|γ #[pV c,.map<|C (V a.heap),b,.map<|C<|V a.heap+1,sN] 123) λx=>x;simp only[Ô]at this;exact this
def dL.sn{t w j}{r c a o m}{l}{g d:Gm}{s}(h:dL t w r l c a o g m s)(b:I (λk=>k=a) w j)(A:cQ j a 5000 d)(y:bP d):dL t j r l c a o d m s:=by
 obtain⟨B,f,n⟩:=h.blk;have p:∀{q u e v},w.heap[q]?=C (γ u e v)->q≠a:=λi x=>by
  subst x;exact h.gs.et i
 refine⟨h.P.trans b λk F x=>by have:=h.lo.2.1;have G:k=a:=x;omega,⟨B,?_,A3 n b λq i x=>?_⟩,A,h.ks.P b λx=>h.ne x.symm,h.lo,h.ne,h.fq,h.tg,y⟩
 .rw[b.block c (aG f)<|p f];exact f
 .obtain⟨_,D,z⟩:=A9 n q i;exact p z x
def vm(s)(w:E)(a3:s.size<=Δ){N}{T}{h}{bb}(o:fQ s.data.toList N T h bb){R}(z:GN R){M}{P}(ho:ρ w 0 90 2 (Y M (Q R) P) (Q R)<|S4 R):
 μ ε 52 #[ι s,Y M (Q R) P] w (Ci (aQ N T h) R w):=by
 have HR:Hid (∀u,μ ε 29 #[ι s] u λe b=>á (V u.heap) u b/\∃d g f,e=π (.tuple #[pV d,.agg #[U 0,U 0]])/\cU b f (aQ N T h).N/\cQ b g 5000 (lS<|aQ N T h)/\∃q p n ov,b.heap[d]?=C (γ (rM (aQ N T h) f q ((Q (aQ N T h).N:Int)-1) p g n ov) 96 (0,0))):=λu=>by
  refine(MI s u a3).mono ?_;rintro e b ⟨b2,⟨er,a5,v,b6,rfl⟩|⟨N',T',bo,br,ba,w0,d,p,mb,g,f,q,mn,n,bd,bs,Z,bm,bh,bi,hB,rfl,hZ,z,S,b9⟩⟩
  .exact absurd b6 o.not
  .obtain⟨rfl,rfl,rfl,rfl⟩:=ba.one o;subst b9;obtain⟨ov,bc,b3,_⟩:=S.st;exact⟨b2,d,g,f,K,hB.fx S.P,hB.nm S.P,q,p,n,ov,b3⟩
 have a8:=O λu=>Sw s u a3 o;have ao:jG (aQ N T h):=by
  obtain⟨ps,fs,_,hP,b4,_⟩:=o;exact yP hP b4 hP.tx
 have bj:=@run_makeMap ε;generalize aQ N T h=c at*;have HO:=O ho;have ae:=O z;have bf:=z.1;clear a3 o ho z;go_in;go_wp2_with fail;refine(HR.u _).mono ?_;rintro e D ⟨Z,d,g,f,rfl,ai,ak,q,p,n,ov,aj⟩;have af:I No w (D.alloc<|γ #[U 0,U 0] 25):=B6 ((I.below Z).mono λ_ hi x=>W)<|ν _ _ _;have a1:=ν No D<|γ #[U 0,U 0] 25;have a7:=O af;have ab:Hid (∀u,I No (D.alloc<|γ #[U 0,U 0] 25) u->cU u f c.N/\cQ u g 5000 (lS c)/\u.heap[d]?=C (γ (rM c f q ((Q c.N:Int)-1) p g n ov) 96 (0,0))):=λu hu=>⟨ai.eu (B6 a1 hu) λ_ _ _ _ _ _ x=>x,ak.P (B6 a1 hu) λx=>x,D9 (B6 a1 hu) aj⟩;clear HR Z ai ak aj af a1;go_wp2_with fail;refine(a8.u _).mono ?_;rintro e a ⟨am,i,l,L,rfl,az,ag,ah⟩;have H:I No (D.alloc<|γ #[U 0,U 0] 25) (a.alloc<|γ #[U 0,U 0] 25):=B6 ((I.below am).mono λ_ hi x=>W)<|ν _ _ _;have r:=O<|B6 a7.u H;obtain⟨n2,q2,a6⟩:=ab.u _ H;have ad:Hid (iU (a.alloc<|γ #[U 0,U 0] 25) c d g f (Y i (Q L) l) L):=⟨ao,n2,q2,⟨_,_,_,_,_,a6⟩,A3 (C7 ah<|wQ _) (ν No _ _) Ξ,W⟩;have a9:=O ag;have ac:=O a6;clear ab a8 am az ag ah n2 q2 a6 H ao a7;go_wp2_with fail;have m:=O<|dL.new (a.alloc<|γ #[U 0,U 0] 25) d<|Y i (Q L) l;have a4:V (a.alloc<|γ #[U 0,U 0] 25).heap=V a.heap+1:=θ;rw[a4]at m;have HQ:Hid (∀b t,bP t->t=fZ R->I (λk=>k=V a.heap+1) ((((a.alloc<|γ #[U 0,U 0] 25).alloc<|.map #[] 0).alloc<|.map #[] 0).alloc<|γ #[pV d,.map<|C<|V a.heap+1,Y i (Q L) l,.map<|C<|V a.heap+1+1,sN] 123) b->cQ b (V a.heap+1) 5000 t->Ci c R w (π<|pV<|V a.heap+1+1+1) b):=λb t hg he A hi=>by
  have hF:=m.u.sn A hi hg;subst he;have b0:=D9 hF.P ac.u;have hz:=r.u.size;exact⟨_,d,g,f,_,L,_,_,_,_,K,cr b0 K,hz,K,B6 r.u hF.P,a9.u,ad.u,hF⟩
 have aa:Hid (∀b,I (λk=>k=V a.heap+1) ((((a.alloc<|γ #[U 0,U 0] 25).alloc<|.map #[] 0).alloc<|.map #[] 0).alloc<|γ #[pV d,.map<|C<|V a.heap+1,Y i (Q L) l,.map<|C<|V a.heap+1+1,sN] 123) b->ρ b 0 90 2 (Y M (Q R) P) (Q R) (S4 R)/\δ b (J (V a.heap+1+1+1) 1)=C (.map<|C<|V a.heap+1)/\V a.heap+1+1+1<V b.heap):=λb A=>by
  have h1:I No w b:=B6 r.u (m.u.P.trans A λk hk x=>by have x':k=V a.heap+1:=x;omega);obtain⟨bq,hb,_⟩:=m.u.blk;have al:=(A.block _ (aG hb) W).trans hb;exact⟨A3 HO.u h1 Ξ,cr al K,(aG al)⟩
 have ax:Hid (cQ ((((a.alloc<|γ #[U 0,U 0] 25).alloc<|.map #[] 0).alloc<|.map #[] 0).alloc<|γ #[pV d,.map<|C<|V a.heap+1,Y i (Q L) l,.map<|C<|V a.heap+1+1,sN] 123) (V a.heap+1) 0<|fZ<|R.take 0):=by
  have:=(cQ.new<|a.alloc<|γ #[U 0,U 0] 25).P (B6 (ν No _<|.map #[] 0)<|ν No _<|γ #[pV d,.map<|C<|V a.heap+1,Y i (Q L) l,.map<|C<|V a.heap+1+1,sN] 123) λx=>x;rw[a4]at this;exact this
 clear m ad a9 ac r a4 HO;generalize ((((a.alloc<|γ #[U 0,U 0] 25).alloc<|.map #[] 0).alloc<|.map #[] 0).alloc<|γ #[pV d,.map<|C<|V a.heap+1,Y i (Q L) l,.map<|C<|V a.heap+1+1,sN] 123)=W3 at*;go_loopw [30] (λv wr=>∃j:Nat,j<=Q R/\v=U (j:Int)/\Hid (I (λk=>k=V a.heap+1) W3 wr)/\Hid (cQ wr (V a.heap+1) j<|fZ<|R.take j)) (λv _=>Q R-(intOf v).toNat);case atStart=>exact⟨0,wQ _,K,ì _ _,ax⟩
 case round=>
  obtain⟨j,hj,rfl,CR,IM⟩:=hrel;obtain⟨oR,b1,bp⟩:=aa.u wr CR.u;by_cases B:j<Q R
  .obtain⟨be,b8,-,hg,bg,b5,a2⟩:=D5 oR W;subst b8;have v1:=a2 (j*2+1) _ (DC R j B).2;have v0:=a2 (j*2) _ (DC R j B).1;have rg:=ae.u.2 R[j]<|mQ B;have G:Hid (fZ (R.take<|j+1)=λx=>if x=R[j].1 then C R[j].2 else fZ (R.take j) x):=by
    show _=_;rw[nQ B,CY]
   obtain⟨⟨x,y⟩,ar⟩:∃a5,R[j]=a5:=⟨_,K⟩;rw[ar]at v0 v1 rg G;simp only at v0 v1 rg G;unfold Δ at b5;have F:=B6 (ν No wr<|γ #[U x,U y] 90)<|Ψ No _ 1;obtain⟨au,aq,ap,an⟩:=(IM.u.P F λx=>x).put x y rg.1 W W;have bn:(Ï 64 (.map<|C<|V a.heap+1) (U x)<|U y).run ε (wr.alloc<|γ #[U x,U y] 90).drew=.ok () au:=aq;have aw:=O ap;have av:Hid (I (λk=>k=V a.heap+1) W3 au):=CR.u.trans ((F.mono (S':=λk=>k=V a.heap+1) å).trans an Ξ) Ξ;clear a2 ar ap an aq F oR;go_wp2_with fail;go_region;all_goals go_wp2_with fail
   all_goals go_roundw
   all_goals first
    |exact⟨j+1,W,ï,av,(show cQ _ _ _ _ from by rw[G.u];exact aw.u)⟩
    |(simp[intOf];omega)
  .have b7:j=Q R:=W;subst b7;have ay:=O (HQ.u wr _ (ae.u.tn (R.take (Q R)) λa5 hp=>List.mem_of_mem_take hp) (by rw[vZ]) CR.u<|IM.u.more W);clear HQ aa oR;go_wp2_with fail;go_ret;exact ay.u
def pE(c:Cx)(a:Of)(L:uZ):List (Int×Int):=(bH c (fZ<|fS c a) L (Q c.N) ((Q c.N:Int)-1) ⟨λ_=>none,[]⟩).lf
def SU(l:bZ)(w:E)(e:ò)(g:E):Prop:=á (V w.heap) w g/\
 ((∃f p,iX l f p/\e=π (.tuple #[sN,.agg #[U f,U p]]))\/
  ∃N T a b L d c,fQ l N T a b/\(∀x,x∈L↔x∈iS (aQ N T a) (Q N))/\e=π (.tuple #[Y d (Q (pE (aQ N T a) b L)) c,.agg #[U 0,U 0]])/\ρ g (V w.heap) 90 2 (Y d (Q (pE (aQ N T a) b L)) c) (Q (pE (aQ N T a) b L)) (S4<|pE (aQ N T a) b L))
def Xh(s)(w:E)(Z:s.size<=Δ):μ ε 28 #[ι s] w (SU s.data.toList w):=by
 have HR:=O λb=>zN s b Z;have v:=rY w<|γ #[U 0,U 0] 25;have ai:=Z;clear Z;go_in;go_wp2_with fail;refine(HR.u _).mono ?_;clear HR;rintro e b ⟨m,⟨h,p,P,rfl⟩|⟨N,T,a,f,ga,gc,q,rfl,ag⟩⟩
 .have d:b.heap[V w.heap]?=C (γ #[U 0,U 0] 25 (0,0)):=by
   rw[m.block _ θ];exact v
  have F:δ b (J (V w.heap) 0)=C (U 0):=cr d K;have G:δ b (J (V w.heap) 1)=C (U 0):=cr d K;have gz:∀o,b.frozen? (J (V w.heap) o)=κ:=λo=>æ b _ o _ _ d;have gl:=(aG d);have ar:(h !=0)=τ:=by simp[P.1]
  have g:Hid (á (V w.heap) w b):=(ô (ν No w _) å<|vQ _).trans (m.mono θ);have am:=O P;clear P m v d;go_wp2_with fail;go_region;all_goals go_wp2_with fail
  all_goals
   have ap:I (λk=>k=V w.heap) b (σ (σ b (J (V w.heap) 0)<|U h) (J (V w.heap) 1)<|U p):=I.trans (é b (J (V w.heap) 0) _) (é _ (J (V w.heap) 1) _) Ξ;have hR:SU s.data.toList w (π<|.tuple #[sN,.agg #[U h,U p]]) _:=⟨g.u.trans<|ô (I.trans ap (B6 (ν No _<|γ #[U h,U p] 25)<|Ψ No _ 1) å) (λk _ e=>W) g.u.size,.inl ⟨h,p,am.u,K⟩⟩;exact ç (v:=.tuple #[sN,.agg #[U h,U p]]) (by simp[ã,results28,go_sem,F,G,gl]) K hR
 .have d:b.heap[V w.heap]?=C (γ #[U 0,U 0] 25 (0,0)):=by
   rw[m.block _ θ];exact v
  have gl:=(aG d);have S:=q.oj;have af:GN (fS (aQ N T a) f):=⟨S.1,λp hp=>by have:=S.2.1 p hp;omega⟩;have g:Hid (á (V w.heap) w b):=(ô (ν No w _) å<|vQ _).trans (m.mono θ);have r:=ν No b<|γ #[U 0,U 0] 25;have aa:=O<|vm s _ ai q af<|A3 (C7 ag<|wQ _) r Ξ;have ak:∀L,iW (aQ N T a) (Q (aQ N T a).N) ((Q (aQ N T a).N:Int)-1)<=2400:=λL=>by
   obtain⟨ps,fs,_,l,_,_⟩:=q;exact(YD l a (fZ<|fS (aQ N T a) f) L _).2
  have aq:0<Q (aQ N T a).N:=by
   obtain⟨ps,fs,_,l,_,_⟩:=q;have:=l.j8;show 0<Q N;omega
  have D:Hid (∀y u t L,(∀x,x∈L↔x∈iS (aQ N T a) (Q (aQ N T a).N))->á (V w.heap) w y->ρ y (V w.heap) 90 2 (Y u (Q (pE (aQ N T a) f L)) t) (Q (pE (aQ N T a) f L)) (S4<|pE (aQ N T a) f L)->SU s.data.toList w (π<|.tuple #[Y u (Q (pE (aQ N T a) f L)) t,.agg #[U 0,U 0]]) y):=λy u t L h1 h2 h3=>⟨h2,.inr ⟨N,T,a,f,L,u,t,q,h1,K,h3⟩⟩;have a5:=O<|D9 r d;have A:=O r;unfold pE at D;generalize aQ N T a=c at*;generalize fS c f=ab at*;clear q ag S af m v d r ai;go_wp2_with fail;refine aa.u.mono ?_;rintro e a3 ⟨wB,pb,qb,nv,cv,L,fb,gb,kb,mn,R,ae,av,rfl,H,hL,l,hF⟩;have au:pb<V a3.heap:=by
   have:=blt ae;simpa using this
  obtain⟨aw,-,b0,-,-,-,-⟩:=hF.cell;obtain⟨i,n⟩:∃i:Nat,mn=i/\i<Q c.N:=⟨Q c.N-1,W,W⟩;have aj:=ak L;rw[<-R,n.1]at aj;have a9:=O (RH l (Q c.N) i a3 kb 0 _ n.2 n.2 hF W);have HE:Hid (bH c (fZ ab) L (Q c.N) i ⟨λ_=>none,[]⟩=bH c (fZ ab) L (Q c.N) ((Q c.N:Int)-1) ⟨λ_=>none,[]⟩):=by
   show _=_;rw[<-R,n.1]
  have a7:=O hL;have a6:=O<|D9 H a5.u;have al:V w.heap<=V wB.heap:=by
   have h1:=g.u.size;have h2:=A.u.size;omega
  have B:Hid (á (V w.heap) w a3):=g.u.trans<|ô (B6 A.u H) å g.u.size;have ah:=hF.nc;have a8:=O ah;rw[n.1]at ae;clear H hL l hF aj ak R n ah aa a5 A;go_wp2_with fail;refine a9.u.mono ?_;rintro e z ⟨rfl,a2,r2⟩;rw[HE.u]at a2;obtain⟨l3,-,-,-,-,-,xa,xc,b4,-,ho⟩:=a2.cell;have j:=r2.cells a8.u a6.u ζ ζ;have F:δ z (J (V w.heap) 0)=C (U 0):=cr j K;have G:δ z (J (V w.heap) 1)=C (U 0):=cr j K;have gz:∀o,z.frozen? (J (V w.heap) o)=κ:=λo=>æ z _ o _ _ j;have ao:=(aG j);have M:=RZ j;have a4:Hid (á (V w.heap) w _):=(B.u.trans<|ô r2 (λk _ x=>kQ al x.1) B.u.size).trans<|ô M å<|Nat.le_of_lt ao;have an:=O<|D.u _ xa xc L a7.u a4.u<|A3 (C7 ho al) M Ξ;clear D a4 M j ho a2 r2 a9 HE a7 a6 B a8;generalize Q (bH _ _ _ _ _ _).lf=bl at*;go_wp2_with fail;exact ç (v:=.tuple #[Y xa bl xc,.agg #[U 0,U 0]]) (by simp[ã,results28,go_sem,F,G]) K an.u
theorem pG{L b}(h:∀x,x∈L↔x∈b)(c)(x v):bN L c x v=bN b c x v:=by
 unfold bN;by_cases a:x∈L
 .rw[yY a,yY<|(h x).1 a]
 .rw[wY a,wY λk=>a<|(h x).2 k]
theorem uI{c}{g}{L a}(h:∀x,x∈L↔x∈a):∀(f),bH c g L f=bH c g a f
 |0=>K
 |f+1=>by
  have b:=uI (c:=c) (g:=g) h f;funext i s;rw[bH,bH,b];unfold cP dH;simp only[pG h]
def rV(c:Cx)(a:Of):List (Int×Int):=(bH c (fZ<|fS c a) (iS c (Q c.N)) (Q c.N) ((Q c.N:Int)-1) ⟨λ_=>none,[]⟩).lf
theorem ś{c}{a}{L}(h:∀x,x∈L↔x∈iS c (Q c.N)):pE c a L=rV c a:=by
 unfold pE rV;rw[uI h]
def vx(s)(w:E)(A:s.size<=Δ):μ ε 15 #[ι s,U 3] w (SS s.data.toList w (iX s.data.toList) rV):=by
 refine(Uc (P:=λl n m b p j=>á (V w.heap) w j/\V w.heap<V j.heap/\((iX s.data.toList b p/\b≠0)\/(b=0/\∃N T c d,fQ s.data.toList N T c d)))
  (ϊ:=λl n m b p j=>(iX s.data.toList b p/\l=none/\n=0/\m=0)\/(b=0/\p=0/\∃N T c d,fQ s.data.toList N T c d/\n=Q (rV (aQ N T c) d)/\ρ j (V w.heap+1) 90 2 (Y l n m) n (sF<|rV (aQ N T c) d)))
  (λr h o=>(zN s r A).mono ?_) λr o=>(Xh s r A).mono ?_).mono ?_
 .have u:á (V w.heap) w r:=h.ep å<|vQ _;rintro e j ⟨a,⟨b,p,f,rfl⟩|⟨N,T,c,d,F,D,q,rfl,k⟩⟩
  .exact⟨_,_,_,b,p,K,a,u.trans<|a.mono h.size,yQ o a.size,.inl ⟨f,f.1⟩⟩
  .exact⟨_,_,_,0,0,K,a,u.trans<|a.mono h.size,yQ o a.size,.inr ⟨K,N,T,c,d,q⟩⟩
 .rintro e j ⟨a,⟨b,p,f,rfl⟩|⟨N,T,c,d,a2,F,D,q,M,rfl,k⟩⟩
  .exact⟨_,_,_,b,p,K,a,.inl ⟨f,K,K,K⟩⟩
  .rw[ś M]at k⊢;exact⟨_,_,_,0,0,K,a,.inr ⟨K,K,N,T,c,d,q,K,C7 k W⟩⟩
 .rintro e B (⟨l,n,m,b,p,j,⟨a,o,v⟩,z,h,rfl⟩|⟨l,n,m,p,j,H,n',L,G,Z,a3,⟨a,o,v⟩,R,P,h,rfl⟩)
  .have t:á (V w.heap) w B:=a.trans<|h.ep (B:=V w.heap) (λi _ (x:i=w.heap.size)=>W) a.size;refine⟨t,.inl ⟨b,p,z,?_,K⟩⟩;obtain⟨f,_⟩|⟨e,_⟩:=v
   .exact f
   .exact absurd e z
  .have y:=a.trans<|R.mono a.size;have t:á (V w.heap) w B:=y.trans<|h.ep (B:=V w.heap) (λi _ (x:i=w.heap.size)=>W) y.size;refine⟨t,?_⟩;obtain⟨f,rfl,rfl,rfl⟩|⟨rfl,rfl,N,T,c,d,q,rfl,k⟩:=P
   .exact .inl ⟨G,Z,f.1,f,K⟩
   .refine .inr ⟨N,T,c,d,H,L,q,K,C7 (A3 k h λg S (x:g=w.heap.size)=>?_) W⟩;have:=(A9 k g S).1;omega
def Ff(s)(w)(e:s.size<=Δ)(j:Tbl w){fu:Nat}(h:fu<=100000):μ ε 7 #[ι s,U 3,U fu] w (wF s.data.toList w (iX s.data.toList) rV fu):=by
 refine(Gi (λd N T b c a k=>ZI s d e k a) j h (λd _=>vx s d e) λN T b c a=>?_).mono λ_ _=>yI.pd;obtain⟨l,g,_⟩:=a.oj;have f:(rV (aQ N T b) c).Sublist (fS (aQ N T b) c):=a.qw _;exact⟨by have:=f.length_le;omega,λp i=>by have:=g p<|f.subset i;omega⟩
def FL:∀(l) (j) (h),(jN l)[j*2]?=C (U l[j].1)/\(jN l)[j*2+1]?=C (U l[j].2):=TB
def A1b(w:E){s t}{h m c f}{i n d g}{l}{b}{en nd}(R:ρ w s 9 1 (Y h (Q l) i) (Q l)<|strs l)(S:ρ w t 9 1 (Y m (Q l) n) (Q l)<|strs l)(T:ρ w s 69 2 (Y c (Q b) d) (Q b)<|jN b)(Z:ρ w t 69 2 (Y f (Q b) g) (Q b)<|jN b):
 μ ε 9 #[.agg #[Y h (Q l) i,U en,U nd,Y c (Q b) d],.agg #[Y m (Q l) n,U en,U nd,Y f (Q b) g]] w λe w'=>e=π (.bool τ)/\I No w w':=by
 have y:=B6 (ν No w<|γ #[Y h (Q l) i,U en,U nd,Y c (Q b) d] 31)<|ν _ _<|γ #[Y m (Q l) n,U en,U nd,Y f (Q b) g] 31;have q:=rY w<|γ #[Y h (Q l) i,U en,U nd,Y c (Q b) d] 31;have H:Hid (∀a,I No (ω (ω w<|γ #[Y h (Q l) i,U en,U nd,Y c (Q b) d] 31)<|γ #[Y m (Q l) n,U en,U nd,Y f (Q b) g] 31) a->(δ a (J (V w.heap) 1)=C (U en)/\δ a (J (V w.heap) 2)=C (U nd)/\δ a (J (V w.heap) 3)=C (Y c (Q b) d))/\(δ a (J (V w.heap+1) 1)=C (U en)/\δ a (J (V w.heap+1) 2)=C (U nd)/\δ a (J (V w.heap+1) 3)=C (Y f (Q b) g))/\V w.heap+1<V a.heap/\ρ a s 69 2 (Y c (Q b) d) (Q b) (jN b)/\ρ a t 69 2 (Y f (Q b) g) (Q b) (jN b)/\I No w a):=λa M=>by
  have hu:=Ô w<|γ #[Y h (Q l) i,U en,U nd,Y c (Q b) d] 31;have a4:=ν No w<|γ #[Y h (Q l) i,U en,U nd,Y c (Q b) d] 31;generalize ω w (γ #[Y h (Q l) i,U en,U nd,Y c (Q b) d] 31)=u at*;have N:=B6 (ν No u<|γ #[Y m (Q l) n,U en,U nd,Y f (Q b) g] 31) M;have P:=(aG q);have b2:=rY u<|γ #[Y m (Q l) n,U en,U nd,Y f (Q b) g] 31;have r:=(N.block _ P λx=>x).trans q;have o:=(M.block _ θ λx=>x).trans b2;rw[hu]at o;have k:=B6 a4 N;exact⟨⟨(ä _ _ 1 _ _ _ r).trans K,(ä _ _ 2 _ _ _ r).trans K,(ä _ _ 3 _ _ _ r).trans K⟩,⟨(ä _ _ 1 _ _ _ o).trans K,(ä _ _ 2 _ _ _ o).trans K,(ä _ _ 3 _ _ _ o).trans K⟩,(aG o),A3 T k Ξ,A3 Z k Ξ,k⟩
 have L:=O<|SJ _ (ö l) (A3 R y Ξ)<|A3 S y Ξ;clear R S T Z q y;go_in;go_wp2_with fail;refine L.u.mono ?_;rintro e G ⟨rfl,k⟩;obtain⟨⟨x1,x2,x3⟩,⟨y1,y2,y3⟩,P,_⟩:=H.u G k;have ad:V w.heap<V G.heap:=W;have HC:=O k;clear k L;go_wp2_with fail;go_loopw [5] (λv wr=>∃j:Nat,j<=Q b/\v=U (j:Int)/\Hid (I No G wr)) (λv _=>Q b-(intOf v).toNat);case atStart=>exact⟨0,wQ _,K,ì _ _⟩
 case round=>
  clear x1 x2 x3 y1 y2 y3;obtain⟨j,hj,rfl,CR⟩:=hrel;obtain⟨⟨x1,x2,x3⟩,⟨y1,y2,y3⟩,ac,D,F,z⟩:=H.u wr<|B6 HC.u CR.u;have ae:V w.heap<wr.heap.size:=W;by_cases p:j<Q b
  .obtain⟨g1,e1,-,a9,a7,a2,A⟩:=D5 D W;obtain⟨g2,e2,-,aa,a8,a3,B⟩:=D5 F W;subst e1 e2;have u0:=A (j*2) _ (FL b j p).1;have u1:=A (j*2+1) _ (FL b j p).2;have v0:=B (j*2) _ (FL b j p).1;have v1:=B (j*2+1) _ (FL b j p).2;unfold Δ at a2 a3;have ab:(j:Int)<(Q b:Int):=W;clear A B D F z;generalize b[j].1=a at*;generalize b[j].2=a6 at*;go_wp2_with fail;go_quiet (fail);go_wp2_with fail;exact⟨⟨j+1,W,ï,B6 CR.u<|Ψ _ _ _⟩,by simp[intOf];omega⟩
  .have a5:j=Q b:=W;subst a5;have HW:=O z;clear z D F;go_wp2;go_ret;exact⟨K,HW.u⟩
def Yv{s}{w}{A}{F:Int->Int->Prop}{h:Nat}(a6:h<=100000)(z:∀k,I No w k->μ ε 15 #[ι s,U A] k λe a=>á (V k.heap) k a/\∃b p,b≠0/\F b p/\e=π (.tuple #[sN,.agg #[U b,U p]])):
 μ ε 7 #[ι s,U A,U h] w λe w'=>á (V w.heap) w w'/\∃b p,b≠0/\F b p/\e=π (.tuple #[.agg #[sN,U 0,U 0,sN],.agg #[U b,U p]]):=by
 obtain⟨c,S⟩:∃o,o=γ #[sN,U 0,U 0,sN] 31:=⟨_,K⟩;obtain⟨d,T⟩:∃o,o=γ #[U 0,U 0] 25:=⟨_,K⟩;have r:((w.alloc c).alloc d).heap[V w.heap]?=C c:=((ν No (w.alloc c) d).block _ θ λx=>x).trans<|rY w c;have t:((w.alloc c).alloc d).heap[V w.heap+1]?=C d:=by simpa using rY (w.alloc c) d
 have m:I No w ((w.alloc c).alloc d):=B6 (ν _ _ _)<|ν _ _ _;have q:=O<|z _ m;have n:Hid (∀a,á (V ((w.alloc c).alloc d).heap) ((w.alloc c).alloc d) a->a.heap[V w.heap]?=C c/\a.heap[V w.heap+1]?=C d/\á (V w.heap) w a/\V w.heap+2<=V a.heap):=λa i=>
  ⟨(i.block _ â).trans r,(i.block _ θ).trans t,(m.ep å<|vQ _).trans<|i.mono â,by have:=i.size;simp at this;omega⟩;have a5:(h:Int)<=100000:=W;have a4:¬(h:Int)<0:=W;subst S T;clear z r t m;go_in;go_wp2_with fail;refine q.u.mono ?_;clear q;rintro e a ⟨u,b,p,y,hF,rfl⟩;obtain⟨l,g,bl,bs⟩:=n.u a u;have f:∀j v,#[Y none 0 0,U 0,U 0,sN][j]?=C v->δ a (J (V w.heap) j)=C v:=λj v e=>(ä _ _ j _ _ _ l).trans e;have H:δ a (J (V w.heap) 0)=C (sN):=f 0 _ K;have L:δ a (J (V w.heap) 1)=C (U 0):=f 1 _ K;have M:δ a (J (V w.heap) 2)=C (U 0):=f 2 _ K;have N:δ a (J (V w.heap) 3)=C (sN):=f 3 _ K;have P:δ a (J (V w.heap+1) 0)=C (U 0):=ä _ _ 0 _ _ _ g;have R:δ a (J (V w.heap+1) 1)=C (U 0):=ä _ _ 1 _ _ _ g;have dz:∀o,a.frozen? (J (V w.heap) o)=κ:=λo=>æ _ _ o _ _ l;have ez:∀o,a.frozen? (J (V w.heap+1) o)=κ:=λo=>æ _ _ o _ _ g;have Z:V w.heap<V a.heap:=W;have a2:V w.heap+1<V a.heap:=W;have a3:(b==0)=κ:=by simp[y]
 have B:=O bl;have G:=O hF;clear n u l g bl f hF;go_wp2_with fail;go_region;all_goals go_wp2
 all_goals have D:=O (MT B.u W (sN) (U 0) (U 0) (sN) (U b) (U p)<|γ #[U b,U p] 25)
 all_goals exact ç (v:=.tuple #[.agg #[sN,U 0,U 0,sN],.agg #[U b,U p]]) (by simp[ã,results7,go_sem,H,L,M,N,P,R,Z,a2]) K ⟨D.u,b,p,y,G.u,K⟩
def Ht(l:bZ)(a b p:Int):Prop:=iX l b p\/((a≠1/\a≠2/\a≠3)/\b=7/\p=0/\∃N T c d,fQ l N T c d)
def UW(a:Int):Cx->Of->List (Int×Int):=if a=3 then rV else uH a
def PO(l:bZ)(a:Int)(h:Nat)(b p f j:Int)(i:List bZ)(g:List<|Int×Int):Prop:=
 (b≠0/\Ht l a b p)\/((a=1\/a=2\/a=3)/\b=0/\p=0/\∃N T c e d,fQ l N T c e/\jL N (aR<|aQ N T c) (gK<|UW a (aQ N T c) e) h=C (f,j,d)/\i=d.ln/\g=d.ev)
def NZ(l:bZ)(w:E)(n:Int)(m:Nat)(e:ò)(c:E):Prop:=á (V w.heap) w c/\∃h p g k b a i j d f,PO l n m h p g k b a/\e=π (.tuple #[.agg #[Y i (Q b) j,U g,U k,Y d (Q a) f],.agg #[U h,U p]])/\
 ρ c (V w.heap) 9 1 (Y i (Q b) j) (Q b) (strs b)/\ρ c (V w.heap) 69 2 (Y d (Q a) f) (Q a) (jN a)
def wF.q8{l}{w}{a}(s:a=1\/a=2\/a=3){d}{e}{f}(h:wF l w (iX l) (UW a) d e f):NZ l w a d e f:=by
 obtain⟨o,k,p,j,x,v,m,t,u,g,i,r,q,y,z⟩:=h;refine⟨o,k,p,j,x,v,m,t,u,g,i,?_,q,y,z⟩;obtain⟨b,c⟩|⟨b,c,n⟩:=r
 .exact .inl ⟨b,.inl c⟩
 .exact .inr ⟨s,b,c,n⟩
def Fj(s)(w)(m:s.size<=Δ)(u:Tbl w)(g){fu:Nat}(l:fu<=100000):μ ε 7 #[ι s,U g,U fu] w (NZ s.data.toList w g fu):=by
 by_cases o:g=1
 .subst o;exact(IG s w m u (.inl K) l).mono λ_ _ h=>wF.q8 (.inl K) h.pd
 by_cases q:g=2
 .subst q;exact(IG s w m u (.inr K) l).mono λ_ _ h=>wF.q8 (.inr<|.inl K) h.pd
 by_cases r:g=3
 .subst r;exact(Ff s w m u l).mono λ_ _ h=>wF.q8 (.inr<|.inr K) h
 refine(Yv (F:=Ht s.data.toList g) l λf _=>(Ua (P:=λ_ _ _ b p k=>á (V f.heap) f k/\((iX s.data.toList b p/\b≠0)\/(b=0/\∃N T v y,fQ s.data.toList N T v y))) ⟨o,q,r⟩ λk j _=>(zN s k m).mono ?_).mono ?_).mono ?_
 .have z:á (V f.heap) f k:=j.ep å<|vQ _;rintro e S ⟨c,⟨b,p,d,rfl⟩|⟨N,T,v,y,M,L,t,rfl,_⟩⟩
  .exact⟨_,_,_,b,p,K,c,z.trans<|c.mono j.size,.inl ⟨d,d.1⟩⟩
  .exact⟨_,_,_,0,0,K,c,z.trans<|c.mono j.size,.inr ⟨K,N,T,v,y,t⟩⟩
 .rintro e H ⟨P,n,R,b,p,k,B,G,⟨c,A⟩,j,F,rfl⟩;refine⟨c.trans<|j.ep (B:=V f.heap) (λi _ (x:i=f.heap.size)=>W) c.size,B,G,?_⟩;obtain⟨a,rfl,rfl⟩|⟨a,rfl,rfl⟩:=F
  .obtain⟨d,_⟩|⟨e,_⟩:=A
   .exact⟨a,.inl d,K⟩
   .exact absurd e a
  .obtain⟨_,d⟩|⟨_,t⟩:=A
   .exact absurd a d
   .exact⟨ζ,.inr ⟨⟨o,q,r⟩,K,K,t⟩,K⟩
 .rintro e H ⟨D,b,p,a,hF,rfl⟩;exact⟨D,b,p,0,0,[],[],none,0,none,0,.inl ⟨a,hF⟩,K,kW _ _ _ _,kW _ _ _ _⟩
open Go.RowKit Go.Maps
def chgBw {w a:E} (h:á (V w.heap) w a):I No w a:=(I.below h).mono λ_ b x=>W
def anm_mem {w:E} {n B:Nat} {er p p0 en nd:Int} {c:List bZ} {b:List (Int×Int)} {f:Option í} {g:Nat} {d:Option í} {e:Nat} (m:w.heap[n]?=C (γ #[U 0,U p0] 25 (0,0))) (i:n<B) (y:ρ w B 9 1 (Y f (Q c) g) (Q c)<|strs c) (z:ρ w B 69 2 (Y d (Q b) e) (Q b)<|jN b):
 I (λk=>k=n) w (ω (σ (σ w (J n 0)<|U er) (J n 1)<|U p)<|γ #[Y f (Q c) g,U en,U nd,Y d (Q b) e] 31)∧
 ∀ a,I No (ω (σ (σ w (J n 0)<|U er) (J n 1)<|U p)<|γ #[Y f (Q c) g,U en,U nd,Y d (Q b) e] 31) a→δ a (J (V w.heap) 0)=C (Y f (Q c) g)∧δ a (J (V w.heap) 1)=C (U en)∧δ a (J (V w.heap) 2)=C (U nd)∧δ a (J (V w.heap) 3)=C (Y d (Q b) e)∧δ a (J n 0)=C (U er)∧δ a (J n 1)=C (U p)∧V w.heap<V a.heap∧
  ρ a B 9 1 (Y f (Q c) g) (Q c) (strs c)∧ρ a B 69 2 (Y d (Q b) e) (Q b) (jN b):=by
 have D:=(ş.1 m).1;have q:(σ w (J n 0)<|U er).heap[n]?=C (γ #[U er,U p0] 25 (0,0)):=by rw [ð w n 0 _ _ _ m];rfl
 have r:(σ (σ w (J n 0)<|U er) (J n 1)<|U p).heap[n]?=C (γ #[U er,U p] 25 (0,0)):=by rw [ð _ n 1 _ _ _ q];rfl
 have r1:=ownsRow_setCell_below (ownsRow_setCell_below y (a:=(J n 0)) i<|U er) (a:=(J n 1)) i<|U p;have A:=ownsRow_setCell_below (ownsRow_setCell_below z (a:=(J n 0)) i<|U er) (a:=(J n 1)) i<|U p;have t:I (λk=>k=n) w (σ (σ w (J n 0)<|U er) (J n 1)<|U p):=(é w (J n 0) _).trans (é _ (J n 1) _) λ_ _ x=>x;have v:V (σ (σ w (J n 0)<|U er) (J n 1)<|U p).heap=V w.heap:=by simp [World.setCell]
 generalize (σ (σ w (J n 0)<|U er) (J n 1)<|U p)=u at*;refine ⟨t.trans (ν No u _) λ_ _ x=>x.elim,λa j=>?_⟩;have s:=heap_alloc_new u<|γ #[Y f (Q c) g,U en,U nd,Y d (Q b) e] 31;have G:=Ô u<|γ #[Y f (Q c) g,U en,U nd,Y d (Q b) e] 31;have l:=B6 (ν No u<|γ #[Y f (Q c) g,U en,U nd,Y d (Q b) e] 31) j;have h:=(j.block (V u.heap) W λx=>x).trans s;have o:=(l.block n W λx=>x).trans r;have F:=j.size;rw [v] at h;exact ⟨(ä _ _ 0 _ _ _ h).trans K,(ä _ _ 1 _ _ _ h).trans K,(ä _ _ 2 _ _ _ h).trans K,(ä _ _ 3 _ _ _ h).trans K,(ä _ _ 0 _ _ _ o).trans K,(ä _ _ 1 _ _ _ o).trans K,W,A3 r1 l λ_ _ x=>x,A3 A l λ_ _ x=>x⟩
def anew_gen (Anw:bZ→bZ→Prop) (hA:∀ az l',Anw az l'→∀ (h:Int) (fu:Nat) (c p y D b F d g:Int) (ln B:List bZ) (Z z:List<|Int×Int),PO az h fu c p y D ln Z→PO l' h fu b F d g B z→b=c∧(c=0→B=ln∧d=y∧g=D∧z=Z))
 (s:ByteArray) (h n:Int) (w:E) (A:s.size≤Δ) (ht:Tbl w)
 (u:∀ a,á (V w.heap) w a→μ Tryz.prog 5 #[] a λe j=>e=π (.bool τ)∧á (V a.heap) a j)
 (r:∀ a,á (V w.heap) w a→μ Tryz.prog 6 #[ι s] a λe j=>á (V a.heap) a j∧∃ t c p,e=π (.tuple #[ι t,.agg #[U c,U p]])∧(c=0→t.size≤Δ∧Anw s.data.toList t.data.toList)):
 μ Tryz.prog 3 #[ι s,U h,U n] w λe j=>e=π (.bool τ)∧á (V w.heap) w j:=by
 have HB:=O<|YS w ht;have u:=O u;have r:=O r;have q:=O VB;have N:=O (λ(s:ByteArray) (A:s.size≤Δ) a (ha:Tbl a)=>Fj s a A ha h (fu:=kV n)<|Nat.le_trans (JL n) W);have P:=O (λa (ha:Tbl a)=>Fj s a A ha h (fu:=kV n)<|Nat.le_trans (JL n) W);have v:=O λa (hb:á w.heap.size w a)=>ht.below hb<|Nat.le_refl _;have G:=O hA;clear A ht hA;go_enter Tryz.func3,Tryz.ntmps3;go_wp2_with fail;refine HB.u.mono ?_;rintro e w1 ⟨rfl,ak⟩;have k:=O ak;clear ak HB;go_wp2_with fail;refine (u.u w1 k.u).mono ?_;rintro e w2 ⟨rfl,al⟩;have l:=O<|k.u.trans<|al.mono k.u.size;clear al k u;go_wp2_with fail;refine (r.u w2 l.u).mono ?_;rintro e w3 ⟨am,t,T,p0,rfl,av⟩;have i:=O<|l.u.trans<|am.mono l.u.size;have R:=O av;have aw:=i.u.size;clear am l r av;by_cases aq:T=0
 .subst aq;obtain ⟨au,aj⟩:=R.u K;have ac:=O aj;have ah:=O<|N.u t au;have S:=heap_alloc_new w3<|γ #[U 0,U p0] 25;have H:=O<|i.u.alloc aw<|γ #[U 0,U p0] 25;have ad:=O S;clear R au aj N S;go_wp2_with fail;refine (q.u _ n).mono ?_;rintro e bg ⟨rfl,rfl⟩;go_wp2_with fail;refine (P.u _<|v.u _ H.u).mono ?_;rintro e w4 ⟨a7,c,p,y,D,ln,Z,la,lc,ea,ec,ar,rfl,o1,o2⟩;have f:w4.heap[w3.heap.size]?=C (γ #[U 0,U p0] 25 (0,0)):=(a7.block _ θ).trans ad.u;have d0:w4.cell? (J w3.heap.size 0)=C (U 0):=(ä _ _ 0 _ _ _ f).trans K;have d1:w4.cell? (J w3.heap.size 1)=C (U p0):=(ä _ _ 1 _ _ _ f).trans K;have dz:∀ aa,w4.frozen? (J w3.heap.size aa)=κ:=λaa=>æ _ _ aa _ _ f;have dl:=(ş.1 f).1;obtain ⟨ao,hm⟩:=anm_mem (er:=c) (p:=p) (en:=y) (nd:=D) f θ o1 o2;have HM:=O hm;have bf:w3.heap.size≤w4.heap.size:=W;have m:=O (H.u.trans<|a7.mono<|by have:=Ô w3<|γ #[U 0,U p0] 25;omega);have o:=O (m.u.trans<|ao.ep (B:=V w.heap) (λbb _ (x:bb=w3.heap.size)=>W) W);have ae:=O ar;clear a7 ar o1 o2 f ao hm m ad H i P;go_wp2_with fail;refine (q.u _ n).mono ?_;rintro e w5 ⟨rfl,rfl⟩;go_wp2_with fail;refine (ah.u _<|v.u _ o.u).mono ?_;rintro e w6 ⟨an,b,F,d,g,B,z,bc,bd,b8,b9,ay,rfl,q1,q2⟩;obtain ⟨rfl,ab⟩:=G.u _ _ ac.u _ _ _ _ _ _ _ _ _ _ _ _ _ _ ae.u ay;have a8:=chgBw an;have a9:=B6 (ν No w6<|γ #[Y bc (Q B) bd,U d,U g,Y b8 (Q z) b9] 31)<|ν _ _<|γ #[U b,U F] 25;obtain ⟨a0,a1,a2,a3,a4,a5,a6,r1,r2⟩:=HM.u _<|B6 a8 a9;obtain ⟨b0,b1,b2,S,b4,b5,b6,t1,t2⟩:=KB (er:=b) (p:=F) (en:=d) (nd:=g) q1 q2 _<|ì _ _;have ax:=o.u.size;have L:=O<|o.u.trans<|ô (B6 a8 a9) (λ_ _ x=>x.elim) ax;have ag:=O<|And.intro r1 r2;have af:=O<|And.intro t1 t2;have M:=O ab;clear an q1 q2 ay ae HM ah q v G ac r1 r2 t1 t2 ab a8 a9 o ax d0 d1 dz;by_cases he:b=0
  .subst he;obtain ⟨rfl,rfl,rfl,rfl⟩:=M.u K;have ai:=O<|A1b _ (en:=d) (nd:=g) ag.u.1 af.u.1 ag.u.2 af.u.2;clear M;go_wp2_with fail;refine ai.u.mono ?_;rintro e w8 ⟨rfl,ap⟩;have b7:=O<|L.u.trans<|ô ap (λ_ _ x=>x.elim) L.u.size;clear ap ai;go_wp2;go_ret;exact ⟨K,b7.u⟩
  .have ba:(b !=0)=τ:=by simp [he]
   have be:(b==b)=τ:=θ;clear M;go_wp2;go_ret;exact ⟨K,L.u⟩
 .have ba:(T !=0)=τ:=by simp [aq]
  have m:=O<|i.u.alloc aw<|γ #[U T,U p0] 25;clear R N P v G q i;go_wp2;go_ret;exact ⟨K,m.u⟩
theorem rn_fl (N:List Nd) (d:Int→Int) (G:Int→Option Int):∀ (k:Nat) (b:Md) (c:Option Nat),rn (N.map ģ) d G k b c=rn N d G k b c
 |0,_,_=>K
 |k+1,b,c=>by
  have a:=λb c=>rn_fl N d G k b c;cases b with
  |vs l=>cases l<;>simp only [rn,a]
  |ss l=>cases l<;>simp only [rn,a]
  |v i=>simp only [rn,a]
  |b i=>simp only [rn,a,ndx_fl];rfl
  |w i=>simp only [rn,a,ndx_fl];rfl
  |s i=>simp only [rn,a,ndx_fl];rfl
  |e i=>simp only [rn,a,ndx_fl];rfl
theorem rnP_fl (N:List Nd) (b:Int→Int) (G:Int→Option Int) (a:Nat):jL (N.map ģ) b G a=jL N b G a:=by
 unfold jL;rw [rn_fl,List.length_map]
theorem plTo_fl (c:Cx) (a:Of):∀ j,pX c.fl a j=pX c a j
 |0=>K
 |j+1=>by
  rw [pX,pX,plTo_fl c a j];unfold xI pQ;simp only [asks_fl,show c.fl.N=c.N.map ģ from K,ndx_fl];rfl
theorem plP_fl (c:Cx) (a:Of):fS c.fl a=fS c a:=by
 unfold fS;rw [plTo_fl,show Q c.fl.N=Q c.N from List.length_map ..]
theorem fgN_fl (c:Cx):∀ (f:Nat),kR c.fl f=kR c f
 |0=>K
 |f+1=>by
  funext i a;rw [kR,kR,fgN_fl c f];simp only [show c.fl.N=c.N.map ģ from K,ndx_fl,GY];rfl
theorem elN_fl (c:Cx) (g:Gm) (a:uZ):∀ (f:Nat),bH c.fl g a f=bH c g a f
 |0=>K
 |f+1=>by
  funext i s;rw [bH,bH,elN_fl c g a f];unfold gP;rw [fgN_fl];have b:cP c.fl g a=cP c g a:=by
   funext i s;unfold cP dH kM fY;simp only [show c.fl.N=c.N.map ģ from K,ndx_fl];rfl
  rw [b];simp only [show c.fl.N=c.N.map ģ from K,ndx_fl,GY];rfl
theorem ctR_fl (c:Cx):∀ j,iS c.fl j=iS c j
 |0=>K
 |j+1=>by
  rw [iS,iS,ctR_fl c j];simp only [show c.fl.N=c.N.map ģ from K,ndx_fl];rfl
section
variable {N a:List Nd} {T:List Ty} {b:List (Nat×Int)}
theorem cx_same (h:a.map ģ=N.map ģ):(aQ a T b).fl=(aQ N T b).fl:=by rw [← cxP_fl,← cxP_fl,h]
theorem glA_same (h:a.map ģ=N.map ģ) (e:Int) (c:Of):UW e (aQ a T b) c=UW e (aQ N T b) c:=by
 have d:fS (aQ a T b) c=fS (aQ N T b) c:=by rw [← plP_fl,← plP_fl<|aQ N T b,cx_same h]
 have f:Q a=Q N:=by simpa using congrArg Q h
 unfold UW;split
 .unfold rV;rw [d,← elN_fl,← elN_fl<|aQ N T b,← ctR_fl,← ctR_fl<|aQ N T b,cx_same h];show (bH _ _ (iS _ (Q a)) (Q a) ((Q a:Int)-1) _).lf=(bH _ _ (iS _ (Q N)) (Q N) ((Q N:Int)-1) _).lf;rw [f]
 .unfold uH;rw [d]
theorem nmI_same (h:a.map ģ=N.map ģ):aR (aQ a T b)=aR (aQ N T b):=by
 have c:Q a=Q N:=by simpa using congrArg Q h
 funext i;unfold aR lS;show (if 0≤i∧i<(Q a:Int)∧(dG (ó (Q a)<|-1) b).getD i.toNat 0≠-1 then C ((dG (ó (Q a)<|-1) b).getD i.toNat 0) else none).getD 0=_;rw [c];rfl
theorem rnP_same (h:a.map ģ=N.map ģ) (d:Int→Int) (G:Int→Option Int) (c:Nat):jL a d G c=jL N d G c:=by rw [← rnP_fl,← rnP_fl N,h]
end
def Anw (l n:bZ):Prop:=∀ (m:Int) (g:Nat) (a p b j d o c k:Int) (h i:List bZ) (e f:List<|Int×Int),PO l m g a p b j h e→PO n m g d o c k i f→d=a∧(a=0→i=h∧c=b∧k=j∧f=e)
def anew_pn {l:bZ} {N:List Nd} {T:List Ty} {q:List Nt} (A:dZ l<|.inr (N,T)) (z:bJ N T q) (Z:Q (We 0<|EU 0 q)≤4000):Anw l (We 0<|EU 0 q):=by
 obtain ⟨t,v,g,w⟩:=z.back Z;have F:∀ {d f a o},fQ l d f a o→d=N∧f=T∧fQ (We 0<|EU 0 q) t T a o:=λ{d f a o} h=>by
  obtain ⟨a4,u,a2,R,j,c⟩:=h;have b:=A.one a2;simp only [Sum.inr.injEq,Prod.mk.injEq] at b;obtain ⟨rfl,rfl⟩:=b;obtain rfl:=GK R z;exact ⟨K,K,a4,u,v,w,j,by rw [ckP_same T a g];exact c⟩
 have S:∀ {r p},iX l r p→∃ P,iX (We 0<|EU 0 q) r P:=λ{r p} h=>by
  obtain ⟨D,h⟩:=h;obtain h|⟨d,f,ps1,hr1,hP1,h⟩:=h
  .have b:=A.one h;cases b
  .have b:=A.one hr1;simp only [Sum.inr.injEq,Prod.mk.injEq] at b;obtain ⟨rfl,rfl⟩:=b;obtain rfl:=GK hP1 z;obtain⟨i,j,_⟩|⟨u,a,i,j,c,_⟩:=h
   .exact ⟨_,D,.inr ⟨t,T,ps1,v,w,.inl ⟨i,j,K⟩⟩⟩
   .exact ⟨_,D,.inr ⟨t,T,ps1,v,w,.inr ⟨u,a,i,j,by rw [ckP_same T a g];exact c,K⟩⟩⟩
 intro ab fu r p en nd a6 P a5 a9 ln a8 ev a7 h k;obtain⟨h,x⟩|⟨hw,rfl,rfl,d,f,a,o,s',c,a3,rfl,rfl⟩:=h
 .refine ⟨?_,λe=>absurd e h⟩;obtain x|⟨hw,rfl,rfl,d,f,a,o,c⟩:=x
  .obtain ⟨aa,y⟩:=S x;obtain⟨_,m|⟨_,_,_,B,T2,L,M,n⟩⟩|⟨_,_,_,B,T2,L,M,s2,n,_⟩:=k
   .exact (m.one y).1
   .exact absurd y n.not
   .exact absurd y n.not
  .obtain ⟨_,_,s⟩:=F c;obtain⟨_,m|⟨_,e,_⟩⟩|⟨H,_⟩:=k
   .exact absurd m s.not
   .exact e
   .omega
 .obtain ⟨rfl,rfl,s⟩:=F c;obtain⟨_,m|⟨H,_⟩⟩|⟨H,rfl,rfl,B,T2,L,M,s2,n,G,rfl,rfl⟩:=k
  .exact absurd m s.not
  .omega
  .obtain ⟨rfl,rfl,rfl,rfl⟩:=s.one n;rw [rnP_same g,nmI_same g,glA_same g,a3] at G;cases G;exact ⟨K,λ_=>⟨K,K,K,K⟩⟩
def chgB {w a:E} (h:á (V w.heap) w a):I No w a:=(I.below h).mono λ_ b x=>W
def trd_of {N:List Nd} {T:List Ty} {a:List Nt} (h:bJ N T a):Trd N T a where
 ok:=h.ok;ls i hi:=by have:=h.ls i hi;omega
 num i hi:=by have:=h.num i hi;omega
 main:=h.main;gd p hp:=by have:=h.wn p hp;have b:=h.sz hp;exact ⟨Y7 p this.1,this.2.1,this.2.2,W⟩
 few:=by have:=h.fq;have:=h.fp;omega
 len:=h.len
def trd_one {N:List Nd} {T:List Ty} {b c:List Nt} (h:Trd N T b) (k:bJ N T c):b=c:=by
 obtain ⟨e,d⟩:=h.main;obtain ⟨_,k2⟩:=k.main;exact B2e (λp a=>⟨(h.gd p a).1,(h.gd p a).2.1,(h.gd p a).2.2.1⟩) (λp a=>⟨Y7 p (k.wn p a).1,(k.wn p a).2⟩) d k2
def hA_all (l:bZ):∀ N T,dZ l (.inr (N,T))→∃ a,Trd N T a:=λN T h=>by
 obtain ⟨a,b⟩:=ď h;exact ⟨a,trd_of b⟩
def sB3:ByteArray:=⟨ξ ([108,101,116,32,120,61,40,49,43,50,41,42,51,59])⟩
def sB4:ByteArray:=⟨ξ ([40,110,117,109,41,124,116,101,120,116])⟩
def print_at (s:ByteArray) (i:s.size≤Δ) {N:List Nd} {T:List Ty} {c:List Nt} (h:dZ s.data.toList<|.inr (N,T)) (g:bJ N T c) (q:Q (We 0<|EU 0 c)≤4000) (w:E) (j:Tab w (V w.heap)):
 μ Tryz.prog 6 #[ι s] w λe d=>á (V w.heap) w d∧e=π (.tuple #[ι ⟨ξ (We 0<|EU 0 c)⟩,.agg #[U 0,U 0]]):=by
 refine (print_any s w i j<|hA_all _).mono ?_;rintro e d ⟨f,⟨n,p,b,_⟩|⟨l,m,r,b,k,a⟩⟩
 .exact absurd (Bt b h) id
 .have:=b.one h;simp only [Sum.inr.injEq,Prod.mk.injEq] at this;obtain ⟨rfl,rfl⟩:=this;obtain rfl:=trd_one k g;obtain⟨o,_⟩|⟨_,a⟩:=a
  .omega
  .exact ⟨f,a⟩
def showBegun_any (w:E) (m:Tab w (V w.heap)):μ Tryz.prog 5 #[] w λe p=>e=π (.bool τ)∧á (V w.heap) w p:=by
 obtain ⟨N,T,j,i⟩:=bt2_at;have c:=O (print_at sB3 ζ (N:=N) (T:=T) j i<|by rw [bt2_txt];decide);have g:=O λw1=>showType_at sB4 w1 ζ bty2_at;rw [bt2_txt] at c;clear j i;go_enter Tryz.func5,Tryz.ntmps5;go_wp2_with fail;refine (c.u _ m).mono ?_;rintro e w1 ⟨d,rfl⟩;have n:V w.heap≤w1.heap.size:=d.size;have f:=O d;clear d c;have h:=heap_alloc_new w1<|γ #[U 0,U 0] 25;have PQ:Hid (∀ a,I No (w1.alloc<|γ #[U 0,U 0] 25) a→δ a (J w1.heap.size 0)=C (U 0)):=by
  intro a l;refine A4 l ?_;rw [ä _ _ 0 _ _ _ h];rfl
 clear h;go_wp2_with fail;refine (g.u _).mono ?_;rintro e w2 ⟨rfl,b⟩;have r:=PQ.u w2<|chgB b;have o:=b.size;have k:=O<|f.u.trans<|ô (B6 (ν No _ _)<|chgB b) (λ_ _ x=>x.elim) n;simp only [Ô] at o;have q:w1.heap.size<w2.heap.size:=W;clear g f PQ b;go_wp2;go_ret;exact ⟨K,k.u.alloc W _⟩
def tab_to {w a:E} (h:Tab w (V w.heap)) (c:I No w a):Tab a (V a.heap):=by
 obtain ⟨d,g,e,f,b⟩:=tab_chg h c λ_ _ x=>x;exact ⟨d,g,e,b,b⟩
def runAnew_any (s:ByteArray) (o n:Int) (w:E) (k:s.size≤Δ) (l:Tbl w):μ Tryz.prog 3 #[ι s,U o,U n] w λe m=>e=π (.bool τ)∧á (V w.heap) w m:=by
 have b:Tab w (V w.heap):=by
  obtain ⟨r,g,t,i⟩:=l;exact ⟨r,g,t,i,i⟩
 refine anew_gen Anw (λ_ _ h=>h) s o n w k l (λa d=>showBegun_any a<|tab_to b<|chgBw d) λa d=>(print_any s a k (tab_to b<|chgBw d)<|hA_all _).mono ?_;rintro e m ⟨f,⟨q,p,c,rfl⟩|⟨N,T,v,c,u,⟨j,rfl⟩|⟨j,rfl⟩⟩⟩
 .exact ⟨f,_,q,p,K,λh=>absurd h c.1⟩
 .exact ⟨f,_,2,0,K,λh=>absurd h ζ⟩
 .refine ⟨f,_,0,0,K,λ_=>⟨by unfold Δ;simp [ByteArray.size];omega,?_⟩⟩;obtain ⟨x,b⟩:=ď c;obtain rfl:=trd_one u b;simpa using anew_pn c b j
