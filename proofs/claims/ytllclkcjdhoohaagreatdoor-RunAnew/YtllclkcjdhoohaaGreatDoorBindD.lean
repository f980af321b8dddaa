/-
  A part of the proof.
-/
import Derived.Test.YtllclkcjdhoohaaGreatDoorBindC
import Derived.Test.YtllclkcjdhoohaaGreatDoorYq
import Derived.Test.YtllclkcjdhoohaaGreatDoorCheckA
import Derived.RangeFuncNested
import Derived.RangeFuncBound
import Derived.RangeFuncCalls
import Derived.RangeFuncLeaves
import Derived.RangeFuncBox
import Derived.Shelf.Abstract
import Derived.Shelf.RegionOpen
import Derived.OwnWalkIn
import Derived.TacticsInMore
import Derived.LoopNIn
import Derived.LoopIn
import Derived.OwnWalk
set_option maxHeartbeats 0
set_option linter.all false
set_option maxRecDepth 100000
namespace Go.Proofs.YtllclkcjdhoohaaGreatDoor
open _root_.Array renaming size->V
open Bool renaming false->κ,true->τ
open Go renaming Value->υ,Calls->μ,frozen_of_row->æ,results->ã,heap_setCell_same->ð,maxLen->Δ,info_parts->ý,bodyPost_ret->ç,cell_of_row->ä,Addr->í,undef->Φ
open Ending renaming returned->π
open Obj renaming cells->γ
open Go.Proofs.Tryz renaming prog->ε
open RowKit renaming Below->á
open RowKit.Below renaming heap_alloc->ÿ,refl->ñ
open Value renaming ownBlock->Θ,slice->Y,pointer->Γ,string->ι
open World renaming cell?->δ,alloc->ω,setCell->σ,news_of_block->Ó,ownsRow->ρ
open I renaming refl->ì,alloc->ν,ep->ô,trans->Ã,set->é,drewN->Ψ,grown->ü
open List renaming length->Q,replicate->ó,length_singleton->Û
open Option renaming some->C
open Go.Proofs.Tryz
open Go.RowKit Go.Maps
theorem sA{k}{d}{n}{c}(a)(b)(h:k≠5/\k≠18/\k≠17/\k≠16/\k≠6/\k≠26):dU a b (.nd k d n c)=bE κ a b c:=by
 simp_all[dU,wY]
def pH{G}{n}{b}(l:Gd<|.nd 6 G n b):∃q o H B s,b=q++[.ty o,.nd 26 H B s]/\(∀p∈q,p.k=16)/\∀p∈s,1<=p.k:=by
 rw[Gd]at l;obtain⟨h,x⟩:=l;unfold bO at h;rw[wY ζ,yY K]at h;obtain⟨d,r,g,y,A⟩:=h;have z:=congrArg Q g;simp at z;have L:b=b.take (Q d)++b.drop (Q d):=(List.take_append_drop _ _).symm;have M:(b.take (Q d)).map Nt.k=d:=by rw[List.map_take,g];simp
 have u:(b.drop (Q d)).map Nt.k=[r,26]:=by rw[List.map_drop,g];simp
 obtain⟨a,c,e,v,k⟩:=k2 u;have j:∀p∈b,Gd p:=λp f=>tN x f;have w:=j a η;have m:=j c η;obtain⟨t,rfl⟩:=xV w<|v ▸ A;cases c with
 |ty o=>cases o<;>simp[Nt.k]at k
 |nd N F n2 D=>
  have:=k;subst this;refine⟨b.take (Q d),t,F,n2,D,η,λp f=>?_,λp f=>?_⟩
  .exact y _ η
  .rw[Gd]at m;have i:=m.1;simp only[bO]at i;rw[wY ζ,wY ζ,wY ζ,wY ζ,wY ζ,wY ζ,wY ζ,wY ζ,wY ζ,wY ζ,wY ζ,wY ζ,wY ζ,yY ζ]at i;have:=i _<|kZ.2 ⟨p,f,K⟩;omega
def kE{e}{n}{c}(b:Gd<|.nd 26 e n c):∀p∈c,1<=p.k:=λp d=>by
 rw[Gd]at b;have a:=b.1;simp only[bO]at a;rw[wY ζ,wY ζ,wY ζ,wY ζ,wY ζ,wY ζ,wY ζ,wY ζ,wY ζ,wY ζ,wY ζ,wY ζ,wY ζ,yY ζ]at a;have:=a _<|kZ.2 ⟨p,d,K⟩;omega
def oA{r}{n}{i}(h:Gd<|.nd 17 r n i):∃o b g e f,i=[.ty o,.nd b g e f]/\1<=b:=by
 rw[Gd]at h;obtain⟨d,q⟩:=h;simp only[bO]at d;rw[wY ζ,wY ζ,wY ζ,wY ζ,wY ζ,wY ζ,wY ζ,wY ζ,wY ζ,yY ζ]at d;obtain⟨x,y,j,k,l⟩:=d;obtain⟨a,c,rfl,m,p⟩:=k2 j;obtain⟨t,rfl⟩:=xV (tN q θ)<|m ▸ k;cases c with
 |ty o=>cases o<;>(grind[Nt.k,aP])
 |nd b g e f=>exact⟨t,b,g,e,f,K,by have:b=y:=p;rw[this];exact l.1⟩
theorem nZ{k}{n}{f}(e:Gd<|.nd 16 k n f){d}{b}:bE κ d b f=.ok d []:=by
 rw[Gd]at e;obtain⟨c,j⟩:=e;simp only[bO]at c;rw[wY ζ,wY ζ,wY ζ,wY ζ,wY ζ,wY ζ,wY ζ,wY ζ,yY ζ]at c;obtain⟨x,g,h⟩:=c;obtain⟨a,rfl,i⟩:=k1 g;obtain⟨t,rfl⟩:=xV (tN j θ)<|i ▸ h;rfl
def jV{b}{n}{a}(c:Gd<|.nd 5 b n a):a=[]:=by
 simp_all[Gd,bO,yY]
section
variable{c:E}{B a:Nat}{b d:υ}{N:List Nd}
def UE(c:E)(B a:Nat)(b d:υ)(N:List Nd):Prop:=∀(i) (q) (w) (m) (e) (k),dF c w B a b d m e k->e≠[]->∀(l o) (g n),zJ N l o g N[i] n->(∀p∈g,1<=p.k->lD c B a b d N p)->∀h,m+2*aB g<=h->h<=100000->Q e+aB g<=100000->Q k=Q N->Q (N[i]).M<=100000->Q (N[i]).text<=1000000->((N[i]).x=5\/(N[i]).x=18)->∀R,(bM (N[i]).text e=none->R=.bad 5 i)->(∀j,bM (N[i]).text e=C j->R=(Br.ok e [(i,j)]).and λf=>bE κ f l g)->
 μ ε 224 #[pV a,U i] w (aI c w B a b d N h k R)
def ux(hV:UE c B a b d N)(P:cU c b N)(b0:Q N<=10000)(an:∀nd∈N,Q nd.M<=100000/\Q nd.text<=1000000):∀(a4) (t),uD t<=a4->Gd t->1<=t.k->lD c B a b d N t:=by
 intro a4;induction a4 with
 |zero=>grind[A8b]
 |succ a4 ih=>
  intro t b4 s av g y w m r H ao h R hm hf M;cases t with
  |ty o=>cases o<;>simp[Nt.k]at av
  |nd k tx ai n=>
   obtain⟨T,A,u⟩:=Em.parts ao;have af:rH n:=by rw[Gd]at s;exact s.2
   have L:=λp i h1=>by
    refine ih p ?_ (tN af i) h1;have:=S9 i;grind[uD]
   rw[Em.ix];have D:nN (.nd k tx ai n)=aB n+1:=by rw[nN]
   rw[D]at hm hf;obtain⟨a7,aa⟩:=an _<|mQ A;have a2:(N[g+aB n]).x=k:=(congrArg Nd.x u).trans<|J7 _ _ _ _;have ab:(N[g+aB n]).text=tx:=(congrArg Nd.text u).trans (DI _ _ _ _).1;by_cases ad:k=17
   .subst ad;obtain⟨o,v,G,F,q,rfl,Z⟩:=oA s;have a3:aB [.ty o,.nd v G F q]=nN (.nd v G F q):=by simp[aB,nN]
    obtain⟨-,a6⟩:=dM.head T;rw[nN,Nat.add_zero]at a6;obtain⟨-,ar,ax⟩:=Em.parts (dM.head a6).1;have aw:=(congrArg Nd.x ax).trans<|J7 _ _ _ _;have ac:(N[g+aB [.ty o,.nd v G F q]]).a=((g+aB q:Nat):Int):=by
     have:=congrArg Nd.a u;refine this.trans ?_;simp only[bV,bD];rw[wY ζ,wY ζ,wY ζ,wY ζ,wY ζ,yY ζ];simp;exact Em.ix
    have hE:lD c B a b d N (.nd v G F q):=L _ θ Z;refine(vh P _ A w m r H h R v (g+aB q) (nN<|.nd v G F q) ar aw W W aa W a2 ac (λf=>dU f g<|.nd v G F q) (λf f' az hf e=>WU _ f g hf f' az e) ?_ _ K).mono λe w' i=>?_
    .intro aj m1 f ak ha ap b3 b1 aq b2 ho;have a5:=BV [.nd v G F q] (λp i=>by simp at i;subst i;exact⟨Z,hE⟩) g _ aj m1 f H a6 ha (T2 R ap) (by grind[aB]) (by grind[aB]) M (C<|J ak 0) 1 [((g+aB q:Nat):Int)] Ω ho (λb6 hq=>.inr<|by grind[Θ,zQ]);rw[DA _ _ _ _<|by exact Z]at a5;simp only[bE,Br.and_nil,aB,Nat.add_zero]at a5;exact a5
    .rw[wE r g tx ai o _<|by exact Z];rw[ab,a3]at i;rw[D,a3];exact i.more W
   by_cases h6:k=6
   .subst h6;obtain⟨l,o,z,x,j,rfl,ay,ah⟩:=pH s;have ag:∀p∈l,1<=p.k:=λp i=>η;have a3:aB (l++[.ty o,.nd 26 z x j])=aB l+aB j+1:=by rw[yN];simp[aB,nN];omega
    have au:bD g y (l++[.ty o,.nd 26 z x j])=px g l++[bW (g+aB l) (y+cK l)<|.ty o,((g+aB l+aB j:Nat):Int)]:=by
     rw[vG,X9 g y l ag];simp only[bD,Em.ix,nN,Nat.add_zero]
    rw[au]at u;have ac:(N[g+aB (l++[.ty o,.nd 26 z x j])]).a=((g+aB l+aB j:Nat):Int):=by
     refine(congrArg Nd.a u).trans ?_;simp[bV]
    have a8:(N[g+aB (l++[.ty o,.nd 26 z x j])]).M=px g l:=by
     refine(congrArg Nd.M u).trans ?_;simp[bV]
    have aq:Gd (.nd 26 z x j):=tN af θ;have am:∀p∈j,1<=p.k/\lD c B a b d N p:=λp i=>by
     refine⟨ah p i,ih p ?_ (tN (by grind[Gd]) i)<|ah p i⟩;have h1:=S9 i;have h2:uD (.nd 26 z x j)<=E7 (l++[.ty o,.nd 26 z x j]):=S9 θ;grind[uD]
    refine(D6e P _ A w m r H h l o z x j (λp i=>⟨ay p i,L p η<|ag p i⟩) am g y T W W M W a2 ac a8 _ K).mono λe w' i=>?_;rw[dU,wY ζ,wY ζ,wY ζ,wY ζ,yY K];rw[D,a3];exact i.more W
   by_cases ae:k=26
   .subst ae;have hk:=kE s;have a8:(N[g+aB n]).M=px g n:=by
     have:=congrArg Nd.M u;rw[X9 _ _ n hk]at this;exact this
    rw[D];refine(VA P _ A w m r H h n (λp i=>⟨hk p i,L p i<|hk p i⟩) g y T W W M a2 a8 _ K).mono λe w' i=>?_;rw[dU,wY ζ,wY ζ,wY ζ,wY ζ,wY ζ,yY K];exact i.more W
   obtain⟨j,a9⟩:=xz s ⟨h6,ad,ae⟩ T _ u;by_cases al:k=16
   .subst al;rw[D];refine(zv P _ A w m r H h R g y n j a9 L (m+2*(aB n+1)) W W W M a7 aa W a2 _ K).mono λe w' i=>?_;rw[dU,wY ζ,wY ζ,wY ζ,yY K];grind[nZ]
   by_cases h5:k=5\/k=18
   .rw[D];refine hV _ A w m r H h R g y n j a9 L (m+2*(aB n+1)) W W W M a7 aa W _ (λS=>?_) λb5 S=>?_
    .rw[ab]at S;obtain rfl|rfl:=h5
     .obtain rfl:=jV s;rw[dU,yY K,S];rfl
     grind[dU]
    .rw[ab]at S;obtain rfl|rfl:=h5
     .obtain rfl:=jV s;rw[dU,yY K,S,Br.jf,bE];rfl
     grind[dU]
   rw[D,sA r g W];exact uz P _ A w m r H h R g y n j a9 L (m+2*(aB n+1)) W W W M a7 W
end
section
variable{d:E}{B b:Nat}{c e:υ}{N:List Nd}{T:List Ty}{a:List Nt}
theorem bJ.em(h:bJ N T a):Em N 0 0 (.nd 26 [] 0 a):=⟨[],[],by simp[h.ey],K⟩
def bJ.j8(h:bJ N T a):Q N=aB a+1:=by
 have:=congrArg Q h.ey;grind[lZ,R6,nN]
def kU(a:List Nt):Br:=dU [] 0<|.nd 26 [] 0 a
def Ē(u:UE d B b c e N)(o:cU d c N)(g:bJ N T a)(F:∀f∈N,Q f.text<=1000000)(w)(l)(h:dF d w B b c e 0 [] l)(D:Q l=Q N):
 μ ε 224 #[pV b,U<|(Q N-1:Nat)] w (aI d w B b c e N 2400 l<|kU a):=by
 obtain⟨v,m,r⟩:=Em.parts g.em;have M:=g.j8;have P:=g.fp;have k:=Y7 _<|mM g.wn;have x:rH a:=by rw[Gd]at k;exact k.2
 have n:=kE k;have s:Q N-1=0+aB a:=W;have z:(N[0+aB a]).M=px 0 a:=by
  have:=congrArg Nd.M r;rw[X9 _ _ a n]at this;exact this
 have y:=(congrArg Nd.x r).trans<|J7 _ _ _ _;have t:∀f∈N,Q f.M<=100000/\Q f.text<=1000000:=λf q=>by
  refine⟨?_,F f q⟩;obtain⟨i,m,rfl⟩:=List.getElem_of_mem q;have A:N[i].fl∈iR 0 0 (.nd 26 [] 0 a):=by
   rw[<-g.ey];exact List.mem_map_of_mem<|mQ m
  have H:=NC (.nd 26 [] 0 a) k 0 0 _ A;have L:N[i].fl.M=N[i].M:=K;grind[nN]
 rw[s];refine(VA o _ m w 0 [] l h a (λp j=>⟨n p j,ux u o W t _ p (vQ _) (tN x j)<|n p j⟩) 0 0 v W η D y z _ K).mono λG R j=>?_;rw[kU,dU,wY ζ,wY ζ,wY ζ,wY ζ,wY ζ,yY K];exact j.more W
end
def Ű{c}{B d}{a F}{N}(k:cU c a N):UE c B d a F N:=by
 intro i o w m e D h n b A y z t j x s r l v q u p R f g;exact vk k i o w m e D h n b A y z t j x s r l v q u p R f g
section
variable{b e:E}{B a:Nat}{d c:υ}{N:List Nd}
def Qe(i:Nat)(w)(m)(h)(R)(p:∀k,I No w k->μ ε 224 #[pV a,U i] k (aI b e B a d c N m h R))
 (g) (u:g<V w.heap) (t:δ w (J g 0)=C (U i)):
 μ ε 166 #[pV a,Y (C<|J g 0) 1 1] w (aI b e B a d c N m h R):=by
 have q:=O p;go_in;go_wp2;go_loopw [8] (λv wr=>(v=U 0/\wr=w)\/(v=U 1/\Hid (aI b e B a d c N m h R (rT) wr))) (λv _=>1-(intOf v).toNat);case atStart=>simp
 case round=>
  obtain⟨rfl,rfl⟩|⟨rfl,H⟩:=hrel
  .go_wp2_with fail;refine(q.u _<|ì _ _).mono ?_;rintro r x n;have o:=n.2;cases R with
   |bad s j=>
    obtain rfl:r=gu s (cW N j):=o;exact⟨K,n⟩
   |ok f l=>
    obtain⟨rfl,-⟩:=o;go_wp2;simp_all[measure,intOf]
  .go_wp2;go_end0;exact H.u
def Qg(i:Nat)(w)(m)(k)(R)(r:∀g,I No w g->μ ε 224 #[pV a,U i] g (aI b e B a d c N m k R))
 (o p) (x:δ w (J o 0)=C (pV a)) (y:δ w (J p 2)=C (U i)):
 μ ε 165 #[pV o,pV p] w (aI b e B a d c N m k R):=by
 have z:=rY w<|γ #[U i] 3;have q:=O (Qe i (ω w<|γ #[U i] 3) m k R (λg v=>r g<|B6 (ν No _ _) v) (V w.heap) θ θ);go_in;go_wp2_with fail;refine q.u.mono ?_;rintro t A h;have n:=h.2;cases R with
 |bad u j=>
  obtain rfl:t=gu u (cW N j):=n;exact⟨K,h⟩
 |ok f l=>
  obtain⟨rfl,-⟩:=n;have s:=O h;go_wp2;go_end0;exact s.u
def dF.pn{w s}{m}{p}{r}(h:dF b w B a d c m p r){q}{u}{f}{v}(l:I (λk=>k=q) w s)(o:w.heap[q]?=C (γ u f v))(y:f≠3/\f≠166)(z:f≠266)(L:V b.heap<=q):dF b s B a d c m p r:=by
 obtain⟨G,H⟩:=h.tv o y;obtain⟨t,F,j⟩:=h.st;refine⟨h.hz,kQ h.le l.size,h.jh.trans<|ô l (λk _ f=>W) h.jh.size,t,F,j.P l (Ne.symm G) (λg n f=>I6 j.ar o (Ne.symm z)<|f ▸ n) (λg n f=>H<|f ▸ n) λx D f=>?_⟩;obtain⟨i,A,rfl⟩:=List.getElem_of_mem D;have:=j.len;exact(j.fr i A W).et<|f ▸ o
def DS(b w:E)(B a:Nat)(d c:υ)(N:List Nd)(m:Nat)(n:uZ)(R:Br)(j:Ending)(g:E):Prop:=(á (V b.heap) b g/\∀(q:Nat) (h:Array υ) (t),w.heap[q]?=C (γ h t (0,0))->(t≠3/\t≠166)->t≠266->g.heap[q]?=C (γ h t (0,0)))/\match R with
 |.bad k i=>j=π (.agg #[U k,U<|cW N i])
 |.ok f l=>j=π (.agg #[U 0,U 0])/\dF b g B a d c m f (dG n l)
def uq(i:Nat)(w)(m m0)(fs)(p)(R)(h:dF b w B a d c m0 fs p)(HN:∀f,I No w f->μ ε 224 #[pV a,U i] f (aI b f B a d c N m p R))
 (G H) (a6:δ w (J G 0)=C (pV a)) (a7:δ w (J H 2)=C (U i)):
 μ ε 40 #[.func (.func 165) #[] #[pV G,pV H]] w (DS b w B a d c N m p R):=by
 have z:=ν No w<|γ #[U 0,U 0] 25;have A:=h.kept z;have HM:=Qg i (ω w<|γ #[U 0,U 0] 25) m p R (λf n=>(HN f<|B6 z n).mono λv w' hp=>aI.after (cV.y n) hp) G H (A4 z a6)<|A4 z a7;obtain⟨ai,a9,aa⟩:=h.fresh<|vQ _;have ac:=rY w<|γ #[U 0,U 0] 25;have a4:Hid (∀f,cV B a c (ω w<|γ #[U 0,U 0] 25) f->f.heap[V w.heap]?=C (γ #[U 0,U 0] 25 (0,0))/\á (V b.heap) b f):=λf n=>⟨n.other ac ζ a9 aa,A.jh.trans<|(n.below A.le).mono A.hz⟩;have ad:=h.jh.size;have a5:Hid (∀f,cV B a c (ω w<|γ #[U 0,U 0] 25) f->∀q (k:Array υ) (t:TypeId),w.heap[q]?=C (γ k t (0,0))->(t≠3/\t≠166)->t≠266->q<V w.heap/\f.heap[q]?=C (γ k t (0,0))):=λf n q k t o s u=>by
  obtain⟨y1,y2⟩:=h.tv o s;have F:=(aG o);exact⟨F,n.other (by grind[ÿ]) u y1 y2⟩
 go_enter_defers func40,ntmps40;go_wp2_with fail;refine HM.mono ?_;rintro v g ⟨hk,hr⟩;obtain⟨r,ab⟩:=a4.u g hk;have T:=O<|a5.u g hk;have q0:δ g (J (V w.heap) 0)=C (U 0):=cr r K;have q1:δ g (J (V w.heap) 1)=C (U 0):=cr r K;have hz:=(aG r);have af:=λae=>æ g _ ae _ _ r;have S:=O ab;have P:=O r;cases R with
 |bad x j=>
  obtain rfl:v=gu x (cW N j):=hr;unfold gu;refine leaves_cons (f:=80) (args:=#[pV (V w.heap)]) θ (by simp[go_sem]) ?_;refine(FQ (V w.heap) x (cW N j) 0 0 [] _ q0 q1 af).mono ?_;rintro v u' ag ⟨rfl,rfl,hc,L,M⟩;have KX:DS b w B a d c N m p (.bad x j) (π<|.agg #[U x,U<|cW N j]) ag:=⟨⟨S.u.trans<|ô hc (λa2 _ a3=>W) S.u.size,λq k t o s u=>by
   obtain⟨F,h4⟩:=T.u q k t o s u;rw[hc.block q W W];omega⟩,K⟩;generalize cW N j=pa at*;simp[Leaves,settle,ã,results40,go_sem,L,M];omega
 |ok a8 l=>
  obtain⟨rfl,hb⟩:=hr;have HB:=O hb;go_wp2;refine leaves_cons (f:=80) (args:=#[pV (V w.heap)]) θ (by simp[go_sem]) ?_;refine(OP (V w.heap) _).mono ?_;rintro v u' ah ⟨rfl,rfl,y⟩;have s1:=ð g (V w.heap) 0 _ _ (U 0) P.u;have s2:=ð _ (V w.heap) 1 _ _ (U 0) s1;have L:=A4 y (show δ _ (J (V w.heap) 0)=C (U 0) from cr s2 K);have M:=A4 y (show δ _ (J (V w.heap) 1)=C (U 0) from cr s2 K);have D:I (λa2=>a2=V w.heap) g (σ (σ g (J (V w.heap) 0)<|U 0) (J (V w.heap) 1)<|U 0):=Ã (é g (J (V w.heap) 0) _) (é _ (J (V w.heap) 1) _) λ_ _ a3=>a3;have Z:=(HB.u.pn D P.u ζ ζ ad).kept y;have KX:DS b w B a d c N m p (.ok a8 l) (π<|.agg #[U 0,U 0]) ah:=⟨⟨Z.jh,λq k t o s u=>by
   obtain⟨F,h4⟩:=T.u q k t o s u;rw[y.block q (yQ W D.size) id,D.block q W W];omega⟩,K,Z⟩;simp[Leaves,settle,ã,results40,go_sem,L,M];omega
end
def cU.eu{S}{w d}{c}{N}(h:cU w c N)(b:I S w d)(p:∀k f e i,w.heap[k]?=C (γ f e i)->(e=82\/e=139\/e=3)->¬S k):cU d c N:=by
 obtain⟨n,a,j⟩:=h;refine⟨n,A3 a b λg l x=>?_,j.imp<|gE.P b (λg _ _ q m=>?_) λ_ _ _=>trivial⟩
 .obtain⟨_,o,m⟩:=A9 a g l;grind
 grind
def OC(l:bZ)(w:E)(e:Ending)(c:E):Prop:=á (V w.heap) w c/\
 ((∃a p,dZ l (.inl (a,p))/\e=π (.tuple #[Γ none,.agg #[U a,U p]]))\/
  ∃N T f B b d k,dZ l (.inr (N,T))/\bJ N T f/\V w.heap<=B/\match kU f with
   |.bad a i=>e=π (.tuple #[pV b,.agg #[U a,U<|cW N i]])
   |.ok h l=>e=π (.tuple #[pV b,.agg #[U 0,U 0]])/\∃g j,hG c B b d g k j 2400 h (dG (ó (Q N)<|-1) l)/\cU c d N)
def Xl{l}{w a b F:E}{N}{T}{j}{o s}{x y}{m}(z:á (V w.heap) w a)(Z:V w.heap<V a.heap)(B:dZ l<|.inr (N,T))(v:bJ N T j)(u:cU a o N)(P:b.heap[V w.heap]?=C (γ #[U 0,U 0] 25 (0,0)))(q:DS a F (V a.heap) m o s N 2400 (ó (Q N)<|-1) (kU j) (π<|.agg #[U x,U y]) b):
 OC l w (π<|.tuple #[pV m,.agg #[U x,U y]]) (σ (σ b (J (V w.heap) 0)<|U x) (J (V w.heap) 1)<|U y):=by
 have n:I (λk=>k=V w.heap) b (σ (σ b (J (V w.heap) 0)<|U x) (J (V w.heap) 1)<|U y):=Ã (é b (J (V w.heap) 0) _) (é _ (J (V w.heap) 1) _) Ξ;have p:=z.trans (q.1.1.mono W);refine⟨p.trans<|ô n (λk _ e=>W) p.size,.inr ⟨N,T,j,V a.heap,m,o,s,B,v,W,?_⟩⟩;have h:=q.2;cases A:kU j with
 |bad H i=>
  grind
 |ok f l2=>
  rw[A]at h;obtain⟨h,r⟩:=h;simp at h;obtain⟨t,D,d⟩:=r.st;refine⟨η,t,D,d.P n (λe=>?_) (λg c e=>?_) (λg c e=>?_) λg c e=>?_,(u.eu ((I.below r.jh).mono λ_ R x=>W) λ_ _ _ _ _ _ x=>x).eu n λk G e L S M x=>?_⟩
  .have:=d.low;omega
  .have:=(d.ar.lt g c).1;omega
  .have:=(d.js.lt g c).1;omega
  .have:=d.ge g c;omega
  grind
section
def Gy(s)(w:E)(ac:s.size<=Δ):μ ε 105 #[ι s] w (OC s.data.toList w):=by
 have HP:=O λb=>Eg s b ac;have L:=rY w<|γ #[U 0,U 0] 25;obtain⟨i0,hi,aq,ar,au⟩:=ý Tryz.fy;clear ac;go_in;go_wp2_with fail;refine(HP.u _).mono ?_;clear HP;rintro e b ⟨r,⟨q,p,t,rfl⟩|⟨N,T,c,d,i,k,t,rfl,hN,hT⟩⟩
 .have m:b.heap[V w.heap]?=C (γ #[U 0,U 0] 25 (0,0)):=by
   rw[r.block _ θ];exact L
  have g0:δ b (J (V w.heap) 0)=C (U 0):=cr m K;have g1:δ b (J (V w.heap) 1)=C (U 0):=cr m K;have gz:=λo=>æ b _ o _ _ m;have gl:=(aG m);have b3:(q !=0)=τ:=by simp[t.1]
  have D:Hid (á (V w.heap) w b):=(ô (ν No w _) å<|vQ _).trans (r.mono θ);have a3:=O t;clear t r L m;go_wp2_with fail;go_region;all_goals go_wp2_with fail
  all_goals
   have am:I (λaf=>af=V w.heap) b (σ (σ b (J (V w.heap) 0)<|U q) (J (V w.heap) 1)<|U p):=Ã (é b (J (V w.heap) 0) _) (é _ (J (V w.heap) 1) _) Ξ;have hR:OC s.data.toList w (π<|.tuple #[Γ none,.agg #[U q,U p]]) _:=⟨D.u.trans<|ô (Ã am (B6 (B6 (ν No _<|γ #[sN,sN,U 0] 40)<|ν No _<|γ #[U q,U p] 25)<|Ψ No _ 1) å) (λaf _ e=>W) D.u.size,.inl ⟨q,p,a3.u,K⟩⟩;exact ç (v:=.tuple #[Γ none,.agg #[U q,U p]]) (by simp[ã,results105,go_sem,g0,g1,gl]) K hR
 .obtain⟨ps,H⟩:=ď t;have az:=H.fp;have W2:Hid (∃z,z=(((b.alloc<|γ #[Y c (Q N) d,Y i (Q T) k,U<|(Q N:Int)-1] 40).alloc<|γ #[U 0,U 0] 25).alloc<|γ #[Y c (Q N) d,sN,sN] 166).alloc (γ #[pV<|V b.heap+1+1] 161)):=⟨_,K⟩;have Z:=O H;have aj:=O hN;have ax:=O r;have D:Hid (á (V w.heap) w b):=(ô (ν No w _) å<|vQ _).trans (r.mono θ);have a3:=O t;have m:b.heap[V w.heap]?=C (γ #[U 0,U 0] 25 (0,0)):=by
   rw[r.block _ θ];exact L
  have F0:=O m;have ae:=(aG m);have b2:1<=Q N:=by have:=H.j8;omega
  clear hT hN r t H L m;go_wp2_with fail;have BZ:Hid (tZ ((((b.alloc<|γ #[Y c (Q N) d,Y i (Q T) k,U<|(Q N:Int)-1] 40).alloc<|γ #[U 0,U 0] 25).alloc<|γ #[Y c (Q N) d,sN,sN] 166).alloc<|γ #[pV<|V b.heap+1+1] 161) ((((b.alloc<|γ #[Y c (Q N) d,Y i (Q T) k,U<|(Q N:Int)-1] 40).alloc<|γ #[U 0,U 0] 25).alloc<|γ #[Y c (Q N) d,sN,sN] 166).alloc<|γ #[pV<|V b.heap+1+1] 161) (V b.heap) (V b.heap+1+1) (Y c (Q N) d) (sN) 0):=by
   refine⟨W,?_,kW _ _ _ _,ì _ _⟩;rw[ÿ _ _ _ θ];have:=rY ((b.alloc<|γ #[Y c (Q N) d,Y i (Q T) k,U<|(Q N:Int)-1] 40).alloc<|γ #[U 0,U 0] 25)<|γ #[Y c (Q N) d,sN,sN] 166;simpa using this
  have M:((((b.alloc<|γ #[Y c (Q N) d,Y i (Q T) k,U<|(Q N:Int)-1] 40).alloc<|γ #[U 0,U 0] 25).alloc<|γ #[Y c (Q N) d,sN,sN] 166).alloc<|γ #[pV<|V b.heap+1+1] 161).heap[V b.heap+1+1+1]?=C (γ #[pV<|V b.heap+1+1] 161 (0,0)):=by
   have:=rY (((b.alloc<|γ #[Y c (Q N) d,Y i (Q T) k,U<|(Q N:Int)-1] 40).alloc<|γ #[U 0,U 0] 25).alloc<|γ #[Y c (Q N) d,sN,sN] 166)<|γ #[pV<|V b.heap+1+1] 161;simpa using this
  have ai:Hid (á (V b.heap) b<|(((b.alloc<|γ #[Y c (Q N) d,Y i (Q T) k,U<|(Q N:Int)-1] 40).alloc<|γ #[U 0,U 0] 25).alloc<|γ #[Y c (Q N) d,sN,sN] 166).alloc<|γ #[pV<|V b.heap+1+1] 161):=ô (B6 (B6 (ν No _ _)<|ν No _ _)<|B6 (ν No _ _)<|ν No _ _) å<|vQ _;have a5:((((b.alloc<|γ #[Y c (Q N) d,Y i (Q T) k,U<|(Q N:Int)-1] 40).alloc<|γ #[U 0,U 0] 25).alloc<|γ #[Y c (Q N) d,sN,sN] 166).alloc<|γ #[pV<|V b.heap+1+1] 161).heap[V b.heap]?=C (γ #[Y c (Q N) d,Y i (Q T) k,U<|(Q N:Int)-1] 40 (0,0)):=by
   rw[ÿ _ _ _ â,ÿ _ _ _ â,ÿ _ _ _ θ];exact rY b _
  clear W2;generalize ((((b.alloc<|γ #[Y c (Q N) d,Y i (Q T) k,U<|(Q N:Int)-1] 40).alloc<|γ #[U 0,U 0] 25).alloc<|γ #[Y c (Q N) d,sN,sN] 166).alloc<|γ #[pV<|V b.heap+1+1] 161)=z at*;have aw:=(aG M);have QB:Hid (∀a u j,tZ z a (V b.heap) (V b.heap+1+1) (Y c (Q N) d) u j->δ a (J (V b.heap+1+1+1) 0)=C (pV<|V b.heap+1+1)/\δ a (J (V b.heap+1+1) 2)=C u/\(∀o,a.frozen? (J (V b.heap+1+1) o)=κ)/\V b.heap+1+1<V a.heap/\V b.heap+1+1+1<V a.heap):=λa u j h=>by
   have n:=h.P.block _ (aG M) W;rw[M]at n;exact⟨cr n K,cr h.blk K,λo=>æ a _ o _ _ h.blk,(aG h.blk),(aG n)⟩
  go_loopw [23] (λa6 wr=>∃(j:Nat) (u:υ),j<=Q N/\a6=U (j:Int)/\Hid (tZ z wr (V b.heap) (V b.heap+1+1) (Y c (Q N) d) u j)) (λa6 _=>Q N-(intOf a6).toNat);case atStart=>grind
  case round=>
   obtain⟨j,u,hj,rfl,g⟩:=hrel;obtain⟨qa,qc,qz,ql,b9⟩:=QB.u _ _ _ g.u;by_cases b4:j<Q N
   .obtain⟨ad,a4,rfl⟩:=B8 g.u.js;have HY:=O<|A3 g.u.js (B6 (Ψ No wr 1)<|ν No _<|γ #[U<|-1] 3) Ξ;have a8:I No wr (wr.drew.alloc<|γ #[U<|-1] 3):=B6 (Ψ No wr 1)<|ν No _<|γ #[U<|-1] 3;have S:=O a8;have aa:=I6 g.u.js g.u.blk ζ;have ao:Θ (Y ad j a4)≠C (V b.heap+1+1+1):=λe=>by
     have:=(g.u.js.lt _ e).1;omega
    have b1:=g.u.P.size;clear a8;go_wp2_with fail;go_region_law (
     refine step_append_lies _ Ω _ _ _ Ω (V z.heap) 3 i0 (U 0) 1 8 underlying80 hi aq ar au K W (Y ad j a4) j (C8<|ó j<|-1) Ω HY.u (J wr.heap.size 0) 1 1 [U<|-1] Ω Ω (Ó (cs:=#[U<|-1]) (t:=3) (fr:=(0,0))<|rY wr.drew _) (by simp[Value.oneCell']) W (by simp only[Δ];omega) W â (wr.heap.size+1) θ ?_;intro gg a7 P ab B al b5;have z4:P.cell? (J (V b.heap+1+1) 2)=C (Y ad j a4):=by rw[B.cell_far _ â<|Ne.symm aa];exact A4 S.u qc
     have z5:P.cell? (J (V b.heap+1+1+1) 0)=C (pV<|V b.heap+1+1):=by rw[B.cell_far _ â<|Ne.symm ao];exact A4 S.u qa
     have y4:P.frozen? (J (V b.heap+1+1) 2)=κ:=by rw[B.frozen_far _ â<|Ne.symm aa];exact U4 (w:=wr.drew) ql<|qz 2);all_goals
     have HG:Hid (tZ z (P.setCell (J (V b.heap+1+1) 2)<|Y (C<|J gg 0) (j+1) a7) (V b.heap) (V b.heap+1+1) (Y c (Q N) d) (Y (C<|J gg 0) (j+1) a7)<|j+1):=g.u.grow S.u (ü B) ab;clear ab B al HY;go_wp2;go_roundw;case rel=>exact⟨j+1,_,W,ï,HG⟩
     case measure=>simp[intOf];omega
   .have an:j=Q N:=W;subst an;have G:cU b (Y c (Q N) d) N:=by
     obtain⟨nx,h1,h2⟩:=aj.u;exact⟨nx,C7 h1<|wQ _,h2.imp (λb8 xs h=>by obtain⟨av,e,ho,_⟩:=h;exact⟨av,e,ho,λ_ _=>trivial⟩)⟩
    have ak:=O G;have hB:=g.u.done (w0:=b) (vQ _) W ai.u;have a9:(Q N:Int)-1=((Q N-1:Nat):Int):=W;have ag:wr.heap[V b.heap]?=C (γ #[Y c (Q N) d,Y i (Q T) k,U<|(Q N:Int)-1] 40 (0,0)):=by
     rw[g.u.P.block _ (aG a5) W];exact a5
    have ah:wr.cell? (J (V b.heap) 2)=C (U ((Q N-1:Nat):Int)):=by rw[<-a9,ä _ _ 2 _ _ _ ag];rfl
    have n:wr.heap[V b.heap+1+1+1]?=C (γ #[pV<|V b.heap+1+1] 161 (0,0)):=by
     rw[g.u.P.block _ aw W];exact M
    have HF:Hid (∀a,I No wr a->μ ε 40 #[.func (.func 165) #[] #[pV<|V b.heap+1+1+1,pV (V b.heap)]] a λe f=>∃x y,e=π (.agg #[U x,U y])/\δ f (J (V b.heap+1+1+1) 0)=C (pV<|V b.heap+1+1)/\(δ f (J (V w.heap) 0)=C (U 0)/\δ f (J (V w.heap) 1)=C (U 0)/\(∀o,f.frozen? (J (V w.heap) o)=κ)/\V w.heap<V f.heap)/\
     Hid (f.heap[V w.heap]?=C (γ #[U 0,U 0] 25 (0,0))/\DS b a (V b.heap) (V b.heap+1+1) (Y c (Q N) d) u N 2400 (ó (Q N)<|-1) (kU ps) (π<|.agg #[U x,U y]) f)):=by
     intro a A;refine(uq (Q N-1) a 2400 0 [] (ó (Q N)<|-1) (kU ps) (hB.kept A) (λa2 h2=>Ē (Ű G) G Z.u (λnd hm=>kQ (Z.u.tx nd hm) ζ) a2 _ ((hB.kept A).kept h2) θ) (V b.heap+1+1+1) (V b.heap) (A4 A W)<|A4 A ah).mono ?_;rintro e f F;have v:f.heap[V w.heap]?=C (γ #[U 0,U 0] 25 (0,0)):=by rw[F.1.1.block _ ae];exact F0.u
     have q5:=F.1.2 _ _ _ (show a.heap[V b.heap+1+1+1]?=_ by rw[A.block _ (aG n) id];exact n) ζ ζ;have ap:∃x y,e=π (.agg #[U x,U y]):=by
      have h6:=F.2;cases b0:kU ps with
      |bad q b7=>grind
      |ok ay l=>grind
     obtain⟨x,y,rfl⟩:=ap;exact⟨x,y,K,cr q5 K,⟨cr v K,cr v K,λo=>æ _ _ o _ _ v,(aG v)⟩,v,F⟩
    have b6:=uG;have qx:wr.cell? (J (V b.heap+1+1+1) 0)=C (pV<|V b.heap+1+1):=cr n K;clear a5 ag ah n hB G a9 qc qz BZ QB g;go_wp2_with fail;go_region_with (go_at_call 40;refine(HF.u _<|Ψ _ _ 1).mono ?_;rintro e f ⟨x,y,rfl,cq,⟨v,ba,rz,rl⟩,R⟩);all_goals
     have hR:=O<|Xl (D.u) ae a3.u Z.u ak.u R.u.1 R.u.2;have s1:=ð f (V w.heap) 0 _ _ (U x) R.u.1;have s2:=ð _ (V w.heap) 1 _ _ (U y) s1;have z0:δ (σ (σ f (J (V w.heap) 0)<|U x) (J (V w.heap) 1)<|U y) (J (V w.heap) 0)=C (U x):=cr s2 K;have z1:δ (σ (σ f (J (V w.heap) 0)<|U x) (J (V w.heap) 1)<|U y) (J (V w.heap) 1)=C (U y):=cr s2 K;clear s1 s2;go_wp2_with fail;exact ç (v:=.tuple #[pV<|V b.heap+1+1,.agg #[U x,U y]]) (by simp[ã,results105,go_sem,z0,z1]) K hR.u
end
def U6(a:uZ):Nat->List (Int×Int)
 |0=>[]
 |j+1=>U6 a j++(if a.getD j 0≠-1 then [((j:Int),a.getD j 0)] else [])
def RU(a):∀j,Q (U6 a j)<=j
 |0=>vQ _
 |j+1=>by
  have:=RU a j;grind[U6,qQ]
def S4(l:List<|Int×Int):List υ:=l.flatMap λp=>[U p.1,U p.2]
theorem OM(l)(p):S4 (l++[p])=S4 l++[U p.1,U p.2]:=by simp[S4]
def C6d(l):Q (S4 l)=Q l*2:=by
 induction l with
 |nil=>rfl
 |cons p r a=>
  grind[S4]
def Br.m8{r:Br}{k}{e}{i}(c:∀e i,r=.bad e i->e=5\/e=6)(d:∀f e i,k f=.bad e i->e=5\/e=6)(h:r.and k=.bad e i):e=5\/e=6:=by
 cases r with
 |bad a g=>grind[Br.and]
 |ok b l=>
  grind[Br.jf]
mutual
theorem mX:∀(t:Nt) (a:List Fr) (b:Nat) (e:Int) (i:Nat),dU a b t=.bad e i->e=5\/e=6
 |.ty _,a,b,e,i,h=>by grind[dU]
 |.nd k p n c,a,b,e,i,h=>by
  rw[dU]at h;split at h
  .grind
  split at h
  .split at h
   .grind
   .exact Br.m8 (λ_ _ h=>η) (λf e i h=>dX c κ f b e i h) h
  split at h
  .split at h
   .grind
   .revert h;cases j:bE κ (if vS c=τ then I2 a p ((b+aB c:Nat):Int) else a) b c with
    |bad g m=>
     intro h;simp[Br.jk]at h;exact h.1 ▸ dX c κ _ b g m j
    |ok f l=>intro h;simp[Br.jk]at h
  split at h
  .grind
  split at h
  .revert h;cases j:bE τ (a++[Fr.no]) b c with
   |bad g m=>
    intro h;simp[Br.pop]at h;exact h.1 ▸ dX c τ _ b g m j
   |ok f l=>intro h;simp[Br.pop]at h
  split at h
  .revert h;cases j:bE κ (a++[Fr.no]) b c with
   |bad g m=>
    intro h;simp[Br.pop]at h;exact h.1 ▸ dX c κ _ b g m j
   |ok f l=>intro h;simp[Br.pop]at h
  .exact dX c κ a b e i h
theorem dX:∀(c:List Nt) (d:Bool) (a:List Fr) (b:Nat) (e:Int) (i:Nat),bE d a b c=.bad e i->e=5\/e=6
 |[],d,a,b,e,i,h=>by grind[bE]
 |.ty o::r,d,a,b,e,i,h=>by
  rw[bE]at h;exact dX r d a b e i h
 |.nd k p n q::r,d,a,b,e,i,h=>by
  rw[bE]at h;refine Br.m8 (λe i h=>?_) (λf e i h=>dX r d f _ e i h) h;split at h
  .exact dX q κ a b e i h
  .exact mX (.nd k p n q) a b e i h
end
def IW(l:bZ)(w:E)(e:Ending)(g:E):Prop:=á (V w.heap) w g/\
 ((∃a p,a≠0/\dZ l (.inl (a,p))/\e=π (.tuple #[sN,.agg #[U a,U p]]))\/
  ∃N T f,dZ l (.inr (N,T))/\bJ N T f/\match kU f with
   |.bad a i=>a≠0/\e=π (.tuple #[sN,.agg #[U a,U<|cW N i]])
   |.ok _ b=>∃d c,e=π (.tuple #[Y d (Q (U6 (dG (ó (Q N)<|-1) b) (Q N))) c,.agg #[U 0,U 0]])/\ρ g (V w.heap) 129 2 (Y d (Q (U6 (dG (ó (Q N)<|-1) b) (Q N))) c) (Q (U6 (dG (ó (Q N)<|-1) b) (Q N))) (S4<|U6 (dG (ó (Q N)<|-1) b) (Q N)))
def Tryz.qh:(prog.info? 129).map (λi=>(i.zero,i.size,i.bytes))=C (C<|.agg #[U 0,U 0],2,16):=î
def Ns(s)(w:E)(q:s.size<=Δ):μ ε 54 #[ι s] w (IW s.data.toList w):=by
 have S:=O λb=>Gy s b q;have L:=rY w<|γ #[U 0,U 0] 25;obtain⟨i0,hi,az,b0,b1⟩:=ý Tryz.qh;go_in;go_wp2_with fail;refine(S.u _).mono ?_;rintro a9 b ⟨i,⟨d,p,n,rfl⟩|⟨N,a8,R,b4,bb,nv,tv,n,H,hB,M⟩⟩
 .have e:b.heap[V w.heap]?=C (γ #[U 0,U 0] 25 (0,0)):=by
   rw[i.block _ θ];exact L
  have y:δ b (J (V w.heap) 0)=C (U 0):=cr e K;have z:δ b (J (V w.heap) 1)=C (U 0):=cr e K;have gz:=λo=>æ b _ o _ _ e;have A:=(aG e);have aq:(d !=0)=τ:=by simp[n.1]
  have g:Hid (á (V w.heap) w b):=(ô (ν No w _) å<|vQ _).trans (i.mono θ);have a7:=O n;go_wp2;go_region;all_goals go_wp2
  all_goals
   have l:I (λk=>k=V w.heap) b (σ (σ b (J (V w.heap) 0)<|U d) (J (V w.heap) 1)<|U p):=Ã (é b (J (V w.heap) 0) _) (é _ (J (V w.heap) 1) _) Ξ;have Z:IW s.data.toList w (π<|.tuple #[sN,.agg #[U d,U p]]) _:=⟨g.u.trans<|ô (Ã l (B6 (ν No _<|γ #[U d,U p] 25)<|Ψ No _ 1) å) (λk _ a9=>W) g.u.size,.inl ⟨d,p,a7.u.1,a7.u,K⟩⟩;exact ç (by simp[ã,results54,go_sem,y,z,A]) K Z
 .cases B:kU R with
  |bad d ix=>
   rw[B]at M;have T:=M;subst T;have a4:Hid (d≠0):=by
    show d≠0;have:=mX (.nd 26 [] 0 R) [] 0 d ix B;omega
   have D:Hid (∀h,á (V w.heap) w h->IW s.data.toList w (π<|.tuple #[sN,.agg #[U d,U<|cW N ix]]) h):=λh hw=>⟨hw,.inr ⟨N,a8,R,n,H,by rw[B];exact⟨a4.u,K⟩⟩⟩;generalize cW N ix=p at*;have e:b.heap[V w.heap]?=C (γ #[U 0,U 0] 25 (0,0)):=by
    rw[i.block _ θ];exact L
   have y:δ b (J (V w.heap) 0)=C (U 0):=cr e K;have z:δ b (J (V w.heap) 1)=C (U 0):=cr e K;have gz:=λo=>æ b _ o _ _ e;have A:=(aG e);have aq:(d !=0)=τ:=by simp[a4.u]
   have g:Hid (á (V w.heap) w b):=(ô (ν No w _) å<|vQ _).trans (i.mono θ);go_wp2;go_region;all_goals go_wp2
   all_goals
    have l:I (λk=>k=V w.heap) b (σ (σ b (J (V w.heap) 0)<|U d) (J (V w.heap) 1)<|U p):=Ã (é b (J (V w.heap) 0) _) (é _ (J (V w.heap) 1) _) Ξ;have Z:=D.u _ (g.u.trans<|ô (Ã l (B6 (ν No _<|γ #[U d,U p] 25)<|Ψ No _ 1) å) (λk _ a9=>W) g.u.size);exact ç (v:=.tuple #[sN,.agg #[U d,U p]]) (by simp[ã,results54,go_sem,y,z,A]) K Z
  |ok fs l2=>
   rw[B]at M;obtain⟨T,av,ms,q,-⟩:=M;subst T;have e:b.heap[V w.heap]?=C (γ #[U 0,U 0] 25 (0,0)):=by
    rw[i.block _ θ];exact L
   have A:=(aG e);have g:Hid (á (V w.heap) w b):=(ô (ν No w _) å<|vQ _).trans (i.mono θ);generalize ah:dG (ó (Q N)<|-1) l2=a at*;have ax:Q a=Q N:=by rw[<-ah];simp[yX]
   have a5:Hid (Q a<=100000):=by
    show Q a<=100000;have:=H.fp;omega
   have D:Hid (∀h f c,á (V w.heap) w h->ρ h (V w.heap) 129 2 (Y f (Q (U6 a (Q a))) c) (Q (U6 a (Q a))) (S4<|U6 a (Q a))->IW s.data.toList w (π<|.tuple #[Y f (Q (U6 a (Q a))) c,.agg #[U 0,U 0]]) h):=λh f c hw ho=>⟨hw,.inr ⟨N,a8,R,n,H,η⟩⟩;obtain⟨ta,tc,ay⟩:=B8 q.js;subst ay;have c2:δ b (J bb 2)=C (Y ta (Q a) tc):=cr q.blk K;have b2:=blt c2;simp only at b2;have am:=O<|C7 q.js<|wQ _;have ak:=O e;clear q i L e B ah H n;have C1:=O<|ν No b<|γ #[U 0,U 0] 25;have b8:=a5.u;clear ax a5 hB;go_wp2_with fail;go_loopw [23,6] (λa3 ai wr=>∃(j:Nat) (f:Option í) (m:Nat),j<=Q a/\a3=U (j:Int)/\ai=Y f (Q (U6 a j)) m/\Hid (I No b wr)/\Hid (wr.ownsRow (V b.heap) 129 2 (Y f (Q (U6 a j)) m) (Q (U6 a j))<|S4<|U6 a j)) (λa3 _ _=>Q a-(intOf a3).toNat);case atStart=>exact⟨0,none,0,wQ _,K,K,C1.u,kW _ _ _ _⟩
   case round=>
    obtain⟨j,f,m,hj,rfl,rfl,CR,F⟩:=hrel;have b9:=CR.u.size;by_cases ag:j<Q a
    .obtain⟨g2,aw,b6,b7,au,v0⟩:=D6 (A3 am.u CR.u Ξ) ag;subst aw;have af:a.getD j 0=a[j]:=by rw[lQ,gQ ag];rfl
     have ap:=RU a j;have t:Hid (U6 a (j+1)=U6 a j++if a[j]≠-1 then [((j:Int),a[j])] else []):=by
      show _=_;rw[U6,af]
     unfold Δ at au;clear af;generalize a[j]=r at*;obtain⟨G,aa⟩:∃G,U6 a j=G:=⟨_,K⟩;rw[aa]at F t ap⊢;clear aa;by_cases P:r=-1
     .subst P;have u:Hid (U6 a (j+1)=G):=by
       show _=_;rw[t.u];simp
      clear t;go_wp2_with fail;go_roundw;case rel=>exact⟨j+1,f,m,W,ï,by rw[u.u],CR,by rw[u.u];omega⟩
      grind[intOf]
     .have u:Hid (U6 a (j+1)=G++[((j:Int),r)]):=by
       show _=_;rw[t.u,yY P]
      have gt:(r !=-1)=τ:=by simpa using P
      have a6:=O<|F.u.alloc<|γ #[U (j:Int),U r] 129;clear t P;go_wp2_with (at_builtin;refine wpList_append_own _ K _ _ 124 K (V b.heap) 129 i0 (.agg #[U 0,U 0]) 2 16 underlying124 hi az b0 b1 K ζ _ _ _ K a6.u (J wr.heap.size 0) 1 1 [U (j:Int),U r] K K ?c1 ?c2 ?c3 ?c4 ?c5 ?_);case c1=>grind[Ó,rY]
      case c2=>intro ai hu;simp at hu;obtain rfl|rfl:=hu<;>rfl
      case c3=>grind[Δ]
      case c4=>omega
      case c5=>simp;omega
      intro v' b3 a2 ae _;obtain⟨an,c4,rfl⟩:=B8 a2;have al:=O a2;have ab:=(ν (λk=>V b.heap<=k) wr<|γ #[U (j:Int),U r] 129).trans (ü ae) λk hk x=>(A9 a6.u k x.symm).1;have aj:Hid (I No b b3):=((CR.u.mono (S':=λk=>V b.heap<=k) å).trans ab Ξ).mono (λk hk x=>W);clear a2 ae ab;go_wp2_with fail;go_roundw;case rel=>exact⟨j+1,an,c4,W,ï,by rw[u.u,qQ,Û],aj,(show ρ _ _ _ _ _ _ _ from by rw[u.u,OM,qQ,Û];exact al.u)⟩
      grind[intOf]
    .have ar:j=Q a:=W;subst ar;have v:wr.heap[V w.heap]?=C (γ #[U 0,U 0] 25 (0,0)):=by
      rw[CR.u.block _ A λx=>x];exact ak.u
     have y:wr.cell? (J (V w.heap) 0)=C (U 0):=cr v K;have z:wr.cell? (J (V w.heap) 1)=C (U 0):=cr v K;have gz:=λo=>æ wr _ o _ _ v;have b5:=(aG v);have l:I (λk=>k=V w.heap) wr (σ (wr.setCell (J (V w.heap) 0)<|U 0) (J (V w.heap) 1)<|U 0):=Ã (é wr (J (V w.heap) 0) _) (é _ (J (V w.heap) 1) _) Ξ;have S:=O (D.u _ f m ((g.u.trans<|ô CR.u å g.u.size).trans<|ô l (λk _ x=>W) W)<|A3 (C7 F.u W) l λao hg x=>by have:=(F.u.lt ao hg).1;omega);clear l v D;generalize Q (U6 a (Q a))=bl at*;go_wp2_with fail;exact ç (v:=.tuple #[Y f bl m,.agg #[U 0,U 0]]) (by simp[ã,results54,go_sem,y,z]) K S.u
def fZ(l:List<|Int×Int):Int->Option Int:=l.foldl (λf p=>λx=>if x=p.1 then C p.2 else f x) λ_=>none
theorem CY(l)(p):fZ (l++[p])=λx=>if x=p.1 then C p.2 else fZ l x:=by
 unfold fZ;simp
theorem RO(a):∀j,fZ (U6 a j)=λx=>if 0<=x/\x<(j:Int)/\a.getD x.toNat 0≠-1 then C (a.getD x.toNat 0) else none
 |0=>by
  funext x;rw[wY W];rfl
 |j+1=>by
  funext x;rw[U6];by_cases b:a.getD j 0≠-1
  .rw[yY b,CY,RO a j];grind
  .rw[wY b,iY,RO a j];grind
def A3f(c):fZ (U6 c.ts (Q c.N))=lS c:=by
 rw[RO];rfl
def Jh(a):∀(n) (p),p∈U6 a n->∃j,j<n/\p=((j:Int),a.getD j 0)/\a.getD j 0≠-1
 |0,p,h=>by grind[U6]
 |n+1,p,h=>by
  rw[U6,qW]at h;obtain h|h:=h
  .obtain⟨j,b,c⟩:=Jh a n p h;grind
  grind
theorem GK{N}{T}{b c}(h:bJ N T b)(k:bJ N T c):b=c:=by
 obtain⟨f,d⟩:=h.main;obtain⟨_,e⟩:=k.main;exact B2e (λp a=>⟨Y7 p (h.wn p a).1,(h.wn p a).2⟩) (λp a=>⟨Y7 p (k.wn p a).1,(k.wn p a).2⟩) d e
def XA(c):∀(j) {e} {i},W5 c j=.inl (e,i)->e≠0
 |0,e,i,h=>by grind[W5]
 |j+1,e,i,h=>by
  rw[W5]at h;cases a:W5 c j with
  |inl p=>
   obtain⟨b,d⟩:=p;rw[a]at h;simp only[rX,Sum.inl.injEq,Prod.mk.injEq]at h;have:=XA c j a;omega
  |inr f=>
   rw[a]at h;simp only[rX]at h;grind[kS]
def Pj{c}{e}{i}(h:mW c=.inl (e,i)):e≠0:=XA c _ h
def iX(l:bZ)(a p:Int):Prop:=a≠0/\(dZ l (.inl (a,p))\/∃N T b,dZ l (.inr (N,T))/\bJ N T b/\
 ((∃i,kU b=.bad a i/\p=cW N i)\/∃d c i,kU b=.ok d c/\mW (aQ N T c)=.inl (a,i)/\p=cW N i))
def fQ(l:bZ)(N:List Nd)(T:List Ty)(a:List<|Nat×Int)(d:Of):Prop:=
 ∃b c,dZ l (.inr (N,T))/\bJ N T b/\kU b=.ok c a/\mW (aQ N T a)=.inr d
section
variable{l:bZ}{c p f i:Int}{N a:List Nd}{T b:List Ty}{d g:List (Nat×Int)}{e h:Of}
theorem iX.one(j:iX l c p)(k:iX l f i):c=f/\p=i:=by
 obtain⟨_,j⟩:=j;obtain⟨_,k⟩:=k;obtain j|⟨N,T,ps,h1,h2,h3⟩:=j
 .obtain k|⟨a,b,qs,k1,_⟩:=k
  .have:=j.one k;grind
  .have:=j.one k1;grind
 .obtain k|⟨a,b,qs,k1,k2,k3⟩:=k
  .have:=k.one h1;grind
  .have m:=h1.one k1;grind[GK]
theorem fQ.not(m:fQ l N T d e):¬iX l c p:=by
 rintro⟨_,k⟩;obtain⟨t,o,j,q,r,s⟩:=m;obtain k|⟨a,b,qs,k1,k2,k3⟩:=k
 .have:=k.one j;grind
 .have n:=j.one k1;grind[GK]
theorem fQ.one(j:fQ l N T d e)(k:fQ l a b g h):N=a/\T=b/\d=g/\e=h:=by
 obtain⟨y,q,m,s,t,u⟩:=j;obtain⟨z,r,n,v,w,x⟩:=k;have o:=m.one n;grind[GK]
end
section
variable(w:E)(b e f:Int)(a:uZ)(c:Option í)(d:Nat)(j:ByteArray)(g i h:Int)
def Xc(F:ρ w 0 3 1 (Y c (Q a) d) (Q a)<|C8 a)(hn:Q a<=100000):μ ε 101 #[.agg #[U 6,U b,U e,U f,Y c (Q a) d,ι j,U g,U i,U h]] w (oE w<|a++[b]):=by
 obtain⟨i0,T,a3,a4,a5⟩:=ý Tryz.fy;have A1:=ν No w<|γ #[U 6,U b,U e,U f,Y c (Q a) d,ι j,U g,U i,U h] 82;have nb:=rY w<|γ #[U 6,U b,U e,U f,Y c (Q a) d,ι j,U g,U i,U h] 82;have n1:δ (ω w<|γ #[U 6,U b,U e,U f,Y c (Q a) d,ι j,U g,U i,U h] 82) (J (V w.heap) 1)=C (U b):=cr nb K;have n4:δ (ω w<|γ #[U 6,U b,U e,U f,Y c (Q a) d,ι j,U g,U i,U h] 82) (J (V w.heap) 4)=C (Y c (Q a) d):=cr nb K;have a2:V (ω w<|γ #[U 6,U b,U e,U f,Y c (Q a) d,ι j,U g,U i,U h] 82).heap=V w.heap+1:=Array.size_push _;have L:=O A1;have HO:=O F;go_in;go_wp2;generalize (ω w<|γ #[U 6,U b,U e,U f,Y c (Q a) d,ι j,U g,U i,U h] 82)=m at*;have P:Hid (∀u,I No m u->μ ε 160 #[Y c (Q a) d] u λv s=>∃n o,v=π (Y n (Q a) o)/\Hid (I No u s)/\Hid (ρ s (V w.heap) 3 1 (Y n (Q a) o) (Q a)<|C8 a)/\δ s (J (V w.heap) 1)=C (U b)/\V u.heap<=V s.heap):=λu H=>by
  refine(Hl u a c d (A3 (A3 HO.u L.u Ξ) H Ξ) hn).mono ?_;rintro v s ⟨n,o,rfl,D,F⟩;have:=H.size;exact⟨n,o,K,D,C7 F W,A4 (B6 H D) n1,D.size⟩
 have a9:(m.drew.alloc<|γ #[U b] 3).heap[V w.heap+1]?=C (γ #[U b] 3 (0,0)):=by
  have:=rY m.drew<|γ #[U b] 3;rw[show V m.drew.heap=V w.heap+1 from a2]at this;exact this
 have a6:=O a9;have ab:V (m.drew.alloc<|γ #[U b] 3).heap=V w.heap+2:=by
  show (m.heap.push _).size=_;rw[Array.size_push,a2]
 have N:=O<|B6 (Ψ No m 1)<|ν No m.drew<|γ #[U b] 3;go_region_law (first
  |(refine step_append_lies _ Ω _ _ _ Ω (V w.heap) 3 i0 (U 0) 1 8 underlying80 T a3 a4 a5 K W (Y n (Q a) o) (Q a) (C8 a) Ω (p.u.alloc _) (J (V l.heap) 0) 1 1 [U b] Ω Ω (Ó<|rY l _) (by simp [Value.oneCell']) W Ñ W (by simp;omega) (V l.heap+1) θ ?_;intro A z y r q B a7;have R:Hid (I (λk=>V w.heap<=k) l y):=(ν (λk=>V w.heap<=k) l<|γ #[U b] 3).trans (ü q) λk Z x=>(A9 p.u k x.symm).1;have S:=O r;clear r q B)
  |(refine step_append_lies _ Ω _ _ _ Ω (V w.heap) 3 i0 (U 0) 1 8 underlying80 T a3 a4 a5 K W (Y n (Q a) o) (Q a) (C8 a) Ω p.u (J (V w.heap+1) 0) 1 1 [U b] Ω Ω (Ó<|by rw [t.u.block _ W λx=>x];exact a6.u) (by simp [Value.oneCell']) W Ñ W W (V l.heap) K ?_;intro A z y r q B a7;have R:Hid (I (λk=>V w.heap<=k) l y):=(ü q).mono λk Z x=>(A9 p.u k x.symm).1;have S:=O r;clear r q B)
  |(go_simp;refine (P.u _<|Ψ _ _ 1).mono ?_;rintro v l ⟨n,o,rfl,t,p,aa,G⟩;have M:=O<|B6 (Ψ No m 1) t.u;have a8:V w.heap+1<=V l.heap:=ù;clear G)
  |(go_simp;refine (P.u _ N.u).mono ?_;rintro v l ⟨n,o,rfl,t,p,aa,G⟩;have M:=O<|B6 N.u t.u;have a8:V w.heap+1<=V l.heap:=W;clear G));all_goals
  have HR:Hid (oE w (a++[b]) (π<|Y (C<|J A 0) (Q a+1) z) y):=by
   refine⟨C<|J A 0,z,θ,((B6 L.u M.u).mono å).trans R.u Ξ|>.mono (λk Z x=>W),?_⟩;rw[qQ,Û,T4];exact S.u
  go_wp2;go_ret;exact HR.u
end
def PI{N}{T}{i}{l}(q:oI N T i l)(w:E)(a)(b)(o:ρ w 0 3 1 (Y a (Q l.M) b) (Q l.M)<|C8 l.M)(n:Q l.M<=100000):
 μ ε 101 #[eE l a b] w (oE w<|aD l):=by
 have r:=q.k;unfold eE aD;obtain⟨m,d,e,f,c,s,g,k,j⟩:=l;simp only at*;split
 .rename_i h;exact RY w d e f c a b _ g k j m h o n
 split
 .rename_i h;subst h;exact Gq w d e f c a b _ g k j o n
 split
 .rename_i h;subst h;exact Xc w d e f c a b _ g k j o n
 split
 .rename_i h;exact RX w d e f c a b _ g k j m h
 split
 .rename_i h;exact DV w d e f c a b _ g k j m W
 split
 .rename_i h;exact GV w d e f c a b _ g k j m W
 split
 .rename_i h;split
  .rename_i p;exact DV w d e f c a b _ g k j m W
  .rename_i p;exact GV w d e f c a b _ g k j m W
 .exact RV w d e f c a b _ g k j m W
open Go.Shelf
attribute [local go_sem] Oper.semAt_some
def dn(m k:Nat):List (Fin<|m+1):=(List.range k).map λj=>⟨m-j,W⟩
theorem XK(m k):dn m (k+1)=dn m k++[⟨m-k,W⟩]:=by grind[dn,List.range_succ]
theorem Qd(m k):Q (dn m k)=k:=by simp[dn]
def pO(a b:Nat)(A B:E):Prop:=I (λk=>k=a\/b<=k) A B
theorem pO.trans{a b}{A B c}(h:pO a b A B)(k:pO a b B c):pO a b A c:=Ã h k Ξ
def jT(a:E)(g:Nat)(b:Nd)(j:Nat)(c:Option í)(d:Nat):Prop:=δ a (J g<|j*9)=C (U b.x)/\δ a (J g<|j*9+1)=C (U b.a)/\δ a (J g<|j*9+2)=C (U b.b)/\δ a (J g<|j*9+3)=C (U b.c)/\δ a (J g<|j*9+4)=C (Y c (Q b.M) d)/\δ a (J g<|j*9+5)=C (ι ⟨b.text.toArray⟩)/\δ a (J g<|j*9+6)=C (U b.n)/\δ a (J g<|j*9+7)=C (U b.ty)/\δ a (J g<|j*9+8)=C (U b.at')
theorem pO.cell{a b}{A B}(h:pO a b A B){q o}{v}(f:q≠a)(e:q<b)(c:A.cell? (J q o)=C v):B.cell? (J q o)=C v:=by
 have d:=blt c;rw[World.cell?_of_block<|I.block h q d W];omega
theorem jT.kp{c d}{A B}(h:pO c d A B){g j}{i}{e}{f}(b:g≠c)(a:g<d)(t:jT A g i j e f):jT B g i j e f:=by
 obtain⟨k,l,m,n,o,p,q,r,s⟩:=t;exact⟨h.cell b a k,h.cell b a l,h.cell b a m,h.cell b a n,h.cell b a o,h.cell b a p,h.cell b a q,h.cell b a r,h.cell b a s⟩
def Ql(F)(n)(hF:F.fn 167)(a3:F.round=none)(hn:1<=n)(l f g D m h i)(hm:m<=1200)(s:Nat->Nd)(w:Nat->Option í)(y:Nat->Nat)(H:f≠h)(L:f<i)(T:g≠h)(Z:g<i)(d t:List (Fin<|m+1)->E->Prop)
 (u:∀c x a,d c a->Q c<m+1->YieldAt F (n-1) ε l #[U x.1,eE (s x.1) (w x.1)<|y x.1] a λe b=>
  (e=π (.bool τ)/\d (c++[x]) b/\pO h i a b)\/(e=π (.bool κ)/\t (c++[x]) b))
 (a) (M:δ a (J f 0)=C (Y (C<|J g 0) (m+1) D)) (R:∀j,j<m+1->jT a g (s j) j (w j) (y j)) (G:d [] a):
 CallsIn F n ε 167 #[.func (.yield l) #[] #[],pV f] a λe b=>(∃v,e=π v)/\
  ((∃z,z=dn m (m+1)/\d z b)\/(∃c,True/\t c b)):=by
 unfold eE at u;refine callsIn_of_wp func167 K hF ?_ a3;simp only[ntmps167,List.size_toArray,jQ,xQ,Nat.reduceAdd,Nat.reduceSub,Array.replicate_succ,Array.replicate_zero,List.push_toArray,List.append_toArray,uY,jZ];gi_wp2;gi_loopw [3] (λv wr=>∃k:Nat,k<=m+1/\v=U (m-k)/\d (dn m k) wr/\pO h i a wr) (λv _=>(intOf v+1).toNat);case atStart=>exact⟨0,wQ _,ï,G,ì _ _⟩
 case round=>
  obtain⟨k,hk,rfl,N,o⟩:=hrel;have aa:=o.cell H L M;by_cases ae:k<m+1
  .obtain⟨p,hp⟩:∃p,p+k=m:=⟨m-k,W⟩;have q:p<m+1:=W;have S:dn m (k+1)=dn m k++[⟨p,q⟩]:=by
    rw[XK];have:m-k=p:=W;simp only[this]
   obtain⟨a7,a8,a9,c3,c4,c5,c6,c7,c8⟩:=(R p q).kp o T Z;obtain⟨fn,af,a5,a6,hy,P⟩:=u (dn m k) ⟨p,q⟩ wr N (by grind[Qd]);dsimp only at hy;have r:(m-k)=(p:Int):=W;have A:=O S;have B:=O o;rw[r];generalize s p=a4 at*;obtain⟨kd,va,vb,vc,ls,tx,vn,vt,vp⟩:=a4;simp only at*;gi_wp2;refine P.mono ?_;rintro e W3 (⟨rfl,ac,a2⟩|⟨rfl,ad⟩)
   .gi_wp2;go_roundw;case rel=>exact⟨k+1,W,ï,by rw[A.u];omega,B.u.trans a2⟩
    simp_all[measure,intOf]
   .gi_wp2;refine ç (results_none K _ _ _) K ?_;grind
  .obtain rfl:k=m+1:=W;have r:(m-((m+1:Nat):Int))=-1:=W;rw[r];gi_wp2;go_end0;grind
def jT.below{d}{A B:E}(h:á d A B){g j}{e}{b}{c}(t:g<d)(s:jT A g e j b c):jT B g e j b c:=by
 have a:∀{o:Nat} {v:υ},A.cell? (J g o)=C v->B.cell? (J g o)=C v:=λ{o v} u=>(h.cell t).trans u;obtain⟨f,i,k,l,m,n,p,q,r⟩:=s;exact⟨a f,a i,a k,a l,a m,a n,a p,a q,a r⟩
def Zs(F:Fence)(n)(hF:F.fn 167)(L:F.round=none)(H:1<=n)(a g h m b c)(G:m<=1200)(f:Nat->Nd)(d:Nat->Option í)(e:Nat->Nat)(r:a≠b)(s:a<c)(z:g≠b)(A:g<c)(w:E)(u:a<V w.heap)(B:g<V w.heap)
 (t:δ w (J a 0)=C (Y (C<|J g 0) (m+1) h)) (y:∀j,j<m+1->jT w g (f j) j (d j) (e j)):
 SeqStopsK F n ε 167 #[pV a] (λx:Fin (m+1)=>#[Value.int .i64 (x.1:Int),eE (f x.1) (d x.1)<|e x.1]) (pO b c) (λM=>M=dn m (m+1)) (λ_=>True) (m+1) w:=λl k o p i _ _ v q=>
 Ql F n hF L H l a g h m b c G f d e r s z A k o v p ((i.cell u).trans t) (λj D=>(y j D).below i B) q
def xy(F)(n)(hF:F.fn 106)(d:F.round=none)(a)(c b)(w:E):
 CallsIn F n ε 106 #[Y a c b] w λe f=>e=π (.func (.func 167) #[] #[pV (V w.heap)])/\f=ω w (γ #[Y a c b] 37):=by
 refine callsIn_of_wp func106 K hF ?_ d;simp only[ntmps106,List.size_toArray,jQ,xQ,Nat.reduceAdd,Nat.reduceSub,Array.replicate_succ,Array.replicate_zero,List.push_toArray,List.append_toArray,uY,jZ];gi_wp2;go_ret;exact⟨K,K⟩
theorem XU(N)(m)(b:Q N=m+1):∀k,k<=m+1->(dn m k).foldl (λa x=>eP N a x.1) (ó (Q N) 0)=mU N k
 |0,_=>K
 |k+1,h=>by
  rw[XK,List.foldl_append,XU N m b k W,mU];grind
attribute [local go_sem] Oper.semAt_some
def An{f h a}{k:Nat}{x:Int}(e:f=bK h x a)(n:Q h=k):∃z:List Int->List Int->Prop,z h a/\(∀d y l,z d ((y:Nat)::l)->z (d.set y x) l/\Q d=k)/\∀d,z d []->d=f:=⟨λd l=>f=bK d x l/\Q d=k,⟨e,n⟩,λd y l h=>⟨⟨by rw[h.1];rfl,by simp[h.2]⟩,h.2⟩,λ_ h=>h.1.symm⟩
def ĺ{N}{c8}(hf:∀i (b5),oI N c8 i N[i])(c7:∀i (b5:i<Q N),Q N[i].M<=1200)(m)(hN:Q N=m+1)(hm:m<=1200)(w)(g o)(hg:g<V w.heap)(la:Nat->Option í)(lc:Nat->Nat)(hc:∀j,j<m+1->jT w g (aA N j) j (la j) (lc j))(c6:∀j,j<m+1->ρ w 0 3 1 (Y (la j) (Q (aA N j).M)<|lc j) (Q (aA N j).M) (C8 (aA N j).M)):
 μ ε 56 #[Y (C<|J g 0) (m+1) o] w λe w'=>∃fa fc,e=π (Y fa (m+1) fc)/\I No w w'/\ρ w' (V w.heap) 3 1 (Y fa (m+1) fc) (m+1) (C8<|kC N):=by
 refine(callsIn_wide (n:=6)).1 ?_;obtain⟨i0,ce,ck,cl,cv⟩:=ý Tryz.fy;obtain⟨f,bo,aw,bj⟩:=run_make_full (P:=ε) (ω w<|γ #[Y (C<|J g 0) (m+1) o] 37) (V w.heap) 80 3 i0 (U 0) 1 underlying80 ce ck cl .i64 .i64 (m+1) η Ñ θ;have ch:V (ω w<|γ #[Y (C<|J g 0) (m+1) o] 37).heap=V w.heap+1:=Array.size_push _;rw[ch]at bo aw;have cb:((m+1:Nat):Int)=(m:Int)+1:=W;rw[cb]at bo;have bl:=rY w<|γ #[Y (C<|J g 0) (m+1) o] 37;have be:f.heap[V w.heap]?=C (γ #[Y (C<|J g 0) (m+1) o] 37 (0,0)):=by
  rw[bj.block _ θ θ];exact bl
 have c9:δ f (J (V w.heap) 0)=C (Y (C<|J g 0) (m+1) o):=cr be K;have cu:V w.heap+2<=V f.heap:=by
  have:=(A9 aw (V w.heap+1) K);obtain⟨_,am,M⟩:=this;have:=(aG M);omega
 have bA:Boxed (f.alloc<|γ #[Y (C<|J (V w.heap+1) 0) (m+1)<|m+1] 80) (V f.heap) 80 (Y (C<|J (V w.heap+1) 0) (m+1)<|m+1):=Boxed.new f _ _;have bL:Boxed (f.alloc<|γ #[Y (C<|J (V w.heap+1) 0) (m+1)<|m+1] 80) (V w.heap) 37 (Y (C<|J g 0) (m+1) o):=Boxed.alloc (show Boxed f _ _ _ from be) _;have ca:=bL.cell;refine callsIn_of_wp_marks func56 K trivial ?_ K;simp only[ntmps56,List.size_toArray,jQ,xQ,Nat.reduceAdd,Nat.reduceSub,Array.replicate_succ,Array.replicate_zero,List.push_toArray,List.append_toArray,uY,jZ];gi_wp2_with (refine⟨trivial,?_⟩;gi_at_call 106;refine(xy _ _ trivial K _ _ _ _).mono ?_;rintro e w' ⟨rfl,rfl⟩);have bS:=Boxed.new (f.alloc<|γ #[Y (C<|J (V w.heap+1) 0) (m+1)<|m+1] 80) 37<|Y (C<|J g 0) (m+1) o;rw[World.size_alloc]at bS;have bx:=bA.alloc<|γ #[Y (C<|J g 0) (m+1) o] 37;have bz:=bL.alloc<|γ #[Y (C<|J g 0) (m+1) o] 37;have bf:I No w ((f.alloc<|γ #[Y (C<|J (V w.heap+1) 0) (m+1)<|m+1] 80).alloc<|γ #[Y (C<|J g 0) (m+1) o] 37):=B6 (B6 (B6 (ν No w _)<|(ü bj).mono λ_ _ x=>η)<|ν No f _)<|ν No _ _;have c3:ρ ((f.alloc<|γ #[Y (C<|J (V w.heap+1) 0) (m+1)<|m+1] 80).alloc<|γ #[Y (C<|J g 0) (m+1) o] 37) (V w.heap) 3 1 (Y (C<|J (V w.heap+1) 0) (m+1)<|m+1) (m+1) (C8<|ó (Q N) 0):=by
  have e:(madeCells (Value.int IntKind.i64 0).cells<|(m+1)*1).toList=C8 (ó (Q N) 0):=by
   rw[hN];apply List.ext_getElem
   .grind[madeCells,C8]
   .simp_all[madeCells,C8,Value.cells,Nat.mod_one]
  rw[e]at aw;exact(aw.alloc _).alloc _
 have ci:V ((f.alloc<|γ #[Y (C<|J (V w.heap+1) 0) (m+1)<|m+1] 80).alloc<|γ #[Y (C<|J g 0) (m+1) o] 37).heap=V f.heap+2:=θ;obtain⟨W0,c4⟩:∃W0,(f.alloc<|γ #[Y (C<|J (V w.heap+1) 0) (m+1)<|m+1] 80).alloc (γ #[Y (C<|J g 0) (m+1) o] 37)=W0:=⟨_,K⟩;rw[c4]at bS bx bz bf c3 ci⊢;clear c4 bA bL c9 ca bl be bo aw bj;refine wpIn_rangeFunc_ownH K W (gf:=167) (lb:=#[pV<|V f.heap+1]) K trivial (enters_of func167 Ω K)
  (Zs _ _ trivial K W (V f.heap+1) g o m (V w.heap+1) (V f.heap+2) hm (λj=>aA N j) la lc W W W W W0 W W bS.cell λj hj=>(hc j hj).below (ô bf å<|vQ _) hg) pO.trans
  (λb ap bc o' hl b5 _ _=>⟨K,K,K,θ,λk _ F=>World.putObj_heap_other λe=>F W⟩) (ñ _ _) (λ_=>K)
  (λal b=>(Boxed b (V w.heap) 37 (Y (C<|J g 0) (m+1) o)/\Boxed b (V f.heap) 80 (Y (C<|J (V w.heap+1) 0) (m+1)<|m+1))/\(ρ b (V w.heap) 3 1 (Y (C<|J (V w.heap+1) 0) (m+1)<|m+1) (m+1) (C8<|al.foldl (λc x=>eP N c x.1)<|ó (Q N) 0)/\I No w b))
  (λ_ _ _=>False)
  (λal b W' bs ay an hr=>by
   obtain⟨⟨h1,L⟩,s,h4⟩:=ay;refine⟨⟨boxed_own _ _ (λ(_:Unit)=>_) () b W' bs h1 an λbr e=>(hr br e).2,boxed_own _ _ (λ(_:Unit)=>_) () b W' bs L an λbr e=>(hr br e).2⟩,A3 s (ü an) λq G x=>?_,h4.trans (ü an) λk F x=>η⟩;obtain⟨_,am,M⟩:=A9 s q G;grind[Obj.isCells])
  (λ_ _ _ _ _ ay _ _=>ay)
  ⟨⟨bz,bx⟩,c3,bf⟩
  (λx a' b=>∃Bx,V f.heap<Bx/\b.heap[Bx]?=C (γ #[U (aA N x.1).x,U (aA N x.1).a,U (aA N x.1).b,U (aA N x.1).c,Y (la x.1) (Q (aA N x.1).M)<|lc x.1,ι ⟨(aA N x.1).text.toArray⟩,U (aA N x.1).n,U (aA N x.1).ty,U (aA N x.1).at'] 82 (0,0))/\a'={tmps:=#[Y (C<|J g 0) (m+1) o,pV (V w.heap),sN,pV (V f.heap),U (x.1:Int),pV Bx,Φ,Φ,Φ,Y (C<|J g 0) (m+1) o,U<|(m:Int)+1,Y (C<|J (V w.heap+1) 0) (m+1)<|m+1,Y (C<|J g 0) (m+1) o,.func (.func 167) #[] #[pV<|V f.heap+1],U (x.1:Int),eE (aA N x.1) (la x.1)<|lc x.1,Φ,Φ,Φ,Φ,Φ,Φ,Φ,Φ,Φ,Φ,Φ,Φ,Φ,Φ,Φ,Φ,Φ,Φ,Φ,Φ,Φ,Φ,Φ,Φ,Φ,Φ,Φ,Φ,Φ],defers:=[]})
  (λx a' _ cm ώ bs ay an hr=>by
   obtain⟨Bx,h1,L,s⟩:=ay;refine⟨Bx,h1,?_,s⟩;rw[an.block Bx (aG L) λe=>?_]<;>grind[Obj.isCells])
  ?assign ?body ?done ?stop;case assign=>
  rintro ap al x b ϋ ⟨⟨h1,L⟩,s,h4⟩ hK;unfold eE at hK⊢;generalize aA N x.1=nd at*;obtain⟨kd,va,vb,vc,ls,tx,vn,vt,vp⟩:=nd;simp only at*;gi_wp2;exact hK _ _ ((KeepsOthers.alloc _ _).from _) (ν _ _ _) ⟨⟨h1.alloc _,L.alloc _⟩,s.alloc _,B6 h4<|ν No _ _⟩ ⟨V b.heap,L.lt,rY b _,K⟩
 case body=>
  rintro ap al ⟨i,hi⟩ a' b hl-⟨⟨b1,b2⟩,ax,b7⟩ ⟨Bx,cs,H,rfl⟩ cg;simp only at*;have bm:i<Q N:=W;have ba:=B7 bm;have bh:=hf i bm;have ct:=c7 i bm;have b9:=c6 i hi;rw[ba]at b9 H⊢;have cj:=b7.size;have ac:Hid (∀az,I (λk=>k=V w.heap+1) b az->μ ε 101 #[eE N[i] (la i)<|lc i] az (oE az<|aD N[i])):=λaz hu=>PI bh az (la i) (lc i) (A3 (A3 b9 b7 Ξ) hu (λq G x=>by
   have x':=x;have:=(b9.lt q G).2;omega)) W;have b3:=O<|Gv bh;obtain⟨c,bg⟩:∃c,al.foldl (λc x=>eP N c x.1) (ó (Q N) 0)=c:=⟨_,K⟩;have aq:Hid ((al++[(⟨i,hi⟩:Fin<|m+1)]).foldl (λc x=>eP N c x.1) (ó (Q N) 0)=bK (jC N c i) (lT N c i) (aD N[i])):=by
   show _=_;rw[List.foldl_append,bg];simp only[List.foldl_cons,List.foldl_nil,eP,ba]
  rw[bg]at ax;clear bg;have b6:Q c=m+1:=by
   have:=ax.1;simpa[C8]using this
  have bb:ρ b (V w.heap) 3 1 (Y (C<|J (V w.heap+1) 0) (Q c)<|m+1) (Q c) (C8 c):=by rw[b6];exact ax
  obtain⟨gx,D,b8,a8,a9,v1⟩:=D6 (j:=i) (C7 bb<|wQ _) (show i<Q c by omega);have a7:gx=V w.heap+1:=by
   have:=xZ D;exact(congrArg Addr.block this).symm
  subst a7;have ad:b.frozen? (J (V w.heap+1) i)=κ:=by
   obtain⟨_,am,M⟩:=A9 bb (V w.heap+1) K;exact æ b _ i _ _ M
  have T:=O<|wP bb i<|-1;rw[b6]at T;have cc:c.getD i 0=c[i]'W:=by rw[lQ,gQ<|show i<Q c by omega];rfl
  have cd:(c.set i<|-1).getD i 0=-1:=by rw[lQ,List.getElem?_set_self<|show i<Q c by omega];rfl
  have HW:Hid ((i=m->N[i].x=6->jC N c i=c.set i (-1)/\lT N c i=(i:Int))/\(i=m->N[i].x≠6->jC N c i=c.set i (-1)/\lT N c i=-1)/\(i≠m->N[i].x=6->jC N c i=c/\lT N c i=(i:Int))/\(i≠m->N[i].x≠6->jC N c i=c/\lT N c i=c[i]'W)):=by
   unfold lT jC;rw[ba,hN];refine⟨λe k=>?_,λe k=>?_,λe k=>?_,λe k=>?_⟩
   .grind
   .grind
   .grind
   .grind
  have cL:=b1.cell;have cA:=b2.cell;have aa:=O b1;have ab:=O b2;have b0:=O b7;have b4:=O cj;have bw:=O ax;have bv:=O b6;have bu:Hid (Q (c.set i<|-1)=m+1):=by
   show _=_;rw[List.length_set];exact b6
  clear cc cd bh hf c7 c6 hc b9 ax bb b1 b2 b7 D a8 a9 ba cg;generalize aD N[i]=a at*;generalize jC N c i=h at*;generalize lT N c i=ww at*;generalize c[i]'_=ai at*;generalize c.set i (-1)=cn at*;unfold eE at*;generalize N[i]=nd at*;obtain⟨kd,va,vb,vc,ls,tx,vn,vt,vp⟩:=nd;simp only at*;have n0:=ä _ _ 0 _ _ _ H;have n1:=ä _ _ 1 _ _ _ H;have n2:=ä _ _ 2 _ _ _ H;have n3:=ä _ _ 3 _ _ _ H;have n4:=ä _ _ 4 _ _ _ H;have n5:=ä _ _ 5 _ _ _ H;have n6:=ä _ _ 6 _ _ _ H;have n7:=ä _ _ 7 _ _ _ H;have n8:=ä _ _ 8 _ _ _ H;have cq:=(aG H);clear H;have KL:Hid (I (λk=>k=V w.heap+1) b _):=(show I (λk=>k=V w.heap+1) b _ from é b (J (V w.heap+1) i) (U<|-1));by_cases ao:i=m;all_goals by_cases h6:kd=6
  all_goals first|(obtain⟨e1,e2⟩:=HW.u.1 ao h6;subst e1 e2;have Z:=T;have ae:=bu;have l:=KL;have bn:=ao.symm;subst bn;subst h6)|(obtain⟨e1,e2⟩:=HW.u.2.1 ao h6;subst e1;rw[e2]at aq;have Z:=T;have ae:=bu;have l:=KL;have bn:=ao.symm;subst bn;have cf:(kd==6)=κ:=(by simpa using h6);clear h6)|(have Z:=bw;have ae:=bv;have l:Hid (I (λk=>k=V w.heap+1) b b):=ì _ _;have au:((i:Int)==(m:Int))=κ:=â);first|(obtain⟨e1,e2⟩:=HW.u.2.2.1 ao h6;subst e1 e2 h6)|(obtain⟨e1,e2⟩:=HW.u.2.2.2 ao h6;subst e1 e2;have cf:(kd==6)=κ:=(by simpa using h6);clear h6)
  all_goals
   obtain⟨zz,p0,hs,pe⟩:=An aq.u ae.u;have HS:=O hs;have PE:=O pe;have P0:=O p0;clear hs pe p0 ae aq T KL bw bv bu HW;gi_wp2;refine⟨trivial,(CallsIn.inRound ap<|callsIn_wide.2<|ac.u _ l.u).mono ?_⟩;rintro e bt ⟨ga,gc,rfl,z,a6⟩;have P:=O<|l.u.trans z å;have R:=O<|C7 a6 l.u.size;have S:=O<|A3 Z.u z Ξ;clear z a6 Z l ac v1 ad cL cA n0 n1 n2 n3 n4 n5 n6 n7 n8;gi_wp2;gi_loopw [35] (λv wr=>∃(j:Nat) (d:List Int),j<=Q a/\v=U (j:Int)/\Hid (I (λk=>k=V w.heap+1) b wr)/\Hid (wr.ownsRow (V w.heap) 3 1 (Y (C<|J (V w.heap+1) 0) (m+1)<|m+1) (m+1)<|C8 d)/\Hid (wr.ownsRow (V b.heap) 3 1 (Y ga (Q a) gc) (Q a)<|C8 a)/\Hid (zz d<|a.drop j)) (λv _=>Q a-(intOf v).toNat);case atStart=>exact⟨0,h,wQ _,K,P,S,R,P0⟩
   case round=>
    obtain⟨j,d,hj,rfl,CR,n,u,hY⟩:=hrel;clear P S R P0;have a5:Boxed wr (V f.heap) 80 (Y (C<|J (V w.heap+1) 0) (m+1)<|m+1):=(CR.u.block _ ab.u.lt W).trans ab.u;have cA:=a5.cell;by_cases A:j<Q a
    .obtain⟨p,ah,bi,au,ak,v0⟩:=D6 (C7 u.u<|wQ _) A;subst ah;obtain⟨y,B,bq⟩:=b3.u a[j]<|mQ A;rw[B]at v0;have q:=hY.u;rw[List.drop_eq_getElem_cons A,B]at q;obtain⟨q,r⟩:=HS.u d y _ q;have a2:=O r;have q:=O q;have t:Hid (wr.ownsRow (V w.heap) 3 1 (Y (C<|J (V w.heap+1) 0) (Q d)<|m+1) (Q d)<|C8 d):=by
      show ρ _ _ _ _ _ _ _;rw[r];exact n.u
     obtain⟨gx,D,b8,a8,a9,v1⟩:=D6 (j:=y) (C7 t.u<|wQ _) (show y<Q d by omega);have a7:gx=V w.heap+1:=by
      have:=xZ D;exact(congrArg Addr.block this).symm
     subst a7;have ad:wr.frozen? (J (V w.heap+1) y)=κ:=by
      obtain⟨_,am,M⟩:=A9 t.u (V w.heap+1) K;exact æ wr _ y _ _ M
     have ag:Hid (p≠V w.heap+1):=by
      show p≠V w.heap+1;have h1:=(u.u.lt p K).1;have L:=b4.u;omega
     unfold Δ at ak;have bp:(y:Int)<(m:Int)+1:=W;generalize d[y]'_=av at*;clear r B D a8 a9;gi_wp2;go_roundw;case rel=>exact⟨j+1,_,W,ï,(show I (λk=>k=V w.heap+1) b _ from CR.u.trans (é wr (J (V w.heap+1) y) _) Ξ),(show ρ _ _ _ _ _ _ _ from by
      have g:=wP t.u y;simp only[a2.u]at g;exact g _),A3 u.u (é wr (J (V w.heap+1) y) _) (λq G x=>by
       have x':q=V w.heap+1:=x;have s:p=q:=xZ G;exact ag.u<|s.trans x'),q⟩
     grind[intOf]
    .have aj:j=Q a:=W;subst aj;have q:=hY.u;rw[List.drop_length]at q;have q:=O<|PE.u _ q;gi_wp2;refine⟨⟨CR.u.size,λk bc F ho hn=>by rw[CR.u.block k (aG ho) W];omega⟩,CR.u.mono λk _ x=>.inl x,⟨(CR.u.block _ aa.u.lt W).trans aa.u,a5⟩,?_,b0.u.trans CR.u λk F x=>W⟩;rw[<-q.u];exact n.u
 case done=>
  rintro bd zs b hD rfl ⟨⟨h1,L⟩,s,h4⟩ hK;have cA:=L.cell;gi_wp2;refine⟨θ,.inl ⟨_,_,K,run_takeDeferred hK,?_⟩⟩;have c5:I (λk=>k=bd) b (b.putObj bd<|.deferred none):=⟨K,K,K,θ,λk _ F=>World.putObj_heap_other λe=>F e⟩;refine⟨_,results_tmp K _ _ _,_,_,K,h4.trans c5 λk F x=>W,?_⟩;have:=A3 s c5 (λq G x=>by
   have x':=x;have:V w.heap+1=q:=xZ G;omega);rw[XU N m hN (m+1)<|vQ _]at this;grind[kC]
 case stop=>
  rintro bd cp al b _ _ b5 _;exact b5.elim
def VI{N}{T}(u:∀i (h),oI N T i N[i])(y:∀i (h:i<Q N),Q N[i].M<=1200)(t:0<Q N)(D:Q N<=1200)(w)(q)(p:cU w q N):
 μ ε 56 #[q] w λe r=>∃k,e=π k/\I No w r/\ρ r (V w.heap) 3 1 k (Q N) (C8<|kC N):=by
 obtain⟨m,l⟩:∃m,Q N=m+1:=⟨Q N-1,W⟩;obtain⟨g,B,_,_,n,v,_⟩:=p.at (ñ _ _) 0 t;have b:∀j:Nat,∃(c:Option í) (d:Nat),j<m+1->jT w g (aA N j) j c d/\ρ w 0 3 1 (Y c (Q (aA N j).M) d) (Q (aA N j).M) (C8 (aA N j).M):=λj=>by
  by_cases a:j<Q N
  .obtain⟨s,F,c,d,o,_,_,_,A,z,_⟩:=p.at (ñ _ _) j a;rw[n]at o;have x:g=s:=by
    injection o with f _ _;injection f with f;exact congrArg Addr.block f
   subst x;refine⟨c,d,λ_=>?_⟩;rw[show aA N j=N[j] from B7 a];exact⟨A,z⟩
  .exact⟨none,0,λh=>W⟩
 subst n;rw[l];refine(ĺ u y m l W w g B v (λj=>(b j).choose) (λj=>(b j).choose_spec.choose) (λj a=>((b j).choose_spec.choose_spec a).1) λj a=>((b j).choose_spec.choose_spec a).2).mono ?_;grind
def sC(w:E)(b:υ)(T:List Ty):Prop:=∃a,ρ w 0 99 4 b (Q T) a/\eN (eI w λ_=>True) T a
def sC.eu{S}{w c}{d}{T}(h:sC w d T)(b:I S w c)(p:∀k f e i,w.heap[k]?=C (γ f e i)->(e=99\/e=139\/e=3)->¬S k):sC c d T:=by
 obtain⟨n,a,j⟩:=h;refine⟨n,A3 a b λg l x=>?_,j.imp<|eI.P b (λg _ _ q m=>?_) λ_ _ _=>trivial⟩
 .obtain⟨_,o,m⟩:=A9 a g l;grind
 grind
def pM.row{w}{c}{v}{N}(h:pM w c v N):cU w v N:=by
 obtain⟨d,a,b⟩:=h;exact⟨d,C7 a<|wQ _,b.imp<|gE.P (ì No w) (λ_ _ _ x=>x.elim) λ_ _ _=>trivial⟩
def pL.row{w}{c}{v}{T}(h:pL w c v T):sC w v T:=by
 obtain⟨d,a,b⟩:=h;exact⟨d,C7 a<|wQ _,b.imp<|eI.P (ì No w) (λ_ _ _ x=>x.elim) λ_ _ _=>trivial⟩
structure jR(w:E)(N:List Nd)(pb lb mb qb:Nat)(nv:υ)(cs:Array υ)(S:List Ty)(k:Nat)(f:Int->Option Int):Prop where
 ey:cU w nv N
 blk:w.heap[pb]?=C (γ cs 96 (0,0))
 jr:iK w lb mb 4000 S (.map []) λ_=>True
 names:cQ w qb k f
 ne:qb≠mb
section
variable{w e:E}{N:List Nd}{b c mb d:Nat}{g:υ}{a:Array υ}{S:List Ty}{k:Nat}{f:Int->Option Int}
theorem jR.y(h:jR w N b c mb d g a S k f)(i:I No w e):jR e N b c mb d g a S k f:=
 ⟨h.ey.eu i λ_ _ _ _ _ _ x=>x,by rw[i.block b (aG h.blk) λx=>x];exact h.blk,h.jr.y i,h.names.P i λx=>x,h.ne⟩
def jR.put{p}{o}(h:jR w N b c mb d g a S k f)(m:I (λx=>x=d) w e)(s:cQ e d p o):jR e N b c mb d g a S p o:=by
 have n:∀q a i l,w.heap[q]?=C (γ a i l)->q≠d:=λq a i l j x=>by
  subst x;exact h.names.et j
 refine⟨h.ey.eu m λq a i l j _=>n q a i l j,?_,h.jr.P m (h.jr.gm.P m λx=>h.ne x.symm) (λq r i j _=>n q r i _ j) λ_ x _=>x,s,h.ne⟩;rw[m.block b (aG h.blk)<|n _ _ _ _ h.blk];exact h.blk
theorem jR.not(h:jR w N b c mb d g a S k f):∀q a i j,w.heap[q]?=C (γ a i j)->i≠96->q≠b:=λq a i j l m x=>by
 subst x;rw[h.blk]at l;grind
def jR.store{m}(h:jR w N b c mb d g a S k f)(j:I (λx=>x=b) w e)(p:e.heap[b]?=C (γ m 96 (0,0))):jR e N b c mb d g m S k f:=by
 have s:mb≠b:=λx=>by
  subst x;exact h.jr.gm.tag _ _ _ h.blk
 have i:d≠b:=λx=>by
  subst x;exact h.names.et h.blk
 refine⟨h.ey.eu j λq a l o i r=>h.not q a l o i η,p,h.jr.P j (h.jr.gm.P j s) (λq n l i r=>h.not q n l _ i η) λ_ x _=>x,h.names.P j i,h.ne⟩
theorem jR.grow{v}{S':List Ty}(h:jR w N b c mb d g a S k f)(u:δ w (J c 0)=C v)(n:I (mH c v) w e)(D:iK e c mb 4000 S' (.map []) λ_=>True):jR e N b c mb d g a S' k f/\(∀(q:Nat) (a) (i) (j),w.heap[q]?=C (γ a i j)->i≠169->i≠99->e.heap[q]?=C (γ a i j))/\I (λx=>c<=x) w e:=by
 obtain⟨F,H,t,o,_⟩:=h.jr.blk;have B:v=F:=by
  rw[ä w c 0 _ _ _ t]at u;exact(xZ u).symm
 subst B;have z:∀q (a:Array υ) (i:TypeId) (j:Nat×Nat),w.heap[q]?=C (γ a i j)->i≠169->i≠99->¬mH c v q:=by
  rintro q a i j l p r (rfl|m)
  .grind
  .obtain⟨_,A,s⟩:=A9 o q m.symm;grind
 have y:∀(q:Nat) (a:Array υ) (i:TypeId) (j:Nat×Nat),w.heap[q]?=C (γ a i j)->i≠169->i≠99->e.heap[q]?=C (γ a i j):=λq a i j l p r=>by
  rw[n.block q (aG l)<|z q a i j l p r];omega
 refine⟨⟨h.ey.eu n λq a i j l G=>z q a i j l η η,y _ _ _ _ h.blk ζ ζ,D,h.names.P n ?_,h.ne⟩,y,n.mono ?_⟩
 .rintro(rfl|m)
  .exact h.names.et t
  .obtain⟨_,A,s⟩:=A9 o d m.symm;exact h.names.et s
 .rintro q _ (rfl|m)
  .simp
  .exact(A9 o q m.symm).1
end
def RZ{w}{q}{t}(f:w.heap[q]?=C (γ #[U 0,U 0] t (0,0))):I No w (σ (σ w (J q 0)<|U 0) (J q 1)<|U 0):=by
 have a:I (λk=>k=q) w (σ (σ w (J q 0)<|U 0) (J q 1)<|U 0):=Ã (é w (J q 0) _) (é _ (J q 1) _) Ξ;refine⟨a.os,a.tape,a.output,a.size,λk c _=>?_⟩;by_cases b:k=q
 .subst b;rw[ð _ k 1 _ _ _<|ð w k 0 _ _ _ f];grind
 .exact a.block k c b
def TS{a w e:E}{d b c B}(h:I (SW a d b c) a e)(f:á B w a)(g:B<=V a.heap)(i:B<=d)(j:B<=b)(l:B<=c):á B w e:=
 f.trans (ô h (λk _ x=>by
  obtain rfl|rfl|rfl|⟨x,_⟩:=x<;>omega) g)
def qX(n:Nat)(d f:υ)(c:Int)(b e:Nat)(a:υ)(j:Nat):Array υ:=
 #[d,f,U c,pV b,.map<|C e,a,sN,U 0,U<|if 1<=j then n else 0,U<|if 2<=j then ((n+1:Nat)) else 0,U<|if 3<=j then ((n+2:Nat)) else 0,U<|if 4<=j then ((n+3:Nat)) else 0,U<|if 5<=j then ((n+4:Nat)) else 0]
theorem yh(c)(e g)(d)(b f)(a):qX (Q c.T) e g d b f a 5=rM c e g d b f a (sN):=rfl
def ym(n)(d f)(c)(b e)(a){j}(g:j<5):(qX n d f c b e a j).setIfInBounds (7+(j+1)) (U<|(n+j:Nat))=qX n d f c b e a (j+1):=by
 have:j=0\/j=1\/j=2\/j=3\/j=4:=W;obtain rfl|rfl|rfl|rfl|rfl:=this<;>rfl
theorem Qa{j}(a:j<5):J6.take (j+1)=J6.take j++[⟨((j+1:Nat)),[],[],0⟩]:=by
 have:j=0\/j=1\/j=2\/j=3\/j=4:=W;obtain rfl|rfl|rfl|rfl|rfl:=this<;>rfl
theorem Ġ:J6.take 5=J6:=rfl
theorem E1c(a):nU [] a=a:=by
 unfold nU;have:(kK (Q ([]:List Ty)))=id:=by
  funext t;obtain⟨k,b,c,o⟩:=t;simp[kK]
 simp_all
def DC:∀(l) (j) (h),(S4 l)[j*2]?=C (U l[j].1)/\(S4 l)[j*2+1]?=C (U l[j].2)
 |p::r,0,_=>⟨K,K⟩
 |p::r,j+1,h=>by
  have a:=DC r j η;grind[S4]
section
variable{N:List Nd}{T:List Ty}{b:List Nt}{c:List Fr}{a:List (Nat×Int)}
def za(d:bJ N T b)(f:kU b=.ok c a):∀p∈U6 (dG (ó (Q N)<|-1) a) (Q N),(0<=p.1/\p.1<=1000000)/\(0<=p.2/\p.2<=1000000):=λp g=>by
 obtain⟨j,e,rfl,h⟩:=Jh _ _ p g;have i:=(Ey d f).rg j e;have k:=d.fp;omega
def Xm{d}{q k p m bl}{l w f}{v}(o:bJ N T b)(z:kU b=.ok c a)(h:jR d N q k p m l (qX (Q T) l w v k m f 5) (T++J6.take 5) bl<|fZ<|U6 (dG (ó (Q N)<|-1) a) (Q N))(A:bl<=5000)(B:ρ d 0 3 1 f (Q N)<|C8<|kC N):
 dO d (aQ N T a) q k p m l f/\aW d d (aQ N T a) q k p m l w v f [] []:=by
 have y:fZ (U6 (dG (ó (Q N)<|-1) a) (Q N))=lS (aQ N T a):=A3f<|aQ N T a;have r:T++J6.take 5=tl (aQ N T a) []:=by
  rw[Ġ];unfold tl;rw[iY];rfl
 rw[y,r]at h;obtain⟨P,R,F,_⟩:=h.jr.blk;obtain⟨n,⟨H,G,j,_⟩,_⟩:=h.jr.gm.own;refine⟨⟨yP o z o.tx,h.ey,h.names.more A,B,⟨_,h.blk⟩,⟨_,F⟩,⟨_,_,j⟩,h.ne⟩,⟨ì _ _,⟨sN,.map [],?_,kW _ _ _ _,h.jr.P (ì No _) h.jr.gm (λ_ _ _ _ _ x=>x) λg _ _=>Ä⟩,?_⟩⟩
 .rw[<-yh];exact h.blk
 .intro i D;have s:(tl (aQ N T a) [])=T++J6:=by rw[<-r];rfl
  have L:i<Q (T++J6):=by rw[<-s];exact D
  have e:(tl (aQ N T a) [])[i]=(T++J6)[i]:=by simp only[s]
  rw[e];by_cases u:i<Q T
  .rw[List.getElem_append_left u];have:=o.ls i u;omega
  .rw[List.getElem_append_right W];have j:=mQ (show i-Q T<J6.length from η);generalize J6[i-Q T]'_=t at*;have M:t.M=[]/\t.eo=[]:=by
    simp only[J6,jW,rZ,or_false]at j;obtain rfl|rfl|rfl|rfl|rfl:=j<;>exact⟨K,K⟩
   simp_all
end
