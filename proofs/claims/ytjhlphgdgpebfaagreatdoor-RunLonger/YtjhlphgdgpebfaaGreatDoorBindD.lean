/-
  A part of the proof.
-/
import Derived.Test.YtjhlphgdgpebfaaGreatDoorBnb
import Derived.Test.YtjhlphgdgpebfaaGreatDoorNodeD
import Derived.Test.YtjhlphgdgpebfaaGreatDoorCheckA
set_option maxHeartbeats 0
set_option linter.all false
set_option maxRecDepth 100000
namespace Go.Proofs.YtjhlphgdgpebfaaGreatDoor
open _root_.Array renaming size->V
open Bool renaming false->κ,true->τ
open Go renaming Value->χ,Calls->μ,frozen_of_row->ã,leaves_cons->Ú,results->â,heap_setCell_same->ê,maxLen->Γ,bodyPost_ret->ä
open Ending renaming returned->π
open Obj renaming cells->γ
open RowKit renaming Below->Ω
open RowKit.Below renaming heap_alloc->õ
open Value renaming ownBlock->Δ,slice->Y,pointer->υ
open World renaming cell?->δ,alloc->σ,setCell->ρ,news_of_block->Æ,ownsRow->ξ
open List renaming length->Q,replicate->ì,length_singleton->Ë
open Option renaming some->C
open Go.Proofs.Tryz
open Go.RowKit Go.Maps
theorem sA{k}{d}{n}{c}(a)(b)(h:k≠5/\k≠18/\k≠17/\k≠16/\k≠6/\k≠26):dU a b (.nd k d n c)=bE κ a b c:=by
 simp_all[dU,wY]
def pH{G}{n}{b}(l:Gd<|.nd 6 G n b):∃q o H B s,b=q++[.ty o,.nd 26 H B s]/\(∀p∈q,p.k=16)/\∀p∈s,1<=p.k:=by
 rw[Gd]at l;obtain⟨h,x⟩:=l;unfold bO at h;rw[wY ε,yY K]at h;obtain⟨d,r,g,y,A⟩:=h;have z:=congrArg Q g;simp at z;have L:b=b.take (Q d)++b.drop (Q d):=(List.take_append_drop _ _).symm;have M:(b.take (Q d)).map Nt.k=d:=by rw[List.map_take,g];simp
 have u:(b.drop (Q d)).map Nt.k=[r,26]:=by rw[List.map_drop,g];simp
 obtain⟨a,c,e,v,k⟩:=k2 u;have j:∀p∈b,Gd p:=λp f=>tN x f;have w:=j a θ;have m:=j c θ;obtain⟨t,rfl⟩:=xV w<|v ▸ A;cases c with
 |ty o=>cases o<;>simp[Nt.k]at k
 |nd N F n2 D=>
  have:=k;subst this;refine⟨b.take (Q d),t,F,n2,D,θ,λp f=>?_,λp f=>?_⟩
  .exact y _ θ
  .rw[Gd]at m;have i:=m.1;simp only[bO]at i;rw[wY ε,wY ε,wY ε,wY ε,wY ε,wY ε,wY ε,wY ε,wY ε,wY ε,wY ε,wY ε,wY ε,yY ε]at i;have:=i _<|kZ.2 ⟨p,f,K⟩;omega
def kE{e}{n}{c}(b:Gd<|.nd 26 e n c):∀p∈c,1<=p.k:=λp d=>by
 rw[Gd]at b;have a:=b.1;simp only[bO]at a;rw[wY ε,wY ε,wY ε,wY ε,wY ε,wY ε,wY ε,wY ε,wY ε,wY ε,wY ε,wY ε,wY ε,yY ε]at a;have:=a _<|kZ.2 ⟨p,d,K⟩;omega
def oA{r}{n}{i}(h:Gd<|.nd 17 r n i):∃o b g e f,i=[.ty o,.nd b g e f]/\1<=b:=by
 rw[Gd]at h;obtain⟨d,q⟩:=h;simp only[bO]at d;rw[wY ε,wY ε,wY ε,wY ε,wY ε,wY ε,wY ε,wY ε,wY ε,yY ε]at d;obtain⟨x,y,j,k,l⟩:=d;obtain⟨a,c,rfl,m,p⟩:=k2 j;obtain⟨t,rfl⟩:=xV (tN q ι)<|m ▸ k;cases c with
 |ty o=>cases o<;>(grind[Nt.k,aP])
 |nd b g e f=>exact⟨t,b,g,e,f,K,by have:b=y:=p;rw[this];exact l.1⟩
theorem nZ{k}{n}{f}(e:Gd<|.nd 16 k n f){d}{b}:bE κ d b f=.ok d []:=by
 rw[Gd]at e;obtain⟨c,j⟩:=e;simp only[bO]at c;rw[wY ε,wY ε,wY ε,wY ε,wY ε,wY ε,wY ε,wY ε,yY ε]at c;obtain⟨x,g,h⟩:=c;obtain⟨a,rfl,i⟩:=k1 g;obtain⟨t,rfl⟩:=xV (tN j ι)<|i ▸ h;rfl
def jV{b}{n}{a}(c:Gd<|.nd 5 b n a):a=[]:=by
 simp_all[Gd,bO,yY]
section
variable{c:E}{B a:Nat}{b d:χ}{N:List Nd}
def UE(c:E)(B a:Nat)(b d:χ)(N:List Nd):Prop:=∀(i) (q) (w) (m) (e) (k),dF c w B a b d m e k->e≠[]->∀(l o) (g n),zJ N l o g N[i] n->(∀p∈g,1<=p.k->lD c B a b d N p)->∀h,m+2*aB g<=h->h<=100000->Q e+aB g<=100000->Q k=Q N->Q (N[i]).M<=100000->Q (N[i]).text<=1000000->((N[i]).x=5\/(N[i]).x=18)->∀R,(bM (N[i]).text e=none->R=.bad 5 i)->(∀j,bM (N[i]).text e=C j->R=(Br.ok e [(i,j)]).and λf=>bE κ f l g)->
 μ prog 126 #[pV a,U i] w (aI c w B a b d N h k R)
def ux(hV:UE c B a b d N)(P:cU c b N)(b0:Q N<=10000)(an:∀nd∈N,Q nd.M<=100000/\Q nd.text<=1000000):∀(a4) (t),uD t<=a4->Gd t->1<=t.k->lD c B a b d N t:=by
 intro a4;induction a4 with
 |zero=>grind[A8b]
 |succ a4 ih=>
  intro t b4 s av g y w m r H ao h R hm hf M;cases t with
  |ty o=>cases o<;>simp[Nt.k]at av
  |nd k tx ai n=>
   obtain⟨T,A,u⟩:=Em.parts ao;have af:rH n:=by rw[Gd]at s;exact s.2
   have L:=λp i h1=>by
    refine ih p ?_ (tN af i) h1;have:=S9 i;grind[uD]
   rw[Em.ix];have D:nN (.nd k tx ai n)=aB n+1:=by rw[nN]
   rw[D]at hm hf;obtain⟨a7,aa⟩:=an _<|mQ A;have a2:(N[g+aB n]).x=k:=(congrArg Nd.x u).trans<|J7 _ _ _ _;have ab:(N[g+aB n]).text=tx:=(congrArg Nd.text u).trans (DI _ _ _ _).1;by_cases ad:k=17
   .subst ad;obtain⟨o,v,G,F,q,rfl,Z⟩:=oA s;have a3:aB [.ty o,.nd v G F q]=nN (.nd v G F q):=by simp[aB,nN]
    obtain⟨-,a6⟩:=dM.head T;rw[nN,Nat.add_zero]at a6;obtain⟨-,ar,ax⟩:=Em.parts (dM.head a6).1;have aw:=(congrArg Nd.x ax).trans<|J7 _ _ _ _;have ac:(N[g+aB [.ty o,.nd v G F q]]).a=((g+aB q:Nat):Int):=by
     have:=congrArg Nd.a u;refine this.trans ?_;simp only[bV,bD];rw[wY ε,wY ε,wY ε,wY ε,wY ε,yY ε];simp;exact Em.ix
    have hE:lD c B a b d N (.nd v G F q):=L _ ι Z;refine(vh P _ A w m r H h R v (g+aB q) (nN<|.nd v G F q) ar aw W W aa W a2 ac (λf=>dU f g<|.nd v G F q) (λf f' az hf e=>WU _ f g hf f' az e) ?_ _ K).mono λe w' i=>?_
    .intro aj m1 f ak ha ap b3 b1 aq b2 ho;have a5:=BV [.nd v G F q] (λp i=>by simp at i;subst i;exact⟨Z,hE⟩) g _ aj m1 f H a6 ha (T2 R ap) (by grind[aB]) (by grind[aB]) M (C<|J ak 0) 1 [((g+aB q:Nat):Int)] Θ ho (λb6 hq=>.inr<|by grind[Δ,zQ]);rw[DA _ _ _ _<|by exact Z]at a5;simp only[bE,Br.and_nil,aB,Nat.add_zero]at a5;exact a5
    .rw[wE r g tx ai o _<|by exact Z];rw[ab,a3]at i;rw[D,a3];exact i.more W
   by_cases h6:k=6
   .subst h6;obtain⟨l,o,z,x,j,rfl,ay,ah⟩:=pH s;have ag:∀p∈l,1<=p.k:=λp i=>θ;have a3:aB (l++[.ty o,.nd 26 z x j])=aB l+aB j+1:=by rw[yN];simp[aB,nN];omega
    have au:bD g y (l++[.ty o,.nd 26 z x j])=px g l++[bW (g+aB l) (y+cK l)<|.ty o,((g+aB l+aB j:Nat):Int)]:=by
     rw[vG,X9 g y l ag];simp only[bD,Em.ix,nN,Nat.add_zero]
    rw[au]at u;have ac:(N[g+aB (l++[.ty o,.nd 26 z x j])]).a=((g+aB l+aB j:Nat):Int):=by
     refine(congrArg Nd.a u).trans ?_;simp[bV]
    have a8:(N[g+aB (l++[.ty o,.nd 26 z x j])]).M=px g l:=by
     refine(congrArg Nd.M u).trans ?_;simp[bV]
    have aq:Gd (.nd 26 z x j):=tN af ι;have am:∀p∈j,1<=p.k/\lD c B a b d N p:=λp i=>by
     refine⟨ah p i,ih p ?_ (tN (by grind[Gd]) i)<|ah p i⟩;have h1:=S9 i;have h2:uD (.nd 26 z x j)<=E7 (l++[.ty o,.nd 26 z x j]):=S9 ι;grind[uD]
    refine(D6e P _ A w m r H h l o z x j (λp i=>⟨ay p i,L p θ<|ag p i⟩) am g y T W W M W a2 ac a8 _ K).mono λe w' i=>?_;rw[dU,wY ε,wY ε,wY ε,wY ε,yY K];rw[D,a3];exact i.more W
   by_cases ae:k=26
   .subst ae;have hk:=kE s;have a8:(N[g+aB n]).M=px g n:=by
     have:=congrArg Nd.M u;rw[X9 _ _ n hk]at this;exact this
    rw[D];refine(VA P _ A w m r H h n (λp i=>⟨hk p i,L p i<|hk p i⟩) g y T W W M a2 a8 _ K).mono λe w' i=>?_;rw[dU,wY ε,wY ε,wY ε,wY ε,wY ε,yY K];exact i.more W
   obtain⟨j,a9⟩:=xz s ⟨h6,ad,ae⟩ T _ u;by_cases al:k=16
   .subst al;rw[D];refine(zv P _ A w m r H h R g y n j a9 L (m+2*(aB n+1)) W W W M a7 aa W a2 _ K).mono λe w' i=>?_;rw[dU,wY ε,wY ε,wY ε,yY K];grind[nZ]
   by_cases h5:k=5\/k=18
   .rw[D];refine hV _ A w m r H h R g y n j a9 L (m+2*(aB n+1)) W W W M a7 aa W _ (λS=>?_) λb5 S=>?_
    .rw[ab]at S;obtain rfl|rfl:=h5
     .obtain rfl:=jV s;rw[dU,yY K,S];rfl
     grind[dU]
    .rw[ab]at S;obtain rfl|rfl:=h5
     .obtain rfl:=jV s;rw[dU,yY K,S,Br.jf,bE];rfl
     grind[dU]
   rw[D,sA r g W];exact uz P _ A w m r H h R g y n j a9 L (m+2*(aB n+1)) W W W M a7 W
end
section
variable{d:E}{B b:Nat}{c e:χ}{N:List Nd}{T:List Ty}{a:List Nt}
def bJ.em(h:bJ N T a):Em N 0 0 (.nd 26 [] 0 a):=⟨[],[],by simp[h.ey],K⟩
def bJ.j8(h:bJ N T a):Q N=aB a+1:=by
 have:=congrArg Q h.ey;grind[lZ,R6,nN]
def kU(a:List Nt):Br:=dU [] 0<|.nd 26 [] 0 a
def Ē(u:UE d B b c e N)(o:cU d c N)(g:bJ N T a)(F:∀f∈N,Q f.text<=1000000)(w)(l)(h:dF d w B b c e 0 [] l)(D:Q l=Q N):
 μ prog 126 #[pV b,U<|(Q N-1:Nat)] w (aI d w B b c e N 2400 l<|kU a):=by
 obtain⟨v,m,r⟩:=Em.parts g.em;have M:=g.j8;have P:=g.fp;have k:=Y7 _<|mM g.wn;have x:rH a:=by rw[Gd]at k;exact k.2
 have n:=kE k;have s:Q N-1=0+aB a:=W;have z:(N[0+aB a]).M=px 0 a:=by
  have:=congrArg Nd.M r;rw[X9 _ _ a n]at this;exact this
 have y:=(congrArg Nd.x r).trans<|J7 _ _ _ _;have t:∀f∈N,Q f.M<=100000/\Q f.text<=1000000:=λf q=>by
  refine⟨?_,F f q⟩;obtain⟨i,m,rfl⟩:=List.getElem_of_mem q;have A:N[i].fl∈iR 0 0 (.nd 26 [] 0 a):=by
   rw[<-g.ey];exact List.mem_map_of_mem<|mQ m
  have H:=NC (.nd 26 [] 0 a) k 0 0 _ A;have L:N[i].fl.M=N[i].M:=K;grind[nN]
 rw[s];refine(VA o _ m w 0 [] l h a (λp j=>⟨n p j,ux u o W t _ p (vQ _) (tN x j)<|n p j⟩) 0 0 v W θ D y z _ K).mono λG R j=>?_;rw[kU,dU,wY ε,wY ε,wY ε,wY ε,wY ε,yY K];exact j.more W
end
def Ű{c}{B d}{a F}{N}(k:cU c a N):UE c B d a F N:=by
 intro i o w m e D h n b A y z t j x s r l v q u p R f g;exact vk k i o w m e D h n b A y z t j x s r l v q u p R f g
section
variable{b e:E}{B a:Nat}{d c:χ}{N:List Nd}
def Qe(i:Nat)(w)(m)(h)(R)(p:∀k,I No w k->μ prog 126 #[pV a,U i] k (aI b e B a d c N m h R))
 (g) (u:g<V w.heap) (t:δ w (J g 0)=C (U i)):
 μ prog 88 #[pV a,Y (C<|J g 0) 1 1] w (aI b e B a d c N m h R):=by
 have q:=O p;go_in;go_wp2;go_loopw [8] (λv wr=>(v=U 0/\wr=w)\/(v=U 1/\Hid (aI b e B a d c N m h R (rT) wr))) (λv _=>1-(intOf v).toNat);case atStart=>simp
 case round=>
  obtain⟨rfl,rfl⟩|⟨rfl,H⟩:=hrel
  .go_wp2_with fail;refine(q.u _<|I.refl _ _).mono ?_;rintro r x n;have o:=n.2;cases R with
   |bad s j=>
    obtain rfl:r=gu s (cW N j):=o;exact⟨K,n⟩
   |ok f l=>
    obtain⟨rfl,-⟩:=o;go_wp2;simp_all[measure,intOf]
  .go_wp2;go_end0;exact H.u
def Qg(i:Nat)(w)(m)(k)(R)(r:∀g,I No w g->μ prog 126 #[pV a,U i] g (aI b e B a d c N m k R))
 (o p) (x:δ w (J o 0)=C (pV a)) (y:δ w (J p 2)=C (U i)):
 μ prog 87 #[pV o,pV p] w (aI b e B a d c N m k R):=by
 have z:=rY w<|γ #[U i] 3;have q:=O (Qe i (σ w<|γ #[U i] 3) m k R (λg v=>r g<|B6 (I.alloc No _ _) v) (V w.heap) ι ι);go_in;go_wp2_with fail;refine q.u.mono ?_;rintro t A h;have n:=h.2;cases R with
 |bad u j=>
  obtain rfl:t=gu u (cW N j):=n;exact⟨K,h⟩
 |ok f l=>
  obtain⟨rfl,-⟩:=n;have s:=O h;go_wp2;go_end0;exact s.u
def dF.pn{w s}{m}{p}{r}(h:dF b w B a d c m p r){q}{u}{f}{v}(l:I (λk=>k=q) w s)(o:w.heap[q]?=C (γ u f v))(y:f≠3/\f≠109)(z:f≠210)(L:V b.heap<=q):dF b s B a d c m p r:=by
 obtain⟨G,H⟩:=h.tv o y;obtain⟨t,F,j⟩:=h.st;refine⟨h.hz,kQ h.le l.size,h.jh.trans<|I.ep l (λk _ f=>W) h.jh.size,t,F,j.P l (Ne.symm G) (λg n f=>I6 j.ar o (Ne.symm z)<|f ▸ n) (λg n f=>H<|f ▸ n) λx D f=>?_⟩;obtain⟨i,A,rfl⟩:=List.getElem_of_mem D;have:=j.len;exact(j.fr i A W).et<|f ▸ o
def DS(b w:E)(B a:Nat)(d c:χ)(N:List Nd)(m:Nat)(n:uZ)(R:Br)(j:Ending)(g:E):Prop:=(Ω (V b.heap) b g/\∀(q:Nat) (h:Array χ) (t),w.heap[q]?=C (γ h t (0,0))->(t≠3/\t≠109)->t≠210->g.heap[q]?=C (γ h t (0,0)))/\match R with
 |.bad k i=>j=π (.agg #[U k,U<|cW N i])
 |.ok f l=>j=π (.agg #[U 0,U 0])/\dF b g B a d c m f (dG n l)
def uq(i:Nat)(w)(m m0)(fs)(p)(R)(h:dF b w B a d c m0 fs p)(HN:∀f,I No w f->μ prog 126 #[pV a,U i] f (aI b f B a d c N m p R))
 (G H) (a6:δ w (J G 0)=C (pV a)) (a7:δ w (J H 2)=C (U i)):
 μ prog 29 #[.func (.func 87) #[] #[pV G,pV H]] w (DS b w B a d c N m p R):=by
 have z:=I.alloc No w<|γ #[U 0,U 0] 29;have A:=h.kept z;have HM:=Qg i (σ w<|γ #[U 0,U 0] 29) m p R (λf n=>(HN f<|B6 z n).mono λv w' hp=>aI.after (cV.y n) hp) G H (A4 z a6)<|A4 z a7;obtain⟨ai,a9,aa⟩:=h.fresh<|vQ _;have ac:=rY w<|γ #[U 0,U 0] 29;have a4:Hid (∀f,cV B a c (σ w<|γ #[U 0,U 0] 29) f->f.heap[V w.heap]?=C (γ #[U 0,U 0] 29 (0,0))/\Ω (V b.heap) b f):=λf n=>⟨n.other ac ε a9 aa,A.jh.trans<|(n.below A.le).mono A.hz⟩;have ad:=h.jh.size;have a5:Hid (∀f,cV B a c (σ w<|γ #[U 0,U 0] 29) f->∀q (k:Array χ) (t:TypeId),w.heap[q]?=C (γ k t (0,0))->(t≠3/\t≠109)->t≠210->q<V w.heap/\f.heap[q]?=C (γ k t (0,0))):=λf n q k t o s u=>by
  obtain⟨y1,y2⟩:=h.tv o s;have F:=(aG o);exact⟨F,n.other (by grind[õ]) u y1 y2⟩
 go_enter_defers func29,ntmps29;go_wp2_with fail;refine HM.mono ?_;rintro v g ⟨hk,hr⟩;obtain⟨r,ab⟩:=a4.u g hk;have T:=O<|a5.u g hk;have q0:δ g (J (V w.heap) 0)=C (U 0):=cr r K;have q1:δ g (J (V w.heap) 1)=C (U 0):=cr r K;have hz:=(aG r);have af:=λae=>ã g _ ae _ _ r;have S:=O ab;have P:=O r;cases R with
 |bad x j=>
  obtain rfl:v=gu x (cW N j):=hr;unfold gu;refine Ú (f:=53) (args:=#[pV (V w.heap)]) ι (by simp[go_sem]) ?_;refine(FQ (V w.heap) x (cW N j) 0 0 [] _ q0 q1 af).mono ?_;rintro v u' ag ⟨rfl,rfl,hc,L,M⟩;have KX:DS b w B a d c N m p (.bad x j) (π<|.agg #[U x,U<|cW N j]) ag:=⟨⟨S.u.trans<|I.ep hc (λa2 _ a3=>W) S.u.size,λq k t o s u=>by
   obtain⟨F,h4⟩:=T.u q k t o s u;rw[hc.block q W W];omega⟩,K⟩;generalize cW N j=pa at*;simp[Leaves,settle,â,results29,go_sem,L,M];omega
 |ok a8 l=>
  obtain⟨rfl,hb⟩:=hr;have HB:=O hb;go_wp2;refine Ú (f:=53) (args:=#[pV (V w.heap)]) ι (by simp[go_sem]) ?_;refine(OP (V w.heap) _).mono ?_;rintro v u' ah ⟨rfl,rfl,y⟩;have s1:=ê g (V w.heap) 0 _ _ (U 0) P.u;have s2:=ê _ (V w.heap) 1 _ _ (U 0) s1;have L:=A4 y (show δ _ (J (V w.heap) 0)=C (U 0) from cr s2 K);have M:=A4 y (show δ _ (J (V w.heap) 1)=C (U 0) from cr s2 K);have D:I (λa2=>a2=V w.heap) g (ρ (ρ g (J (V w.heap) 0)<|U 0) (J (V w.heap) 1)<|U 0):=I.trans (I.set g (J (V w.heap) 0) _) (I.set _ (J (V w.heap) 1) _) λ_ _ a3=>a3;have Z:=(HB.u.pn D P.u ε ε ad).kept y;have KX:DS b w B a d c N m p (.ok a8 l) (π<|.agg #[U 0,U 0]) ah:=⟨⟨Z.jh,λq k t o s u=>by
   obtain⟨F,h4⟩:=T.u q k t o s u;rw[y.block q (yQ W D.size) id,D.block q W W];omega⟩,K,Z⟩;simp[Leaves,settle,â,results29,go_sem,L,M];omega
end
def cU.eu{S}{w d}{c}{N}(h:cU w c N)(b:I S w d)(p:∀k f e i,w.heap[k]?=C (γ f e i)->(e=93\/e=156\/e=3)->¬S k):cU d c N:=by
 obtain⟨n,a,j⟩:=h;refine⟨n,A3 a b λg l x=>?_,j.imp<|gE.P b (λg _ _ q m=>?_) λ_ _ _=>trivial⟩
 .obtain⟨_,o,m⟩:=A9 a g l;grind
 grind
def OC(l:bZ)(w:E)(e:Ending)(c:E):Prop:=Ω (V w.heap) w c/\
 ((∃a p,dZ l (.inl (a,p))/\e=π (.tuple #[υ none,.agg #[U a,U p]]))\/
  ∃N T f B b d k,dZ l (.inr (N,T))/\bJ N T f/\V w.heap<=B/\match kU f with
   |.bad a i=>e=π (.tuple #[pV b,.agg #[U a,U<|cW N i]])
   |.ok h l=>e=π (.tuple #[pV b,.agg #[U 0,U 0]])/\∃g j,hG c B b d g k j 2400 h (dG (ì (Q N)<|-1) l)/\cU c d N)
def Xl{l}{w a b F:E}{N}{T}{j}{o s}{x y}{m}(z:Ω (V w.heap) w a)(Z:V w.heap<V a.heap)(B:dZ l<|.inr (N,T))(v:bJ N T j)(u:cU a o N)(P:b.heap[V w.heap]?=C (γ #[U 0,U 0] 29 (0,0)))(q:DS a F (V a.heap) m o s N 2400 (ì (Q N)<|-1) (kU j) (π<|.agg #[U x,U y]) b):
 OC l w (π<|.tuple #[pV m,.agg #[U x,U y]]) (ρ (ρ b (J (V w.heap) 0)<|U x) (J (V w.heap) 1)<|U y):=by
 have n:I (λk=>k=V w.heap) b (ρ (ρ b (J (V w.heap) 0)<|U x) (J (V w.heap) 1)<|U y):=I.trans (I.set b (J (V w.heap) 0) _) (I.set _ (J (V w.heap) 1) _) λ_ _ x=>x;have p:=z.trans (q.1.1.mono W);refine⟨p.trans<|I.ep n (λk _ e=>W) p.size,.inr ⟨N,T,j,V a.heap,m,o,s,B,v,W,?_⟩⟩;have h:=q.2;cases A:kU j with
 |bad H i=>
  grind
 |ok f l2=>
  rw[A]at h;obtain⟨h,r⟩:=h;simp at h;obtain⟨t,D,d⟩:=r.st;refine⟨θ,t,D,d.P n (λe=>?_) (λg c e=>?_) (λg c e=>?_) λg c e=>?_,(u.eu ((I.below r.jh).mono λ_ R x=>W) λ_ _ _ _ _ _ x=>x).eu n λk G e L S M x=>?_⟩
  .have:=d.low;omega
  .have:=(d.ar.lt g c).1;omega
  .have:=(d.js.lt g c).1;omega
  .have:=d.ge g c;omega
  grind
section
def Gy(s)(w:E)(ac:s.size<=Γ):μ prog 47 #[.string s] w (OC s.data.toList w):=by
 have HP:=O λb=>Eg s b ac;have L:=rY w<|γ #[U 0,U 0] 29;obtain⟨i0,hi,aq,ar,au⟩:=info_parts Tryz.fy;clear ac;go_in;go_wp2_with fail;refine(HP.u _).mono ?_;clear HP;rintro e b ⟨r,⟨q,p,t,rfl⟩|⟨N,T,c,d,i,k,t,rfl,hN,hT⟩⟩
 .have m:b.heap[V w.heap]?=C (γ #[U 0,U 0] 29 (0,0)):=by
   rw[r.block _ ι];exact L
  have g0:δ b (J (V w.heap) 0)=C (U 0):=cr m K;have g1:δ b (J (V w.heap) 1)=C (U 0):=cr m K;have gz:=λo=>ã b _ o _ _ m;have gl:=(aG m);have b3:(q !=0)=τ:=by simp[t.1]
  have D:Hid (Ω (V w.heap) w b):=(I.ep (I.alloc No w _) (λ_ _ x=>x.elim)<|vQ _).trans (r.mono ι);have a3:=O t;clear t r L m;go_wp2_with fail;go_region;all_goals go_wp2_with fail
  all_goals
   have am:I (λaf=>af=V w.heap) b (ρ (ρ b (J (V w.heap) 0)<|U q) (J (V w.heap) 1)<|U p):=I.trans (I.set b (J (V w.heap) 0) _) (I.set _ (J (V w.heap) 1) _) λ_ _ x=>x;have hR:OC s.data.toList w (π<|.tuple #[υ none,.agg #[U q,U p]]) _:=⟨D.u.trans<|I.ep (I.trans am (B6 (B6 (I.alloc No _<|γ #[sN,sN,U 0] 61)<|I.alloc No _<|γ #[U q,U p] 29)<|I.drewN No _ 1) λ_ _ x=>x.elim) (λaf _ e=>W) D.u.size,.inl ⟨q,p,a3.u,K⟩⟩;exact ä (v:=.tuple #[υ none,.agg #[U q,U p]]) (by simp[â,results47,go_sem,g0,g1,gl]) K hR
 .obtain⟨ps,H⟩:=ď t;have az:=H.fp;have W2:Hid (∃z,z=(((b.alloc<|γ #[Y c (Q N) d,Y i (Q T) k,U<|(Q N:Int)-1] 61).alloc<|γ #[U 0,U 0] 29).alloc<|γ #[Y c (Q N) d,sN,sN] 109).alloc (γ #[pV<|V b.heap+1+1] 104)):=⟨_,K⟩;have Z:=O H;have aj:=O hN;have ax:=O r;have D:Hid (Ω (V w.heap) w b):=(I.ep (I.alloc No w _) (λ_ _ x=>x.elim)<|vQ _).trans (r.mono ι);have a3:=O t;have m:b.heap[V w.heap]?=C (γ #[U 0,U 0] 29 (0,0)):=by
   rw[r.block _ ι];exact L
  have F0:=O m;have ae:=(aG m);have b2:1<=Q N:=by have:=H.j8;omega
  clear hT hN r t H L m;go_wp2_with fail;have BZ:Hid (tZ ((((b.alloc<|γ #[Y c (Q N) d,Y i (Q T) k,U<|(Q N:Int)-1] 61).alloc<|γ #[U 0,U 0] 29).alloc<|γ #[Y c (Q N) d,sN,sN] 109).alloc<|γ #[pV<|V b.heap+1+1] 104) ((((b.alloc<|γ #[Y c (Q N) d,Y i (Q T) k,U<|(Q N:Int)-1] 61).alloc<|γ #[U 0,U 0] 29).alloc<|γ #[Y c (Q N) d,sN,sN] 109).alloc<|γ #[pV<|V b.heap+1+1] 104) (V b.heap) (V b.heap+1+1) (Y c (Q N) d) (sN) 0):=by
   refine⟨W,?_,kW _ _ _ _,I.refl _ _⟩;rw[õ _ _ _ ι];have:=rY ((b.alloc<|γ #[Y c (Q N) d,Y i (Q T) k,U<|(Q N:Int)-1] 61).alloc<|γ #[U 0,U 0] 29)<|γ #[Y c (Q N) d,sN,sN] 109;simpa using this
  have M:((((b.alloc<|γ #[Y c (Q N) d,Y i (Q T) k,U<|(Q N:Int)-1] 61).alloc<|γ #[U 0,U 0] 29).alloc<|γ #[Y c (Q N) d,sN,sN] 109).alloc<|γ #[pV<|V b.heap+1+1] 104).heap[V b.heap+1+1+1]?=C (γ #[pV<|V b.heap+1+1] 104 (0,0)):=by
   have:=rY (((b.alloc<|γ #[Y c (Q N) d,Y i (Q T) k,U<|(Q N:Int)-1] 61).alloc<|γ #[U 0,U 0] 29).alloc<|γ #[Y c (Q N) d,sN,sN] 109)<|γ #[pV<|V b.heap+1+1] 104;simpa using this
  have ai:Hid (Ω (V b.heap) b<|(((b.alloc<|γ #[Y c (Q N) d,Y i (Q T) k,U<|(Q N:Int)-1] 61).alloc<|γ #[U 0,U 0] 29).alloc<|γ #[Y c (Q N) d,sN,sN] 109).alloc<|γ #[pV<|V b.heap+1+1] 104):=I.ep (B6 (B6 (I.alloc No _ _)<|I.alloc No _ _)<|B6 (I.alloc No _ _)<|I.alloc No _ _) (λ_ _ x=>x.elim)<|vQ _;have a5:((((b.alloc<|γ #[Y c (Q N) d,Y i (Q T) k,U<|(Q N:Int)-1] 61).alloc<|γ #[U 0,U 0] 29).alloc<|γ #[Y c (Q N) d,sN,sN] 109).alloc<|γ #[pV<|V b.heap+1+1] 104).heap[V b.heap]?=C (γ #[Y c (Q N) d,Y i (Q T) k,U<|(Q N:Int)-1] 61 (0,0)):=by
   rw[õ _ _ _ à,õ _ _ _ à,õ _ _ _ ι];exact rY b _
  clear W2;generalize ((((b.alloc<|γ #[Y c (Q N) d,Y i (Q T) k,U<|(Q N:Int)-1] 61).alloc<|γ #[U 0,U 0] 29).alloc<|γ #[Y c (Q N) d,sN,sN] 109).alloc<|γ #[pV<|V b.heap+1+1] 104)=z at*;have aw:=(aG M);have QB:Hid (∀a u j,tZ z a (V b.heap) (V b.heap+1+1) (Y c (Q N) d) u j->δ a (J (V b.heap+1+1+1) 0)=C (pV<|V b.heap+1+1)/\δ a (J (V b.heap+1+1) 2)=C u/\(∀o,a.frozen? (J (V b.heap+1+1) o)=κ)/\V b.heap+1+1<V a.heap/\V b.heap+1+1+1<V a.heap):=λa u j h=>by
   have n:=h.P.block _ (aG M) W;rw[M]at n;exact⟨cr n K,cr h.blk K,λo=>ã a _ o _ _ h.blk,(aG h.blk),(aG n)⟩
  go_loopw [23] (λa6 wr=>∃(j:Nat) (u:χ),j<=Q N/\a6=U (j:Int)/\Hid (tZ z wr (V b.heap) (V b.heap+1+1) (Y c (Q N) d) u j)) (λa6 _=>Q N-(intOf a6).toNat);case atStart=>grind
  case round=>
   obtain⟨j,u,hj,rfl,g⟩:=hrel;obtain⟨qa,qc,qz,ql,b9⟩:=QB.u _ _ _ g.u;by_cases b4:j<Q N
   .obtain⟨ad,a4,rfl⟩:=B8 g.u.js;have HY:=O<|A3 g.u.js (B6 (I.drewN No wr 1)<|I.alloc No _<|γ #[U<|-1] 3) λ_ _ x=>x;have a8:I No wr (wr.drew.alloc<|γ #[U<|-1] 3):=B6 (I.drewN No wr 1)<|I.alloc No _<|γ #[U<|-1] 3;have S:=O a8;have aa:=I6 g.u.js g.u.blk ε;have ao:Δ (Y ad j a4)≠C (V b.heap+1+1+1):=λe=>by
     have:=(g.u.js.lt _ e).1;omega
    have b1:=g.u.P.size;clear a8;go_wp2_with fail;go_region_law (
     refine step_append_lies _ Θ _ _ _ Θ (V z.heap) 3 i0 (U 0) 1 8 underlying63 hi aq ar au K W (Y ad j a4) j (C8<|ì j<|-1) Θ HY.u (J wr.heap.size 0) 1 1 [U<|-1] Θ Θ (Æ (cs:=#[U<|-1]) (t:=3) (fr:=(0,0))<|rY wr.drew _) (by simp[Value.oneCell']) W (by simp only[Γ];omega) W à (wr.heap.size+1) ι ?_;intro gg a7 P ab B al b5;have z4:P.cell? (J (V b.heap+1+1) 2)=C (Y ad j a4):=by rw[B.cell_far _ à<|Ne.symm aa];exact A4 S.u qc
     have z5:P.cell? (J (V b.heap+1+1+1) 0)=C (pV<|V b.heap+1+1):=by rw[B.cell_far _ à<|Ne.symm ao];exact A4 S.u qa
     have y4:P.frozen? (J (V b.heap+1+1) 2)=κ:=by rw[B.frozen_far _ à<|Ne.symm aa];exact U4 (w:=wr.drew) ql<|qz 2);all_goals
     have HG:Hid (tZ z (P.setCell (J (V b.heap+1+1) 2)<|Y (C<|J gg 0) (j+1) a7) (V b.heap) (V b.heap+1+1) (Y c (Q N) d) (Y (C<|J gg 0) (j+1) a7)<|j+1):=g.u.grow S.u (I.grown B) ab;clear ab B al HY;go_wp2;go_roundw;case rel=>exact⟨j+1,_,W,ç,HG⟩
     case measure=>simp[intOf];omega
   .have an:j=Q N:=W;subst an;have G:cU b (Y c (Q N) d) N:=by
     obtain⟨nx,h1,h2⟩:=aj.u;exact⟨nx,C7 h1<|wQ _,h2.imp (λb8 xs h=>by obtain⟨av,e,ho,_⟩:=h;exact⟨av,e,ho,λ_ _=>trivial⟩)⟩
    have ak:=O G;have hB:=g.u.done (w0:=b) (vQ _) W ai.u;have a9:(Q N:Int)-1=((Q N-1:Nat):Int):=W;have ag:wr.heap[V b.heap]?=C (γ #[Y c (Q N) d,Y i (Q T) k,U<|(Q N:Int)-1] 61 (0,0)):=by
     rw[g.u.P.block _ (aG a5) W];exact a5
    have ah:wr.cell? (J (V b.heap) 2)=C (U ((Q N-1:Nat):Int)):=by rw[<-a9,cell_of_row _ _ 2 _ _ _ ag];rfl
    have n:wr.heap[V b.heap+1+1+1]?=C (γ #[pV<|V b.heap+1+1] 104 (0,0)):=by
     rw[g.u.P.block _ aw W];exact M
    have HF:Hid (∀a,I No wr a->μ prog 29 #[.func (.func 87) #[] #[pV<|V b.heap+1+1+1,pV (V b.heap)]] a λe f=>∃x y,e=π (.agg #[U x,U y])/\δ f (J (V b.heap+1+1+1) 0)=C (pV<|V b.heap+1+1)/\(δ f (J (V w.heap) 0)=C (U 0)/\δ f (J (V w.heap) 1)=C (U 0)/\(∀o,f.frozen? (J (V w.heap) o)=κ)/\V w.heap<V f.heap)/\
     Hid (f.heap[V w.heap]?=C (γ #[U 0,U 0] 29 (0,0))/\DS b a (V b.heap) (V b.heap+1+1) (Y c (Q N) d) u N 2400 (ì (Q N)<|-1) (kU ps) (π<|.agg #[U x,U y]) f)):=by
     intro a A;refine(uq (Q N-1) a 2400 0 [] (ì (Q N)<|-1) (kU ps) (hB.kept A) (λa2 h2=>Ē (Ű G) G Z.u (λnd hm=>kQ (Z.u.tx nd hm) ε) a2 _ ((hB.kept A).kept h2) ι) (V b.heap+1+1+1) (V b.heap) (A4 A W)<|A4 A ah).mono ?_;rintro e f F;have v:f.heap[V w.heap]?=C (γ #[U 0,U 0] 29 (0,0)):=by rw[F.1.1.block _ ae];exact F0.u
     have q5:=F.1.2 _ _ _ (show a.heap[V b.heap+1+1+1]?=_ by rw[A.block _ (aG n) id];exact n) ε ε;have ap:∃x y,e=π (.agg #[U x,U y]):=by
      have h6:=F.2;cases b0:kU ps with
      |bad q b7=>grind
      |ok ay l=>grind
     obtain⟨x,y,rfl⟩:=ap;exact⟨x,y,K,cr q5 K,⟨cr v K,cr v K,λo=>ã _ _ o _ _ v,(aG v)⟩,v,F⟩
    have b6:=uG;have qx:wr.cell? (J (V b.heap+1+1+1) 0)=C (pV<|V b.heap+1+1):=cr n K;clear a5 ag ah n hB G a9 qc qz BZ QB g;go_wp2_with fail;go_region_with (go_at_call 29;refine(HF.u _<|I.drewN _ _ 1).mono ?_;rintro e f ⟨x,y,rfl,cq,⟨v,ba,rz,rl⟩,R⟩);all_goals
     have hR:=O<|Xl (D.u) ae a3.u Z.u ak.u R.u.1 R.u.2;have s1:=ê f (V w.heap) 0 _ _ (U x) R.u.1;have s2:=ê _ (V w.heap) 1 _ _ (U y) s1;have z0:δ (ρ (ρ f (J (V w.heap) 0)<|U x) (J (V w.heap) 1)<|U y) (J (V w.heap) 0)=C (U x):=cr s2 K;have z1:δ (ρ (ρ f (J (V w.heap) 0)<|U x) (J (V w.heap) 1)<|U y) (J (V w.heap) 1)=C (U y):=cr s2 K;clear s1 s2;go_wp2_with fail;exact ä (v:=.tuple #[pV<|V b.heap+1+1,.agg #[U x,U y]]) (by simp[â,results47,go_sem,z0,z1]) K hR.u
end
def U6(a:uZ):Nat->List (Int×Int)
 |0=>[]
 |j+1=>U6 a j++(if a.getD j 0≠-1 then [((j:Int),a.getD j 0)] else [])
def RU(a):∀j,Q (U6 a j)<=j
 |0=>vQ _
 |j+1=>by
  have:=RU a j;grind[U6,qQ]
def S4(l:List<|Int×Int):List χ:=l.flatMap λp=>[U p.1,U p.2]
theorem OM(l)(p):S4 (l++[p])=S4 l++[U p.1,U p.2]:=by simp[S4]
def C6d(l):Q (S4 l)=Q l*2:=by
 induction l with
 |nil=>rfl
 |cons p r a=>
  grind[S4]
def Br.m8{r:Br}{k}{e}{i}(c:∀e i,r=.bad e i->e=5\/e=6)(d:∀f e i,k f=.bad e i->e=5\/e=6)(h:r.and k=.bad e i):e=5\/e=6:=by
 cases r with
 |bad a g=>grind[Br.and]
 |ok b l=>
  grind[Br.jf]
mutual
theorem mX:∀(t:Nt) (a:List Fr) (b:Nat) (e:Int) (i:Nat),dU a b t=.bad e i->e=5\/e=6
 |.ty _,a,b,e,i,h=>by grind[dU]
 |.nd k p n c,a,b,e,i,h=>by
  rw[dU]at h;split at h
  .grind
  split at h
  .split at h
   .grind
   .exact Br.m8 (λ_ _ h=>θ) (λf e i h=>dX c κ f b e i h) h
  split at h
  .split at h
   .grind
   .revert h;cases j:bE κ (if vS c=τ then I2 a p ((b+aB c:Nat):Int) else a) b c with
    |bad g m=>
     intro h;simp[Br.jk]at h;exact h.1 ▸ dX c κ _ b g m j
    |ok f l=>intro h;simp[Br.jk]at h
  split at h
  .grind
  split at h
  .revert h;cases j:bE τ (a++[Fr.no]) b c with
   |bad g m=>
    intro h;simp[Br.pop]at h;exact h.1 ▸ dX c τ _ b g m j
   |ok f l=>intro h;simp[Br.pop]at h
  split at h
  .revert h;cases j:bE κ (a++[Fr.no]) b c with
   |bad g m=>
    intro h;simp[Br.pop]at h;exact h.1 ▸ dX c κ _ b g m j
   |ok f l=>intro h;simp[Br.pop]at h
  .exact dX c κ a b e i h
theorem dX:∀(c:List Nt) (d:Bool) (a:List Fr) (b:Nat) (e:Int) (i:Nat),bE d a b c=.bad e i->e=5\/e=6
 |[],d,a,b,e,i,h=>by grind[bE]
 |.ty o::r,d,a,b,e,i,h=>by
  rw[bE]at h;exact dX r d a b e i h
 |.nd k p n q::r,d,a,b,e,i,h=>by
  rw[bE]at h;refine Br.m8 (λe i h=>?_) (λf e i h=>dX r d f _ e i h) h;split at h
  .exact dX q κ a b e i h
  .exact mX (.nd k p n q) a b e i h
end
def IW(l:bZ)(w:E)(e:Ending)(g:E):Prop:=Ω (V w.heap) w g/\
 ((∃a p,a≠0/\dZ l (.inl (a,p))/\e=π (.tuple #[sN,.agg #[U a,U p]]))\/
  ∃N T f,dZ l (.inr (N,T))/\bJ N T f/\match kU f with
   |.bad a i=>a≠0/\e=π (.tuple #[sN,.agg #[U a,U<|cW N i]])
   |.ok _ b=>∃d c,e=π (.tuple #[Y d (Q (U6 (dG (ì (Q N)<|-1) b) (Q N))) c,.agg #[U 0,U 0]])/\ξ g (V w.heap) 82 2 (Y d (Q (U6 (dG (ì (Q N)<|-1) b) (Q N))) c) (Q (U6 (dG (ì (Q N)<|-1) b) (Q N))) (S4<|U6 (dG (ì (Q N)<|-1) b) (Q N)))
def Tryz.qh:(prog.info? 82).map (λi=>(i.zero,i.size,i.bytes))=C (C<|.agg #[U 0,U 0],2,16):=Ψ
def Ns(s)(w:E)(q:s.size<=Γ):μ prog 23 #[.string s] w (IW s.data.toList w):=by
 have S:=O λb=>Gy s b q;have L:=rY w<|γ #[U 0,U 0] 29;obtain⟨i0,hi,az,b0,b1⟩:=info_parts Tryz.qh;go_in;go_wp2_with fail;refine(S.u _).mono ?_;rintro a9 b ⟨i,⟨d,p,n,rfl⟩|⟨N,a8,R,b4,bb,nv,tv,n,H,hB,M⟩⟩
 .have e:b.heap[V w.heap]?=C (γ #[U 0,U 0] 29 (0,0)):=by
   rw[i.block _ ι];exact L
  have y:δ b (J (V w.heap) 0)=C (U 0):=cr e K;have z:δ b (J (V w.heap) 1)=C (U 0):=cr e K;have gz:=λo=>ã b _ o _ _ e;have A:=(aG e);have aq:(d !=0)=τ:=by simp[n.1]
  have g:Hid (Ω (V w.heap) w b):=(I.ep (I.alloc No w _) (λ_ _ x=>x.elim)<|vQ _).trans (i.mono ι);have a7:=O n;go_wp2;go_region;all_goals go_wp2
  all_goals
   have l:I (λk=>k=V w.heap) b (ρ (ρ b (J (V w.heap) 0)<|U d) (J (V w.heap) 1)<|U p):=I.trans (I.set b (J (V w.heap) 0) _) (I.set _ (J (V w.heap) 1) _) λ_ _ x=>x;have Z:IW s.data.toList w (π<|.tuple #[sN,.agg #[U d,U p]]) _:=⟨g.u.trans<|I.ep (I.trans l (B6 (I.alloc No _<|γ #[U d,U p] 29)<|I.drewN No _ 1) λ_ _ x=>x.elim) (λk _ a9=>W) g.u.size,.inl ⟨d,p,a7.u.1,a7.u,K⟩⟩;exact ä (by simp[â,results23,go_sem,y,z,A]) K Z
 .cases B:kU R with
  |bad d ix=>
   rw[B]at M;have T:=M;subst T;have a4:Hid (d≠0):=by
    show d≠0;have:=mX (.nd 26 [] 0 R) [] 0 d ix B;omega
   have D:Hid (∀h,Ω (V w.heap) w h->IW s.data.toList w (π<|.tuple #[sN,.agg #[U d,U<|cW N ix]]) h):=λh hw=>⟨hw,.inr ⟨N,a8,R,n,H,by rw[B];exact⟨a4.u,K⟩⟩⟩;generalize cW N ix=p at*;have e:b.heap[V w.heap]?=C (γ #[U 0,U 0] 29 (0,0)):=by
    rw[i.block _ ι];exact L
   have y:δ b (J (V w.heap) 0)=C (U 0):=cr e K;have z:δ b (J (V w.heap) 1)=C (U 0):=cr e K;have gz:=λo=>ã b _ o _ _ e;have A:=(aG e);have aq:(d !=0)=τ:=by simp[a4.u]
   have g:Hid (Ω (V w.heap) w b):=(I.ep (I.alloc No w _) (λ_ _ x=>x.elim)<|vQ _).trans (i.mono ι);go_wp2;go_region;all_goals go_wp2
   all_goals
    have l:I (λk=>k=V w.heap) b (ρ (ρ b (J (V w.heap) 0)<|U d) (J (V w.heap) 1)<|U p):=I.trans (I.set b (J (V w.heap) 0) _) (I.set _ (J (V w.heap) 1) _) λ_ _ x=>x;have Z:=D.u _ (g.u.trans<|I.ep (I.trans l (B6 (I.alloc No _<|γ #[U d,U p] 29)<|I.drewN No _ 1) λ_ _ x=>x.elim) (λk _ a9=>W) g.u.size);exact ä (v:=.tuple #[sN,.agg #[U d,U p]]) (by simp[â,results23,go_sem,y,z,A]) K Z
  |ok fs l2=>
   rw[B]at M;obtain⟨T,av,ms,q,-⟩:=M;subst T;have e:b.heap[V w.heap]?=C (γ #[U 0,U 0] 29 (0,0)):=by
    rw[i.block _ ι];exact L
   have A:=(aG e);have g:Hid (Ω (V w.heap) w b):=(I.ep (I.alloc No w _) (λ_ _ x=>x.elim)<|vQ _).trans (i.mono ι);generalize ah:dG (ì (Q N)<|-1) l2=a at*;have ax:Q a=Q N:=by rw[<-ah];simp[yX]
   have a5:Hid (Q a<=100000):=by
    show Q a<=100000;have:=H.fp;omega
   have D:Hid (∀h f c,Ω (V w.heap) w h->ξ h (V w.heap) 82 2 (Y f (Q (U6 a (Q a))) c) (Q (U6 a (Q a))) (S4<|U6 a (Q a))->IW s.data.toList w (π<|.tuple #[Y f (Q (U6 a (Q a))) c,.agg #[U 0,U 0]]) h):=λh f c hw ho=>⟨hw,.inr ⟨N,a8,R,n,H,θ⟩⟩;obtain⟨ta,tc,ay⟩:=B8 q.js;subst ay;have c2:δ b (J bb 2)=C (Y ta (Q a) tc):=cr q.blk K;have b2:=blt c2;simp only at b2;have am:=O<|C7 q.js<|wQ _;have ak:=O e;clear q i L e B ah H n;have C1:=O<|I.alloc No b<|γ #[U 0,U 0] 29;have b8:=a5.u;clear ax a5 hB;go_wp2_with fail;go_loopw [23,6] (λa3 ai wr=>∃(j:Nat) (f:Option Addr) (m:Nat),j<=Q a/\a3=U (j:Int)/\ai=Y f (Q (U6 a j)) m/\Hid (I No b wr)/\Hid (wr.ownsRow (V b.heap) 82 2 (Y f (Q (U6 a j)) m) (Q (U6 a j))<|S4<|U6 a j)) (λa3 _ _=>Q a-(intOf a3).toNat);case atStart=>exact⟨0,none,0,wQ _,K,K,C1.u,kW _ _ _ _⟩
   case round=>
    obtain⟨j,f,m,hj,rfl,rfl,CR,F⟩:=hrel;have b9:=CR.u.size;by_cases ag:j<Q a
    .obtain⟨g2,aw,b6,b7,au,v0⟩:=D6 (A3 am.u CR.u λ_ _ x=>x) ag;subst aw;have af:a.getD j 0=a[j]:=by rw[lQ,gQ ag];rfl
     have ap:=RU a j;have t:Hid (U6 a (j+1)=U6 a j++if a[j]≠-1 then [((j:Int),a[j])] else []):=by
      show _=_;rw[U6,af]
     unfold Γ at au;clear af;generalize a[j]=r at*;obtain⟨G,aa⟩:∃G,U6 a j=G:=⟨_,K⟩;rw[aa]at F t ap⊢;clear aa;by_cases P:r=-1
     .subst P;have u:Hid (U6 a (j+1)=G):=by
       show _=_;rw[t.u];simp
      clear t;go_wp2_with fail;go_roundw;case rel=>exact⟨j+1,f,m,W,ç,by rw[u.u],CR,by rw[u.u];omega⟩
      grind[intOf]
     .have u:Hid (U6 a (j+1)=G++[((j:Int),r)]):=by
       show _=_;rw[t.u,yY P]
      have gt:(r !=-1)=τ:=by simpa using P
      have a6:=O<|F.u.alloc<|γ #[U (j:Int),U r] 82;clear t P;go_wp2_with (at_builtin;refine wpList_append_own _ K _ _ 75 K (V b.heap) 82 i0 (.agg #[U 0,U 0]) 2 16 underlying75 hi az b0 b1 K ε _ _ _ K a6.u (J wr.heap.size 0) 1 1 [U (j:Int),U r] K K ?c1 ?c2 ?c3 ?c4 ?c5 ?_);case c1=>grind[Æ,rY]
      case c2=>intro ai hu;simp at hu;obtain rfl|rfl:=hu<;>rfl
      case c3=>grind[Γ]
      case c4=>omega
      case c5=>simp;omega
      intro v' b3 a2 ae _;obtain⟨an,c4,rfl⟩:=B8 a2;have al:=O a2;have ab:=(I.alloc (λk=>V b.heap<=k) wr<|γ #[U (j:Int),U r] 82).trans (I.grown ae) λk hk x=>(A9 a6.u k x.symm).1;have aj:Hid (I No b b3):=((CR.u.mono (S':=λk=>V b.heap<=k) λ_ _ x=>x.elim).trans ab λ_ _ x=>x).mono (λk hk x=>W);clear a2 ae ab;go_wp2_with fail;go_roundw;case rel=>exact⟨j+1,an,c4,W,ç,by rw[u.u,qQ,Ë],aj,(show ξ _ _ _ _ _ _ _ from by rw[u.u,OM,qQ,Ë];exact al.u)⟩
      grind[intOf]
    .have ar:j=Q a:=W;subst ar;have v:wr.heap[V w.heap]?=C (γ #[U 0,U 0] 29 (0,0)):=by
      rw[CR.u.block _ A λx=>x];exact ak.u
     have y:wr.cell? (J (V w.heap) 0)=C (U 0):=cr v K;have z:wr.cell? (J (V w.heap) 1)=C (U 0):=cr v K;have gz:=λo=>ã wr _ o _ _ v;have b5:=(aG v);have l:I (λk=>k=V w.heap) wr (ρ (wr.setCell (J (V w.heap) 0)<|U 0) (J (V w.heap) 1)<|U 0):=I.trans (I.set wr (J (V w.heap) 0) _) (I.set _ (J (V w.heap) 1) _) λ_ _ x=>x;have S:=O (D.u _ f m ((g.u.trans<|I.ep CR.u (λ_ _ x=>x.elim) g.u.size).trans<|I.ep l (λk _ x=>W) W)<|A3 (C7 F.u W) l λao hg x=>by have:=(F.u.lt ao hg).1;omega);clear l v D;generalize Q (U6 a (Q a))=bl at*;go_wp2_with fail;exact ä (v:=.tuple #[Y f bl m,.agg #[U 0,U 0]]) (by simp[â,results23,go_sem,y,z]) K S.u
def fZ(l:List<|Int×Int):Int->Option Int:=l.foldl (λf p=>λx=>if x=p.1 then C p.2 else f x) λ_=>none
theorem CY(l)(p):fZ (l++[p])=λx=>if x=p.1 then C p.2 else fZ l x:=by
 unfold fZ;simp
theorem RO(a):∀j,fZ (U6 a j)=λx=>if 0<=x/\x<(j:Int)/\a.getD x.toNat 0≠-1 then C (a.getD x.toNat 0) else none
 |0=>by
  funext x;rw[wY W];rfl
 |j+1=>by
  funext x;rw[U6];by_cases b:a.getD j 0≠-1
  .rw[yY b,CY,RO a j];grind
  .rw[wY b,iY,RO a j];grind
def A3f(c):fZ (U6 c.ts (Q c.N))=lS c:=by
 rw[RO];rfl
def Jh(a):∀(n) (p),p∈U6 a n->∃j,j<n/\p=((j:Int),a.getD j 0)/\a.getD j 0≠-1
 |0,p,h=>by grind[U6]
 |n+1,p,h=>by
  rw[U6,qW]at h;obtain h|h:=h
  .obtain⟨j,b,c⟩:=Jh a n p h;grind
  grind
theorem GK{N}{T}{b c}(h:bJ N T b)(k:bJ N T c):b=c:=by
 obtain⟨f,d⟩:=h.main;obtain⟨_,e⟩:=k.main;exact B2e (λp a=>⟨Y7 p (h.wn p a).1,(h.wn p a).2⟩) (λp a=>⟨Y7 p (k.wn p a).1,(k.wn p a).2⟩) d e
def XA(c):∀(j) {e} {i},W5 c j=.inl (e,i)->e≠0
 |0,e,i,h=>by grind[W5]
 |j+1,e,i,h=>by
  rw[W5]at h;cases a:W5 c j with
  |inl p=>
   obtain⟨b,d⟩:=p;rw[a]at h;simp only[rX,Sum.inl.injEq,Prod.mk.injEq]at h;have:=XA c j a;omega
  |inr f=>
   rw[a]at h;simp only[rX]at h;grind[kS]
def Pj{c}{e}{i}(h:mW c=.inl (e,i)):e≠0:=XA c _ h
def iX(l:bZ)(a p:Int):Prop:=a≠0/\(dZ l (.inl (a,p))\/∃N T b,dZ l (.inr (N,T))/\bJ N T b/\
 ((∃i,kU b=.bad a i/\p=cW N i)\/∃d c i,kU b=.ok d c/\mW (aQ N T c)=.inl (a,i)/\p=cW N i))
def fQ(l:bZ)(N:List Nd)(T:List Ty)(a:List<|Nat×Int)(d:Of):Prop:=
 ∃b c,dZ l (.inr (N,T))/\bJ N T b/\kU b=.ok c a/\mW (aQ N T a)=.inr d
section
variable{l:bZ}{c p f i:Int}{N a:List Nd}{T b:List Ty}{d g:List (Nat×Int)}{e h:Of}
theorem iX.one(j:iX l c p)(k:iX l f i):c=f/\p=i:=by
 obtain⟨_,j⟩:=j;obtain⟨_,k⟩:=k;obtain j|⟨N,T,ps,h1,h2,h3⟩:=j
 .obtain k|⟨a,b,qs,k1,_⟩:=k
  .have:=j.one k;grind
  .have:=j.one k1;grind
 .obtain k|⟨a,b,qs,k1,k2,k3⟩:=k
  .have:=k.one h1;grind
  .have m:=h1.one k1;grind[GK]
theorem fQ.not(m:fQ l N T d e):¬iX l c p:=by
 rintro⟨_,k⟩;obtain⟨t,o,j,q,r,s⟩:=m;obtain k|⟨a,b,qs,k1,k2,k3⟩:=k
 .have:=k.one j;grind
 .have n:=j.one k1;grind[GK]
theorem fQ.one(j:fQ l N T d e)(k:fQ l a b g h):N=a/\T=b/\d=g/\e=h:=by
 obtain⟨y,q,m,s,t,u⟩:=j;obtain⟨z,r,n,v,w,x⟩:=k;have o:=m.one n;grind[GK]
end
