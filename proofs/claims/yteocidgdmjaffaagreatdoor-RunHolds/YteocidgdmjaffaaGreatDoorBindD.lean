/-
  A part of the proof.
-/
import Derived.Test.YteocidgdmjaffaaGreatDoorBnb
import Derived.Test.YteocidgdmjaffaaGreatDoorPrs
import Derived.Test.YteocidgdmjaffaaGreatDoorCheckA
set_option maxHeartbeats 0
set_option linter.all false
set_option maxRecDepth 100000
namespace Go.Proofs.YteocidgdmjaffaaGreatDoor
open Go.Proofs.Tryz
open Go.RowKit Go.Maps
theorem oT{k}{d}{n}{c}(a)(b)(h:k≠5/\k≠18/\k≠17/\k≠16/\k≠6/\k≠26):cX a b (.nd k d n c)=bB false a b c:=by
 simp_all[cX,zY]
def mM{G}{n}{b}(l:Gd (.nd 6 G n b)):∃q o H B s,b=q++[.ty o,.nd 26 H B s]/\(∀p∈q,p.k=16)/\∀p∈s,1<=p.k:=by
 rw[Gd]at l;obtain⟨h,x⟩:=l;unfold bJ at h;rw[zY (by decide),wY rfl]at h;obtain⟨d,r,g,y,A⟩:=h;have z:=congrArg List.length g;simp at z;have L:b=b.take d.length++b.drop d.length:=(List.take_append_drop _ _).symm;have M:(b.take d.length).map K.k=d:=by rw[List.map_take,g];simp
 have u:(b.drop d.length).map K.k=[r,26]:=by rw[List.map_drop,g];simp
 obtain⟨a,c,e,v,k⟩:=k2 u;have j:∀p∈b,Gd p:=λp f=>pX x f;have w:=j a (by grind);have m:=j c (by grind);obtain⟨t,rfl⟩:=uA w (v ▸ A);cases c with
 |ty o=>cases o<;>simp[K.k]at k
 |nd N F n2 D=>
  have:=k;subst this;refine⟨b.take d.length,t,F,n2,D,by grind,λp f=>?_,λp f=>?_⟩
  .exact y _ (by grind)
  .rw[Gd]at m;have i:=m.1;simp only[bJ]at i;rw[zY (by decide),zY (by decide),zY (by decide),zY (by decide),zY (by decide),zY (by decide),zY (by decide),zY (by decide),zY (by decide),zY (by decide),zY (by decide),zY (by decide),zY (by decide),wY (by decide)]at i;have:=i _ (qZ.2 ⟨p,f,rfl⟩);omega
def iO{e}{n}{c}(b:Gd (.nd 26 e n c)):∀p∈c,1<=p.k:=λp d=>by
 rw[Gd]at b;have a:=b.1;simp only[bJ]at a;rw[zY (by decide),zY (by decide),zY (by decide),zY (by decide),zY (by decide),zY (by decide),zY (by decide),zY (by decide),zY (by decide),zY (by decide),zY (by decide),zY (by decide),zY (by decide),wY (by decide)]at a;have:=a _ (qZ.2 ⟨p,d,rfl⟩);omega
def lG{r}{n}{i}(h:Gd (.nd 17 r n i)):∃o b g e f,i=[.ty o,.nd b g e f]/\1<=b:=by
 rw[Gd]at h;obtain⟨d,q⟩:=h;simp only[bJ]at d;rw[zY (by decide),zY (by decide),zY (by decide),zY (by decide),zY (by decide),zY (by decide),zY (by decide),zY (by decide),zY (by decide),wY (by decide)]at d;obtain⟨x,y,j,k,l⟩:=d;obtain⟨a,c,rfl,m,p⟩:=k2 j;obtain⟨t,rfl⟩:=uA (pX q (by simp)) (m ▸ k);cases c with
 |ty o=>cases o<;>(grind[K.k,aO])
 |nd b g e f=>exact⟨t,b,g,e,f,rfl,by have:b=y:=p;rw[this];exact l.1⟩
theorem lF{k}{n}{f}(e:Gd (.nd 16 k n f)){d}{b}:bB false d b f=.ok d []:=by
 rw[Gd]at e;obtain⟨c,j⟩:=e;simp only[bJ]at c;rw[zY (by decide),zY (by decide),zY (by decide),zY (by decide),zY (by decide),zY (by decide),zY (by decide),zY (by decide),wY (by decide)]at c;obtain⟨x,g,h⟩:=c;obtain⟨a,rfl,i⟩:=k1 g;obtain⟨t,rfl⟩:=uA (pX j (by simp)) (i ▸ h);rfl
def iI{b}{n}{a}(c:Gd (.nd 5 b n a)):a=[]:=by
 simp_all[Gd,bJ,wY]
section
variable{c:E}{B a:Nat}{b d:Value}{N:List C}
def KI(c:E)(B a:Nat)(b d:Value)(N:List C):Prop:=∀(i) (q) (w) (m) (e) (k),cM c w B a b d m e k->e≠[]->∀(l o) (g n),uJ N l o g N[i] n->(∀p∈g,1<=p.k->X7 c B a b d N p)->∀h,m+2*aA g<=h->h<=100000->e.length+aA g<=100000->k.length=N.length->(N[i]).M.length<=100000->(N[i]).text.length<=1000000->((N[i]).x=5\/(N[i]).x=18)->∀R,(bG (N[i]).text e=none->R=.bad 5 i)->(∀j,bG (N[i]).text e=some j->R=(Br.ok e [(i,j)]).and λf=>bB false f l g)->
 Calls prog 100 #[pV a,U i] w (aG c w B a b d N h k R)
def Fm(hV:KI c B a b d N)(P:cV c b N)(ay:N.length<=10000)(al:∀nd∈N,nd.M.length<=100000/\nd.text.length<=1000000):∀(a2) (t),pZ t<=a2->Gd t->1<=t.k->X7 c B a b d N t:=by
 intro a2;induction a2 with
 |zero=>grind[Xl]
 |succ a2 ih=>
  intro t hs s ar g y w m r H am h R hm hf M;cases t with
  |ty o=>cases o<;>simp[K.k]at ar
  |nd k tx ag n=>
   obtain⟨T,A,u⟩:=Em.parts am;have ad:oE n:=by rw[Gd]at s;exact s.2
   have L:=λp i h1=>by
    refine ih p ?_ (pX ad i) h1;have:=AN i;grind[pZ]
   rw[Em.ix];have D:nN (.nd k tx ag n)=aA n+1:=by rw[nN]
   rw[D]at hm hf;obtain⟨a5,a8⟩:=al _ (mQ A);have W:(N[g+aA n]).x=k:=(congrArg C.x u).trans (O8 _ _ _ _);have a9:(N[g+aA n]).text=tx:=(congrArg C.text u).trans (xU _ _ _ _).1;by_cases ab:k=17
   .subst ab;obtain⟨o,v,G,F,q,rfl,V⟩:=lG s;have Z:aA [.ty o,.nd v G F q]=nN (.nd v G F q):=by simp[aA,nN]
    obtain⟨-,a4⟩:=cY.head T;rw[nN,Nat.add_zero]at a4;obtain⟨-,ap,av⟩:=Em.parts (cY.head a4).1;have au:=(congrArg C.x av).trans (O8 _ _ _ _);have aa:(N[g+aA [.ty o,.nd v G F q]]).a=((g+aA q:Nat):Int):=by
     have:=congrArg C.a u;refine this.trans ?_;simp only[bP,aZ];rw[zY (by decide),zY (by decide),zY (by decide),zY (by decide),zY (by decide),wY (by decide)];simp;exact Em.ix
    have hE:X7 c B a b d N (.nd v G F q):=L _ (by simp) V;refine(Fx P _ A w m r H h R v (g+aA q) (nN (.nd v G F q)) ap au (by omega) (by omega) a8 (by omega) W aa (λf=>cX f g (.nd v G F q)) (λf f' ax hf e=>UY _ f g hf f' ax e) ?_ _ rfl).mono λe w' i=>?_
    .intro ah m1 f ai ha an b1 az ao b0 ho;have a3:=wO [.nd v G F q] (λp i=>by simp at i;subst i;exact⟨V,hE⟩) g _ ah m1 f H a4 ha (O0 R an) (by grind[aA]) (by grind[aA]) M (some (J ai 0)) 1 [((g+aA q:Nat):Int)] (by rfl) ho (λb3 hq=>.inr (by grind[Value.ownBlock,zQ]));rw[xF _ _ _ _ (by exact V)]at a3;simp only[bB,Br.and_nil,aA,Nat.add_zero]at a3;exact a3
    .rw[sC r g tx ag o _ (by exact V)];rw[a9,Z]at i;rw[D,Z];exact i.more (by omega)
   by_cases h6:k=6
   .subst h6;obtain⟨l,o,z,x,j,rfl,aw,af⟩:=mM s;have ae:∀p∈l,1<=p.k:=λp i=>by grind
    have Z:aA (l++[.ty o,.nd 26 z x j])=aA l+aA j+1:=by rw[uO];simp[aA,nN];omega
    have aq:aZ g y (l++[.ty o,.nd 26 z x j])=px g l++[cR (g+aA l) (y+bV l) (.ty o),((g+aA l+aA j:Nat):Int)]:=by
     rw[rL,U2 g y l ae];simp only[aZ,Em.ix,nN,Nat.add_zero]
    rw[aq]at u;have aa:(N[g+aA (l++[.ty o,.nd 26 z x j])]).a=((g+aA l+aA j:Nat):Int):=by
     refine(congrArg C.a u).trans ?_;simp[bP]
    have a6:(N[g+aA (l++[.ty o,.nd 26 z x j])]).M=px g l:=by
     refine(congrArg C.M u).trans ?_;simp[bP]
    have ao:Gd (.nd 26 z x j):=pX ad (by simp);have ak:∀p∈j,1<=p.k/\X7 c B a b d N p:=λp i=>by
     refine⟨af p i,ih p ?_ (pX (by grind[Gd]) i) (af p i)⟩;have h1:=AN i;have h2:pZ (.nd 26 z x j)<=wG (l++[.ty o,.nd 26 z x j]):=AN (by simp);grind[pZ]
    refine(Tu P _ A w m r H h l o z x j (λp i=>⟨aw p i,L p (by grind) (ae p i)⟩) ak g y T (by omega) (by omega) M (by omega) W aa a6 _ rfl).mono λe w' i=>?_;rw[cX,zY (by decide),zY (by decide),zY (by decide),zY (by decide),wY rfl];rw[D,Z];exact i.more (by omega)
   by_cases ac:k=26
   .subst ac;have hk:=iO s;have a6:(N[g+aA n]).M=px g n:=by
     have:=congrArg C.M u;rw[U2 _ _ n hk]at this;exact this
    rw[D];refine(SC P _ A w m r H h n (λp i=>⟨hk p i,L p i (hk p i)⟩) g y T (by omega) (by omega) M W a6 _ rfl).mono λe w' i=>?_;rw[cX,zY (by decide),zY (by decide),zY (by decide),zY (by decide),zY (by decide),wY rfl];exact i.more (by omega)
   obtain⟨j,a7⟩:=Hw s ⟨h6,ab,ac⟩ T _ u;by_cases aj:k=16
   .subst aj;rw[D];refine(Df P _ A w m r H h R g y n j a7 L (m+2*(aA n+1)) (by omega) (by omega) (by omega) M a5 a8 (by omega) W _ rfl).mono λe w' i=>?_;rw[cX,zY (by decide),zY (by decide),zY (by decide),wY rfl];grind[lF]
   by_cases h5:k=5\/k=18
   .rw[D];refine hV _ A w m r H h R g y n j a7 L (m+2*(aA n+1)) (by omega) (by omega) (by omega) M a5 a8 (by omega) _ (λS=>?_) (λb2 S=>?_)
    .rw[a9]at S;obtain rfl|rfl:=h5
     .obtain rfl:=iI s;rw[cX,wY rfl,S];rfl
     grind[cX]
    .rw[a9]at S;obtain rfl|rfl:=h5
     .obtain rfl:=iI s;rw[cX,wY rfl,S,Br.gp,bB];rfl
     grind[cX]
   rw[D,oT r g (by omega)];exact Fs P _ A w m r H h R g y n j a7 L (m+2*(aA n+1)) (by omega) (by omega) (by omega) M a5 (by omega)
end
section
variable{d:E}{B b:Nat}{c e:Value}{N:List C}{T:List Ty}{a:List K}
def bH.em(h:bH N T a):Em N 0 0 (.nd 26 [] 0 a):=⟨[],[],by simp[h.fe],rfl⟩
def bH.j3(h:bH N T a):N.length=aA a+1:=by
 have:=congrArg List.length h.fe;grind[uZ,P8,nN]
def jI(a:List K):Br:=cX [] 0 (.nd 26 [] 0 a)
def Ir(u:KI d B b c e N)(o:cV d c N)(g:bH N T a)(F:∀f∈N,f.text.length<=1000000)(w)(l)(h:cM d w B b c e 0 [] l)(D:l.length=N.length):
 Calls prog 100 #[pV b,U ((N.length-1:Nat))] w (aG d w B b c e N 2400 l (jI a)):=by
 obtain⟨v,m,r⟩:=Em.parts g.em;have M:=g.j3;have P:=g.fh;have k:=U7 _ (lT g.wn);have x:oE a:=by rw[Gd]at k;exact k.2
 have n:=iO k;have s:N.length-1=0+aA a:=by omega
 have z:(N[0+aA a]).M=px 0 a:=by
  have:=congrArg C.M r;rw[U2 _ _ a n]at this;exact this
 have y:=(congrArg C.x r).trans (O8 _ _ _ _);have t:∀f∈N,f.M.length<=100000/\f.text.length<=1000000:=λf q=>by
  refine⟨?_,F f q⟩;obtain⟨i,m,rfl⟩:=List.getElem_of_mem q;have A:N[i].fl∈gU 0 0 (.nd 26 [] 0 a):=by
   rw[<-g.fe];exact List.mem_map_of_mem (mQ m)
  have H:=IW (.nd 26 [] 0 a) k 0 0 _ A;have L:N[i].fl.M=N[i].M:=rfl;grind[nN]
 rw[s];refine(SC o _ m w 0 [] l h a (λp j=>⟨n p j,Fm u o (by omega) t _ p (vQ _) (pX x j) (n p j)⟩) 0 0 v (by omega) (by grind) D y z _ rfl).mono λG R j=>?_;rw[jI,cX,zY (by decide),zY (by decide),zY (by decide),zY (by decide),zY (by decide),wY rfl];exact j.more (by omega)
end
def Kq{c}{B d}{a F}{N}(k:cV c a N):KI c B d a F N:=by
 intro i o w m e D h n b A y z t j x s r l v q u p R f g;exact Ga k i o w m e D h n b A y z t j x s r l v q u p R f g
section
variable{b e:E}{B a:Nat}{d c:Value}{N:List C}
def Zk(i:Nat)(w)(m)(h)(R)(p:∀k,I No w k->Calls prog 100 #[pV a,U i] k (aG b e B a d c N m h R))
 (g) (u:g<w.heap.size) (t:w.cell? (J g 0)=some (U i)):
 Calls prog 62 #[pV a,.slice (some (J g 0)) 1 1] w (aG b e B a d c N m h R):=by
 have q:=O p;go_in;go_wp2;go_loopw [8] (λv wr=>(v=U 0/\wr=w)\/(v=U 1/\Hid (aG b e B a d c N m h R (rT) wr))) (λv _=>1-(intOf v).toNat);case atStart=>simp
 case round=>
  obtain⟨rfl,rfl⟩|⟨rfl,H⟩:=hrel
  .go_wp2_with fail;refine(q.u _ (I.refl _ _)).mono ?_;rintro r x n;have o:=n.2;cases R with
   |bad s j=>
    obtain rfl:r=gu s (cI N j):=o;exact⟨rfl,n⟩
   |ok f l=>
    obtain⟨rfl,-⟩:=o;go_wp2;simp_all[measure,intOf]
  .go_wp2;go_end0;exact H.u
def Ur(i:Nat)(w)(m)(k)(R)(r:∀g,I No w g->Calls prog 100 #[pV a,U i] g (aG b e B a d c N m k R))
 (o p) (x:w.cell? (J o 0)=some (pV a)) (y:w.cell? (J p 2)=some (U i)):
 Calls prog 61 #[pV o,pV p] w (aG b e B a d c N m k R):=by
 have z:=yY w (.cells #[U i] 3);have q:=O (Zk i (w.alloc (.cells #[U i] 3)) m k R (λg v=>r g (B6 (I.alloc No _ _) v)) w.heap.size (by simp) (by simp));go_in;go_wp2_with fail;refine q.u.mono ?_;rintro t A h;have n:=h.2;cases R with
 |bad u j=>
  obtain rfl:t=gu u (cI N j):=n;exact⟨rfl,h⟩
 |ok f l=>
  obtain⟨rfl,-⟩:=n;have s:=O h;go_wp2;go_end0;exact s.u
def cM.nz{w s}{m}{p}{r}(h:cM b w B a d c m p r){q}{u}{f}{v}(l:I (λk=>k=q) w s)(o:w.heap[q]?=some (.cells u f v))(y:f≠3/\f≠97)(z:f≠182)(L:b.heap.size<=q):cM b s B a d c m p r:=by
 obtain⟨G,H⟩:=h.tv o y;obtain⟨t,F,j⟩:=h.st;refine⟨h.hz,kQ h.le l.size,h.jg.trans (I.ek l (λk _ f=>by omega) h.jg.size),t,F,j.P l (Ne.symm G) (λg n f=>M4 j.ar o (Ne.symm z) (f ▸ n)) (λg n f=>H (f ▸ n)) (λx D f=>?_)⟩;obtain⟨i,A,rfl⟩:=List.getElem_of_mem D;have:=j.len;exact(j.fr i A (by omega)).eu (f ▸ o)
def yD(b w:E)(B a:Nat)(d c:Value)(N:List C)(m:Nat)(n:bZ)(R:Br)(j:Ending)(g:E):Prop:=(Below b.heap.size b g/\∀(q:Nat) (h:Array Value) (t),w.heap[q]?=some (.cells h t (0,0))->(t≠3/\t≠97)->t≠182->g.heap[q]?=some (.cells h t (0,0)))/\match R with
 |.bad k i=>j=.returned (.agg #[U k,U (cI N i)])
 |.ok f l=>j=.returned (.agg #[U 0,U 0])/\cM b g B a d c m f (cQ n l)
def zo(i:Nat)(w)(m m0)(fs)(p)(R)(h:cM b w B a d c m0 fs p)(HN:∀f,I No w f->Calls prog 100 #[pV a,U i] f (aG b f B a d c N m p R))
 (G H) (a6:w.cell? (J G 0)=some (pV a)) (a7:w.cell? (J H 2)=some (U i)):
 Calls prog 26 #[.func (.func 61) #[] #[pV G,pV H]] w (yD b w B a d c N m p R):=by
 have z:=I.alloc No w (.cells #[U 0,U 0] 26);have A:=h.kept z;have HM:=Ur i (w.alloc (.cells #[U 0,U 0] 26)) m p R (λf n=>(HN f (B6 z n)).mono λv w' hp=>aG.after (cH.y n) hp) G H (A4 z a6) (A4 z a7);obtain⟨ai,a9,aa⟩:=h.fresh (vQ _);have ac:=yY w (.cells #[U 0,U 0] 26);have a4:Hid (∀f,cH B a c (w.alloc (.cells #[U 0,U 0] 26)) f->f.heap[w.heap.size]?=some (.cells #[U 0,U 0] 26 (0,0))/\Below b.heap.size b f):=λf n=>⟨n.other ac (by decide) a9 aa,A.jg.trans ((n.below A.le).mono A.hz)⟩;have ad:=h.jg.size;have a5:Hid (∀f,cH B a c (w.alloc (.cells #[U 0,U 0] 26)) f->∀q (k:Array Value) (t:TypeId),w.heap[q]?=some (.cells k t (0,0))->(t≠3/\t≠97)->t≠182->q<w.heap.size/\f.heap[q]?=some (.cells k t (0,0))):=λf n q k t o s u=>by
  obtain⟨y1,y2⟩:=h.tv o s;have F:=(aI o);exact⟨F,n.other (by grind[Below.heap_alloc]) u y1 y2⟩
 go_enter_defers func26,ntmps26;go_wp2_with fail;refine HM.mono ?_;rintro v g ⟨Z,hr⟩;obtain⟨r,ab⟩:=a4.u g Z;have T:=O (a5.u g Z);have q0:g.cell? (J w.heap.size 0)=some (U 0):=cr r rfl;have q1:g.cell? (J w.heap.size 1)=some (U 0):=cr r rfl;have hz:=(aI r);have af:=λae=>frozen_of_row g _ ae _ _ r;have S:=O ab;have P:=O r;cases R with
 |bad x j=>
  obtain rfl:v=gu x (cI N j):=hr;unfold gu;refine leaves_cons (f:=42) (args:=#[pV w.heap.size]) (by simp) (by simp[go_sem]) ?_;refine(AF w.heap.size x (cI N j) 0 0 [] _ q0 q1 af).mono ?_;rintro v u' ag ⟨rfl,rfl,W,L,M⟩;have KX:yD b w B a d c N m p (.bad x j) (.returned (.agg #[U x,U (cI N j)])) ag:=⟨⟨S.u.trans (I.ek W (λa2 _ a3=>by omega) S.u.size),λq k t o s u=>by
   obtain⟨F,h4⟩:=T.u q k t o s u;rw[W.block q (by omega) (by omega)];omega⟩,rfl⟩;generalize cI N j=pa at*;simp[Leaves,settle,results,results26,go_sem,L,M];omega
 |ok a8 l=>
  obtain⟨rfl,hb⟩:=hr;have HB:=O hb;go_wp2;refine leaves_cons (f:=42) (args:=#[pV w.heap.size]) (by simp) (by simp[go_sem]) ?_;refine(GS w.heap.size _).mono ?_;rintro v u' ah ⟨rfl,rfl,y⟩;have s1:=heap_setCell_same g w.heap.size 0 _ _ (U 0) P.u;have s2:=heap_setCell_same _ w.heap.size 1 _ _ (U 0) s1;have L:=A4 y (show World.cell? _ (J w.heap.size 0)=some (U 0) from cr s2 rfl);have M:=A4 y (show World.cell? _ (J w.heap.size 1)=some (U 0) from cr s2 rfl);have D:I (λa2=>a2=w.heap.size) g ((g.setCell (J w.heap.size 0) (U 0)).setCell (J w.heap.size 1) (U 0)):=I.trans (I.set g (J w.heap.size 0) _) (I.set _ (J w.heap.size 1) _) (λ_ _ a3=>a3);have V:=(HB.u.nz D P.u (by decide) (by decide) ad).kept y;have KX:yD b w B a d c N m p (.ok a8 l) (.returned (.agg #[U 0,U 0])) ah:=⟨⟨V.jg,λq k t o s u=>by
   obtain⟨F,h4⟩:=T.u q k t o s u;rw[y.block q (yQ (by omega) D.size) id,D.block q (by omega) (by omega)];omega⟩,rfl,V⟩;simp[Leaves,settle,results,results26,go_sem,L,M];omega
end
def cV.et{S}{w d}{c}{N}(h:cV w c N)(b:I S w d)(p:∀k f e i,w.heap[k]?=some (.cells f e i)->(e=85\/e=137\/e=3)->¬S k):cV d c N:=by
 obtain⟨n,a,j⟩:=h;refine⟨n,A3 a b λg l x=>?_,j.imp (fH.P b (λg _ _ q m=>?_) (λ_ _ _=>trivial))⟩
 .obtain⟨_,o,m⟩:=A9 a g l;grind
 grind
def FY(l:Y)(w:E)(e:Ending)(c:E):Prop:=Below w.heap.size w c/\
 ((∃a p,dI l (.inl (a,p))/\e=.returned (.tuple #[.pointer none,.agg #[U a,U p]]))\/
  ∃N T f B b d k,dI l (.inr (N,T))/\bH N T f/\w.heap.size<=B/\match jI f with
   |.bad a i=>e=.returned (.tuple #[pV b,.agg #[U a,U (cI N i)]])
   |.ok h l=>e=.returned (.tuple #[pV b,.agg #[U 0,U 0]])/\∃g j,gG c B b d g k j 2400 h (cQ (List.replicate N.length (-1)) l)/\cV c d N)
def Dx{l}{w a b F:E}{N}{T}{j}{o s}{x y}{m}(z:Below w.heap.size w a)(V:w.heap.size<a.heap.size)(B:dI l (.inr (N,T)))(v:bH N T j)(u:cV a o N)(P:b.heap[w.heap.size]?=some (.cells #[U 0,U 0] 26 (0,0)))(q:yD a F a.heap.size m o s N 2400 (List.replicate N.length (-1)) (jI j) (.returned (.agg #[U x,U y])) b):
 FY l w (.returned (.tuple #[pV m,.agg #[U x,U y]])) ((b.setCell (J w.heap.size 0) (U x)).setCell (J w.heap.size 1) (U y)):=by
 have n:I (λk=>k=w.heap.size) b ((b.setCell (J w.heap.size 0) (U x)).setCell (J w.heap.size 1) (U y)):=I.trans (I.set b (J w.heap.size 0) _) (I.set _ (J w.heap.size 1) _) (λ_ _ x=>x);have p:=z.trans (q.1.1.mono (by omega));refine⟨p.trans (I.ek n (λk _ e=>by omega) p.size),.inr ⟨N,T,j,a.heap.size,m,o,s,B,v,by omega,?_⟩⟩;have h:=q.2;cases A:jI j with
 |bad H i=>
  grind
 |ok f W=>
  rw[A]at h;obtain⟨h,r⟩:=h;simp at h;obtain⟨t,D,d⟩:=r.st;refine⟨by grind,t,D,d.P n (λe=>?_) (λg c e=>?_) (λg c e=>?_) (λg c e=>?_),(u.et ((I.below r.jg).mono λ_ R x=>by omega) (λ_ _ _ _ _ _ x=>x)).et n (λk G e L S M x=>?_)⟩
  .have:=d.low;omega
  .have:=(d.ar.lt g c).1;omega
  .have:=(d.jh.lt g c).1;omega
  .have:=d.ge g c;omega
  grind
section
def Ef(s)(w:E)(hs:s.size<=maxLen):Calls prog 35 #[.string s] w (FY s.data.toList w):=by
 have HP:=O (λb=>XU s b hs);have L:=yY w (.cells #[U 0,U 0] 26);obtain⟨i0,hi,ao,ap,aq⟩:=info_parts Tryz.fm;clear hs;go_in;go_wp2_with fail;refine(HP.u _).mono ?_;clear HP;rintro e b ⟨r,⟨q,p,t,rfl⟩|⟨N,T,c,d,i,k,t,rfl,hN,hT⟩⟩
 .have m:b.heap[w.heap.size]?=some (.cells #[U 0,U 0] 26 (0,0)):=by
   rw[r.block _ (by simp)];exact L
  have g0:b.cell? (J w.heap.size 0)=some (U 0):=cr m rfl;have g1:b.cell? (J w.heap.size 1)=some (U 0):=cr m rfl;have gz:=λo=>frozen_of_row b _ o _ _ m;have gl:=(aI m);have b1:(q !=0)=true:=by simp[t.1]
  have D:Hid (Below w.heap.size w b):=(I.ek (I.alloc No w _) (λ_ _ x=>x.elim) (vQ _)).trans (r.mono (by simp));have W:=O t;clear t r L m;go_wp2_with fail;go_region;all_goals go_wp2_with fail
  all_goals
   have ak:I (λac=>ac=w.heap.size) b ((b.setCell (J w.heap.size 0) (U q)).setCell (J w.heap.size 1) (U p)):=I.trans (I.set b (J w.heap.size 0) _) (I.set _ (J w.heap.size 1) _) (λ_ _ x=>x);have hR:FY s.data.toList w (.returned (.tuple #[.pointer none,.agg #[U q,U p]])) _:=⟨D.u.trans (I.ek (I.trans ak (B6 (B6 (I.alloc No _ (.cells #[sN,sN,U 0] 52)) (I.alloc No _ (.cells #[U q,U p] 26))) (I.drewN No _ 1)) (λ_ _ x=>x.elim)) (λac _ e=>by omega) D.u.size),.inl ⟨q,p,W.u,rfl⟩⟩;exact bodyPost_ret (v:=.tuple #[.pointer none,.agg #[U q,U p]]) (by simp[results,results35,go_sem,g0,g1,gl]) rfl hR
 .obtain⟨ps,H⟩:=Dz t;have ax:=H.fh;have W2:Hid (∃z,z=(((b.alloc (.cells #[.slice c N.length d,.slice i T.length k,U ((N.length:Int)-1)] 52)).alloc (.cells #[U 0,U 0] 26)).alloc (.cells #[.slice c N.length d,sN,sN] 97)).alloc (.cells #[pV (b.heap.size+1+1)] 92)):=⟨_,rfl⟩;have V:=O H;have ah:=O hN;have av:=O r;have D:Hid (Below w.heap.size w b):=(I.ek (I.alloc No w _) (λ_ _ x=>x.elim) (vQ _)).trans (r.mono (by simp));have W:=O t;have m:b.heap[w.heap.size]?=some (.cells #[U 0,U 0] 26 (0,0)):=by
   rw[r.block _ (by simp)];exact L
  have F0:=O m;have ab:=(aI m);have b0:1<=N.length:=by have:=H.j3;omega
  clear hT hN r t H L m;go_wp2_with fail;have BZ:Hid (pO ((((b.alloc (.cells #[.slice c N.length d,.slice i T.length k,U ((N.length:Int)-1)] 52)).alloc (.cells #[U 0,U 0] 26)).alloc (.cells #[.slice c N.length d,sN,sN] 97)).alloc (.cells #[pV (b.heap.size+1+1)] 92)) ((((b.alloc (.cells #[.slice c N.length d,.slice i T.length k,U ((N.length:Int)-1)] 52)).alloc (.cells #[U 0,U 0] 26)).alloc (.cells #[.slice c N.length d,sN,sN] 97)).alloc (.cells #[pV (b.heap.size+1+1)] 92)) b.heap.size (b.heap.size+1+1) (.slice c N.length d) (sN) 0):=by
   refine⟨by omega,?_,kW _ _ _ _,I.refl _ _⟩;rw[Below.heap_alloc _ _ _ (by simp)];have:=yY ((b.alloc (.cells #[.slice c N.length d,.slice i T.length k,U ((N.length:Int)-1)] 52)).alloc (.cells #[U 0,U 0] 26)) (.cells #[.slice c N.length d,sN,sN] 97);simpa using this
  have M:((((b.alloc (.cells #[.slice c N.length d,.slice i T.length k,U ((N.length:Int)-1)] 52)).alloc (.cells #[U 0,U 0] 26)).alloc (.cells #[.slice c N.length d,sN,sN] 97)).alloc (.cells #[pV (b.heap.size+1+1)] 92)).heap[b.heap.size+1+1+1]?=some (.cells #[pV (b.heap.size+1+1)] 92 (0,0)):=by
   have:=yY (((b.alloc (.cells #[.slice c N.length d,.slice i T.length k,U ((N.length:Int)-1)] 52)).alloc (.cells #[U 0,U 0] 26)).alloc (.cells #[.slice c N.length d,sN,sN] 97)) (.cells #[pV (b.heap.size+1+1)] 92);simpa using this
  have ag:Hid (Below b.heap.size b ((((b.alloc (.cells #[.slice c N.length d,.slice i T.length k,U ((N.length:Int)-1)] 52)).alloc (.cells #[U 0,U 0] 26)).alloc (.cells #[.slice c N.length d,sN,sN] 97)).alloc (.cells #[pV (b.heap.size+1+1)] 92))):=I.ek (B6 (B6 (I.alloc No _ _) (I.alloc No _ _)) (B6 (I.alloc No _ _) (I.alloc No _ _))) (λ_ _ x=>x.elim) (vQ _);have a4:((((b.alloc (.cells #[.slice c N.length d,.slice i T.length k,U ((N.length:Int)-1)] 52)).alloc (.cells #[U 0,U 0] 26)).alloc (.cells #[.slice c N.length d,sN,sN] 97)).alloc (.cells #[pV (b.heap.size+1+1)] 92)).heap[b.heap.size]?=some (.cells #[.slice c N.length d,.slice i T.length k,U ((N.length:Int)-1)] 52 (0,0)):=by
   rw[Below.heap_alloc _ _ _ (by simp;omega),Below.heap_alloc _ _ _ (by simp;omega),Below.heap_alloc _ _ _ (by simp)];exact yY b _
  clear W2;generalize ((((b.alloc (.cells #[.slice c N.length d,.slice i T.length k,U ((N.length:Int)-1)] 52)).alloc (.cells #[U 0,U 0] 26)).alloc (.cells #[.slice c N.length d,sN,sN] 97)).alloc (.cells #[pV (b.heap.size+1+1)] 92))=z at*;have au:=(aI M);have QB:Hid (∀a u j,pO z a b.heap.size (b.heap.size+1+1) (.slice c N.length d) u j->a.cell? (J (b.heap.size+1+1+1) 0)=some (pV (b.heap.size+1+1))/\a.cell? (J (b.heap.size+1+1) 2)=some u/\(∀o,a.frozen? (J (b.heap.size+1+1) o)=false)/\b.heap.size+1+1<a.heap.size/\b.heap.size+1+1+1<a.heap.size):=λa u j h=>by
   have n:=h.P.block _ (aI M) (by omega);rw[M]at n;exact⟨cr n rfl,cr h.eo rfl,λo=>frozen_of_row a _ o _ _ h.eo,(aI h.eo),(aI n)⟩
  go_loopw [23] (λa5 wr=>∃(j:Nat) (u:Value),j<=N.length/\a5=U (j:Int)/\Hid (pO z wr b.heap.size (b.heap.size+1+1) (.slice c N.length d) u j)) (λa5 _=>N.length-(intOf a5).toNat);case atStart=>grind
  case round=>
   obtain⟨j,u,hj,rfl,g⟩:=hrel;obtain⟨qa,qc,qz,ql,b7⟩:=QB.u _ _ _ g.u;by_cases b2:j<N.length
   .obtain⟨Z,a3,rfl⟩:=B8 g.u.jh;have HY:=O (A3 g.u.jh (B6 (I.drewN No wr 1) (I.alloc No _ (.cells #[U (-1)] 3))) (λ_ _ x=>x));have a7:I No wr (wr.drew.alloc (.cells #[U (-1)] 3)):=B6 (I.drewN No wr 1) (I.alloc No _ (.cells #[U (-1)] 3));have S:=O a7;have a9:=M4 g.u.jh g.u.eo (by decide);have am:(Value.slice Z j a3).ownBlock≠some (b.heap.size+1+1+1):=λe=>by
     have:=(g.u.jh.lt _ e).1;omega
    have az:=g.u.P.size;clear a7;go_wp2_with fail;go_region_law (
     refine step_append_lies _ (by rfl) _ _ _ (by rfl) z.heap.size 3 i0 (U 0) 1 8 underlying54 hi ao ap aq rfl (by omega) (.slice Z j a3) j (C7 (List.replicate j (-1))) (by rfl) HY.u (J wr.heap.size 0) 1 1 [U (-1)] (by rfl) (by rfl) (World.news_of_block (cs:=#[U (-1)]) (t:=3) (fr:=(0,0)) (yY wr.drew _)) (by simp[Value.oneCell']) (by omega) (by simp only[maxLen];omega) (by omega) (by simp;omega) (wr.heap.size+1) (by simp) ?_;intro gg a6 P aa B aj b3;have z4:P.cell? (J (b.heap.size+1+1) 2)=some (.slice Z j a3):=by rw[B.cell_far _ (by simp;omega) (Ne.symm a9)];exact A4 S.u qc
     have z5:P.cell? (J (b.heap.size+1+1+1) 0)=some (pV (b.heap.size+1+1)):=by rw[B.cell_far _ (by simp;omega) (Ne.symm am)];exact A4 S.u qa
     have y4:P.frozen? (J (b.heap.size+1+1) 2)=false:=by rw[B.frozen_far _ (by simp;omega) (Ne.symm a9)];exact S6 (w:=wr.drew) ql (qz 2));all_goals
     have HG:Hid (pO z (P.setCell (J (b.heap.size+1+1) 2) (.slice (some (J gg 0)) (j+1) a6)) b.heap.size (b.heap.size+1+1) (.slice c N.length d) (.slice (some (J gg 0)) (j+1) a6) (j+1)):=g.u.grow S.u (I.grown B) aa;clear aa B aj HY;go_wp2;go_roundw;case rel=>exact⟨j+1,_,by omega,by go_num,HG⟩
     case measure=>simp[intOf];omega
   .have al:j=N.length:=by omega
    subst al;have G:cV b (.slice c N.length d) N:=by
     obtain⟨nx,h1,h2⟩:=ah.u;exact⟨nx,C8 h1 (wQ _),h2.imp (λb6 xs h=>by obtain⟨ar,e,ho,_⟩:=h;exact⟨ar,e,ho,λ_ _=>trivial⟩)⟩
    have ai:=O G;have hB:=g.u.done (w0:=b) (vQ _) (by omega) ag.u;have a8:(N.length:Int)-1=((N.length-1:Nat):Int):=by omega
    have ae:wr.heap[b.heap.size]?=some (.cells #[.slice c N.length d,.slice i T.length k,U ((N.length:Int)-1)] 52 (0,0)):=by
     rw[g.u.P.block _ (aI a4) (by omega)];exact a4
    have af:wr.cell? (J b.heap.size 2)=some (U ((N.length-1:Nat):Int)):=by rw[<-a8,cell_of_row _ _ 2 _ _ _ ae];rfl
    have n:wr.heap[b.heap.size+1+1+1]?=some (.cells #[pV (b.heap.size+1+1)] 92 (0,0)):=by
     rw[g.u.P.block _ au (by omega)];exact M
    have HF:Hid (∀a,I No wr a->Calls prog 26 #[.func (.func 61) #[] #[pV (b.heap.size+1+1+1),pV b.heap.size]] a λe f=>∃x y,e=.returned (.agg #[U x,U y])/\f.cell? (J (b.heap.size+1+1+1) 0)=some (pV (b.heap.size+1+1))/\(f.cell? (J w.heap.size 0)=some (U 0)/\f.cell? (J w.heap.size 1)=some (U 0)/\(∀o,f.frozen? (J w.heap.size o)=false)/\w.heap.size<f.heap.size)/\
     Hid (f.heap[w.heap.size]?=some (.cells #[U 0,U 0] 26 (0,0))/\yD b a b.heap.size (b.heap.size+1+1) (.slice c N.length d) u N 2400 (List.replicate N.length (-1)) (jI ps) (.returned (.agg #[U x,U y])) f)):=by
     intro a A;refine(zo (N.length-1) a 2400 0 [] (List.replicate N.length (-1)) (jI ps) (hB.kept A) (λa2 h2=>Ir (Kq G) G V.u (λnd hm=>kQ (V.u.tx nd hm) (by decide)) a2 _ ((hB.kept A).kept h2) (by simp)) (b.heap.size+1+1+1) b.heap.size (A4 A (by omega)) (A4 A af)).mono ?_;rintro e f F;have v:f.heap[w.heap.size]?=some (.cells #[U 0,U 0] 26 (0,0)):=by rw[F.1.1.block _ ab];exact F0.u
     have q5:=F.1.2 _ _ _ (show a.heap[b.heap.size+1+1+1]?=_ by rw[A.block _ (aI n) id];exact n) (by decide) (by decide);have an:∃x y,e=.returned (.agg #[U x,U y]):=by
      have h6:=F.2;cases ay:jI ps with
      |bad q b5=>grind
      |ok aw l=>grind
     obtain⟨x,y,rfl⟩:=an;exact⟨x,y,rfl,cr q5 rfl,⟨cr v rfl,cr v rfl,λo=>frozen_of_row _ _ o _ _ v,(aI v)⟩,v,F⟩
    have b4:=vM;have qx:wr.cell? (J (b.heap.size+1+1+1) 0)=some (pV (b.heap.size+1+1)):=cr n rfl;clear a4 ae af n hB G a8 qc qz BZ QB g;go_wp2_with fail;go_region_with (go_at_call 26;refine(HF.u _ (I.drewN _ _ 1)).mono ?_;rintro e f ⟨x,y,rfl,cq,⟨v,b8,rz,rl⟩,R⟩);all_goals
     have hR:=O (Dx (D.u) ab W.u V.u ai.u R.u.1 R.u.2);have s1:=heap_setCell_same f w.heap.size 0 _ _ (U x) R.u.1;have s2:=heap_setCell_same _ w.heap.size 1 _ _ (U y) s1;have z0:((f.setCell (J w.heap.size 0) (U x)).setCell (J w.heap.size 1) (U y)).cell? (J w.heap.size 0)=some (U x):=cr s2 rfl;have z1:((f.setCell (J w.heap.size 0) (U x)).setCell (J w.heap.size 1) (U y)).cell? (J w.heap.size 1)=some (U y):=cr s2 rfl;clear s1 s2;go_wp2_with fail;exact bodyPost_ret (v:=.tuple #[pV (b.heap.size+1+1),.agg #[U x,U y]]) (by simp[results,results35,go_sem,z0,z1]) rfl hR.u
end
def S7(a:bZ):Nat->List (Int×Int)
 |0=>[]
 |j+1=>S7 a j++(if a.getD j 0≠-1 then [((j:Int),a.getD j 0)] else [])
def LZ(a):∀j,(S7 a j).length<=j
 |0=>vQ _
 |j+1=>by
  have:=LZ a j;grind[S7,qQ]
def Z4(l:List (Int×Int)):List Value:=l.flatMap λp=>[U p.1,U p.2]
theorem ZI(l)(p):Z4 (l++[p])=Z4 l++[U p.1,U p.2]:=by simp[Z4]
def Br.lx{r:Br}{k}{e}{i}(c:∀e i,r=.bad e i->e=5\/e=6)(d:∀f e i,k f=.bad e i->e=5\/e=6)(h:r.and k=.bad e i):e=5\/e=6:=by
 cases r with
 |bad a g=>grind[Br.and]
 |ok b l=>
  grind[Br.gp]
mutual
theorem kS:∀(t:K) (a:List Fr) (b:Nat) (e:Int) (i:Nat),cX a b t=.bad e i->e=5\/e=6
 |.ty _,a,b,e,i,h=>by grind[cX]
 |.nd k p n c,a,b,e,i,h=>by
  rw[cX]at h;split at h
  .grind
  split at h
  .split at h
   .grind
   .exact Br.lx (λ_ _ h=>by grind) (λf e i h=>dG c false f b e i h) h
  split at h
  .split at h
   .grind
   .revert h;cases j:bB false (if qK c=true then G8 a p ((b+aA c:Nat):Int) else a) b c with
    |bad g m=>
     intro h;simp[Br.jb]at h;exact h.1 ▸ dG c false _ b g m j
    |ok f l=>intro h;simp[Br.jb]at h
  split at h
  .grind
  split at h
  .revert h;cases j:bB true (a++[Fr.no]) b c with
   |bad g m=>
    intro h;simp[Br.pop]at h;exact h.1 ▸ dG c true _ b g m j
   |ok f l=>intro h;simp[Br.pop]at h
  split at h
  .revert h;cases j:bB false (a++[Fr.no]) b c with
   |bad g m=>
    intro h;simp[Br.pop]at h;exact h.1 ▸ dG c false _ b g m j
   |ok f l=>intro h;simp[Br.pop]at h
  .exact dG c false a b e i h
theorem dG:∀(c:List K) (d:Bool) (a:List Fr) (b:Nat) (e:Int) (i:Nat),bB d a b c=.bad e i->e=5\/e=6
 |[],d,a,b,e,i,h=>by grind[bB]
 |.ty o::r,d,a,b,e,i,h=>by
  rw[bB]at h;exact dG r d a b e i h
 |.nd k p n q::r,d,a,b,e,i,h=>by
  rw[bB]at h;refine Br.lx (λe i h=>?_) (λf e i h=>dG r d f _ e i h) h;split at h
  .exact dG q false a b e i h
  .exact kS (.nd k p n q) a b e i h
end
def AL(l:Y)(w:E)(e:Ending)(g:E):Prop:=Below w.heap.size w g/\
 ((∃a p,a≠0/\dI l (.inl (a,p))/\e=.returned (.tuple #[sN,.agg #[U a,U p]]))\/
  ∃N T f,dI l (.inr (N,T))/\bH N T f/\match jI f with
   |.bad a i=>a≠0/\e=.returned (.tuple #[sN,.agg #[U a,U (cI N i)]])
   |.ok _ b=>∃d c,e=.returned (.tuple #[.slice d (S7 (cQ (List.replicate N.length (-1)) b) N.length).length c,.agg #[U 0,U 0]])/\g.ownsRow w.heap.size 75 2 (.slice d (S7 (cQ (List.replicate N.length (-1)) b) N.length).length c) (S7 (cQ (List.replicate N.length (-1)) b) N.length).length (Z4 (S7 (cQ (List.replicate N.length (-1)) b) N.length)))
def Tryz.oo:(prog.info? 75).map (λi=>(i.zero,i.size,i.bytes))=some (some (.agg #[U 0,U 0]),2,16):=by kernel_rfl
def Sw(s)(w:E)(q:s.size<=maxLen):Calls prog 20 #[.string s] w (AL s.data.toList w):=by
 have S:=O (λb=>Ef s b q);have L:=yY w (.cells #[U 0,U 0] 26);obtain⟨i0,hi,ay,az,b0⟩:=info_parts Tryz.oo;go_in;go_wp2_with fail;refine(S.u _).mono ?_;rintro a8 b ⟨i,⟨d,p,n,rfl⟩|⟨N,a7,R,b3,bb,nv,tv,n,H,hB,M⟩⟩
 .have e:b.heap[w.heap.size]?=some (.cells #[U 0,U 0] 26 (0,0)):=by
   rw[i.block _ (by simp)];exact L
  have y:b.cell? (J w.heap.size 0)=some (U 0):=cr e rfl;have z:b.cell? (J w.heap.size 1)=some (U 0):=cr e rfl;have gz:=λo=>frozen_of_row b _ o _ _ e;have A:=(aI e);have ap:(d !=0)=true:=by simp[n.1]
  have g:Hid (Below w.heap.size w b):=(I.ek (I.alloc No w _) (λ_ _ x=>x.elim) (vQ _)).trans (i.mono (by simp));have a6:=O n;go_wp2;go_region;all_goals go_wp2
  all_goals
   have l:I (λk=>k=w.heap.size) b ((b.setCell (J w.heap.size 0) (U d)).setCell (J w.heap.size 1) (U p)):=I.trans (I.set b (J w.heap.size 0) _) (I.set _ (J w.heap.size 1) _) (λ_ _ x=>x);have V:AL s.data.toList w (.returned (.tuple #[sN,.agg #[U d,U p]])) _:=⟨g.u.trans (I.ek (I.trans l (B6 (I.alloc No _ (.cells #[U d,U p] 26)) (I.drewN No _ 1)) (λ_ _ x=>x.elim)) (λk _ a8=>by omega) g.u.size),.inl ⟨d,p,a6.u.1,a6.u,rfl⟩⟩;exact bodyPost_ret (by simp[results,results20,go_sem,y,z,A]) rfl V
 .cases B:jI R with
  |bad d ix=>
   rw[B]at M;have T:=M;subst T;have a3:Hid (d≠0):=by
    show d≠0;have:=kS (.nd 26 [] 0 R) [] 0 d ix B;omega
   have D:Hid (∀h,Below w.heap.size w h->AL s.data.toList w (.returned (.tuple #[sN,.agg #[U d,U (cI N ix)]])) h):=λh Z=>⟨Z,.inr ⟨N,a7,R,n,H,by rw[B];exact⟨a3.u,rfl⟩⟩⟩;generalize cI N ix=p at*;have e:b.heap[w.heap.size]?=some (.cells #[U 0,U 0] 26 (0,0)):=by
    rw[i.block _ (by simp)];exact L
   have y:b.cell? (J w.heap.size 0)=some (U 0):=cr e rfl;have z:b.cell? (J w.heap.size 1)=some (U 0):=cr e rfl;have gz:=λo=>frozen_of_row b _ o _ _ e;have A:=(aI e);have ap:(d !=0)=true:=by simp[a3.u]
   have g:Hid (Below w.heap.size w b):=(I.ek (I.alloc No w _) (λ_ _ x=>x.elim) (vQ _)).trans (i.mono (by simp));go_wp2;go_region;all_goals go_wp2
   all_goals
    have l:I (λk=>k=w.heap.size) b ((b.setCell (J w.heap.size 0) (U d)).setCell (J w.heap.size 1) (U p)):=I.trans (I.set b (J w.heap.size 0) _) (I.set _ (J w.heap.size 1) _) (λ_ _ x=>x);have V:=D.u _ (g.u.trans (I.ek (I.trans l (B6 (I.alloc No _ (.cells #[U d,U p] 26)) (I.drewN No _ 1)) (λ_ _ x=>x.elim)) (λk _ a8=>by omega) g.u.size));exact bodyPost_ret (v:=.tuple #[sN,.agg #[U d,U p]]) (by simp[results,results20,go_sem,y,z,A]) rfl V
  |ok fs l2=>
   rw[B]at M;obtain⟨T,av,ms,q,-⟩:=M;subst T;have e:b.heap[w.heap.size]?=some (.cells #[U 0,U 0] 26 (0,0)):=by
    rw[i.block _ (by simp)];exact L
   have A:=(aI e);have g:Hid (Below w.heap.size w b):=(I.ek (I.alloc No w _) (λ_ _ x=>x.elim) (vQ _)).trans (i.mono (by simp));generalize ag:cQ (List.replicate N.length (-1)) l2=a at*;have aw:a.length=N.length:=by rw[<-ag];simp[uS]
   have a4:Hid (a.length<=100000):=by
    show a.length<=100000;have:=H.fh;omega
   have D:Hid (∀h f c,Below w.heap.size w h->h.ownsRow w.heap.size 75 2 (.slice f (S7 a a.length).length c) (S7 a a.length).length (Z4 (S7 a a.length))->AL s.data.toList w (.returned (.tuple #[.slice f (S7 a a.length).length c,.agg #[U 0,U 0]])) h):=λh f c Z ho=>⟨Z,.inr ⟨N,a7,R,n,H,by
    grind⟩⟩;obtain⟨ta,tc,ax⟩:=B8 q.jh;subst ax;have c2:b.cell? (J bb 2)=some (.slice ta a.length tc):=cr q.eo rfl;have b1:=blt c2;simp only at b1;have al:=O (C8 q.jh (wQ _));have aj:=O e;clear q i L e B ag H n;have C1:=O (I.alloc No b (.cells #[U 0,U 0] 26));have b7:=a4.u;clear aw a4 hB;go_wp2_with fail;go_loopw [23,6] (λa2 ah wr=>∃(j:Nat) (f:Option Addr) (m:Nat),j<=a.length/\a2=U (j:Int)/\ah=.slice f (S7 a j).length m/\Hid (I No b wr)/\Hid (wr.ownsRow b.heap.size 75 2 (.slice f (S7 a j).length m) (S7 a j).length (Z4 (S7 a j)))) (λa2 _ _=>a.length-(intOf a2).toNat);case atStart=>exact⟨0,none,0,wQ _,rfl,rfl,C1.u,kW _ _ _ _⟩
   case round=>
    obtain⟨j,f,m,hj,rfl,rfl,CR,F⟩:=hrel;have b8:=CR.u.size;by_cases af:j<a.length
    .obtain⟨g2,au,b5,b6,ar,v0⟩:=D6 (A3 al.u CR.u (λ_ _ x=>x)) af;subst au;have ae:a.getD j 0=a[j]:=by rw[lQ,gQ af];rfl
     have ao:=LZ a j;have t:Hid (S7 a (j+1)=S7 a j++if a[j]≠-1 then [((j:Int),a[j])] else []):=by
      show _=_;rw[S7,ae]
     unfold maxLen at ar;clear ae;generalize a[j]=r at*;obtain⟨G,a9⟩:∃G,S7 a j=G:=⟨_,rfl⟩;rw[a9]at F t ao⊢;clear a9;by_cases P:r=-1
     .subst P;have u:Hid (S7 a (j+1)=G):=by
       show _=_;rw[t.u];simp
      clear t;go_wp2_with fail;go_roundw;case rel=>exact⟨j+1,f,m,by omega,by go_num,by rw[u.u],CR,by rw[u.u];omega⟩
      grind[intOf]
     .have u:Hid (S7 a (j+1)=G++[((j:Int),r)]):=by
       show _=_;rw[t.u,wY P]
      have gt:(r !=-1)=true:=by simpa using P
      have a5:=O (F.u.alloc (.cells #[U (j:Int),U r] 75));clear t P;go_wp2_with (at_builtin;refine wpList_append_own _ rfl _ _ 68 rfl b.heap.size 75 i0 (.agg #[U 0,U 0]) 2 16 underlying68 hi ay az b0 rfl (by decide) _ _ _ rfl a5.u (J wr.heap.size 0) 1 1 [U (j:Int),U r] rfl rfl ?c1 ?c2 ?c3 ?c4 ?c5 ?_);case c1=>grind[World.news_of_block,yY]
      case c2=>intro ah hu;simp at hu;obtain rfl|rfl:=hu<;>rfl
      case c3=>grind[maxLen]
      case c4=>omega
      case c5=>simp;omega
      intro v' b2 W ab _;obtain⟨am,c4,rfl⟩:=B8 W;have ak:=O W;have aa:=(I.alloc (λk=>b.heap.size<=k) wr (.cells #[U (j:Int),U r] 75)).trans (I.grown ab) (λk hk x=>(A9 a5.u k x.symm).1);have ai:Hid (I No b b2):=((CR.u.mono (S':=λk=>b.heap.size<=k) (λ_ _ x=>x.elim)).trans aa (λ_ _ x=>x)).mono (λk hk x=>by omega);clear W ab aa;go_wp2_with fail;go_roundw;case rel=>exact⟨j+1,am,c4,by omega,by go_num,by rw[u.u,qQ,List.length_singleton],ai,(show World.ownsRow _ _ _ _ _ _ _ from by rw[u.u,ZI,qQ,List.length_singleton];exact ak.u)⟩
      grind[intOf]
    .have aq:j=a.length:=by omega
     subst aq;have v:wr.heap[w.heap.size]?=some (.cells #[U 0,U 0] 26 (0,0)):=by
      rw[CR.u.block _ A (λx=>x)];exact aj.u
     have y:wr.cell? (J w.heap.size 0)=some (U 0):=cr v rfl;have z:wr.cell? (J w.heap.size 1)=some (U 0):=cr v rfl;have gz:=λo=>frozen_of_row wr _ o _ _ v;have b4:=(aI v);have l:I (λk=>k=w.heap.size) wr ((wr.setCell (J w.heap.size 0) (U 0)).setCell (J w.heap.size 1) (U 0)):=I.trans (I.set wr (J w.heap.size 0) _) (I.set _ (J w.heap.size 1) _) (λ_ _ x=>x);have S:=O (D.u _ f m ((g.u.trans (I.ek CR.u (λ_ _ x=>x.elim) g.u.size)).trans (I.ek l (λk _ x=>by omega) (by omega))) (A3 (C8 F.u (by omega)) l (λan hg x=>by have:=(F.u.lt an hg).1;omega)));clear l v D;generalize (S7 a a.length).length=bl at*;go_wp2_with fail;exact bodyPost_ret (v:=.tuple #[.slice f bl m,.agg #[U 0,U 0]]) (by simp[results,results20,go_sem,y,z]) rfl S.u
def kB(l:List (Int×Int)):Int->Option Int:=l.foldl (λf p=>λx=>if x=p.1 then some p.2 else f x) (λ_=>none)
theorem OQ(l)(p):kB (l++[p])=λx=>if x=p.1 then some p.2 else kB l x:=by
 unfold kB;simp
theorem LW(a):∀j,kB (S7 a j)=λx=>if 0<=x/\x<(j:Int)/\a.getD x.toNat 0≠-1 then some (a.getD x.toNat 0) else none
 |0=>by
  funext x;rw[zY (by omega)];rfl
 |j+1=>by
  funext x;rw[S7];by_cases b:a.getD j 0≠-1
  .rw[wY b,OQ,LW a j];grind
  .rw[zY b,lY,LW a j];grind
def Zn(c):kB (S7 c.ts c.N.length)=mL c:=by
 rw[LW];rfl
def PI(a):∀(n) (p),p∈S7 a n->∃j,j<n/\p=((j:Int),a.getD j 0)/\a.getD j 0≠-1
 |0,p,h=>by grind[S7]
 |n+1,p,h=>by
  rw[S7,qW]at h;obtain h|h:=h
  .obtain⟨j,b,c⟩:=PI a n p h;grind
  grind
theorem EM{N}{T}{b c}(h:bH N T b)(k:bH N T c):b=c:=by
 obtain⟨f,d⟩:=h.main;obtain⟨_,e⟩:=k.main;exact Xi (λp a=>⟨U7 p (h.wn p a).1,(h.wn p a).2⟩) (λp a=>⟨U7 p (k.wn p a).1,(k.wn p a).2⟩) d e
def VE(c):∀(j) {e} {i},T7 c j=.inl (e,i)->e≠0
 |0,e,i,h=>by grind[T7]
 |j+1,e,i,h=>by
  rw[T7]at h;cases a:T7 c j with
  |inl p=>
   obtain⟨b,d⟩:=p;rw[a]at h;simp only[oS,Sum.inl.injEq,Prod.mk.injEq]at h;have:=VE c j a;omega
  |inr f=>
   rw[a]at h;simp only[oS]at h;grind[jB]
def sx{c}{e}{i}(h:kR c=.inl (e,i)):e≠0:=VE c _ h
def jU(l:Y)(a p:Int):Prop:=a≠0/\(dI l (.inl (a,p))\/∃N T b,dI l (.inr (N,T))/\bH N T b/\
 ((∃i,jI b=.bad a i/\p=cI N i)\/∃d c i,jI b=.ok d c/\kR (bM N T c)=.inl (a,i)/\p=cI N i))
def gF(l:Y)(N:List C)(T:List Ty)(a:List (Nat×Int))(d:Of):Prop:=
 ∃b c,dI l (.inr (N,T))/\bH N T b/\jI b=.ok c a/\kR (bM N T a)=.inr d
section
variable{l:Y}{c p f i:Int}{N a:List C}{T b:List Ty}{d g:List (Nat×Int)}{e h:Of}
theorem jU.one(j:jU l c p)(k:jU l f i):c=f/\p=i:=by
 obtain⟨_,j⟩:=j;obtain⟨_,k⟩:=k;obtain j|⟨N,T,ps,h1,h2,h3⟩:=j
 .obtain k|⟨a,b,qs,k1,_⟩:=k
  .have:=j.one k;grind
  .have:=j.one k1;grind
 .obtain k|⟨a,b,qs,k1,k2,k3⟩:=k
  .have:=k.one h1;grind
  .have m:=h1.one k1;grind[EM]
theorem gF.not(m:gF l N T d e):¬jU l c p:=by
 rintro⟨_,k⟩;obtain⟨t,o,j,q,r,s⟩:=m;obtain k|⟨a,b,qs,k1,k2,k3⟩:=k
 .have:=k.one j;grind
 .have n:=j.one k1;grind[EM]
theorem gF.one(j:gF l N T d e)(k:gF l a b g h):N=a/\T=b/\d=g/\e=h:=by
 obtain⟨y,q,m,s,t,u⟩:=j;obtain⟨z,r,n,v,w,x⟩:=k;have o:=m.one n;grind[EM]
end
