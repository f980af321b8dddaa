/-
  A part of the proof.
-/
import Derived.Test.YtneelacbkianjaaGreatDoorBnb
import Derived.Test.YtneelacbkianjaaGreatDoorPrs
import Derived.Test.YtneelacbkianjaaGreatDoorCheckA
set_option maxHeartbeats 16000000
set_option maxRecDepth 100000
namespace Go.Proofs.YtneelacbkianjaaGreatDoor
open Go.Proofs.Tryz
open Go.RowKit Go.Maps
theorem bnT_gen{k:Int}{l:bZ}{n:Int}{c:List Nt}(a:List Fr)(b:Nat)(h:k≠5/\k≠18/\k≠17/\k≠16/\k≠6/\k≠26):bnT a b (.nd k l n c)=bnL false a b c:=by
 obtain⟨d,e,f,g,i,j⟩:=h;rw[bnT,yY d,yY e,yY f,yY g,yY i,yY j]
theorem fn_parts{H:bZ}{n:Int}{b:List Nt}(m:Gd (.nd 6 H n b)):∃s o K E u,b=s++[.ty o,.nd 26 K E u]/\(∀p∈s,p.k=16)/\∀p∈u,1<=p.k:=by
 rw[Gd]at m;obtain⟨i,z⟩:=m;unfold shp at i;rw[yY (by decide),rY rfl]at i;obtain⟨d,r,h,A,C⟩:=i;have B:=congrArg List.length h;simp at B;have g:b=b.take d.length++b.drop d.length:=(List.take_append_drop _ _).symm;have v:(b.take d.length).map Nt.k=d:=by rw[List.map_take,h];simp
 have w:(b.drop d.length).map Nt.k=[r,26]:=by rw[List.map_drop,h];simp
 obtain⟨a,c,e,x,l⟩:=k2 w;have k:∀p∈b,Gd p:=λp f=>U1 z f;have y:Gd a:=k a (by rw[g,e];simp);have q:Gd c:=k c (by rw[g,e];simp);obtain⟨t,rfl⟩:=E5a y (x ▸ C);cases c with
 |ty o=>cases o<;>simp[Nt.k]at l
 |nd D G n2 F=>
  have:D=26:=l;subst this;refine⟨b.take d.length,t,G,n2,F,by rw[<-e];exact g,λp f=> ?_,λp f=> ?_⟩
  · exact A _ (by rw[<-v];exact jZ.2 ⟨p,f,rfl⟩)
  · rw[Gd]at q;have j:=q.1;simp only[shp]at j;rw[yY (by decide),yY (by decide),yY (by decide),yY (by decide),yY (by decide),yY (by decide),yY (by decide),yY (by decide),yY (by decide),yY (by decide),yY (by decide),yY (by decide),yY (by decide),rY (by decide)]at j;have:=j _ (jZ.2 ⟨p,f,rfl⟩);omega
theorem blk_kinds{e:bZ}{n:Int}{c:List Nt}(b:Gd (.nd 26 e n c)):∀p∈c,1<=p.k:=λp d=>by
 rw[Gd]at b;have a:=b.1;simp only[shp]at a;rw[yY (by decide),yY (by decide),yY (by decide),yY (by decide),yY (by decide),yY (by decide),yY (by decide),yY (by decide),yY (by decide),yY (by decide),yY (by decide),yY (by decide),yY (by decide),rY (by decide)]at a;have:=a _ (jZ.2 ⟨p,d,rfl⟩);omega
theorem let_parts{r:bZ}{n:Int}{k:List Nt}(j:Gd (.nd 17 r n k)):∃o b h f g,k=[.ty o,.nd b h f g]/\1<=b:=by
 rw[Gd]at j;obtain⟨e,q⟩:=j;simp only[shp]at e;rw[yY (by decide),yY (by decide),yY (by decide),yY (by decide),yY (by decide),yY (by decide),yY (by decide),yY (by decide),yY (by decide),rY (by decide)]at e;obtain⟨x,y,l,m,i⟩:=e;obtain⟨a,c,rfl,p,d⟩:=k2 l;obtain⟨t,rfl⟩:=E5a (U1 q (by simp)) (p ▸ m);cases c with
 |ty o=>cases o<;>(simp[Nt.k]at d;subst d;simp[isE]at i)
 |nd b h f g=>exact⟨t,b,h,f,g,rfl,by have:b=y:=d;rw[this];exact i.1⟩
theorem par_parts{k:bZ}{n:Int}{f:List Nt}(e:Gd (.nd 16 k n f)){d:List Fr}{b:Nat}:bnL false d b f= .ok d []:=by
 rw[Gd]at e;obtain⟨c,j⟩:=e;simp only[shp]at c;rw[yY (by decide),yY (by decide),yY (by decide),yY (by decide),yY (by decide),yY (by decide),yY (by decide),yY (by decide),rY (by decide)]at c;obtain⟨x,g,h⟩:=c;obtain⟨a,rfl,i⟩:=k1 g;obtain⟨t,rfl⟩:=E5a (U1 j (by simp)) (i ▸ h);rw[bnL,bnL]
theorem var_parts{d:bZ}{n:Int}{c:List Nt}(b:Gd (.nd 5 d n c)):c=[]:=by
 rw[Gd]at b;have a:=b.1;simp only[shp]at a;rw[rY (by decide)]at a;simpa using a
section
variable{b:lZ}{B a:Nat}{c d:Value}{N:List Nd}
def F8e(b:lZ)(B a:Nat)(c d:Value)(N:List Nd):Prop:=∀(i:Nat) (q:i<N.length) (w:lZ) (m:Nat) (e:List Fr) (k:uZ),Bnt b w B a c d m e k->e≠[]->∀(l o:Nat) (g n:List Nt),S6c N l o g N[i] n->(∀p∈g,1<=p.k->A0a b B a c d N p)->∀h:Nat,m+2 * nNL g<=h->h<=100000->e.length+nNL g<=100000->k.length=N.length->(N[i]).list.length<=100000->(N[i]).text.length<=1000000->((N[i]).kind=5\/(N[i]).kind=18)->∀R:Br,(lookQ (N[i]).text e=none->R= .bad 5 i)->(∀j,lookQ (N[i]).text e=some j->R=(Br.ok e [(i,j)]).and λf=>bnL false f l g)->
 Calls prog 107 #[pV a,U (i:Int)] w (BnPost b w B a c d N h k R)
theorem Z6c(hV:F8e b B a c d N)(P:Nrow b c N)(aw:N.length<=10000)(aj:∀nd∈N,nd.list.length<=100000/\nd.text.length<=1000000):∀(s:Nat) (t:Nt),szN t<=s->Gd t->1<=t.k->A0a b B a c d N t:=by
 intro s;induction s with
 |zero=>intro t hs;have:=E9a t;omega
 |succ s ih=>
  intro t hs u aq i C w m v H ak h R hm hf M;cases t with
  |ty o=>cases o<;>simp[Nt.k]at aq
  |nd k tx ae j=>
   obtain⟨S,E,x⟩:=Em.parts ak;have aa:GdL j:=by rw[Gd]at u;exact u.2
   have K:∀p∈j,1<=p.k->A0a b B a c d N p:=λp g h1=>by
    refine ih p ?_ (U1 aa g) h1;have:=I3 g;rw[szN]at hs;omega
   rw[Em.ix];have G:nN (.nd k tx ae j)=nNL j+1:=by rw[nN]
   rw[G]at hm hf;obtain⟨a3,a6⟩:=aj _ (mQ E);have L:(N[i+nNL j]).kind=k:=(congrArg Nd.kind x).trans (B7a _ _ _ _);have X:(N[i+nNL j]).text=tx:=(congrArg Nd.text x).trans (G6a _ _ _ _).1;by_cases a8:k=17
   · subst a8;obtain⟨o,r,A,z,q,rfl,V⟩:=let_parts u;have W:nNL [.ty o,.nd r A z q]=nN (.nd r A z q):=by simp[nNL,nN]
     have ay:nN (.nd r A z q)=nNL q+1:=by rw[nN]
     obtain⟨-,a2⟩:=EmL.head S;rw[nN,Nat.add_zero]at a2;obtain⟨-,ao,au⟩:=Em.parts (EmL.head a2).1;have ar:(N[i+nNL q]).kind=r:=(congrArg Nd.kind au).trans (B7a _ _ _ _);have a7:(N[i+nNL [.ty o,.nd r A z q]]).a=((i+nNL q:Nat):Int):=by
      have:=congrArg Nd.a x;refine this.trans ?_;simp only[mkN,ixL];rw[yY (by decide),yY (by decide),yY (by decide),yY (by decide),yY (by decide),rY (by decide)];simp only[lQ,List.getElem?_cons_succ,List.getElem?_cons_zero,Option.getD_some,nN,Nat.add_zero];exact Em.ix
     have hE:A0a b B a c d N (.nd r A z q):=K _ (by simp) V;refine(Z4c P _ E w m v H h R r (i+nNL q) (nN (.nd r A z q)) ao ar (by omega) (by omega) a6 (by omega) L a7 (λf=>bnT f i (.nd r A z q)) (λf f' av hf e=>L7c _ f i hf f' av e) ?_ _ rfl).mono λe w' g=> ?_
     · intro af m1 f ag ha al ax am T an ho;have Z:=S1a [.nd r A z q] (λp g=>by simp only[zW]at g;subst g;exact⟨V,hE⟩) i _ af m1 f H a2 ha (S6 R al) (by simp only[nNL];omega) (by simp only[nNL];omega) M (some (J ag 0)) 1 [((i+nNL q:Nat):Int)] (by simp[px]) ho (λb0 hq=> .inr (by simp only[Value.ownBlock,zQ]at hq;subst hq;exact⟨am,T,an⟩));rw[L3a _ _ _ _ (by exact V)]at Z;simp only[bnL,Br.and_nil,nNL,Nat.add_zero]at Z;exact Z
     · rw[bn_let v i tx ae o _ (by exact V)];rw[X,W]at g;rw[G,W];exact g.more (by omega)
   by_cases h6:k=6
   · subst h6;obtain⟨n,o,D,y,l,rfl,ab,ad⟩:=fn_parts u;have ac:∀p∈n,1<=p.k:=λp g=>by rw[ab p g];decide
     have W:nNL (n++[.ty o,.nd 26 D y l])=nNL n+nNL l+1:=by rw[M3a];simp[nNL,nN];omega
     have ap:ixL i C (n++[.ty o,.nd 26 D y l])=px i n++[ixN (i+nNL n) (C+nTL n) (.ty o),((i+nNL n+nNL l:Nat):Int)]:=by
      rw[Y1a,C9a i C n ac];simp only[ixL,Em.ix,nN,Nat.add_zero]
     rw[ap]at x;have a7:(N[i+nNL (n++[.ty o,.nd 26 D y l])]).a=((i+nNL n+nNL l:Nat):Int):=by
      refine(congrArg Nd.a x).trans ?_;simp[mkN]
     have a4:(N[i+nNL (n++[.ty o,.nd 26 D y l])]).list=px i n:=by
      refine(congrArg Nd.list x).trans ?_;simp[mkN]
     have T:Gd (.nd 26 D y l):=U1 aa (by simp);have ai:∀p∈l,1<=p.k/\A0a b B a c d N p:=λp g=>by
      refine⟨ad p g,ih p ?_ (U1 (by rw[Gd]at T;exact T.2) g) (ad p g)⟩;have h1:=I3 g;have h2:szN (.nd 26 D y l)<=D8 (n++[.ty o,.nd 26 D y l]):=I3 (by simp);rw[szN]at hs h2;omega
     refine(Q4d P _ E w m v H h n o D y l (λp g=>⟨ab p g,K p (by simp[g]) (ac p g)⟩) ai i C S (by omega) (by omega) M (by omega) L a7 a4 _ rfl).mono λe w' g=> ?_;rw[bnT,yY (by decide),yY (by decide),yY (by decide),yY (by decide),rY rfl];rw[G,W];exact g.more (by omega)
   by_cases a9:k=26
   · subst a9;have hk:=blk_kinds u;have a4:(N[i+nNL j]).list=px i j:=by
      have:=congrArg Nd.list x;rw[C9a _ _ j hk]at this;exact this
     rw[G];refine(T1b P _ E w m v H h j (λp g=>⟨hk p g,K p g (hk p g)⟩) i C S (by omega) (by omega) M L a4 _ rfl).mono λe w' g=> ?_;rw[bnT,yY (by decide),yY (by decide),yY (by decide),yY (by decide),yY (by decide),rY rfl];exact g.more (by omega)
   obtain⟨l,a5⟩:=X9c u ⟨h6,a8,a9⟩ S _ x;by_cases ah:k=16
   · subst ah;rw[G];refine(B6c P _ E w m v H h R i C j l a5 K (m+2 * (nNL j+1)) (by omega) (by omega) (by omega) M a3 a6 (by omega) L _ rfl).mono λe w' g=> ?_;rw[bnT,yY (by decide),yY (by decide),yY (by decide),rY rfl];rw[X,par_parts u]at g;exact g
   by_cases Y:k=5\/k=18
   · rw[G];refine hV _ E w m v H h R i C j l a5 K (m+2 * (nNL j+1)) (by omega) (by omega) (by omega) M a3 a6 (by rw[L];exact Y) _ (λF=> ?_) (λaz F=> ?_)
     · rw[X]at F;rcases Y with rfl|rfl
       · obtain rfl:=var_parts u;rw[bnT,rY rfl,F];rfl
       · rw[bnT,yY (by decide),rY rfl,F]
     · rw[X]at F;rcases Y with rfl|rfl
       · obtain rfl:=var_parts u;rw[bnT,rY rfl,F,Br.and_ok,bnL];rfl
       · rw[bnT,yY (by decide),rY rfl,F]
   rw[G,bnT_gen v i (by omega)];exact Z5c P _ E w m v H h R i C j l a5 K (m+2 * (nNL j+1)) (by omega) (by omega) (by omega) M a3 (by rw[L];omega)
end
section
variable{d:lZ}{B b:Nat}{c e:Value}{N:List Nd}{T:List Ty}{a:List Nt}
theorem Prgm.em(h:Prgm N T a):Em N 0 0 (.nd 26 [] 0 a):=⟨[],[],by simp[h.nodes],rfl⟩
theorem Prgm.cnt(h:Prgm N T a):N.length=nNL a+1:=by
 have:=congrArg List.length h.nodes;rw[iZ,Z8,nN]at this;exact this
def bnP(a:List Nt):Br:=bnT [] 0 (.nd 26 [] 0 a)
theorem W6c(x:F8e d B b c e N)(o:Nrow d c N)(g:Prgm N T a)(F:∀f∈N,f.text.length<=1000000)(w:lZ)(l:uZ)(h:Bnt d w B b c e 0 [] l)(E:l.length=N.length):
 Calls prog 107 #[pV b,U ((N.length - 1:Nat):Int)] w (BnPost d w B b c e N 2400 l (bnP a)):=by
 obtain⟨y,m,r⟩:=Em.parts g.em;have H:=g.cnt;have K:=g.lenN;have k:Gd (.nd 26 [] 0 a):=R5a _ (w26 g.wn);have z:GdL a:=by rw[Gd]at k;exact k.2
 have n:=blk_kinds k;have s:N.length - 1=0+nNL a:=by omega
 have C:(N[0+nNL a]).list=px 0 a:=by
  have:=congrArg Nd.list r;rw[C9a _ _ a n]at this;exact this
 have A:(N[0+nNL a]).kind=26:=(congrArg Nd.kind r).trans (B7a _ _ _ _);have v:∀f∈N,f.list.length<=100000/\f.text.length<=1000000:=λf q=>by
  refine⟨?_,F f q⟩;obtain⟨i,m,rfl⟩:=List.getElem_of_mem q;have D:N[i].fl∈emN 0 0 (.nd 26 [] 0 a):=by
   rw[<-g.nodes];exact List.mem_map_of_mem (mQ m)
  have t:=N1b (.nd 26 [] 0 a) k 0 0 _ D;have u:N[i].fl.list=N[i].list:=rfl;rw[u,nN]at t;omega
 rw[s];refine(T1b o _ m w 0 [] l h a (λp j=>⟨n p j,Z6c x o (by omega) v _ p (vQ _) (U1 z j) (n p j)⟩) 0 0 y (by omega) (by simp;omega) E A C _ rfl).mono λG L j=> ?_;rw[bnP,bnT,yY (by decide),yY (by decide),yY (by decide),yY (by decide),yY (by decide),rY rfl];exact j.more (by omega)
end
theorem T6c{c:lZ}{B d:Nat}{a D:Value}{N:List Nd}(k:Nrow c a N):F8e c B d a D N:=by
 intro i o w m e C h n b A y z t j x s r l v q u p R f g;exact Z3c k i o w m e C h n b A y z t j x s r l v q u p R f g
section
variable{b wb:lZ}{B a:Nat}{d c:Value}{N:List Nd}
theorem L3d(i:Nat)(w:lZ)(m:Nat)(k:uZ)(R:Br)(n:∀p,I No w p->Calls prog 107 #[pV a,U (i:Int)] p (BnPost b wb B a d c N m k R))
 (g:Nat) (u:g<w.heap.size) (t:w.cell? (J g 0)=some (U (i:Int))):
 Calls prog 69 #[pV a,.slice (some (J g 0)) 1 1] w (BnPost b wb B a d c N m k R):=by
 have o:=O n;clear n;go_enter func69,ntmps69;go_wp2_with fail
 go_loopw [8] (λv wr=>(v=U 0/\wr=w)\/(v=U 1/\Hid (BnPost b wb B a d c N m k R (rT) wr))) (λv _=>1 - (intOf v).toNat)
 case atStart=>exact .inl ⟨rfl,rfl⟩
 case round=>
  rcases hrel with ⟨rfl,rfl⟩|⟨rfl,H⟩
  · go_wp2_with fail
    refine(o.o _ (I.refl _ _)).mono ?_;rintro e x h;have q:=h.2;cases R with
    |bad s j=>
     obtain rfl:e=gu s (atI N j):=q;exact⟨rfl,h⟩
    |ok f l=>
     obtain⟨rfl,-⟩:=q;have r:=O h;clear h o;go_wp2_with fail
     all_goals go_roundw
     case rel=>exact .inr ⟨by go_num,r⟩
     case measure=>simp[intOf]
  · go_wp2_with fail
    go_end0;exact H.o
theorem O2c(i:Nat)(w:lZ)(m:Nat)(k:uZ)(R:Br)(o:∀g,I No w g->Calls prog 107 #[pV a,U (i:Int)] g (BnPost b wb B a d c N m k R))
 (r s:Nat) (y:w.cell? (J r 0)=some (pV a)) (u:w.cell? (J s 2)=some (U (i:Int))):
 Calls prog 68 #[pV r,pV s] w (BnPost b wb B a d c N m k R):=by
 have z:=blt u;have p:=qY w (.cells #[U (i:Int)] 3);have n:=O (L3d i (w.alloc (.cells #[U (i:Int)] 3)) m k R (λg x=>o g (D3 (I.alloc No _ _) x)) w.heap.size (by simp) (cr p rfl));clear p o;go_enter func68,ntmps68;go_wp2_with fail
 refine n.o.mono ?_;rintro e A h;have q:=h.2;cases R with
 |bad v j=>
  obtain rfl:e=gu v (atI N j):=q;exact⟨rfl,h⟩
 |ok f l=>
  obtain⟨rfl,-⟩:=q;have t:=O h;clear h n;go_wp2;go_end0;exact t.o
theorem Bnt.oth{w r:lZ}{m:Nat}{o:List Fr}{p:uZ}(h:Bnt b w B a d c m o p){q:Nat}{t:Array Value}{e:TypeId}{u:Nat×Nat}(j:I (λk=>k=q) w r)(n:w.heap[q]? =some (.cells t e u))(v:e≠3/\e≠99)(y:e≠177)(F:b.heap.size<=q):Bnt b r B a d c m o p:=by
 obtain⟨D,E⟩:=h.tv n v;obtain⟨s,C,f⟩:=h.st;refine⟨h.hz,kQ h.le j.size,h.bel.trans (I.toBelow j (λk _ e=>by omega) h.bel.size),s,C,f.chg j (Ne.symm D) (λg l e=>Q6 f.ar n (Ne.symm y) (e ▸ l)) (λg l e=>E (e ▸ l)) (λx A e=> ?_)⟩;obtain⟨i,z,rfl⟩:=List.getElem_of_mem A;have:=f.len;exact(f.fr i z (by omega)).notcells (e ▸ n)
def FaP(b w:lZ)(B a:Nat)(d c:Value)(N:List Nd)(m:Nat)(k:uZ)(R:Br)(e:Ending)(g:lZ):Prop:=(Below b.heap.size b g/\∀(q:Nat) (h:Array Value) (t:TypeId),w.heap[q]? =some (.cells h t (0,0))->(t≠3/\t≠99)->t≠177->g.heap[q]? =some (.cells h t (0,0)))/\match R with
 | .bad j i=>e= .returned (.agg #[U j,U (atI N i)])
 | .ok f l=>e= .returned (.agg #[U 0,U 0])/\Bnt b g B a d c m f (upd k l)
theorem E2c(i:Nat)(w:lZ)(m m0:Nat)(fs:List Fr)(r:uZ)(R:Br)(h:Bnt b w B a d c m0 fs r)(W:∀f,I No w f->Calls prog 107 #[pV a,U (i:Int)] f (BnPost b f B a d c N m r R))
 (G H:Nat) (Y:w.cell? (J G 0)=some (pV a)) (Z:w.cell? (J H 2)=some (U (i:Int))):
 Calls prog 22 #[.func (.func 68) #[] #[pV G,pV H]] w (FaP b w B a d c N m r R):=by
 have ag:=mkf;have s:=I.alloc No w (.cells #[U 0,U 0] 26);have y:=h.kept s;have V:=O2c (wb:=w.alloc (.cells #[U 0,U 0] 26)) i (w.alloc (.cells #[U 0,U 0] 26)) m r R (λf l=>(W f (D3 s l)).mono λe w' hp=>BnPost.after (Bkp.still l) hp) G H (A8 s Y) (A8 s Z);obtain⟨af,a8,a9⟩:=h.fresh (vQ _);have a4:=qY w (.cells #[U 0,U 0] 26);have S:Hid (∀f,Bkp B a c (w.alloc (.cells #[U 0,U 0] 26)) f->f.heap[w.heap.size]? =some (.cells #[U 0,U 0] 26 (0,0))/\Below b.heap.size b f):=λf l=>⟨l.other a4 (by decide) a8 a9,y.bel.trans ((l.below y.le).mono y.hz)⟩;have aa:b.heap.size<=w.heap.size:=h.bel.size;have T:Hid (∀f,Bkp B a c (w.alloc (.cells #[U 0,U 0] 26)) f->∀(q:Nat) (k:Array Value) (t:TypeId),w.heap[q]? =some (.cells k t (0,0))->(t≠3/\t≠99)->t≠177->q<w.heap.size/\f.heap[q]? =some (.cells k t (0,0))):=λf l q k t n u v=>by
  obtain⟨y1,y2⟩:=h.tv n u;have A:=(ltG n);exact⟨A,l.other (by rw[Below.heap_alloc _ _ _ A];exact n) v y1 y2⟩
 clear h y W a4 Y Z s;go_enter_defers func22,ntmps22
 go_wp2_with fail
 refine V.mono ?_;clear V;rintro e g ⟨F,hr⟩;obtain⟨p,a3⟩:=S.o g F;have X:=O (T.o g F);clear T;have q0:g.cell? (J w.heap.size 0)=some (U 0):=cr p rfl;have q1:g.cell? (J w.heap.size 1)=some (U 0):=cr p rfl;have hz:=(ltG p);have ac:∀o,g.frozen? (J w.heap.size o)=false:=λo=>frozen_of_row g _ o _ _ p;have P:=O a3;have M:=O p;clear F a3 p S;cases R with
 |bad x j=>
  obtain rfl:e=gu x (atI N j):=hr;unfold gu;refine leaves_cons (f:=41) (args:=#[pV w.heap.size]) (by simp) (by simp[go_sem]) ?_;refine(H1a w.heap.size x (atI N j) 0 0 [] _ q0 q1 ac).mono ?_;rintro e u' ad ⟨rfl,rfl,hc,K,L⟩;have C:FaP b w B a d c N m r (.bad x j) (.returned (.agg #[U x,U (atI N j)])) ad:=⟨⟨P.o.trans (I.toBelow hc (λa5 _ a6=>by omega) P.o.size),λq k t n u v=>by
   obtain⟨A,D⟩:=X.o q k t n u v;rw[hc.block q (by omega) (by omega)];exact D⟩,rfl⟩
  generalize atI N j=pa at *;simp[Leaves,settle,results,results22,go_sem,K,L];exact C
 |ok a7 ab=>
  obtain⟨rfl,hb⟩:=hr;have HB:=O hb;clear hb;go_wp2_with fail
  refine leaves_cons (f:=41) (args:=#[pV w.heap.size]) (by simp) (by simp[go_sem]) ?_;refine(I6a w.heap.size _).mono ?_;rintro e u' ae ⟨rfl,rfl,z⟩;have s1:=heap_setCell_same g w.heap.size 0 _ _ (U 0) M.o;have s2:=heap_setCell_same _ w.heap.size 1 _ _ (U 0) s1;have K:=A8 z (show World.cell? _ (J w.heap.size 0)=some (U 0) from cr s2 rfl);have L:=A8 z (show World.cell? _ (J w.heap.size 1)=some (U 0) from cr s2 rfl);have E:I (λa5=>a5=w.heap.size) g ((g.setCell (J w.heap.size 0) (U 0)).setCell (J w.heap.size 1) (U 0)):=I.trans (I.set g (J w.heap.size 0) _) (I.set _ (J w.heap.size 1) _) (λ_ _ a6=>a6);have a2:=(HB.o.oth E M.o (by decide) (by decide) aa).kept z;have C:FaP b w B a d c N m r (.ok a7 ab) (.returned (.agg #[U 0,U 0])) ae:=⟨⟨a2.bel,λq k t n u v=>by
   obtain⟨A,D⟩:=X.o q k t n u v;rw[z.block q (yQ (by omega) E.size) id,E.block q (by omega) (by omega)];exact D⟩,rfl,a2⟩
  simp[Leaves,settle,results,results22,go_sem,K,L];exact C
end
theorem Nrow.keep{S:Nat->Prop}{w i:lZ}{f:Value}{N:List Nd}(h:Nrow w f N)(c:I S w i)(d:∀k j e m,w.heap[k]? =some (.cells j e m)->(e=87\/e=131\/e=3)->¬S k):Nrow i f N:=by
 obtain⟨r,b,n⟩:=h;refine⟨r,A4 b c λg p x=> ?_,n.imp (NdV.chg c (λg _ _ q a=> ?_) (λ_ _ _=>trivial))⟩
 · obtain⟨_,l,a⟩:=A9 b g p;exact d _ _ _ _ a (.inl rfl) x
 · obtain⟨l,e,a,o⟩:=a;exact d _ _ _ _ a (.inr o) q
def RdB(l:bZ)(w:lZ)(e:Ending)(c:lZ):Prop:=Below w.heap.size w c/\
 ((∃a p,PRes l (.inl (a,p))/\e= .returned (.tuple #[.pointer none,.agg #[U a,U p]]))\/
  ∃N T f B b d k,PRes l (.inr (N,T))/\Prgm N T f/\w.heap.size<=B/\match bnP f with
   | .bad a i=>e= .returned (.tuple #[pV b,.agg #[U a,U (atI N i)]])
   | .ok h l=>e= .returned (.tuple #[pV b,.agg #[U 0,U 0]])/\∃g j,Bsx c B b d g k j 2400 h (upd (List.replicate N.length (-1)) l)/\Nrow c d N)
theorem A1e{l:bZ}{w b c G:lZ}{N:List Nd}{T:List Ty}{j:List Nt}{p u:Value}{x y:Int}{m:Nat}(B:Below w.heap.size w b)(R:w.heap.size<b.heap.size)(E:PRes l (.inr (N,T)))(A:Prgm N T j)(z:Nrow b p N)(D:c.heap[w.heap.size]? =some (.cells #[U 0,U 0] 26 (0,0)))(r:FaP b G b.heap.size m p u N 2400 (List.replicate N.length (-1)) (bnP j) (.returned (.agg #[U x,U y])) c):
 RdB l w (.returned (.tuple #[pV m,.agg #[U x,U y]])) ((c.setCell (J w.heap.size 0) (U x)).setCell (J w.heap.size 1) (U y)):=by
 have n:I (λk=>k=w.heap.size) c ((c.setCell (J w.heap.size 0) (U x)).setCell (J w.heap.size 1) (U y)):=I.trans (I.set c (J w.heap.size 0) _) (I.set _ (J w.heap.size 1) _) (λ_ _ x=>x);have q:=B.trans (r.1.1.mono (by omega));refine⟨q.trans (I.toBelow n (λk _ e=>by omega) q.size),.inr ⟨N,T,j,b.heap.size,m,p,u,E,A,by omega, ?_⟩⟩;have a:=r.2;cases t:bnP j with
 |bad L i=>
  rw[t]at a;simp only[Ending.returned.injEq,Value.agg.injEq]at a;show _=_;rw[a]
 |ok f S=>
  rw[t]at a;obtain⟨a,s⟩:=a;simp only[Ending.returned.injEq,Value.agg.injEq]at a;obtain⟨v,F,h⟩:=s.st;refine⟨by rw[a],v,F,h.chg n (λe=> ?_) (λg d e=> ?_) (λg d e=> ?_) (λg d e=> ?_),(z.keep ((I.below s.bel).mono (S':=λ_=>False) λ_ P x=>by omega) (λ_ _ _ _ _ _ x=>x)).keep n (λk K e M o C x=> ?_)⟩
  · have:=h.low;omega
  · have:=(h.ar.lt g d).1;omega
  · have:=(h.tos.lt g d).1;omega
  · have:=h.ge g d;omega
  · have H:k=w.heap.size:=x;subst H;rw[D]at o;simp only[zQ,xW]at o;rcases C with rfl|rfl|rfl<;>simp at o
section
theorem Z9d(s:ByteArray)(w:lZ)(hs:s.size<=maxLen):Calls prog 37 #[.string s] w (RdB s.data.toList w):=by
 have HP:=O (λb=>T9a s b hs);have K:=qY w (.cells #[U 0,U 0] 26);obtain⟨i0,hi,an,ao,ap⟩:=info_parts Tryz.infoInt;clear hs;go_enter func37,ntmps37;go_wp2_with fail
 refine(HP.o _).mono ?_;clear HP;rintro e b ⟨t,⟨r,p,u,rfl⟩|⟨N,T,d,f,k,l,u,rfl,hN,hT⟩⟩
 · have m:b.heap[w.heap.size]? =some (.cells #[U 0,U 0] 26 (0,0)):=by
    rw[t.block _ (by simp)];exact K
   have g0:b.cell? (J w.heap.size 0)=some (U 0):=cr m rfl;have g1:b.cell? (J w.heap.size 1)=some (U 0):=cr m rfl;have gz:∀o,b.frozen? (J w.heap.size o)=false:=λo=>frozen_of_row b _ o _ _ m;have gl:=(ltG m);have az:(r !=0)=true:=by simp[u.1]
   have C:Hid (Below w.heap.size w b):=(I.toBelow (I.alloc No w _) (λ_ _ x=>x.elim) (vQ _)).trans (t.mono (by simp));have V:=O u;clear u t K m;go_wp2_with fail
   go_region
   all_goals go_wp2_with fail
   all_goals
    have aj:I (λab=>ab=w.heap.size) b ((b.setCell (J w.heap.size 0) (U r)).setCell (J w.heap.size 1) (U p)):=I.trans (I.set b (J w.heap.size 0) _) (I.set _ (J w.heap.size 1) _) (λ_ _ x=>x);have Y:RdB s.data.toList w (.returned (.tuple #[.pointer none,.agg #[U r,U p]])) _:=⟨C.o.trans (I.toBelow (I.trans aj (D3 (D3 (I.alloc No _ (.cells #[sN,sN,U 0] 40)) (I.alloc No _ (.cells #[U r,U p] 26))) (I.drewN No _ 1)) (λ_ _ x=>x.elim)) (λab _ e=>by omega) C.o.size),.inl ⟨r,p,V.o,rfl⟩⟩;exact bodyPost_ret (v:= .tuple #[.pointer none,.agg #[U r,U p]]) (by simp[results,results37,go_sem,g0,g1,gl]) rfl Y
 · obtain⟨ps,H⟩:=A5b u;have aw:=H.lenN;have W2:Hid (∃q,q=(((b.alloc (.cells #[.slice d N.length f,.slice k T.length l,U ((N.length:Int) - 1)] 40)).alloc (.cells #[U 0,U 0] 26)).alloc (.cells #[.slice d N.length f,sN,sN] 99)).alloc (.cells #[pV (b.heap.size+1+1)] 94)):=⟨_,rfl⟩;have S:=O H;have ag:=O hN;have au:=O t;have C:Hid (Below w.heap.size w b):=(I.toBelow (I.alloc No w _) (λ_ _ x=>x.elim) (vQ _)).trans (t.mono (by simp));have V:=O u;have m:b.heap[w.heap.size]? =some (.cells #[U 0,U 0] 26 (0,0)):=by
    rw[t.block _ (by simp)];exact K
   have F0:=O m;have aa:w.heap.size<b.heap.size:=(ltG m);have ay:1<=N.length:=by have:=H.cnt;omega
   clear hT hN t u H K m;go_wp2_with fail
   have BZ:Hid (Bmk ((((b.alloc (.cells #[.slice d N.length f,.slice k T.length l,U ((N.length:Int) - 1)] 40)).alloc (.cells #[U 0,U 0] 26)).alloc (.cells #[.slice d N.length f,sN,sN] 99)).alloc (.cells #[pV (b.heap.size+1+1)] 94)) ((((b.alloc (.cells #[.slice d N.length f,.slice k T.length l,U ((N.length:Int) - 1)] 40)).alloc (.cells #[U 0,U 0] 26)).alloc (.cells #[.slice d N.length f,sN,sN] 99)).alloc (.cells #[pV (b.heap.size+1+1)] 94)) b.heap.size (b.heap.size+1+1) (.slice d N.length f) (sN) 0):=by
    refine⟨by omega, ?_,kW _ _ _ _,I.refl _ _⟩;rw[Below.heap_alloc _ _ _ (by simp)];have:=qY ((b.alloc (.cells #[.slice d N.length f,.slice k T.length l,U ((N.length:Int) - 1)] 40)).alloc (.cells #[U 0,U 0] 26)) (.cells #[.slice d N.length f,sN,sN] 99);simpa using this
   have L:((((b.alloc (.cells #[.slice d N.length f,.slice k T.length l,U ((N.length:Int) - 1)] 40)).alloc (.cells #[U 0,U 0] 26)).alloc (.cells #[.slice d N.length f,sN,sN] 99)).alloc (.cells #[pV (b.heap.size+1+1)] 94)).heap[b.heap.size+1+1+1]? =some (.cells #[pV (b.heap.size+1+1)] 94 (0,0)):=by
    have:=qY (((b.alloc (.cells #[.slice d N.length f,.slice k T.length l,U ((N.length:Int) - 1)] 40)).alloc (.cells #[U 0,U 0] 26)).alloc (.cells #[.slice d N.length f,sN,sN] 99)) (.cells #[pV (b.heap.size+1+1)] 94);simpa using this
   have af:Hid (Below b.heap.size b ((((b.alloc (.cells #[.slice d N.length f,.slice k T.length l,U ((N.length:Int) - 1)] 40)).alloc (.cells #[U 0,U 0] 26)).alloc (.cells #[.slice d N.length f,sN,sN] 99)).alloc (.cells #[pV (b.heap.size+1+1)] 94))):=I.toBelow (D3 (D3 (I.alloc No _ _) (I.alloc No _ _)) (D3 (I.alloc No _ _) (I.alloc No _ _))) (λ_ _ x=>x.elim) (vQ _);have Z:((((b.alloc (.cells #[.slice d N.length f,.slice k T.length l,U ((N.length:Int) - 1)] 40)).alloc (.cells #[U 0,U 0] 26)).alloc (.cells #[.slice d N.length f,sN,sN] 99)).alloc (.cells #[pV (b.heap.size+1+1)] 94)).heap[b.heap.size]? =some (.cells #[.slice d N.length f,.slice k T.length l,U ((N.length:Int) - 1)] 40 (0,0)):=by
    rw[Below.heap_alloc _ _ _ (by simp;omega),Below.heap_alloc _ _ _ (by simp;omega),Below.heap_alloc _ _ _ (by simp)];exact qY b _
   clear W2;generalize ((((b.alloc (.cells #[.slice d N.length f,.slice k T.length l,U ((N.length:Int) - 1)] 40)).alloc (.cells #[U 0,U 0] 26)).alloc (.cells #[.slice d N.length f,sN,sN] 99)).alloc (.cells #[pV (b.heap.size+1+1)] 94))=q at *;have ar:b.heap.size+1+1+1<q.heap.size:=(ltG L);have QB:Hid (∀a v j,Bmk q a b.heap.size (b.heap.size+1+1) (.slice d N.length f) v j->a.cell? (J (b.heap.size+1+1+1) 0)=some (pV (b.heap.size+1+1))/\a.cell? (J (b.heap.size+1+1) 2)=some v/\(∀o,a.frozen? (J (b.heap.size+1+1) o)=false)/\b.heap.size+1+1<a.heap.size/\b.heap.size+1+1+1<a.heap.size):=λa v j h=>by
    have n:=h.chg.block _ (ltG L) (by omega);rw[L]at n;exact⟨cr n rfl,cr h.blk rfl,λo=>frozen_of_row a _ o _ _ h.blk,(ltG h.blk),(ltG n)⟩
   go_loopw [23] (λa3 wr=>∃(j:Nat) (v:Value),j<=N.length/\a3=U (j:Int)/\Hid (Bmk q wr b.heap.size (b.heap.size+1+1) (.slice d N.length f) v j)) (λa3 _=>N.length - (intOf a3).toNat)
   case atStart=>exact⟨0,_,wQ _,rfl,BZ⟩
   case round=>
    obtain⟨j,v,hj,rfl,i⟩:=hrel;obtain⟨qa,qc,qz,ql,b6⟩:=QB.o _ _ _ i.o;by_cases b0:j<N.length
    · obtain⟨D,c,rfl⟩:=B9 i.o.tos;have HY:=O (A4 i.o.tos (D3 (I.drewN No wr 1) (I.alloc No _ (.cells #[U (-1)] 3))) (λ_ _ x=>x));have a6:I No wr (wr.drew.alloc (.cells #[U (-1)] 3)):=D3 (I.drewN No wr 1) (I.alloc No _ (.cells #[U (-1)] 3));have R:=O a6;have a8:(Value.slice D j c).ownBlock≠some (b.heap.size+1+1):=Q6 i.o.tos i.o.blk (by decide);have al:(Value.slice D j c).ownBlock≠some (b.heap.size+1+1+1):=λe=>by
       have:=(i.o.tos.lt _ e).1;omega
      have ax:q.heap.size<=wr.heap.size:=i.o.chg.size;clear a6;go_wp2_with fail
      go_region_law (
       refine step_append_lies _ (by rfl) _ _ _ (by rfl) q.heap.size 3 i0 (U 0) 1 8 underlying43 hi an ao ap rfl (by omega) (.slice D j c) j (C8 (List.replicate j (-1))) (by rfl) HY.o (J wr.heap.size 0) 1 1 [U (-1)] (by rfl) (by rfl) (World.news_of_block (cs:=#[U (-1)]) (t:=3) (fr:=(0,0)) (qY wr.drew _)) (by simp[Value.oneCell']) (by omega) (by simp only[maxLen];omega) (by omega) (by simp;omega) (wr.heap.size+1) (by simp) ?_;intro gg a4 M a9 B ai b1;have z4:M.cell? (J (b.heap.size+1+1) 2)=some (.slice D j c):=by rw[B.cell_far _ (by simp;omega) (Ne.symm a8)];exact A8 R.o qc
       have z5:M.cell? (J (b.heap.size+1+1+1) 0)=some (pV (b.heap.size+1+1)):=by rw[B.cell_far _ (by simp;omega) (Ne.symm al)];exact A8 R.o qa
       have y4:M.frozen? (J (b.heap.size+1+1) 2)=false:=by rw[B.frozen_far _ (by simp;omega) (Ne.symm a8)];exact X8 (w:=wr.drew) ql (qz 2))
      all_goals
       have HG:Hid (Bmk q (M.setCell (J (b.heap.size+1+1) 2) (.slice (some (J gg 0)) (j+1) a4)) b.heap.size (b.heap.size+1+1) (.slice d N.length f) (.slice (some (J gg 0)) (j+1) a4) (j+1)):=i.o.grow R.o (I.grown B) a9;clear a9 B ai HY;go_wp2;go_roundw
       case rel=>exact⟨j+1,_,by omega,by go_num,HG⟩
       case measure=>simp[intOf];omega
    · have ak:j=N.length:=by omega
      subst ak;have G:Nrow b (.slice d N.length f) N:=by
       obtain⟨nx,h1,W⟩:=ag.o;exact⟨nx,C9 h1 (wQ _),W.imp (λb5 xs h=>by obtain⟨aq,e,ho,_⟩:=h;exact⟨aq,e,ho,λ_ _=>trivial⟩)⟩
      have ah:=O G;have X:=i.o.done (w0:=b) (vQ _) (by omega) af.o;have a7:(N.length:Int) - 1=((N.length - 1:Nat):Int):=by omega
      have ac:wr.heap[b.heap.size]? =some (.cells #[.slice d N.length f,.slice k T.length l,U ((N.length:Int) - 1)] 40 (0,0)):=by
       rw[i.o.chg.block _ (ltG Z) (by omega)];exact Z
      have ae:wr.cell? (J b.heap.size 2)=some (U ((N.length - 1:Nat):Int)):=by rw[<-a7,cell_of_row _ _ 2 _ _ _ ac];rfl
      have n:wr.heap[b.heap.size+1+1+1]? =some (.cells #[pV (b.heap.size+1+1)] 94 (0,0)):=by
       rw[i.o.chg.block _ ar (by omega)];exact L
      have HF:Hid (∀a,I No wr a->Calls prog 22 #[.func (.func 68) #[] #[pV (b.heap.size+1+1+1),pV b.heap.size]] a λe g=>∃x y,e= .returned (.agg #[U x,U y])/\g.cell? (J (b.heap.size+1+1+1) 0)=some (pV (b.heap.size+1+1))/\(g.cell? (J w.heap.size 0)=some (U 0)/\g.cell? (J w.heap.size 1)=some (U 0)/\(∀o,g.frozen? (J w.heap.size o)=false)/\w.heap.size<g.heap.size)/\
       Hid (g.heap[w.heap.size]? =some (.cells #[U 0,U 0] 26 (0,0))/\FaP b a b.heap.size (b.heap.size+1+1) (.slice d N.length f) v N 2400 (List.replicate N.length (-1)) (bnP ps) (.returned (.agg #[U x,U y])) g)):=by
       intro a A;refine(E2c (N.length - 1) a 2400 0 [] (List.replicate N.length (-1)) (bnP ps) (X.kept A) (λa2 W=>W6c (T6c G) G S.o (λnd hm=>kQ (S.o.tx nd hm) (by decide)) a2 _ ((X.kept A).kept W) (by simp)) (b.heap.size+1+1+1) b.heap.size (A8 A (cr n rfl)) (A8 A ae)).mono ?_;rintro e g E;have z:g.heap[w.heap.size]? =some (.cells #[U 0,U 0] 26 (0,0)):=by rw[E.1.1.block _ aa];exact F0.o
       have q5:=E.1.2 _ _ _ (show a.heap[b.heap.size+1+1+1]? =_ by rw[A.block _ (ltG n) id];exact n) (by decide) (by decide);have am:∃x y,e= .returned (.agg #[U x,U y]):=by
        have F:=E.2;cases a5:bnP ps with
        |bad r b3=>rw[a5]at F;exact⟨_,_,F⟩
        |ok av b4=>rw[a5]at F;exact⟨_,_,F.1⟩
       obtain⟨x,y,rfl⟩:=am;exact⟨x,y,rfl,cr q5 rfl,⟨cr z rfl,cr z rfl,λo=>frozen_of_row _ _ o _ _ z,(ltG z)⟩,z,E⟩
      have b2:=mkf;have qx:wr.cell? (J (b.heap.size+1+1+1) 0)=some (pV (b.heap.size+1+1)):=cr n rfl;clear Z ac ae n X G a7 qc qz BZ QB i;go_wp2_with fail
      go_region_with (go_at_call 22;refine(HF.o _ (I.drewN _ _ 1)).mono ?_;rintro e g ⟨x,y,rfl,cq,⟨z,r1,rz,rl⟩,P⟩)
      all_goals
       have Y:=O (A1e (C.o) aa V.o S.o ah.o P.o.1 P.o.2);have s1:=heap_setCell_same g w.heap.size 0 _ _ (U x) P.o.1;have s2:=heap_setCell_same _ w.heap.size 1 _ _ (U y) s1;have z0:((g.setCell (J w.heap.size 0) (U x)).setCell (J w.heap.size 1) (U y)).cell? (J w.heap.size 0)=some (U x):=cr s2 rfl;have z1:((g.setCell (J w.heap.size 0) (U x)).setCell (J w.heap.size 1) (U y)).cell? (J w.heap.size 1)=some (U y):=cr s2 rfl;clear s1 s2;go_wp2_with fail
       exact bodyPost_ret (v:= .tuple #[pV (b.heap.size+1+1),.agg #[U x,U y]]) (by simp[results,results37,go_sem,z0,z1]) rfl Y.o
end
def U3(a:uZ):Nat->List (Int×Int)
 |0=>[]
 |j+1=>U3 a j++(if a.getD j 0≠-1 then [((j:Int),a.getD j 0)] else [])
theorem D7b(a:uZ):∀j,(U3 a j).length<=j
 |0=>vQ _
 |j+1=>by
  have:=D7b a j;rw[U3,qQ];split<;>simp<;>omega
def H2a(l:List (Int×Int)):List Value:=l.flatMap λp=>[U p.1,U p.2]
theorem E8c(l:List (Int×Int))(p:Int×Int):H2a (l++[p])=H2a l++[U p.1,U p.2]:=by simp[H2a]
theorem Br.bad_and{r:Br}{k:List Fr->Br}{e:Int}{i:Nat}(d:∀e i,r= .bad e i->e=5\/e=6)(g:∀f e i,k f= .bad e i->e=5\/e=6)(h:r.and k= .bad e i):e=5\/e=6:=by
 cases r with
 |bad b j=>simp[Br.and]at h;exact h.1 ▸ d _ _ rfl
 |ok c l=>
  rw[Br.and_ok]at h;cases a:k c with
  |bad b j=>rw[a]at h;simp at h;exact h.1 ▸ g _ _ _ a
  |ok f l=>rw[a]at h;simp at h
mutual
theorem bnT_bad:∀(t:Nt) (a:List Fr) (b:Nat) (e:Int) (i:Nat),bnT a b t= .bad e i->e=5\/e=6
 | .ty _,a,b,e,i,h=>by rw[bnT]at h;cases h
 | .nd k p n c,a,b,e,i,h=>by
  rw[bnT]at h;split at h
  · split at h
    · simp at h;exact .inl h.1.symm
    · cases h
  split at h
  · split at h
    · simp at h;exact .inl h.1.symm
    · exact Br.bad_and (λ_ _ h=>by cases h) (λf e i h=>bnL_badE c false f b e i h) h
  split at h
  · split at h
    · simp at h;exact .inr h.1.symm
    · revert h;cases j:bnL false (if F4d c=true then I8 a p ((b+nNL c:Nat):Int) else a) b c with
      |bad g m=>
       intro h;simp[Br.setF]at h;exact h.1 ▸ bnL_badE c false _ b g m j
      |ok f l=>intro h;simp[Br.setF]at h
  split at h
  · cases h
  split at h
  · revert h;cases j:bnL true (a++[Fr.no]) b c with
    |bad g m=>
     intro h;simp[Br.pop]at h;exact h.1 ▸ bnL_badE c true _ b g m j
    |ok f l=>intro h;simp[Br.pop]at h
  split at h
  · revert h;cases j:bnL false (a++[Fr.no]) b c with
    |bad g m=>
     intro h;simp[Br.pop]at h;exact h.1 ▸ bnL_badE c false _ b g m j
    |ok f l=>intro h;simp[Br.pop]at h
  · exact bnL_badE c false a b e i h
theorem bnL_badE:∀(c:List Nt) (d:Bool) (a:List Fr) (b:Nat) (e:Int) (i:Nat),bnL d a b c= .bad e i->e=5\/e=6
 |[],d,a,b,e,i,h=>by rw[bnL]at h;cases h
 | .ty o::r,d,a,b,e,i,h=>by
  rw[bnL]at h;exact bnL_badE r d a b e i h
 | .nd k p n q::r,d,a,b,e,i,h=>by
  rw[bnL]at h;refine Br.bad_and (λe i h=> ?_) (λf e i h=>bnL_badE r d f _ e i h) h;split at h
  · exact bnL_badE q false a b e i h
  · exact bnT_bad (.nd k p n q) a b e i h
end
def NmA(l:bZ)(w:lZ)(e:Ending)(g:lZ):Prop:=Below w.heap.size w g/\
 ((∃a p,a≠0/\PRes l (.inl (a,p))/\e= .returned (.tuple #[sN,.agg #[U a,U p]]))\/
  ∃N T f,PRes l (.inr (N,T))/\Prgm N T f/\match bnP f with
   | .bad a i=>a≠0/\e= .returned (.tuple #[sN,.agg #[U a,U (atI N i)]])
   | .ok _ b=>∃d c,e= .returned (.tuple #[.slice d (U3 (upd (List.replicate N.length (-1)) b) N.length).length c,.agg #[U 0,U 0]])/\g.ownsRow w.heap.size 70 2 (.slice d (U3 (upd (List.replicate N.length (-1)) b) N.length).length c) (U3 (upd (List.replicate N.length (-1)) b) N.length).length (H2a (U3 (upd (List.replicate N.length (-1)) b) N.length)))
theorem Tryz.infoBo:(prog.info? 70).map (λi=>(i.zero,i.size,i.bytes))=some (some (.agg #[U 0,U 0]),2,16):=by kernel_rfl
theorem P3c(s:ByteArray)(w:lZ)(r:s.size<=maxLen):Calls prog 17 #[.string s] w (NmA s.data.toList w):=by
 have M:=O (λb=>Z9d s b r);have z:=qY w (.cells #[U 0,U 0] 26);obtain⟨i0,hi,aw,ax,ay⟩:=info_parts Tryz.infoBo;clear r;go_enter func17,ntmps17;go_wp2_with fail
 refine(M.o _).mono ?_;clear M;rintro e b ⟨h,⟨d,p,l,rfl⟩|⟨N,a6,T,b0,bb,nv,tv,l,H,hB,K⟩⟩
 · have f:b.heap[w.heap.size]? =some (.cells #[U 0,U 0] 26 (0,0)):=by
    rw[h.block _ (by simp)];exact z
   have E:b.cell? (J w.heap.size 0)=some (U 0):=cr f rfl;have F:b.cell? (J w.heap.size 1)=some (U 0):=cr f rfl;have gz:∀o,b.frozen? (J w.heap.size o)=false:=λo=>frozen_of_row b _ o _ _ f;have G:=(ltG f);have ao:(d !=0)=true:=by simp[l.1]
   have i:Hid (Below w.heap.size w b):=(I.toBelow (I.alloc No w _) (λ_ _ x=>x.elim) (vQ _)).trans (h.mono (by simp));have a5:=O l;clear l h z f;go_wp2_with fail
   go_region
   all_goals go_wp2_with fail
   all_goals
    have q:I (λk=>k=w.heap.size) b ((b.setCell (J w.heap.size 0) (U d)).setCell (J w.heap.size 1) (U p)):=I.trans (I.set b (J w.heap.size 0) _) (I.set _ (J w.heap.size 1) _) (λ_ _ x=>x);have W:NmA s.data.toList w (.returned (.tuple #[sN,.agg #[U d,U p]])) _:=⟨i.o.trans (I.toBelow (I.trans q (D3 (I.alloc No _ (.cells #[U d,U p] 26)) (I.drewN No _ 1)) (λ_ _ x=>x.elim)) (λk _ e=>by omega) i.o.size),.inl ⟨d,p,a5.o.1,a5.o,rfl⟩⟩;exact bodyPost_ret (v:= .tuple #[sN,.agg #[U d,U p]]) (by simp[results,results17,go_sem,E,F,G]) rfl W
 · cases n:bnP T with
   |bad d S=>
    rw[n]at K;have V:e= .returned (.tuple #[pV bb,.agg #[U d,U (atI N S)]]):=K;subst V;have a2:Hid (d≠0):=by
     show d≠0;have:=bnT_bad (.nd 26 [] 0 T) [] 0 d S n;omega
    have L:Hid (∀m,Below w.heap.size w m->NmA s.data.toList w (.returned (.tuple #[sN,.agg #[U d,U (atI N S)]])) m):=λm Z=>⟨Z,.inr ⟨N,a6,T,l,H,by rw[n];exact⟨a2.o,rfl⟩⟩⟩;clear K n H l;generalize atI N S=p at *;have f:b.heap[w.heap.size]? =some (.cells #[U 0,U 0] 26 (0,0)):=by
     rw[h.block _ (by simp)];exact z
    have E:b.cell? (J w.heap.size 0)=some (U 0):=cr f rfl;have F:b.cell? (J w.heap.size 1)=some (U 0):=cr f rfl;have gz:∀o,b.frozen? (J w.heap.size o)=false:=λo=>frozen_of_row b _ o _ _ f;have G:=(ltG f);have ao:(d !=0)=true:=by simp[a2.o]
    have i:Hid (Below w.heap.size w b):=(I.toBelow (I.alloc No w _) (λ_ _ x=>x.elim) (vQ _)).trans (h.mono (by simp));clear h z f;go_wp2_with fail
    go_region
    all_goals go_wp2_with fail
    all_goals
     have q:I (λk=>k=w.heap.size) b ((b.setCell (J w.heap.size 0) (U d)).setCell (J w.heap.size 1) (U p)):=I.trans (I.set b (J w.heap.size 0) _) (I.set _ (J w.heap.size 1) _) (λ_ _ x=>x);have W:=L.o _ (i.o.trans (I.toBelow (I.trans q (D3 (I.alloc No _ (.cells #[U d,U p] 26)) (I.drewN No _ 1)) (λ_ _ x=>x.elim)) (λk _ e=>by omega) i.o.size));exact bodyPost_ret (v:= .tuple #[sN,.agg #[U d,U p]]) (by simp[results,results17,go_sem,E,F,G]) rfl W
   |ok fs l2=>
    rw[n]at K;obtain⟨V,av,ms,r,-⟩:=K;subst V;have f:b.heap[w.heap.size]? =some (.cells #[U 0,U 0] 26 (0,0)):=by
     rw[h.block _ (by simp)];exact z
    have G:=(ltG f);have i:Hid (Below w.heap.size w b):=(I.toBelow (I.alloc No w _) (λ_ _ x=>x.elim) (vQ _)).trans (h.mono (by simp));generalize Y:upd (List.replicate N.length (-1)) l2=a at *;have ae:a.length=N.length:=by rw[<-Y];simp[P4a]
    have a3:Hid (a.length<=100000):=by
     show a.length<=100000;have:=H.lenN;omega
    have L:Hid (∀m g c,Below w.heap.size w m->m.ownsRow w.heap.size 70 2 (.slice g (U3 a a.length).length c) (U3 a a.length).length (H2a (U3 a a.length))->NmA s.data.toList w (.returned (.tuple #[.slice g (U3 a a.length).length c,.agg #[U 0,U 0]])) m):=λm g c Z ho=>⟨Z,.inr ⟨N,a6,T,l,H,by
     rw[n];show∃g c,_;rw[Y,<-ae];exact⟨g,c,rfl,ho⟩⟩⟩
    obtain⟨ta,tc,au⟩:=B9 r.tos;subst au;have c2:b.cell? (J bb 2)=some (.slice ta a.length tc):=cr r.blk rfl;have az:=blt c2;simp only at az;have ak:=O (C9 r.tos (wQ _));have ai:=O f;clear r h z f n Y H l;have C1:=O (I.alloc No b (.cells #[U 0,U 0] 26));have b4:a.length<=100000:=a3.o;clear ae a3 hB;go_wp2_with fail
    go_loopw [23,6] (λv af wr=>∃(j:Nat) (g:Option Addr) (y:Nat),j<=a.length/\v=U (j:Int)/\af= .slice g (U3 a j).length y/\Hid (I No b wr)/\Hid (wr.ownsRow b.heap.size 70 2 (.slice g (U3 a j).length y) (U3 a j).length (H2a (U3 a j)))) (λv _ _=>a.length - (intOf v).toNat)
    case atStart=>exact⟨0,none,0,wQ _,rfl,rfl,C1.o,kW _ _ _ _⟩
    case round=>
     obtain⟨j,g,y,hj,rfl,rfl,u,C⟩:=hrel;have b5:b.heap.size<=wr.heap.size:=u.o.size;by_cases ab:j<a.length
     · obtain⟨g2,ar,b2,b3,aq,v0⟩:=D9 (A4 ak.o u.o (λ_ _ x=>x)) ab;subst ar;have aa:a.getD j 0=a[j]:=by rw[lQ,gQ ab];rfl
       have an:=D7b a j;have A:Hid (U3 a (j+1)=U3 a j++if a[j]≠-1 then [((j:Int),a[j])] else []):=by
        show _=_;rw[U3,aa]
       unfold maxLen at aq;clear aa;generalize a[j]=t at *;obtain⟨P,a7⟩:∃P,U3 a j=P:=⟨_,rfl⟩;rw[a7]at C A an⊢;clear a7;by_cases R:t= -1
       · subst R;have B:Hid (U3 a (j+1)=P):=by
          show _=_;rw[A.o];simp
         clear A;go_wp2_with fail
         go_roundw
         case rel=>exact⟨j+1,g,y,by omega,by go_num,by rw[B.o],u,by rw[B.o];exact C⟩
         case measure=>simp[intOf];omega
       · have B:Hid (U3 a (j+1)=P++[((j:Int),t)]):=by
          show _=_;rw[A.o,rY R]
         have gt:(t != -1)=true:=by simpa using R
         have a4:=O (C.o.alloc (.cells #[U (j:Int),U t] 70));clear A R;go_wp2_with (at_builtin;refine wpList_append_own _ rfl _ _ 65 rfl b.heap.size 70 i0 (.agg #[U 0,U 0]) 2 16 underlying65 hi aw ax ay rfl (by decide) _ _ _ rfl a4.o (J wr.heap.size 0) 1 1 [U (j:Int),U t] rfl rfl ?c1 ?c2 ?c3 ?c4 ?c5 ?_)
         case c1=>exact World.news_of_block (cs:=#[U (j:Int),U t]) (t:=70) (fr:=(0,0)) (qY wr _)
         case c2=>intro af hu;simp at hu;rcases hu with rfl|rfl<;>rfl
         case c3=>simp only[maxLen];omega
         case c4=>omega
         case c5=>simp;omega
         intro v' ag X a9 _;obtain⟨al,c4,rfl⟩:=B9 X;have aj:=O X;have a8:I (λk=>b.heap.size<=k) wr ag:=(I.alloc (λk=>b.heap.size<=k) wr (.cells #[U (j:Int),U t] 70)).trans (I.grown a9) (λk hk x=>(A9 a4.o k x.symm).1);have ah:Hid (I No b ag):=((u.o.mono (S':=λk=>b.heap.size<=k) (λ_ _ x=>x.elim)).trans a8 (λ_ _ x=>x)).mono (λk hk x=>by omega);clear X a9 a8;go_wp2_with fail
         go_roundw
         case rel=>exact⟨j+1,al,c4,by omega,by go_num,by rw[B.o,qQ,List.length_singleton],ah,(show World.ownsRow _ _ _ _ _ _ _ from by rw[B.o,E8c,qQ,List.length_singleton];exact aj.o)⟩
         case measure=>simp[intOf];omega
     · have ap:j=a.length:=by omega
       subst ap;have D:wr.heap[w.heap.size]? =some (.cells #[U 0,U 0] 26 (0,0)):=by
        rw[u.o.block _ G (λx=>x)];exact ai.o
       have E:wr.cell? (J w.heap.size 0)=some (U 0):=cr D rfl;have F:wr.cell? (J w.heap.size 1)=some (U 0):=cr D rfl;have gz:∀o,wr.frozen? (J w.heap.size o)=false:=λo=>frozen_of_row wr _ o _ _ D;have b1:=(ltG D);have q:I (λk=>k=w.heap.size) wr ((wr.setCell (J w.heap.size 0) (U 0)).setCell (J w.heap.size 1) (U 0)):=I.trans (I.set wr (J w.heap.size 0) _) (I.set _ (J w.heap.size 1) _) (λ_ _ x=>x);have M:=O (L.o _ g y ((i.o.trans (I.toBelow u.o (λ_ _ x=>x.elim) i.o.size)).trans (I.toBelow q (λk _ x=>by omega) (by omega))) (A4 (C9 C.o (by omega)) q (λam hg x=>by have:=(C.o.lt am hg).1;omega)));clear q D L;generalize (U3 a a.length).length=bl at *;go_wp2_with fail
       exact bodyPost_ret (v:= .tuple #[.slice g bl y,.agg #[U 0,U 0]]) (by simp[results,results17,go_sem,E,F]) rfl M.o
def asg(l:List (Int×Int)):Int->Option Int:=l.foldl (λf p=>λx=>if x=p.1 then some p.2 else f x) (λ_=>none)
theorem X2b(l:List (Int×Int))(p:Int×Int):asg (l++[p])=λx=>if x=p.1 then some p.2 else asg l x:=by
 unfold asg;rw[List.foldl_append];rfl
theorem E0b(b:uZ):∀j:Nat,asg (U3 b j)=λx=>if 0<=x/\x<(j:Int)/\b.getD x.toNat 0≠-1 then some (b.getD x.toNat 0) else none
 |0=>by
  funext x
  rw[yY (by omega)];rfl
 |j+1=>by
  funext x
  rw[U3];by_cases c:b.getD j 0≠-1
  · rw[rY c,X2b,E0b b j];by_cases d:x=(j:Int)
    · subst d;simp only;rw[rY trivial,rY ⟨by omega,by omega,by rw[tQ];exact c⟩,tQ]
    · simp only;rw[yY d];by_cases a:0<=x/\x<(j:Int)/\b.getD x.toNat 0≠-1
      · rw[rY a,rY ⟨a.1,by omega,a.2.2⟩]
      · rw[yY a,yY (λh=>a ⟨h.1,by omega,h.2.2⟩)]
  · rw[yY c,zY,E0b b j];simp only;by_cases a:0<=x/\x<(j:Int)/\b.getD x.toNat 0≠-1
    · rw[rY a,rY ⟨a.1,by omega,a.2.2⟩]
    · rw[yY a,yY (λh=>a ⟨h.1,by
       by_cases d:x=(j:Int)
       · subst d;rw[tQ]at h;exact absurd h.2.2 c
       · omega,h.2.2⟩)]
theorem F4e(c:Cx):asg (U3 c.ts c.N.length)=nmM c:=by
 rw[E0b];rfl
theorem W6b(a:uZ):∀(n:Nat) (p:Int×Int),p∈U3 a n->∃j:Nat,j<n/\p=((j:Int),a.getD j 0)/\a.getD j 0≠-1
 |0,p,h=>by simp[U3]at h
 |n+1,p,h=>by
  rw[U3,qW]at h;rcases h with h|h
  · obtain⟨j,d,c⟩:=W6b a n p h;exact⟨j,by omega,c⟩
  · by_cases b:a.getD n 0≠-1
    · rw[rY b]at h;simp only[zW]at h;exact⟨n,by omega,h,b⟩
    · rw[yY b]at h;simp at h
theorem Q3a{N:List Nd}{T:List Ty}{b c:List Nt}(h:Prgm N T b)(k:Prgm N T c):b=c:=by
 obtain⟨f,d⟩:=h.main;obtain⟨_,e⟩:=k.main;exact H4c (λp a=>⟨R5a p (h.wn p a).1,(h.wn p a).2⟩) (λp a=>⟨R5a p (k.wn p a).1,(k.wn p a).2⟩) d e
theorem L4c(c:Cx):∀(j:Nat) {e:Int} {i:Nat},Y8 c j= .inl (e,i)->e≠0
 |0,e,i,h=>by simp[Y8]at h
 |j+1,e,i,h=>by
  rw[Y8]at h;cases b:Y8 c j with
  |inl p=>
   obtain⟨d,g⟩:=p;rw[b]at h;simp only[ckS,Sum.inl.injEq,Prod.mk.injEq]at h;have:=L4c c j b;omega
  |inr f=>
   rw[b]at h;simp only[ckS]at h;cases a:ckN c f j with
   |inr o=>rw[a]at h;cases o<;>simp at h
   |inl d=>
    rw[a]at h;simp only[Sum.inl.injEq,Prod.mk.injEq]at h;obtain⟨rfl,_⟩:=h;unfold ckN at a;simp only at a;split at a
    · split at a
      · simp only[Sum.inl.injEq]at a;omega
      · split at a
        · simp only[Sum.inl.injEq]at a;omega
        · simp at a
    · split at a
      · simp only[Sum.inl.injEq]at a;omega
      · split at a
        · simp at a
        · simp only[Sum.inl.injEq]at a;omega
theorem E1e{c:Cx}{e:Int}{i:Nat}(h:ckP c= .inl (e,i)):e≠0:=L4c c _ h
def FtO(l:bZ)(a p:Int):Prop:=a≠0/\(PRes l (.inl (a,p))\/∃N T b,PRes l (.inr (N,T))/\Prgm N T b/\
 ((∃i,bnP b= .bad a i/\p=atI N i)\/∃d c i,bnP b= .ok d c/\ckP (cxP N T c)= .inl (a,i)/\p=atI N i))
def Okd(l:bZ)(N:List Nd)(T:List Ty)(a:List (Nat×Int))(d:Of):Prop:=
 ∃b c,PRes l (.inr (N,T))/\Prgm N T b/\bnP b= .ok c a/\ckP (cxP N T a)= .inr d
section
variable{l:bZ}{e p g f:Int}{N b:List Nd}{T a:List Ty}{c h:List (Nat×Int)}{d i:Of}
theorem FtO.one(n:FtO l e p)(k:FtO l g f):e=g/\p=f:=by
 obtain⟨_,n⟩:=n;obtain⟨_,k⟩:=k;rcases n with n|⟨N,T,ps,h1,h2,h3⟩
 · rcases k with k|⟨b,a,qs,k1,_⟩
   · have:=n.one k;simpa using this
   · have:=n.one k1;simp at this
 · rcases k with k|⟨b,a,qs,k1,k2,k3⟩
   · have:=k.one h1;simp at this
   · have q:=h1.one k1;simp only[Sum.inr.injEq,Prod.mk.injEq]at q;obtain⟨rfl,rfl⟩:=q;obtain rfl:=Q3a h2 k2;rcases h3 with ⟨t,a1,rfl⟩|⟨v,c,t,a1,r,rfl⟩
     · rcases k3 with ⟨j,m,rfl⟩|⟨s,u,j,m,o,rfl⟩
       · rw[a1]at m;simp only[Br.bad.injEq]at m;obtain⟨rfl,rfl⟩:=m;exact⟨rfl,rfl⟩
       · rw[a1]at m;simp at m
     · rcases k3 with ⟨j,m,rfl⟩|⟨s,u,j,m,o,rfl⟩
       · rw[a1]at m;simp at m
       · rw[a1]at m;simp only[Br.ok.injEq]at m;obtain⟨rfl,rfl⟩:=m;rw[r]at o;simp only[Sum.inl.injEq,Prod.mk.injEq]at o;obtain⟨rfl,rfl⟩:=o;exact⟨rfl,rfl⟩
theorem Okd.not(q:Okd l N T c d):¬FtO l e p:=by
 rintro⟨_,k⟩;obtain⟨x,u,o,r,j,s⟩:=q;rcases k with k|⟨b,a,qs,k1,k2,k3⟩
 · have:=k.one o;simp at this
 · have n:=o.one k1;simp only[Sum.inr.injEq,Prod.mk.injEq]at n;obtain⟨rfl,rfl⟩:=n;obtain rfl:=Q3a r k2;rcases k3 with ⟨t,a1,rfl⟩|⟨v,w,t,a1,m,rfl⟩
   · rw[a1]at j;simp at j
   · rw[a1]at j;simp only[Br.ok.injEq]at j;obtain⟨rfl,rfl⟩:=j;rw[s]at m;simp at m
theorem Okd.one(o:Okd l N T c d)(k:Okd l b a h i):N=b/\T=a/\c=h/\d=i:=by
 obtain⟨y,w,q,r,s,t⟩:=o;obtain⟨z,x,u,v,j,m⟩:=k;have n:=q.one u;simp only[Sum.inr.injEq,Prod.mk.injEq]at n;obtain⟨rfl,rfl⟩:=n;obtain rfl:=Q3a r v;rw[s]at j;simp only[Br.ok.injEq]at j;obtain⟨rfl,rfl⟩:=j;rw[t]at m;simp only[Sum.inr.injEq]at m;exact⟨rfl,rfl,rfl,m⟩
end
theorem Okd.anew{l:bZ}{N:List Nd}{T:List Ty}{b:List (Nat×Int)}{e:Of}{c:List Nt}(h:Okd l N T b e)(d:Prgm N T c)(o:(I1 0 (prL 0 c)).length<=4000):∃a,Okd (I1 0 (prL 0 c)) a T b e:=by
 obtain⟨a,g,i,j⟩:=d.back o;obtain⟨p,f,q,k,m,n⟩:=h;obtain rfl:=Q3a k d;exact⟨a,p,f,g,j,m,by rw[J7d T b i];exact n⟩
