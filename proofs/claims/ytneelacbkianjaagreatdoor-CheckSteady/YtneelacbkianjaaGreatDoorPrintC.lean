/-
  A part of the proof.
-/
import Derived.Sort.Grow
import Derived.Test.YtneelacbkianjaaGreatDoorPrintB
import Derived.Test.YtneelacbkianjaaGreatDoorPlainD
set_option maxHeartbeats 16000000
set_option maxRecDepth 100000
namespace Go.Proofs.YtneelacbkianjaaGreatDoor
open Go.RowKit
section
variable{B c:Nat}{b a:Value}{N:List Nd}{T:List Ty}
theorem P1d{a9:Nat}(am:∀ad (hi:ad<T.length),T[ad].list.length<=100000/\T[ad].fields.length<=1001)(G:PE B c b a N T a9)(hK:PB B c b a N T a9):PS B c b a N T (a9+1):=by
 intro ao an d hj q r au L aj hd hg ab ag m n ol l H;cases ao with
 |ty t0=>cases t0<;>simp[Nt.k]at ab
 |nd aq tx ar V=>
 simp only[Nt.k]at ab ag;rw[At]at m;obtain⟨j',e0,ap,e1,e2,e3,Z,S,X⟩:=m;have ej:j'=an:=by omega
 subst ej;rw[Gd]at hg;obtain⟨Y,ai⟩:=hg;rw[szN]at aj hd;generalize N[j']=nn at *;obtain⟨kd,h,i,z,s,j,k,o,t⟩:=nn;simp only at e1 e2 e3 S ol;subst e1 e2 e3;have K:kd=17\/kd=18\/kd=19\/kd=20\/kd=21\/kd=22\/kd=23\/kd=24\/kd=25:=by omega
 have D:∀aa∈V,Gd aa/\szN aa<=a9/\d+szN aa<=1000000:=λaa p=>by
  have u:=I3 p;exact⟨U1 ai p,by omega,by omega⟩
 clear ai aj hd ab ag;rcases K with rfl|rfl|rfl|rfl|rfl|rfl|rfl|rfl|rfl
 · obtain⟨x,y,p,u,F⟩:∃x y,V.map Nt.k=[x,y]/\isT x/\isE y:=by simpa[shp]using Y
   obtain⟨g,E,rfl,rfl,rfl⟩:=k2 p;obtain rfl:Z=[o,h]:=by simpa[J7]using S
   obtain⟨m,R⟩:=at2Q X;obtain⟨w,C,A⟩:=D g (by simp);obtain⟨P,W,M⟩:=D E (by simp);obtain⟨t0,rfl⟩:=E5a w u;exact A6a l n.sp.wrt 17 (by decide) (by decide) h i z s j k o t q r _ (W6 n l (λg L K f e v=>D4d e f.sp.wrt h i z s j k o t q r _ _ (F0d am f e m) (A9a G f e W M P F R) v)) H
 · obtain⟨x,p,u⟩:∃x,V.map Nt.k=[x]/\isE x:=by simpa[shp]using Y
   obtain⟨g,rfl,rfl⟩:=k1 p;obtain rfl:Z=[h]:=by simpa[J7]using S
   have m:=at1 X;obtain⟨w,C,A⟩:=D g (by simp);exact A6a l n.sp.wrt 18 (by decide) (by decide) h i z s j k o t q r _ (W6 n l (λg L K f e v=>D2d e f.sp.wrt h i z s j k o t q r _ (A9a G f e C A w u m) v)) H
 · obtain⟨x,y,p,u,F⟩:∃x y,V.map Nt.k=[x,y]/\isE x/\isE y:=by simpa[shp]using Y
   obtain⟨g,E,rfl,rfl,rfl⟩:=k2 p;obtain rfl:Z=[h,i]:=by simpa[J7]using S
   obtain⟨m,R⟩:=at2Q X;obtain⟨w,C,A⟩:=D g (by simp);obtain⟨P,W,M⟩:=D E (by simp);exact A6a l n.sp.wrt 19 (by decide) (by decide) h i z s j k o t q r _ (W6 n l (λg L K f e v=>D3d e f.sp.wrt h i z s j k o t q r _ _ (W6 f e (λa2 ak al a5 a4 ac=>R9b a4 a5.sp.wrt h j _ (Z4 G a5 a4 5 C A w u m) ac)) (A9a G f e W M P F R) v)) H
 · obtain⟨x,y,a3,p,u,F,h3⟩:∃x y a3,V.map Nt.k=[x,y,a3]/\isE x/\isE y/\isE a3:=by simpa[shp]using Y
   obtain⟨g,E,a7,rfl,rfl,rfl,rfl⟩:=k3 p;obtain rfl:Z=[h,i,z]:=by simpa[J7]using S
   obtain⟨m,R,hc⟩:=at3 X;obtain⟨w,C,A⟩:=D g (by simp);obtain⟨P,W,M⟩:=D E (by simp);obtain⟨gc,sc,dc⟩:=D a7 (by simp);exact A6a l n.sp.wrt 20 (by decide) (by decide) h i z s j k o t q r _ (W6 n l (λg L K f e v=>D5d e f.sp.wrt h i z s j k o t q r _ _ (W6 f e (λa2 ak al a5 a4 ac=>at_any' a4 a5.sp.wrt h i _ _ (Z4 G a5 a4 5 C A w u m) (A9a G a5 a4 W M P F R) ac)) (A9a G f e sc dc gc h3 hc) v)) H
 · obtain⟨x,p,u⟩:∃x,V.map Nt.k=[x]/\isE x:=by simpa[shp]using Y
   obtain⟨g,rfl,rfl⟩:=k1 p;obtain rfl:Z=[h]:=by simpa[J7]using S
   have m:=at1 X;obtain⟨w,C,A⟩:=D g (by simp);exact A6a l n.sp.wrt 21 (by decide) (by decide) h i z s j k o t q r _ (W6 n l (λg L K f e v=>C2c e f.sp.wrt h i z s j k o t q r _ (A9a G f e C A w u m) v)) H
 · obtain⟨x,a3,p,u,F⟩:∃x a3,V.map Nt.k=[x,26,a3]/\isE x/\(a3=26\/a3= -1):=by simpa[shp]using Y
   obtain⟨g,E,a7,rfl,rfl,a8,rfl⟩:=k3 p;obtain rfl:Z=[h,i,z]:=by simpa[J7]using S
   obtain⟨m,R,hc⟩:=at3 X;obtain⟨w,C,A⟩:=D g (by simp);obtain⟨P,W,M⟩:=D E (by simp);obtain⟨gc,sc,dc⟩:=D a7 (by simp);rcases F with F|F
   · have ah:=hc;cases a7 with
     |ty t0=>cases t0<;>simp[Nt.k]at F
     |nd ck af cn ae=>
     rw[At]at ah;obtain⟨jc,rfl,_⟩:=ah;have a6:pr d (.nd 22 j k [g,E,.nd ck af cn ae])=((([105,102]++[32,40])++pr d g++[41,32]++pr d E)++[32,101,108,115,101,32]++pr d (.nd ck af cn ae)):=by
      simp only[Nt.k]at F;subst F;simp[pr,prL,prS,c0,c1,c2,Nt.k]
     rw[a6]at H⊢;exact N4c l n.sp.wrt h i jc s j k o t q r _ _ (W6 n l (λg L K f e v=>Z2a e f.sp.wrt [105,102] 22 h i jc s j k o t q r _ _ (A9a G f e C A w u m) (R1a hK f e W M P a8 R) v)) (R1a hK n l sc dc gc F hc) H
   · obtain⟨t0,rfl⟩:=E5a gc (.inl F);cases t0 with
     |some t0=>simp[Nt.k]at F
     |none=>
     rw[At]at hc;subst hc;have a6:pr d (.nd 22 j k [g,E,.ty none])=([105,102]++[32,40])++pr d g++[41,32]++pr d E:=by
      simp[pr,prL,prS,c0,c1,c2,Nt.k]
     rw[a6]at H⊢;exact N8d l n.sp.wrt h i s j k o t q r _ (W6 n l (λg L K f e v=>Z2a e f.sp.wrt [105,102] 22 h i (-1) s j k o t q r _ _ (A9a G f e C A w u m) (R1a hK f e W M P a8 R) v)) H
 · obtain⟨x,p,u⟩:∃x,V.map Nt.k=[x,26]/\isE x:=by simpa[shp]using Y
   obtain⟨g,E,rfl,rfl,a8⟩:=k2 p;obtain rfl:Z=[h,i]:=by simpa[J7]using S
   obtain⟨m,R⟩:=at2Q X;obtain⟨w,C,A⟩:=D g (by simp);obtain⟨P,W,M⟩:=D E (by simp);have a6:pr d (.nd 23 j k [g,E])=([119,104,105,108,101]++[32,40])++pr d g++[41,32]++pr d E:=by
    simp[pr,prL,prS,c0,c1]
   rw[a6]at H⊢;exact Y8b l n.sp.wrt h i z s j k o t q r _ (W6 n l (λg L K f e v=>Z2a e f.sp.wrt [119,104,105,108,101] 23 h i z s j k o t q r _ _ (A9a G f e C A w u m) (R1a hK f e W M P a8 R) v)) H
 · obtain⟨x,p,u⟩:∃x,V.map Nt.k=[x]/\isE x:=by simpa[shp]using Y
   obtain⟨g,rfl,rfl⟩:=k1 p;obtain rfl:Z=[h]:=by simpa[J7]using S
   have m:=at1 X;obtain⟨w,C,A⟩:=D g (by simp);exact A6a l n.sp.wrt 24 (by decide) (by decide) h i z s j k o t q r _ (W6 n l (λg L K f e v=>T4b e f.sp.wrt h i z s j k o t q r _ (A9a G f e C A w u m) v)) H
 · obtain⟨x,p,u⟩:∃x,V.map Nt.k=[x]/\isE x:=by simpa[shp]using Y
   obtain⟨g,rfl,rfl⟩:=k1 p;obtain rfl:Z=[h]:=by simpa[J7]using S
   have m:=at1 X;obtain⟨w,C,A⟩:=D g (by simp);exact A6a l n.sp.wrt 25 (by decide) (by decide) h i z s j k o t q r _ (W6 n l (λg L K f e v=>R8d e f.sp.wrt h i z s j k o t q r _ (A9a G f e C A w u m) v)) H
theorem P7d{m:Nat}(v:PS B c b a N T m):PB B c b a N T (m+1):=by
 intro t i d w q K y o f l F s E;cases t with
 |ty M=>cases M<;>simp[Nt.k]at f
 |nd k P n g=>
 simp only[Nt.k]at f;subst f;rw[At]at l;obtain⟨j,rfl,D,R,S,V,L,z,u⟩:=l;rw[Gd]at o;obtain⟨G,C⟩:=o;rw[szN]at K y;have A:N[j].list=L:=by simpa[J7]using z
 have H:∀x∈g.map Nt.k,17<=x/\x<=25:=by simpa[shp]using G
 have W:=K4a g;refine V1d v j d D P n g w q (λp e=> ?_) (λp e=> ?_) (by rw[A];exact u) F s (by omega) (by omega) E
 · have r:=I3 e;have h:=H p.k (List.mem_map_of_mem e);exact⟨by omega,U1 C e,h.1,h.2⟩
 · have r:=I3 e;omega
theorem A1b(d:bZ):∀(n:Nat) (f:Nat->bZ),C3a d f (n+1)=d++f 0++C3a d (λj=>f (j+1)) n
 |0,f=>by simp[C3a]
 |n+1,f=>by
  rw[C3a,A1b d n f,C3a];simp
theorem H5b(g:bZ):∀(d:List Pc) (f:Nat->bZ),(∀j (h:j<d.length),f j=d[j].s)->C3a g f d.length=if d.length=0 then [] else g++U6 g d
 |[],_,_=>by simp[C3a]
 |[i],f,h=>by
  have e:=h 0 (by simp);simp at e;simp[C3a,U6,e]
 |i::k::r,f,h=>by
  have e:=h 0 (by simp);simp at e;rw[jQ,A1b,H5b g (k::r) (λj=>f (j+1)) (λj l=>by have:=h (j+1) (by simpa using l);simpa using this)];simp[U6,e]
theorem T5a(e:bZ)(d:List Pc)(f:Nat->bZ)(h:∀j (h:j<d.length),f j=d[j].s):L0 e f d.length=U6 e d:=by
 cases d with
 |nil=>simp[L0,U6]
 |cons k r=>
  have g:=h 0 (by simp);simp at g;rw[jQ,L9a,H5b e r (λj=>f (j+1)) (λj i=>by have:=h (j+1) (by simpa using i);simpa using this),g];cases r with
  |nil=>simp[U6]
  |cons l r=>simp[U6]
theorem K0d(w:lZ)(e:Array Obj):I No w (Go.Sort.grow w e):=⟨rfl,rfl,rfl,by simp,λk d _=>by simp[Go.Sort.grow,Array.getElem?_append,d]⟩
end
open Go.Proofs.Tryz
section
variable{B a:Nat}{c b:Value}{N:List Nd}{T:List Ty}
def PF(B a:Nat)(c b:Value)(N:List Nd)(T:List Ty)(m:Nat):Prop:=
 ∀(t:Nt) (j d:Nat) (h:j<N.length) (f:Option Addr) (g:Nat) (w:lZ) (e:bZ),szN t<=m->d+szN t<=1000000->Gd t->t.k=6->At N T t (j:Int)->Psp w B a c b d N T e->w.ownsRow 0 3 1 (.slice f N[j].list.length g) N[j].list.length (C8 N[j].list)->B<=w.heap.size->e.length+(pr d t).length<=100000000000000->
  Calls prog 176 #[pV a,ndv N[j] f g] w (D7 w B a c (pk b d) (e++pr d t))
def PO(B a:Nat)(c b:Value)(N:List Nd)(T:List Ty)(m:Nat):Prop:=
 ∀(t:Nt) (j d:Nat) (h:j<N.length) (f:Option Addr) (g:Nat) (w:lZ) (e:bZ),szN t<=m->d+szN t<=1000000->Gd t->t.k=10->At N T t (j:Int)->Psp w B a c b d N T e->w.ownsRow 0 3 1 (.slice f N[j].list.length g) N[j].list.length (C8 N[j].list)->B<=w.heap.size->e.length+(pr d t).length<=100000000000000->
  Calls prog 177 #[pV a,.slice f N[j].list.length g] w (D7 w B a c (pk b d) (e++pr d t))
theorem W9d{m d:Nat}(M:PE B a c b N T m){w:lZ}{A:bZ}(x:Psp w B a c b d N T A)(L:B<=w.heap.size)(i k:bZ)(f:List Nt)(g:uZ)(n:Option Addr)(o:Nat)(Z:w.ownsRow 0 3 1 (.slice n g.length o) g.length (C8 g))(r:AtL N T f g)(X:∀p∈f,szN p<=m/\d+szN p<=1000000/\Gd p/\isE p.k)(hn:f.length<=1000000):
 CCs w B a c (pk b d) 134 #[pV a,.string ⟨i.toArray⟩,.slice n g.length o,.string ⟨k.toArray⟩] (i++U6 [44,32] (prL d f)++k):=by
 have W:=F5a r;have R:(prL d f).length=f.length:=by rw[X7];simp
 have h:L0 [44,32] (λj=>((prL d f).getD j pc0).s) g.length=U6 [44,32] (prL d f):=by
  rw[W,<-R];exact T5a _ _ _ (λj h=>by simp[h])
 refine W6 x L (λa4 bs S y q u=> ?_);rw[<-h]at u⊢;refine X2c q y.sp.wrt i k n o g (λj=>((prL d f).getD j pc0).s) (by omega) (S.own x.sp.wrt Z (by decide) (by decide)) (λa2 V j h a5 P z C s Y v=> ?_) u;have l:j<f.length:=by omega
 obtain⟨F,G,H,K⟩:=X f[j] (mQ l);have e:((prL d f).getD j pc0).s=pr d f[j]:=by simp[X7,l]
 have t:=(V.trans (Wkp.still P)).trans s;simp only[e]at v⊢;refine(M f[j] g[j] d z C F G H K (D9b r j l h) (y.kept t Y) (kQ q t.size) v).mono ?_;rintro e w' ⟨rfl,D,E⟩;exact⟨rfl,s.trans D,E⟩
theorem P6d{ad:Nat}(b2:∀a7 (hi:a7<T.length),T[a7].list.length<=100000/\T[a7].fields.length<=1001)(b3:∀a7 (ap:a7<N.length),-9223372036854775808<=N[a7].n/\N[a7].n<=9223372036854775807)(hE:PE B a c b N T ad)(hF:PF B a c b N T (ad+1))(hO:PO B a c b N T (ad+1)):PE B a c b N T (ad+1):=by
 intro b6 a7 a6 ax w an hd hg he C h l X;cases b6 with
 |ty t0=>cases t0<;>simp[Nt.k,isE]at he
 |nd ac tx aw D=>
 have aj:=hg;have ah:=C;have ao:=an;have ai:=hd;simp only[Nt.k,isE]at he;rw[At]at C;obtain⟨j,rfl,y,e1,e2,e3,a3,hf,hL⟩:=C;rw[Gd]at hg;obtain⟨a8,z⟩:=hg;rw[szN]at an hd;obtain⟨na,nc,b8,S,c5,fz,Y,ar⟩:=h.cell;obtain⟨g,m,n,rfl,az,V,W,E,F,G,H,K,L,M,P,R,ol⟩:=ar j y;have b0:=az;have HF:ac=6->∀(a0:lZ) (aa:bZ),Wkp B a ax a0->Psp a0 B a c b a6 N T aa->B<=a0.heap.size->CCs a0 B a c (pk b a6) 176 #[pV a,ndv N[j] m n] (pr a6 (.nd ac tx aw D)):=λh6 a0 aa ak am ag=>W6 am ag (λf w v d e q=>hF _ j a6 y m n f w ao ai aj h6 ah d ((ak.trans v).own h.sp.wrt ol (by decide) (by decide)) e q);have HO:ac=10->∀(a0:lZ) (aa:bZ),Wkp B a ax a0->Psp a0 B a c b a6 N T aa->B<=a0.heap.size->CCs a0 B a c (pk b a6) 177 #[pV a,.slice m N[j].list.length n] (pr a6 (.nd ac tx aw D)):=λh6 a0 aa ak am ag=>W6 am ag (λf w v d e q=>hO _ j a6 y m n f w ao ai aj h6 ah d ((ak.trans v).own h.sp.wrt ol (by decide) (by decide)) e q);have al:=b3 j y;clear ar aj ah ao ai hF hO;generalize N[j]=nn at *;obtain⟨Z,k,r,s,o,i,p,u,t⟩:=nn;simp only[ndv]at e1 e2 e3 hf ol E F G H K L M P R HF HO al;subst e1 e2 e3;have v:Z=1\/Z=2\/Z=3\/Z=4\/Z=5\/Z=6\/Z=7\/Z=8\/Z=9\/Z=10\/Z=11\/Z=12\/Z=13\/Z=14:=by omega
 have a2:∀a4∈D,Gd a4/\szN a4<=ad/\a6+szN a4<=1000000:=λa4 A=>by
  have h1:=I3 A;exact⟨U1 z A,by omega,by omega⟩
 have av:D.length<=1000000:=by have:=K4a D;omega
 clear z an hd he;have z:=b0;rcases v with rfl|rfl|rfl|rfl|rfl|rfl|rfl|rfl|rfl|rfl|rfl|rfl|rfl|rfl
 · refine T2 l h.sp.wrt 1 (by decide) (by decide) (by decide) (by decide) (by decide) (by decide) g N.length nc j k r s o i p u t m n S y V W z Y E F G H K L M P R (Lib.itoa p) (W6 h l (λf w v d e q=>Z7b e d.sp.wrt k r s o i p u t m n _ (λb7 hc a' au=> ?_) q)) X;have ht:Tab a' B:=H5a (H5a d.tab hc (λ_ _ x=>x)) au (λac v x=>by have:=x.1;omega);refine(Tryz.strconv_Itoa p al.1 al.2 a' ht.1).mono ?_;rintro ae w' ⟨rfl,b5,os,rfl⟩;exact⟨rfl,(I.drewN No _ b5).trans (K0d _ os) (λ_ _ x=>x)⟩
 · exact T2 l h.sp.wrt 2 (by decide) (by decide) (by decide) (by decide) (by decide) (by decide) g N.length nc j k r s o i p u t m n S y V W z Y E F G H K L M P R ([34]++i++[34]) (W6 h l (λf w v d e q=>Q1b e d.sp.wrt k r s o i p u t m n q)) X
 · refine T2 l h.sp.wrt 3 (by decide) (by decide) (by decide) (by decide) (by decide) (by decide) g N.length nc j k r s o i p u t m n S y V W z Y E F G H K L M P R (Lib.formatBool (p==1)) (W6 h l (λf w v d e q=>Q3b e d.sp.wrt k r s o i p u t m n _ (λb7 hc a' au=> ?_) q)) X;refine(Tryz.strconv_FormatBool (p==1) a').mono ?_;rintro ae w' ⟨rfl,rfl⟩;exact⟨rfl,I.refl _ _⟩
 · exact T2 l h.sp.wrt 4 (by decide) (by decide) (by decide) (by decide) (by decide) (by decide) g N.length nc j k r s o i p u t m n S y V W z Y E F G H K L M P R [110,117,108,108] (W6 h l (λf w v d e q=>Q2b e d.sp.wrt k r s o i p u t m n q)) X
 · exact T2 l h.sp.wrt 5 (by decide) (by decide) (by decide) (by decide) (by decide) (by decide) g N.length nc j k r s o i p u t m n S y V W z Y E F G H K L M P R i (W6 h l (λf w v d e q=>Z5b e d.sp.wrt k r s o i p u t m n q)) X
 · exact T2 l h.sp.wrt 6 (by decide) (by decide) (by decide) (by decide) (by decide) (by decide) g N.length nc j k r s o i p u t m n S y V W z Y E F G H K L M P R _ (W6 h l (λf w v d e q=>N5c e d.sp.wrt k r s o i p u t m n _ (HF rfl f w v d e) q)) X
 · obtain⟨x,xs,A,h1,h2⟩:∃x xs,D.map Nt.k=x::xs/\isE x/\∀a5∈xs,isE a5:=by simpa[shp]using a8
   obtain⟨f,qs,rfl,rfl,rfl⟩:∃f qs,D=f::qs/\f.k=x/\qs.map Nt.k=xs:=by
    cases D with
    |nil=>simp at A
    |cons f qs=>simp at A;exact⟨f,qs,rfl,A.1,A.2⟩
   obtain rfl:a3=k::o:=by
    have af:k=a3.headD 0/\o=a3.tail/\1<=a3.length:=by simpa[J7]using hf
    cases a3 with
    |nil=>simp at af
    |cons a5 ys=>simp at af;rw[af.1,af.2]
   rw[AtL]at hL;obtain⟨i',js,ae,C,ay⟩:=hL;simp only[List.cons.injEq]at ae;obtain⟨rfl,rfl⟩:=ae;obtain⟨ga,sa,da⟩:=a2 f (by simp);exact R9c l h.sp.wrt g N.length nc j k r s o i p u t m n S y V W z Y E F G H K L M P R _ _ (Z4 hE h l 5 sa da ga h1 C) (W9d hE h l [40] [41] qs o m n ol ay (λa4 ab=>by obtain⟨g1,g2,g3⟩:=a2 a4 (by simp[ab]);exact⟨g2,g3,g1,h2 a4.k (List.mem_map_of_mem ab)⟩) (by simp at av;omega)) X
 · obtain⟨x,A,h1⟩:∃x,D.map Nt.k=[x]/\isE x:=by simpa[shp]using a8
   obtain⟨f,rfl,rfl⟩:=k1 A;obtain rfl:a3=[k]:=by simpa[J7]using hf
   have C:=at1 hL;obtain⟨ga,sa,da⟩:=a2 f (by simp);exact H8d l h.sp.wrt g N.length nc j k r s o i p u t m n S y V W z Y E F G H K L M P R _ (W6 h l (λf w v d e q=>R9b e d.sp.wrt k i _ (Z4 hE d e 5 sa da ga h1 C) q)) X
 · obtain⟨x,a5,A,h1,h2⟩:∃x a5,D.map Nt.k=[x,a5]/\isE x/\isE a5:=by simpa[shp]using a8
   obtain⟨f,a9,rfl,rfl,rfl⟩:=k2 A;obtain rfl:a3=[k,r]:=by simpa[J7]using hf
   obtain⟨C,hb⟩:=at2Q hL;obtain⟨ga,sa,da⟩:=a2 f (by simp);obtain⟨gb,sb,db⟩:=a2 a9 (by simp);exact T6d l h.sp.wrt g N.length nc j k r s o i p u t m n S y V W z Y E F G H K L M P R _ (W6 h l (λf w v d e q=>at_any' e d.sp.wrt k r _ _ (Z4 hE d e 5 sa da ga h1 C) (A9a hE d e sb db gb h2 hb) q)) X
 · exact T2 l h.sp.wrt 10 (by decide) (by decide) (by decide) (by decide) (by decide) (by decide) g N.length nc j k r s o i p u t m n S y V W z Y E F G H K L M P R _ (W6 h l (λf w v d e q=>Z6b e d.sp.wrt k r s o i p u t m n _ (HO rfl f w v d e) q)) X
 · have b4:∀x∈D.map Nt.k,isE x:=by simpa[shp]using a8
   obtain rfl:o=a3:=by simpa[J7]using hf
   exact T2 l h.sp.wrt 11 (by decide) (by decide) (by decide) (by decide) (by decide) (by decide) g N.length nc j k r s o i p u t m n S y V W z Y E F G H K L M P R _ (W6 h l (λf w v d e q=>Z8b e d.sp.wrt k r s o i p u t m n _ (W9d hE d e [91] [93] D o m n (v.own h.sp.wrt ol (by decide) (by decide)) hL (λa4 ab=>by obtain⟨g1,g2,g3⟩:=a2 a4 ab;exact⟨g2,g3,g1,b4 a4.k (List.mem_map_of_mem ab)⟩) av) q)) X
 · obtain⟨x,a5,A,h1,h2⟩:∃x a5,D.map Nt.k=[x,a5]/\isE x/\isE a5:=by simpa[shp]using a8
   obtain⟨f,a9,rfl,rfl,rfl⟩:=k2 A;obtain rfl:a3=[k,r]:=by simpa[J7]using hf
   obtain⟨C,hb⟩:=at2Q hL;obtain⟨ga,sa,da⟩:=a2 f (by simp);obtain⟨gb,sb,db⟩:=a2 a9 (by simp);have b9:1<=bnK 12 i/\bnK 12 i<=3:=by
    rw[bnK,yY (by decide),rY rfl];split
    · exact⟨by decide,by decide⟩
    · split<;>exact⟨by decide,by decide⟩
   exact H5d l h.sp.wrt g N.length nc j k r s o i p u t m n S y V W z Y E F G H K L M P R _ (W6 h l (λf w v d e q=>N4d e d.sp.wrt 12 k r s o i p u t m n _ _ (bnK 12 i:Int) ((if bnK 12 i=1 then 2 else bnK 12 i:Nat):Int) ((bnK 12 i+1:Nat):Int) rfl (by omega) (λap=>by rw[rY (by omega)];rfl) (λap=>by rw[yY (by omega)]) (by omega) (Z4 hE d e _ sa da ga h1 C) (Z4 hE d e _ sb db gb h2 hb) q)) X
 · obtain⟨x,A,h1⟩:∃x,D.map Nt.k=[x]/\isE x:=by simpa[shp]using a8
   obtain⟨f,rfl,rfl⟩:=k1 A;obtain rfl:a3=[k]:=by simpa[J7]using hf
   have C:=at1 hL;obtain⟨ga,sa,da⟩:=a2 f (by simp);exact H6d l h.sp.wrt g N.length nc j k r s o i p u t m n S y V W z Y E F G H K L M P R _ (W6 h l (λf w v d e q=>Q2d e d.sp.wrt 13 k r s o i p u t m n _ (Z4 hE d e 4 sa da ga h1 C) q)) X
 · obtain⟨x,A,h1⟩:∃x,D.map Nt.k=[x,0]/\isE x:=by simpa[shp]using a8
   obtain⟨f,a9,rfl,rfl,aq⟩:=k2 A;obtain rfl:a3=[k,u]:=by simpa[J7]using hf
   obtain⟨C,hb⟩:=at2Q hL;obtain⟨ga,sa,da⟩:=a2 f (by simp);obtain⟨gb,sb,db⟩:=a2 a9 (by simp);obtain⟨t0,rfl⟩:=E5a gb (.inr aq);cases t0 with
   |none=>simp[Nt.k]at aq
   |some t0=>
   rw[At]at hb;obtain⟨jt,rfl,b1,ht⟩:=hb;exact T7d l h.sp.wrt g N.length nc j k r s o i p (jt:Int) t m n S y V W z Y E F G H K L M P R _ _ (Z4 hE h l 5 sa da ga h1 C) (E9d b2 h l b1 ht) X
theorem P4d{m:Nat}(hE:PE B a c b N T m):PO B a c b N T (m+1):=by
 intro ao j d D S V b1 bs ag hd C k v n W hB G;cases ao with
 |ty o=>cases o<;>simp[Nt.k]at k
 |nd ay tx aj e=>
 simp only[Nt.k]at k;subst k;rw[At]at v;obtain⟨R,e0,av,e1,e2,e3,f,hf,u⟩:=v;have ej:R=j:=by omega
 subst ej;rw[Gd]at C;obtain⟨ae,a7⟩:=C;rw[szN]at ag hd;have a6:N[R].list=f:=by simpa[J7]using hf
 have af:∀x∈e.map Nt.k,x=15:=by simpa[shp]using ae
 rw[a6]at W⊢;have K:=F5a u;have A:(prL d e).length=e.length:=by rw[X7];simp
 have aw:e.length<=1000000:=by have:=K4a e;omega
 have a9:L0 [44,32] (λj=>((prL d e).getD j pc0).s) f.length=U6 [44,32] (prL d e):=by
  rw[K,<-A];exact T5a _ _ _ (λj D=>by simp[D])
 have a2:pr d (.nd 10 tx aj e)=if f.length=0 then [123,125] else [123,32]++L0 [44,32] (λj=>((prL d e).getD j pc0).s) f.length++[32,125]:=by
  rw[a9,K,<-A];rfl
 rw[a2]at G⊢;refine Y7c hB n.sp.wrt S V f (λj=>((prL d e).getD j pc0).s) (by omega) (λaq ar qx ql j F M t E hx ab H=> ?_) G;have h:j<e.length:=by omega
 have l:=mQ h;have L:=n.kept F M;have ad:=I3 l;have g:=U1 a7 l;have i:=af e[j].k (List.mem_map_of_mem l);have w:=D9b u j h E;have ep:((prL d e).getD j pc0).s=pr d e[j]:=by simp[X7,h]
 simp only[ep]at H⊢;have ak:=F.own n.sp.wrt W (by decide) (by decide);generalize e[j]=al at *;cases al with
 |ty o=>cases o<;>simp[Nt.k]at i
 |nd az b0 pn an=>
 simp only[Nt.k]at i;subst i;rw[At]at w;obtain⟨z,hz,P,q,r,s,am,X,pL⟩:=w;rw[Gd]at g;rw[szN]at ad;obtain⟨x,ac,h1⟩:∃x,an.map Nt.k=[x]/\isE x:=by simpa[shp]using g.1
 obtain⟨p,rfl,rfl⟩:=k1 ac;obtain⟨na,nc,au,c4,c5,fz,aa,y⟩:=L.cell;obtain⟨a3,ah,ai,rfl,a8,a4,a5,Z,x1,x2,x3,x4,x5,x6,x7,x8,-⟩:=y z P;clear y;generalize N[z]=nn at *;obtain⟨kd,Y,vb,vc,vl,ap,vn,vt,vp⟩:=nn;simp only at q r s X Z x1 x2 x3 x4 x5 x6 x7 x8;subst q r s;obtain rfl:am=[Y]:=by simpa[J7]using X
 have ax:szN p<=D8 [p]:=I3 (by simp);exact O7c t M j qx ql z S V f E hz hx ab ak a3 N.length nc 15 Y vb vc vl ap vn vt vp ah ai c4 P a4 a5 a8 aa Z x1 x2 x3 x4 x5 x6 x7 x8 _ (A9a hE L t (by omega) (by omega) g.2.1 h1 (at1 pL)) H
end
theorem atL_app{N:List Nd}{T:List Ty}:∀{e d:List Nt} {b:uZ},AtL N T (e++d) b->∃a c,b=a++c/\AtL N T e a/\AtL N T d c
 |[],d,b,h=>⟨[],b,rfl,by rw[AtL],h⟩
 |p::r,d,b,h=>by
  rw[vZ,AtL]at h;obtain⟨i,l,rfl,f,g⟩:=h;obtain⟨a,c,rfl,j,k⟩:=atL_app g;exact⟨i::a,c,rfl,by rw[AtL];exact⟨i,a,rfl,f,j⟩,k⟩
section
variable{B c:Nat}{b a:Value}{N:List Nd}{T:List Ty}
theorem P5d{m:Nat}(a6:∀i (hi:i<T.length),T[i].list.length<=100000/\T[i].fields.length<=1001)(hK:PB B c b a N T m):PF B c b a N T (m+1):=by
 intro b3 j d hj la lc be bs ax hd Z A S q ol s hl;cases b3 with
 |ty f=>cases f<;>simp[Nt.k]at A
 |nd ba tx ac ps=>
 simp only[Nt.k]at A;subst A;rw[At]at S;obtain⟨l,e0,b7,o,E,F,b9,X,hL⟩:=S;have ej:l=j:=by omega
 subst ej;rw[Gd]at Z;obtain⟨a8,a2⟩:=Z;rw[szN]at ax hd;obtain⟨D,r,n,ah,hr⟩:∃D r,ps.map Nt.k=D++[r,26]/\(∀x∈D,x=16)/\isT r:=by simpa[shp]using a8
 obtain⟨e,q2,rfl,rfl,au⟩:=List.map_eq_append_iff.1 n;obtain⟨ad,k,rfl,rfl,ai⟩:=k2 au;obtain⟨g,ab,rfl,P,R⟩:=atL_app hL;obtain⟨y,z,rfl⟩:∃y z,ab=[y,z]:=by
  have:=F5a R;match ab,this with
  |[y,z],_=>exact⟨y,z,rfl⟩
 obtain⟨aw,aj⟩:=at2Q R;have u:∀p∈e++[ad,k],Gd p/\szN p<=m/\d+szN p<=1000000:=λp n=>by
  have L:=I3 n;exact⟨U1 a2 n,by omega,by omega⟩
 have Y:N[l].list=g/\N[l].ty=y/\N[l].a=z:=by
  have h:N[l].list=(g++[y,z]).dropLast.dropLast/\N[l].ty=(g++[y,z]).dropLast.getLastD 0/\N[l].a=(g++[y,z]).getLastD 0/\2<=(g++[y,z]).length:=by simpa[J7]using X
  have o:g++[y,z]=(g++[y])++[z]:=by simp
  rw[o]at h;simp only[List.dropLast_concat,List.getLastD_concat]at h;exact⟨h.1,h.2.1,h.2.2.1⟩
 obtain⟨gr,sr,dr⟩:=u ad (by simp);obtain⟨gb,sb,db⟩:=u k (by simp);obtain⟨f,rfl⟩:=E5a gr hr;have ap:=F5a P;have am:(prL d e).length=e.length:=by rw[X7];simp
 have b8:e.length<=1000000:=by have:=K4a (e++[.ty f,k]);simp only[qQ]at this;omega
 have ao:L0 [44,32] (λj=>((prL d e).getD j pc0).s) g.length=U6 [44,32] (prL d e):=by
  rw[ap,<-am];exact T5a _ _ _ (λj hj=>by simp[hj])
 have af:pr d (.nd 6 tx ac (e++[.ty f,k]))=[102,110,40]++L0 [44,32] (λj=>((prL d e).getD j pc0).s) g.length++[41]++E6a (O2a d (.ty f))++[32]++pr d k:=by
  rw[ao];have o:prL d (e++[.ty f,k])=(prL d e++[O2a d (.ty f)])++[O2a d k]:=by simp[X7,O2a]
  show prE 6 tx ac (prL d (e++[.ty f,k]))=_;rw[o];simp[prE,O2a]
 rw[af]at hl⊢;clear a2 a8 X e0;generalize N[l]=C at *;obtain⟨kd,va,vb,vc,vl,ae,vn,vt,vp⟩:=C;simp only at o E F Y ol;obtain⟨rfl,rfl,rfl⟩:=Y;subst o E F;refine D2c s q.sp.wrt 6 va vb vc ae vn vt vp la lc vl (λj=>((prL d e).getD j pc0).s) _ _ (by omega) (λb4 b5 qx ql j a4 a9 M a3 hx ar a5=> ?_) (F0d a6 q s aw) (R1a hK q s sb db gb ai aj) hl;have v:j<e.length:=by omega
 have n:=mQ v;have a7:=q.kept a4 a9;have t:=(u e[j] (by simp[n])).1;have w:=ah e[j].k (List.mem_map_of_mem n);have V:=D9b P j v a3;have ep:((prL d e).getD j pc0).s=pr d e[j]:=by simp[X7,v]
 simp only[ep]at a5⊢;have b0:=a4.own q.sp.wrt ol (by decide) (by decide);generalize e[j]=p at *;cases p with
 |ty f=>cases f<;>simp[Nt.k]at w
 |nd bc bd pn b2=>
 simp only[Nt.k]at w;subst w;rw[At]at V;obtain⟨z,hz,aa,G,H,K,b1,pf,pL⟩:=V;rw[Gd]at t;obtain⟨x,av,L⟩:∃x,b2.map Nt.k=[x]/\isT x:=by simpa[shp]using t.1
 obtain⟨ex,rfl,rfl⟩:=k1 av;obtain⟨t1,rfl⟩:=E5a t.2.1 L;obtain⟨na,nc,b6,c4,c5,fz,aq,W⟩:=a7.cell;obtain⟨ag,ay,az,rfl,an,ak,al,x0,x1,x2,x3,x4,x5,x6,x7,x8,-⟩:=W z aa;clear W;generalize N[z]=C at *;obtain⟨bb,ua,ub,uc,ul,ux,un,ut,up⟩:=C;simp only at G H K pf x0 x1 x2 x3 x4 x5 x6 x7 x8;subst G H K;obtain rfl:b1=[ut]:=by simpa[J7]using pf
 exact U7b M a9 j qx ql z 6 va vb vc ae vn vt vp la lc vl a3 hz hx ar b0 ag N.length nc 16 ua ub uc ul ux un ut up ay az c4 aa ak al an aq x0 x1 x2 x3 x4 x5 x6 x7 x8 _ (F0d a6 a7 M (at1 pL)) a5
theorem I0b(e:∀i (p:i<T.length),T[i].list.length<=100000/\T[i].fields.length<=1001)(l:∀i (h:i<N.length),-9223372036854775808<=N[i].n/\N[i].n<=9223372036854775807):∀m,PE B c b a N T m/\PS B c b a N T m/\PB B c b a N T m
 |0=>⟨λt i d w g n=>by have:=E9a t;omega,λt j d q r s w g n=>by have:=E9a t;omega,λt i d w g n=>by have:=E9a t;omega⟩
 |m+1=>by
  obtain⟨f,o,k⟩:=I0b e l m;exact⟨P6d e l f (P5d e k) (P4d f),P1d e f k,P7d o⟩
end
section
variable{B wb:Nat}{a:Value}
theorem W7b{i:Wk}{w:lZ}{b:bZ}(h:Wrt w B wb a i b):
 Calls prog 13 #[pV wb] w λe j=>e= .returned (U (b.length:Int))/\j=w:=by
 obtain⟨p,v,d,_,f⟩:=h.blk;obtain⟨g,c,rfl⟩:=B9 f;have k:w.cell? (J wb 1)=some (.slice g b.length c):=by rw[cell_of_row w wb 1 _ _ _ d];exact M5a
 have l:=(ltG d);clear d f h;go_enter func13,ntmps13;go_wp2;go_ret;exact⟨rfl,rfl⟩
theorem W5b{w:lZ}{e:TypeId}{b:Array Value}(d:w.heap[wb]? =some (.cells b e (0,0)))(c:b[1]? =some (sN)):
 Calls prog 14 #[pV wb] w λe g=>e= .returned (.string ⟨#[]⟩)/\g=w.drew:=by
 have h:w.drew.cell? (J wb 1)=some (sN):=by
  have f:w.drew.heap[wb]? =_:=d;rw[cell_of_row w.drew wb 1 _ _ _ f];exact c
 have i:(Builtin.unsafeSliceData_ #[52] 90 #[sN]).run prog w.drew= .ok (.pointer none) w.drew:=Lib.run_unsafeSliceData_nil _ _ _ _ _;have j:(Builtin.unsafeString_ #[90,3] 9 #[.pointer none,U 0]).run prog w.drew= .ok (.string .empty) w.drew:=Lib.run_unsafeString_none _ _ _ _ _;clear d c;go_enter func14,ntmps14;go_wp2;go_region
 all_goals (go_wp2;go_ret;exact⟨rfl,rfl⟩)
theorem Z9a{l:Value}{N:List Nd}{T:List Ty}{d:Nat}(z:Nat)(k:z<N.length)(w:lZ)(i:bZ)(c:N[z].list=[])(f:Psp w B wb a l d N T i):
 Calls prog 12 #[pV wb,U (z:Int)] w λe m=>e=rT/\m=w:=by
 obtain⟨H,K,rfl,x,y,A,E,b⟩:=f.cell;obtain⟨g,F,G,rfl,D,C,j,n,o,p,q,h,r,s,t,u,-⟩:=b z k;unfold maxLen at j;rw[c]at h;simp only[xQ]at h;clear b f n o p q r s t u c;go_enter func12,ntmps12;go_wp2_with fail
 go_loopw [15] (λv wr=>v=U 0/\wr=w) (λ_ _=>0)
 case atStart=>exact⟨rfl,rfl⟩
 case round=>
  obtain⟨rfl,rfl⟩:=hrel;go_wp2_with fail
  go_end0;exact⟨rfl,rfl⟩
theorem P0d{w:lZ}{B:Nat}{c:Option Addr}{d:Nat}{b:Value}{N:List Nd}{T:List Ty}(e:B<=wb)(g:w.heap[wb]? =some (.cells #[.pointer none,sN,.slice c T.length d,.bool false,b,U 0] 58 (0,0)))(f:TsOk T)(l:TyOwn w 0 (.slice c T.length d) T)(h:NdOwn w 0 b N)(k:Tab w B):
 Psp w B wb (.slice c T.length d) b 0 N T []:=by
 obtain⟨p,m,n⟩:=l;obtain⟨o,i,j⟩:=h;refine⟨⟨⟨e,.pointer none,sN,g,.inl rfl,kW _ _ _ _⟩,f,p,m,n.imp (TyV.chg (I.refl No _) (λ_ _ _ x=>x.elim) (λ_ _ _=>trivial))⟩,⟨o,i,j.imp (NdV.chg (I.refl No _) (λ_ _ _ x=>x.elim) (λ_ _ _=>trivial))⟩,k⟩
end
structure Trd(N:List Nd)(T:List Ty)(ps:List Nt):Prop where
 ok:TsOk T
 ls:∀i (hi:i<T.length),T[i].list.length<=100000/\T[i].fields.length<=1001
 num:∀i (h:i<N.length),-9223372036854775808<=N[i].n/\N[i].n<=9223372036854775807
 main:∃h:N.length - 1<N.length,AtL N T ps N[N.length - 1].list
 gd:∀p∈ps,Gd p/\17<=p.k/\p.k<=25/\szN p<=1000000
 few:ps.length<=1000000/\N.length<=1200
 len:(I1 0 (prL 0 ps)).length<=1000000000000
def J2e(l:bZ)(w:lZ)(e:Ending)(c:lZ):Prop:=
 Below w.heap.size w c/\((∃b p,PRes l (.inl (b,p))/\e= .returned (.tuple #[.string ⟨#[]⟩,.agg #[U b,U p]]))\/
  ∃N T a,PRes l (.inr (N,T))/\Trd N T a/\((4000<(I1 0 (prL 0 a)).length/\e= .returned (.tuple #[.string ⟨#[]⟩,.agg #[U 2,U 0]]))\/
   ((I1 0 (prL 0 a)).length<=4000/\e= .returned (.tuple #[.string ⟨(I1 0 (prL 0 a)).toArray⟩,.agg #[U 0,U 0]]))))
theorem V6a{w b:lZ}{e:Nat}{v:Value}{T:List Ty}(h:TyOwn w e v T)(a:I No w b):TyOwn b 0 v T:=by
 obtain⟨f,c,d⟩:=h;exact⟨f,C9 (A4 c a (λ_ _ x=>x)) (wQ _),d.imp (TyV.chg a (λ_ _ _ x=>x.elim) (λ_ _ _=>wQ _))⟩
theorem T2b{w b:lZ}{e:Nat}{v:Value}{N:List Nd}(h:NdOwn w e v N)(a:I No w b):NdOwn b 0 v N:=by
 obtain⟨f,c,d⟩:=h;exact⟨f,C9 (A4 c a (λ_ _ x=>x)) (wQ _),d.imp (NdV.chg a (λ_ _ _ x=>x.elim) (λ_ _ _=>wQ _))⟩
theorem D0d{d:Nat}{a:List Nt}(h:a≠[]):I1 d (prL d a)≠[]:=by
 cases a with
 |nil=>exact absurd rfl h
 |cons p r=>simp[X7,I1]
theorem H9b(s:ByteArray)(w:lZ)(hs:s.size<=maxLen)(ht:Tab w w.heap.size)(hA:∀N T,PRes s.data.toList (.inr (N,T))->∃l,Trd N T l):Calls prog 7 #[.string s] w (J2e s.data.toList w):=by
 have HP:=O (λd=>T9a s d hs);go_enter func7,ntmps7;go_wp2_with fail
 refine(HP.o _).mono ?_;clear HP;rintro e d ⟨n,hr⟩;have S:w.heap.size<d.heap.size:=by have:=n.size;simp at this;omega
 have C:Hid (d.heap[w.heap.size]? =some (.cells #[U 0,U 0] 26 (0,0))):=by
  show _=_;rw[n.block w.heap.size (by simp)];exact qY w _
 have Z:=O (((Below.refl w.heap.size w).alloc (vQ _) (.cells #[U 0,U 0] 26)).trans (n.mono (by simp)));have a7:d.cell? (J w.heap.size 0)=some (U 0):=cr C.o rfl;have a8:d.cell? (J w.heap.size 1)=some (U 0):=cr C.o rfl;have pf:∀o,d.frozen? (J w.heap.size o)=false:=λo=>frozen_of_row d _ o _ _ C.o;rcases hr with ⟨D,p,k,rfl⟩|⟨N,T,b,c,f,g,k,rfl,hN,hT⟩
 · have ad:D≠0:=k.1;have ah:(D !=0)=true:=by simp[ad]
   have y:=O k;clear n k;go_wp2_with fail
   go_region
   all_goals go_wp2_with fail
   exact bodyPost_ret (v:= .tuple #[.string ⟨#[]⟩,.agg #[U D,U p]]) (by simp[results,results7,go_sem,a7,a8,S]) rfl ⟨((((Z.o.setCell (by simp) _).setCell (by simp) _).alloc (by simp;omega) _).alloc (by simp;omega) _).drew,.inl ⟨D,p,y.o,rfl⟩⟩
 · obtain⟨l,a5⟩:=hA N T k;have y:=O k;have h:=O a5;have ON:=O hN;have OT:=O hT;have TB:Hid (Tab d w.heap.size):=H5a (H5a ht (I.alloc No _ (.cells #[U 0,U 0] 26)) (λ_ _ x=>x)) (I.below n) (λaj hk x=>by simp at x;omega);clear n k a5 hN hT ht hA;have i:I No d (((d.alloc (.cells #[.slice b N.length c,.slice f T.length g,U ((N.length:Int) - 1)] 40)).alloc (.cells #[U 0,U 0] 26)).alloc (.cells #[.pointer none,sN,.slice f T.length g,.bool false,.slice b N.length c,U 0] 58)):=((I.alloc No _ _).trans (I.alloc No _ _) (λ_ _ x=>x)).trans (I.alloc No _ _) (λ_ _ x=>x);have G:(((d.alloc (.cells #[.slice b N.length c,.slice f T.length g,U ((N.length:Int) - 1)] 40)).alloc (.cells #[U 0,U 0] 26)).alloc (.cells #[.pointer none,sN,.slice f T.length g,.bool false,.slice b N.length c,U 0] 58)).heap[d.heap.size+1+1]? =some (.cells #[.pointer none,sN,.slice f T.length g,.bool false,.slice b N.length c,U 0] 58 (0,0)):=by
    have:=qY ((d.alloc (.cells #[.slice b N.length c,.slice f T.length g,U ((N.length:Int) - 1)] 40)).alloc (.cells #[U 0,U 0] 26)) (.cells #[.pointer none,sN,.slice f T.length g,.bool false,.slice b N.length c,U 0] 58);simpa using this
   have R:Tab (((d.alloc (.cells #[.slice b N.length c,.slice f T.length g,U ((N.length:Int) - 1)] 40)).alloc (.cells #[U 0,U 0] 26)).alloc (.cells #[.pointer none,sN,.slice f T.length g,.bool false,.slice b N.length c,U 0] 58)) (w.heap.size+1):=by
    obtain⟨t1,a9,t2,t3,t4⟩:=TB.o;exact H5a ⟨t1,a9,t2,by omega,t4⟩ i (λ_ _ x=>x)
   have r:=P0d (B:=w.heap.size+1) (by omega) G h.o.ok (V6a OT.o i) (T2b ON.o i) R;obtain⟨a6,L⟩:=h.o.main;have F:w.heap.size+1<=(((d.alloc (.cells #[.slice b N.length c,.slice f T.length g,U ((N.length:Int) - 1)] 40)).alloc (.cells #[U 0,U 0] 26)).alloc (.cells #[.pointer none,sN,.slice f T.length g,.bool false,.slice b N.length c,U 0] 58)).heap.size:=kQ (by omega) i.size;have q:(((d.alloc (.cells #[.slice b N.length c,.slice f T.length g,U ((N.length:Int) - 1)] 40)).alloc (.cells #[U 0,U 0] 26)).alloc (.cells #[.pointer none,sN,.slice f T.length g,.bool false,.slice b N.length c,U 0] 58)).heap[w.heap.size]? =some (.cells #[U 0,U 0] 26 (0,0)):=(i.block _ S (λx=>x)).trans C.o;have a2:=O (Z.o.trans (I.toBelow i (λ_ _ x=>x.elim) (by omega)));have em:((N.length - 1:Nat):Int)=(N.length:Int) - 1:=by omega
   have ag:=h.o.len;by_cases a4:l=[]
   · subst a4;have ac:N[N.length - 1].list=[]:=by rw[AtL]at L;exact L
     have j:=O (Z9a (N.length - 1) a6 _ [] ac r);rw[em]at j;have u:=O (W7b r.sp.wrt);have v:=O (W5b (wb:=d.heap.size+1+1) G rfl);have V:(((d.alloc (.cells #[.slice b N.length c,.slice f T.length g,U ((N.length:Int) - 1)] 40)).alloc (.cells #[U 0,U 0] 26)).alloc (.cells #[.pointer none,sN,.slice f T.length g,.bool false,.slice b N.length c,U 0] 58)).cell? (J w.heap.size 0)=some (U 0):=cr q rfl;have W:(((d.alloc (.cells #[.slice b N.length c,.slice f T.length g,U ((N.length:Int) - 1)] 40)).alloc (.cells #[U 0,U 0] 26)).alloc (.cells #[.pointer none,sN,.slice f T.length g,.bool false,.slice b N.length c,U 0] 58)).cell? (J w.heap.size 1)=some (U 0):=cr q rfl;have qf:∀o,(((d.alloc (.cells #[.slice b N.length c,.slice f T.length g,U ((N.length:Int) - 1)] 40)).alloc (.cells #[U 0,U 0] 26)).alloc (.cells #[.pointer none,sN,.slice f T.length g,.bool false,.slice b N.length c,U 0] 58)).frozen? (J w.heap.size o)=false:=λo=>frozen_of_row _ _ o _ _ q;have ae:w.heap.size<(((d.alloc (.cells #[.slice b N.length c,.slice f T.length g,U ((N.length:Int) - 1)] 40)).alloc (.cells #[U 0,U 0] 26)).alloc (.cells #[.pointer none,sN,.slice f T.length g,.bool false,.slice b N.length c,U 0] 58)).heap.size:=by omega
     clear r q G R F i a7 a8 pf S;go_wp2_with fail
     refine j.o.mono ?_;rintro e m ⟨rfl,rfl⟩;clear j;generalize (((d.alloc (.cells #[.slice b N.length c,.slice f T.length g,U ((N.length:Int) - 1)] 40)).alloc (.cells #[U 0,U 0] 26)).alloc (.cells #[.pointer none,sN,.slice f T.length g,.bool false,.slice b N.length c,U 0] 58))=m at *;go_wp2_with fail
     refine u.o.mono ?_;rintro e af ⟨rfl,rfl⟩;clear u;go_wp2_with fail
     refine v.o.mono ?_;rintro e A ⟨rfl,rfl⟩;clear v;go_wp2_with fail
     exact bodyPost_ret (v:= .tuple #[.string ⟨#[]⟩,.agg #[U 0,U 0]]) (by simp[results,results7,go_sem,V,W]) rfl ⟨((a2.o.drew).setCell (by simp) _).setCell (by simp) _,.inr ⟨N,T,[],y.o,h.o,.inr ⟨by simp[prL,I1],by simp[prL,I1]⟩⟩⟩
   · have j:=O (J5a (I0b h.o.ls h.o.num 1000000).2.1 (N.length - 1) 0 a6 l _ [] (λp P=>by obtain⟨g1,g2,g3,g4⟩:=h.o.gd p P;exact⟨g4,g1,g2,g3⟩) (λp P=>by have:=(h.o.gd p P).2.2.2;omega) L r F (by omega) h.o.few.1 (by simp;omega));rw[em]at j;have Y:Hid (∀a,Wkp (w.heap.size+1) (d.heap.size+1+1) (((d.alloc (.cells #[.slice b N.length c,.slice f T.length g,U ((N.length:Int) - 1)] 40)).alloc (.cells #[U 0,U 0] 26)).alloc (.cells #[.pointer none,sN,.slice f T.length g,.bool false,.slice b N.length c,U 0] 58)) a->a.heap[w.heap.size]? =some (.cells #[U 0,U 0] 26 (0,0))):=λa ha=>ha.other r.sp.wrt q (by decide) (by decide);have HL:=O (D0d (d:=0) a4);clear r q G R;generalize a3:I1 0 (prL 0 l)=B at *;have H:=O a3;clear a3;go_wp2_with fail
     refine j.o.mono ?_;rintro e m ⟨rfl,K,E⟩;rw[lY]at E;have t:=Y.o m K;have V:m.cell? (J w.heap.size 0)=some (U 0):=cr t rfl;have W:m.cell? (J w.heap.size 1)=some (U 0):=cr t rfl;have qf:∀o,m.frozen? (J w.heap.size o)=false:=λo=>frozen_of_row m _ o _ _ t;have ae:=(ltG t);have X:=O (a2.o.trans ((K.below F).mono (by omega)));have u:=O (W7b E);have v:=O (L2a E HL.o);have Q5:=O t;clear K E t j Y F i;go_wp2_with fail
     refine u.o.mono ?_;rintro e af ⟨rfl,rfl⟩;clear u;by_cases aa:4000<B.length
     · have ab:(4000:Int)<(B.length:Int):=by omega
       go_wp2_with fail
       exact bodyPost_ret (v:= .tuple #[.string ⟨#[]⟩,.agg #[U 2,U 0]]) (by simp[results,results7,go_sem,V,W]) rfl ⟨(X.o.setCell (by simp) _).setCell (by simp) _,.inr ⟨N,T,l,y.o,h.o,.inl ⟨by rw[H.o];exact aa,rfl⟩⟩⟩
     · have ab:¬(4000:Int)<(B.length:Int):=by omega
       go_wp2_with fail
       refine v.o.mono ?_;rintro e A ⟨rfl,M⟩;have z:=(M.block w.heap.size (by omega)).trans Q5.o;have r0:A.cell? (J w.heap.size 0)=some (U 0):=cr z rfl;have r1:A.cell? (J w.heap.size 1)=some (U 0):=cr z rfl;have rf:∀o,A.frozen? (J w.heap.size o)=false:=λo=>frozen_of_row A _ o _ _ z;have ai:=(ltG z);have B7:=O (X.o.trans (M.mono (by omega)));clear M z v;go_wp2_with fail
       exact bodyPost_ret (v:= .tuple #[.string ⟨B.toArray⟩,.agg #[U 0,U 0]]) (by simp[results,results7,go_sem,r0,r1]) rfl ⟨(B7.o.setCell (by simp) _).setCell (by simp) _,.inr ⟨N,T,l,y.o,h.o,.inr ⟨by rw[H.o];omega,by rw[H.o]⟩⟩⟩
abbrev wkw:Wk:=wkW false
theorem M5d(T:List Ty)(j:Nat):wtx wkw T j=txt' (tr T j):=by simp[wtx,wtr,wkW]
theorem M9d{w:lZ}{B a:Nat}{b:Option Addr}{c:Nat}{T:List Ty}(d:B<=a)(f:w.heap[a]? =some (.cells #[.pointer none,sN,.slice b T.length c,.bool false] 56 (0,0)))(e:TsOk T)(g:TyOwn w 0 (.slice b T.length c) T):
 Wsp w B a (.slice b T.length c) wkw T []:=by
 obtain⟨j,h,i⟩:=g;exact⟨⟨d,.pointer none,sN,by simpa[wkW]using f,.inl rfl,kW _ _ _ _⟩,e,j,h,i.imp (TyV.chg (I.refl No _) (λ_ _ _ x=>x.elim) (λ_ _ _=>trivial))⟩
theorem Q4b(s:ByteArray)(w:lZ)(V:s.size<=maxLen)(u:V3a s.data.toList (.inr btT)):
 Calls prog 8 #[.string s] w λe w'=>e= .returned (.tuple #[.string ⟨[110,117,109,32,124,32,116,101,120,116].toArray⟩,.agg #[U 0,U 0]])/\Below w.heap.size w w':=by
 have A:=O (λb=>U3c s b V);go_enter func8,ntmps8;go_wp2_with fail
 refine(A.o _).mono ?_;clear A;rintro e b ⟨m,S⟩;have W:w.heap.size<b.heap.size:=by have:=m.size;simp at this;omega
 have P:Hid (b.heap[w.heap.size]? =some (.cells #[U 0,U 0] 26 (0,0))):=by
  show _=_;rw[m.block w.heap.size (by simp)];exact qY w _
 have K:=O (((Below.refl w.heap.size w).alloc (vQ _) (.cells #[U 0,U 0] 26)).trans (m.mono (by simp)));rcases S with ⟨er,a4,n,rfl⟩|⟨T,c,d,n,rfl,D⟩
 · have:=P1b u n;cases this
 · obtain rfl:T=btT:=by
    have:=P1b u n;simpa using this
   have M:=O D;clear m n D u;have R:btT.length=3:=rfl;have g:I No b ((b.alloc (.cells #[U 0,U 0] 26)).alloc (.cells #[.pointer none,sN,.slice c btT.length d,.bool false] 56)):=(I.alloc No _ _).trans (I.alloc No _ _) (λ_ _ x=>x);have E:((b.alloc (.cells #[U 0,U 0] 26)).alloc (.cells #[.pointer none,sN,.slice c btT.length d,.bool false] 56)).heap[b.heap.size+1]? =some (.cells #[.pointer none,sN,.slice c btT.length d,.bool false] 56 (0,0)):=by
    have:=qY (b.alloc (.cells #[U 0,U 0] 26)) (.cells #[.pointer none,sN,.slice c btT.length d,.bool false] 56);simpa using this
   have F:=M9d (B:=w.heap.size+1) (by omega) E K3d.1 (V6a M.o g);have t:w.heap.size+1<=((b.alloc (.cells #[U 0,U 0] 26)).alloc (.cells #[.pointer none,sN,.slice c btT.length d,.bool false] 56)).heap.size:=kQ (by omega) g.size;have y:((b.alloc (.cells #[U 0,U 0] 26)).alloc (.cells #[.pointer none,sN,.slice c btT.length d,.bool false] 56)).heap[w.heap.size]? =some (.cells #[U 0,U 0] 26 (0,0)):=(g.block w.heap.size W (λx=>x)).trans P.o;have L:=O (K.o.trans (I.toBelow g (λ_ _ x=>x.elim) (by omega)));have C:wtx wkw btT 2=[110,117,109,32,124,32,116,101,120,116]:=by rw[M5d,K3d.2];decide
   have p:=O (J1a (bn:=wkw) (λi hi=>by
    have:i=0\/i=1\/i=2:=by omega
    rcases this with rfl|rfl|rfl<;>exact⟨by simp[btT],by simp[btT]⟩) 3 2 _ [] (by omega) (by omega) F t (by rw[C];decide))
   rw[C]at p;have z:Hid (∀a,Wkp (w.heap.size+1) (b.heap.size+1) ((b.alloc (.cells #[U 0,U 0] 26)).alloc (.cells #[.pointer none,sN,.slice c btT.length d,.bool false] 56)) a->a.heap[w.heap.size]? =some (.cells #[U 0,U 0] 26 (0,0))):=λa h=>by
    rw[h.block w.heap.size (ltG y) (λx=>by have:=x.1;omega)];exact y
   rw[R]at *;clear F y E;go_wp2_with fail
   refine p.o.mono ?_;rintro e k ⟨rfl,q,r⟩;rw[lY]at r;have f:=z.o k q;have X:k.cell? (J w.heap.size 0)=some (U 0):=cr f rfl;have Y:k.cell? (J w.heap.size 1)=some (U 0):=cr f rfl;have Z:∀o,k.frozen? (J w.heap.size o)=false:=λo=>frozen_of_row k _ o _ _ f;have a2:=(ltG f);have G:=O (L.o.trans ((q.below t).mono (by omega)));have B:=O (L2a r (by simp));have N:=O f;clear q r f p z t g;go_wp2_with fail
   refine B.o.mono ?_;rintro e l ⟨rfl,v⟩;have j:l.heap[w.heap.size]? =some (.cells #[U 0,U 0] 26 (0,0)):=by rw[v.block w.heap.size (by omega)];exact N.o
   have r0:l.cell? (J w.heap.size 0)=some (U 0):=cr j rfl;have r1:l.cell? (J w.heap.size 1)=some (U 0):=cr j rfl;have rf:∀o,l.frozen? (J w.heap.size o)=false:=λo=>frozen_of_row l _ o _ _ j;have a3:=(ltG j);have H:=O (G.o.trans (v.mono (by omega)));clear B v j X Y Z;go_wp2_with fail
   exact bodyPost_ret (v:= .tuple #[.string ⟨[110,117,109,32,124,32,116,101,120,116].toArray⟩,.agg #[U 0,U 0]]) (by simp[results,results8,go_sem,r0,r1]) rfl ⟨rfl,(H.o.setCell (by simp) _).setCell (by simp) _⟩
