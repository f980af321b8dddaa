/-
  A part of the proof.
-/
import Derived.Test.YteocidgdmjaffaaGreatDoorNodeA
import Derived.Test.YteocidgdmjaffaaGreatDoorFitB
import Derived.Shelf.Strings.Builder1
import Derived.Test.YteocidgdmjaffaaGreatDoorSrt
import Derived.Shelf.SlSortCmp.NoneTotal
import Derived.Lib.SliceRun
set_option maxHeartbeats 0
set_option linter.all false
set_option maxRecDepth 100000
namespace Go.Proofs.YteocidgdmjaffaaGreatDoor
open Go.Proofs.Tryz
open Go.RowKit Go.Maps
def bQ(B d:Nat)(w c:E):Prop:=I (λk=>B<=k/\(k=d\/∃a b,w.heap[k]?=some (.cells a 5 b))) w c
theorem bQ.refl(B a:Nat)(w:E):bQ B a w w:=I.refl _ _
theorem bQ.trans{B d:Nat}{a b c:E}(h:bQ B d a b)(k:bQ B d b c):bQ B d a c:=by
 refine⟨k.os.trans h.os,k.tape.trans h.tape,k.output.trans h.output,kQ h.size k.size,λi e f=>?_⟩;have g:=h.block i e f;refine(k.block i (yQ e h.size) (λx=>f ⟨x.1,?_⟩)).trans g;grind
theorem bQ.y{B b:Nat}{w a:E}(h:I No w a):bQ B b w a:=h.mono λ_ _ x=>x.elim
def bQ.below{B c:Nat}{w a:E}(h:bQ B c w a)(b:B<=w.heap.size):Below B w a:=I.ek h (λ_ _ x=>x.1) b
theorem bQ.set{B a:Nat}(b:B<=a)(w:E)(o:Nat)(v:Value):bQ B a w (w.setCell (J a o) v):=(I.set w _ v).mono λk _ x=>by
 grind
def bQ.row{B d:Nat}{w c:E}(i:bQ B d w c){a:Nat}{e:TypeId}{b:Nat}{v:Value}{n:Nat}{f:List Value}(h:w.ownsRow a e b v n f)(m:e≠5)(p:v.ownBlock≠some d):c.ownsRow a e b v n f:=by
 refine A3 h i λg j k=>?_;obtain rfl|⟨cs,fz,hh⟩:=k.2
 .grind
 .obtain⟨_,l,o⟩:=A9 h g j;grind
structure fF(w:E)(B wb:Nat)(tv:Value)(bn:Bool)(bs:Y):Prop where
 low:B<=wb
 eo:∃p v,w.heap[wb]?=some (.cells #[p,v,tv,.bool bn] 218 (0,0))/\(p=.pointer none\/p=pV wb)/\w.ownsRow B 5 1 v bs.length (Lib.byteCells bs)
theorem fF.y{w e:E}{B a:Nat}{tv:Value}{b:Bool}{c:Y}(h:fF w B a tv b c)(d:I No w e):fF e B a tv b c:=by
 obtain⟨f,p,v,g,j,i⟩:=h;exact⟨f,p,v,by rw[d.block a (aI g) (λx=>x)];omega,j,A3 i d (λ_ _ x=>x)⟩
def fF.nw{w:E}{B a:Nat}{d:Value}{c:Bool}{e:Y}(h:fF w B a d c e):w.cell? (J a 2)=some d/\w.cell? (J a 3)=some (.bool c)/\a<w.heap.size:=by
 obtain⟨f,p,v,b,i,g⟩:=h;exact⟨cr b rfl,cr b rfl,(aI b)⟩
def Tryz.ll:(prog.info? 216).map (·.size)=some 2:=by kernel_rfl
theorem Tryz.nk:liesAt prog prog.depth 218 (4/prog.cellsOf 218) 0 216 1=true:=by kernel_rfl
def Tryz.mu:(prog.info? 5).map (λi=>(i.zero,i.size,i.bytes))=some (some (.int .u8 0),1,1):=by kernel_rfl
def Tryz.ma:prog.cellsOf 5=1:=by kernel_rfl
def Au(b:Nat)(w:E)(d:w.cell? (J b 0)=some (pV b)):
 Calls prog 273 #[pV b] w λe c=>e=rT/\c=w:=by
 obtain⟨j,a,_⟩:=Option.map_eq_some_iff.1 Tryz.ll;go_in;go_wp2;rw[Lib.run_neq_ptr_same w _ underlying213 a];go_wp2;go_end0;simp
def Iz(b:Nat)(w:E)(f:w.cell? (J b 0)=some (.pointer none))(c:w.shape? b=some (218,4))(g:w.frozen? (J b 0)=false):
 Calls prog 273 #[pV b] w λe d=>e=rT/\d=w.setCell (J b 0) (pV b):=by
 obtain⟨j,a,h⟩:=Option.map_eq_some_iff.1 Tryz.ll;go_in;go_wp2;rw[Lib.run_to_unsafe w (J b 0) underlying213 underlying284 a (by omega) c (Nat.zero_lt_succ 3)];simp;rw[Oper.upon_value];go_wp2;rw[run_callFunc_extern func288 (by rfl) (by kernel_rfl) (by kernel_rfl) (by rfl)];rw[Lib.run_noEscape];simp;rw[Oper.upon_value];go_wp2;rw[Lib.run_from_unsafe w (J b 0) underlying284 underlying213 a c Tryz.nk];simp;rw[Oper.upon_value];go_wp2;go_end0;simp
def xk{w:E}{B a:Nat}{g:Value}{f:Bool}{d:Y}(h:fF w B a g f d):
 Calls prog 273 #[pV a] w λe b=>e=rT/\bQ B a w b/\b.heap.size=w.heap.size/\
  ∃v,b.heap[a]?=some (.cells #[pV a,v,g,.bool f] 218 (0,0))/\b.ownsRow B 5 1 v d.length (Lib.byteCells d):=by
 obtain⟨i,p,v,c,l,j⟩:=h;obtain rfl|rfl:=l
 .refine(Iz a w (cr c rfl) (by grind[World.shape?]) (frozen_of_row w a 0 _ _ c)).mono ?_;rintro e b ⟨rfl,rfl⟩;refine⟨rfl,bQ.set i w 0 _,by simp,v,by rw[heap_setCell_same w a 0 _ _ _ c];rfl,A3 j (I.set w (J a 0) _) λk n m=>?_⟩;have o:=m;grind[A9]
 .refine(Au a w (cr c rfl)).mono ?_;grind[bQ.refl]
def WU{w:E}{B a:Nat}{q:Value}{l:Bool}{m:Y}(h:fF w B a q l m)(s:ByteArray)(a7:m.length+s.size<=100000000000000)(a6:B<=w.heap.size):
 Calls prog 262 #[pV a,.string s] w λe D=>e=.returned (.tuple #[U s.size,.nilIface])/\bQ B a w D/\fF D B a q l (m++s.data.toList):=by
 obtain⟨i0,L,V,W,Z⟩:=info_parts Tryz.mu;have x:=h.low;have F:=O (xk h);go_in;go_wp2_with fail;refine F.u.mono ?_;rintro e a2 ⟨rfl,M,a9,v,p,R⟩;have N:=(aI p);have a3:a2.cell? (J a 1)=some v:=cr p rfl;have H:=O M;have t:=O p;have j:=O R;go_wp2_with (at_builtin;refine Lib.wpList_append_own_string _ rfl _ _ 214 9 rfl B 5 i0 underlying214 underlying9 L V W Z _ _ _ rfl j.u s rfl ?c3 ?c4 ?c5 ?_);case c3=>grind[maxLen]
 case c4=>omega
 case c5=>omega
 intro v' c A y _;have P:v.ownBlock≠some a:=by
  intro f;obtain⟨_,n,b⟩:=A9 j.u a f;rw[t.u]at b;simp only[zQ,xW]at b;exact absurd b.2.1 (by decide)
 have o:c.heap[a]?=some (.cells #[pV a,v,q,.bool l] 218 (0,0)):=by
  rw[y.block a N (λe=>P e.symm)];exact t.u
 have d1:c.cell? (J a 1)=some v:=cr o rfl;have a4:=frozen_of_row c a 1 _ _ o;obtain⟨g,i,d,rfl⟩:∃g i d,v'=.slice g i d:=by
  obtain⟨S,_⟩|⟨a5,d,n,S,_⟩:=A.2<;>grind
 have r:=O o;have u:=O A;have G:=O y;go_wp2;go_ret2;refine⟨rfl,?_,x,_,.slice g i d,by rw[heap_setCell_same c a 1 _ _ _ r.u];rfl,.inr rfl,?_⟩
 .refine(H.u.trans ?_).trans (bQ.set x c 1 _);refine(I.grown G.u).mono λk z f=>?_;obtain⟨a8,n,b⟩:=A9 j.u k f.symm;grind
 .have:=A3 u.u (I.set c (J a 1) (.slice g i d)) λk z f=>by
   have T:=f;subst T;obtain⟨_,n,b⟩:=A9 u.u k z;rw[r.u]at b;grind
  grind[Lib.byteCells_append,Lib.strCells_eq,bl]
def jS(a:List ByteArray):Y:=a.flatMap (λs=>s.data.toList)
def YI(a:List ByteArray){j:Nat}(b:j<a.length):jS (a.take (j+1))=jS (a.take j)++a[j].data.toList:=by
 unfold jS;grind[nQ]
def Wv(a:List ByteArray){j:Nat}(b:j<a.length):(jS (a.take j)).length+a[j].size<=(jS a).length:=by
 have c:=YI a b;grind[jS,List.take_append_drop,size,bl,qQ]
def JS{w:E}{B b:Nat}{m:Value}{f:Bool}{d:Y}(h:fF w B b m f d)(a:List ByteArray)(g:Nat)(n:Nat×Nat)(k:w.heap[g]?=some (.cells (a.map Value.string).toArray 9 n))(V:a.length<=1000)(S:d.length+(jS a).length<=100000000000000)(A:B<=w.heap.size):
 Calls prog 244 #[pV b,.slice (some (J g 0)) a.length a.length] w λe s=>e=rT/\bQ B b w s/\fF s B b m f (d++jS a):=by
 have q:=(aI k);have N:g≠b:=by
  intro G;subst G;obtain⟨p,v,i,_⟩:=h.eo;rw[k]at i;simp only[zQ,xW]at i;exact absurd i.2.1 (by decide)
 have u:Hid (∀wr,bQ B b w wr->wr.heap[g]?=some (.cells (a.map Value.string).toArray 9 n)):=by
  intro wr D;rw[D.block g q (λa2=>?_)]
  .omega
  .grind
 have H:=O h;clear h k;go_in;go_wp2_with fail;go_loopw [8] (λv wr=>∃(j:Nat),j<=a.length/\v=U (j:Int)/\Hid (fF wr B b m f (d++jS (a.take j)))/\Hid (bQ B b w wr)) (λv _=>a.length-(intOf v).toNat);case atStart=>exact⟨0,wQ _,rfl,by grind[jS],bQ.refl _ _ _⟩
 case round=>
  obtain⟨j,P,rfl,c,CR⟩:=hrel;by_cases l:j<a.length
  .have M:wr.cell? (J g j)=some (.string a[j]):=by
    rw[cell_of_row wr g j _ _ _ (u.u wr CR.u)];simp[l]
   have T:=yQ q CR.u.size;have R:=Wv a l;have W:=c.u.nw.2.2;have y:=O (YI a l);have z:=O (WU c.u a[j] (by grind) (kQ A CR.u.size));have t:=O CR.u;clear CR c;go_wp2_with fail;refine z.u.mono ?_;rintro e Z ⟨rfl,o,r⟩;have x:=O o;have L:=O r;clear o r;go_wp2;go_roundw;case rel=>exact⟨j+1,by omega,by go_num,by rw[y.u,<-List.append_assoc];omega,t.u.trans x.u⟩
   grind[intOf]
  .have F:j=a.length:=by omega
   subst F;rw[jZ]at*;go_wp2_with fail;go_end0;exact⟨rfl,CR.u,c.u⟩
structure jO(w:E)(B wb:Nat)(tv:Value)(bn:Bool)(T:List Ty)(bs:Y):Prop where
 jo:fF w B wb tv bn bs
 ok:aU T
 row:∃yx,w.ownsRow 0 81 4 tv T.length yx/\dS (dM w (λ_=>True)) T yx
def jO.kept{w f:E}{B a:Nat}{d:Value}{b:Bool}{T:List Ty}{q i:Y}(h:jO w B a d b T q)(m:bQ B a w f)(r:fF f B a d b i):jO f B a d b T i:=by
 obtain⟨z,s,A,n,y⟩:=h;obtain⟨p,v,D,_⟩:=z.eo;have H:∀k c e,w.heap[k]?=some (.cells c e (0,0))->(e=81\/e=137\/e=3)->¬(B<=k/\(k=a\/∃j l,w.heap[k]?=some (.cells j 5 l))):=by
  rintro k c e G F ⟨_,o|⟨j,l,o⟩⟩
  .grind
  .grind
 refine⟨r,s,A,A3 n m λg t x=>?_,y.imp (dM.P m (λg _ _ o u=>?_) (λ_ _ _=>trivial))⟩
 .obtain⟨_,c,u⟩:=A9 n g t;grind
 grind
theorem jO.y{w d:E}{B e:Nat}{tv:Value}{a:Bool}{T:List Ty}{b:Y}(h:jO w B e tv a T b)(c:I No w d):jO d B e tv a T b:=h.kept (bQ.y c) (h.jo.y c)
theorem jO.cell{w:E}{B b:Nat}{l:Value}{d:Bool}{T:List Ty}{m:Y}(h:jO w B b l d T m):∃a c,l=.slice a T.length c/\w.cell? (J b 2)=some (.slice a T.length c)/\w.cell? (J b 3)=some (.bool d)/\b<w.heap.size/\
 ∀i (t:i<T.length),∃g e f j k,a=some (J g 0)/\g<w.heap.size/\T.length<=c/\c<=maxLen/\w.cell? (J g (i*4))=some (U T[i].x)/\w.cell? (J g (i*4+1))=some (.slice e T[i].ej.length f)/\w.cell? (J g (i*4+2))=some (.slice j T[i].M.length k)/\
  w.cell? (J g (i*4+3))=some (U T[i].ew)/\w.ownsRow 0 137 2 (.slice e T[i].ej.length f) T[i].ej.length (G0 T[i].ej)/\w.ownsRow 0 3 1 (.slice j T[i].M.length k) T[i].M.length (C7 T[i].M):=by
 obtain⟨o,s,v,n,u⟩:=h;obtain⟨a,c,rfl⟩:=B8 n;obtain⟨p,q,r⟩:=o.nw;grind[YV]
def Lj(k:Int)(c:1<=k)(d:k<=6)(w:E):Calls prog 248 #[U k] w λe b=>e=.returned (.string ⟨(mG k).toArray⟩)/\b=w:=by
 have a:k=1\/k=2\/k=3\/k=4\/k=5\/k=6:=by omega
 obtain rfl|rfl|rfl|rfl|rfl|rfl:=a<;>
 .go_in;go_wp2;go_ret;exact⟨rfl,rfl⟩
def qD(k:Int)(a:Bool):Bool:=decide (k=10)||(decide (k=9)&&!a)
def Sy{w:E}{B f:Nat}{p:Value}{j:Bool}{T:List Ty}{l:Y}(h:jO w B f p j T l)(i:Nat)(o:i<T.length)(a:Bool):
 Calls prog 264 #[pV f,U (i:Int),.bool a] w λe q=>e=.returned (.bool (qD T[i].x a))/\q=w:=by
 obtain⟨r,c,rfl,s,t,z,n⟩:=h.cell;obtain⟨g,u,v,A,D,rfl,y,x,m,F,G,H,L,-,-⟩:=n i o;unfold maxLen at m;generalize T[i].x=k at*;by_cases b:k=10
 .subst b;go_in;go_wp2;go_ret;exact⟨rfl,rfl⟩
 .by_cases d:k=9
  .subst d;cases a<;>
   .go_in;go_wp2;go_ret;exact⟨rfl,rfl⟩
  .have e:qD k a=false:=by simp[qD,b,d]
   rw[e];go_in;go_wp2;go_ret;refine⟨?_,rfl⟩;show Ending.returned (Value.bool (k==10))=_;grind
def jX(a:Bool)(t:Tr):Tr:=if a then gO t else t
def cZ(a:Bool)(T:List Ty)(i:Nat):Y:=bO (jX a (tr T i))
def U1(w:E)(B b:Nat)(f:Value)(c:Bool)(d:Y)(e:Ending)(a:E):Prop:=e=rT/\bQ B b w a/\fF a B b f c d
def uK(B c:Nat)(d:Value)(a:Bool)(T:List Ty)(m:Nat):Prop:=∀(i:Nat) (w:E) (b:Y),i+1<=m->i<T.length->jO w B c d a T b->B<=w.heap.size->b.length+(cZ a T i).length<=100000000000000->
 Calls prog 226 #[pV c,U (i:Int)] w (U1 w B c d a (b++cZ a T i))
def bQ.other{w d:E}{B f:Nat}{l:Value}{g:Bool}{i:Y}(j:bQ B f w d)(k:fF w B f l g i){q:Nat}{a:Array Value}{e:TypeId}{b:Nat×Nat}(h:w.heap[q]?=some (.cells a e b))(n:e≠5)(o:e≠218):d.heap[q]?=some (.cells a e b):=by
 rw[j.block q (aI h) (λx=>?_)]
 .omega
 .obtain c|⟨cs2,f2,c⟩:=x.2
  .subst c;obtain⟨p,v,m,_⟩:=k.eo;grind
  grind
theorem bQ.own{w d:E}{B a:Nat}{o:Value}{g:Bool}{i:Y}(j:bQ B a w d)(l:fF w B a o g i){b c n:Nat}{e:TypeId}{v:Value}{f:List Value}(h:w.ownsRow b e c v n f)(k:e≠5)(s:e≠218):d.ownsRow b e c v n f:=by
 refine j.row h k λm=>?_;obtain⟨_,q,t⟩:=A9 h a m;obtain⟨p,v,r,_⟩:=l.eo;grind
section
variable{B b:Nat}{c:Value}{a:Bool}{T:List Ty}{m:Nat}
def Wc(u:uK B b c a T m)(w:E)(f:Y)(h:jO w B b c a T f)(x:B<=w.heap.size)(k s r:Nat)(P v o:Value)(p:Option Addr)(q:Nat)(d:bZ)(y:k<d.length)(z:Nat)(L:d[k]=(z:Int))(N:z+1<=m)(M:z<T.length)(D:f.length+(cZ a T z).length<=100000000000000)
 (H:w.heap[s]?=some (.cells #[pV b] 212 (0,0))) (G:w.heap[r]?=some (.cells #[P,v,.slice p d.length q,o] 81 (0,0))) (F:w.ownsRow 0 3 1 (.slice p d.length q) d.length (C7 d)):
 Calls prog 246 #[U (k:Int),pV s,pV r] w (U1 w B b c a (f++cZ a T z)):=by
 have t:Hid (∀i,I No w i->Calls prog 226 #[pV b,U z] i (U1 w B b c a (f++cZ a T z))):=by
  intro i n;refine(u z i f N M (h.y n) (kQ x n.size) D).mono ?_;rintro e w' ⟨rfl,j,l⟩;exact⟨rfl,(bQ.y n).trans j,l⟩
 have S:w.cell? (J s 0)=some (pV b):=cr H rfl;have V:w.cell? (J r 2)=some (.slice p d.length q):=cr G rfl;obtain⟨g,rfl,W,Z,A,R⟩:=D6 F y;rw[L]at R;unfold maxLen at A;generalize cZ a T z=tx at*;go_in;go_wp2;go_region_with ((go_at_call 226;refine(t.u _ (I.drewN _ _ 1)).mono ?_;rintro e a2 ⟨rfl,j,l⟩));all_goals
  go_wp2;go_end0;exact⟨rfl,j,l⟩
def rO(a:Bool)(T:List Ty)(z:Nat)(d:Bool):Y:=if d then [40]++cZ a T z++[41] else cZ a T z
def Hu(IH:uK B b c a T m)(w:E)(q:Y)(h:jO w B b c a T q)(ad:B<=w.heap.size)(k A y:Nat)(x:Option Addr)(P:Nat)(f:bZ)(H:k<f.length)(z:Nat)(hz:f[k]=(z:Int))(af:z+1<=m)(a9:z<T.length)(o:Bool)(a4:o=qD T[z].x (decide (k+1=f.length)))(a5:q.length+(rO a T z o).length<=100000000000000)
 (hx:w.heap[A]?=some (.cells #[pV b] 212 (0,0))) (ht:w.heap[y]?=some (.cells #[.slice x f.length P] 54 (0,0))) (v:w.ownsRow 0 3 1 (.slice x f.length P) f.length (C7 f)):
 Calls prog 263 #[U (k:Int),pV A,pV y] w (U1 w B b c a (q++rO a T z o)):=by
 have ag:(k==IntKind.i64.wrap (f.length-1))=decide (k+1=f.length):=by
  obtain⟨_,_,_,ae,L,_⟩:=D6 v H;unfold maxLen at L;have e:IntKind.i64.wrap (f.length-1)=f.length-1:=by
   simp[IntKind.wrap,IntKind.bits,IntKind.signed];omega
  rw[e,Bool.eq_iff_iff];simp;omega
 have FN:Hid (∀n R,R=decide (k+1=f.length)->Calls prog 264 #[pV b,U z,.bool R] (w.drewN n) λe S=>e=.returned (.bool o)/\S=w.drewN n):=by
  intro n R u;rw[a4,u];exact Sy (h.y (I.drewN _ _ _)) z a9 _
 have W:Hid (∀d i,bQ B b w d->fF d B b c a i->i.length+(cZ a T z).length<=100000000000000->Calls prog 226 #[pV b,U z] d (U1 w B b c a (i++cZ a T z))):=by
  intro d i j M u;refine(IH z d i af a9 (h.kept j M) (kQ ad j.size) u).mono ?_;rintro e S ⟨rfl,l,p⟩;exact⟨rfl,j.trans l,p⟩
 have V:Hid (∀d i (t:UInt8),bQ B b w d->fF d B b c a i->i.length+1<=100000000000000->Calls prog 244 #[pV b,.slice (some (J d.heap.size 0)) 1 1] (d.alloc (.cells #[.string ⟨#[t]⟩] 9)) (U1 w B b c a (i++[t]))):=by
  intro d i t j M u;refine(JS (M.y (I.alloc _ _ _)) [⟨#[t]⟩] d.heap.size (0,0) (yY d _) (by simp) (by grind[jS]) (by simp;have:=j.size;omega)).mono ?_;rintro e S ⟨rfl,l,p⟩;exact⟨rfl,(j.trans (bQ.y (I.alloc _ _ _))).trans l,by grind[jS]⟩
 have s:Hid (∀d,bQ B b w d->d.cell? (J A 0)=some (pV b)/\d.cell? (J y 0)=some (.slice x f.length P)/\A<d.heap.size/\y<d.heap.size/\∀g,x=some (J g 0)->g<d.heap.size/\d.cell? (J g k)=some (U z)):=by
  intro d j;have a8:=j.other h.jo hx (by decide) (by decide);have a6:=j.other h.jo ht (by decide) (by decide);refine⟨cr a8 rfl,cr a6 rfl,(aI a8),(aI a6),λg hg=>?_⟩;obtain⟨g',e,G,_,_,ab⟩:=D6 (j.own h.jo v (by decide) (by decide)) H;rw[hg]at e;cases e;rw[hz]at ab;exact⟨G,ab⟩
 obtain⟨g,rfl,hg,ae,L,y0⟩:=D6 v H;have HW:=O h.jo;unfold maxLen at L;have ah:(k:Int)<(f.length:Int):=by omega
 obtain⟨a2,a3,-,-,r⟩:=s.u w (bQ.refl _ _ _);have y1:=(r g rfl).2;clear h hx ht v hz y0 r a4;have a7:Hid (rO a T z o=if o then [40]++cZ a T z++[41] else cZ a T z):=rfl;generalize rO a T z o=tx at*;generalize cZ a T z=tz at*;go_in;go_wp2_with fail;go_quiet ((go_at_call 264;refine Calls.quiet_of_same (FN.u _ _ ?_);rfl));cases o
 .have e:=a7.u;simp only[wZ,if_false]at e;subst e;obtain⟨a2,a3,l1,l2,r⟩:=s.u _ (bQ.y (I.drewN No w nq));obtain⟨G,y1⟩:=r g rfl;go_wp2_with fail;go_region_with ((go_at_call 226;refine(W.u _ q ?_ ?_ a5).mono ?_;exact bQ.y (I.drewN No w _);exact HW.u.y (I.drewN No w _);rintro e D ⟨rfl,l,p⟩));all_goals
   go_wp2;go_end0;exact⟨rfl,l,p⟩
 .have e:=a7.u;simp only[if_true]at e;subst e;simp only[qQ,jQ,xQ]at a5;have N:bQ B b w (w.drewN nq):=bQ.y (I.drewN No w nq);obtain⟨a2,a3,l1,l2,r⟩:=s.u _ N;have Z:=O (V.u (w.drewN nq) q 40 N (HW.u.y (I.drewN No w nq)) (by omega));clear r N;go_wp2_with fail;refine Z.u.mono ?_;rintro e D ⟨rfl,l,p⟩;obtain⟨d1,d2,m1,m2,d3⟩:=s.u D l;obtain⟨G,y2⟩:=d3 g rfl;have H1:=O l;have H2:=O p;clear l p d3 Z;go_wp2_with fail;go_region_with ((go_at_call 226;refine(W.u _ (q++[40]) (H1.u.trans (bQ.y (I.drewN No D 1))) (H2.u.y (I.drewN No D 1)) (by grind)).mono ?_;rintro e aa ⟨rfl,F,h4⟩));all_goals
   obtain⟨d4,-,m4,-,-⟩:=s.u aa F;have ac:=O (V.u aa _ 41 F h4 (by grind));clear F h4;go_wp2_with fail;refine ac.u.mono ?_;rintro e ai ⟨rfl,h5,h6⟩;go_wp2;go_end0;exact⟨rfl,h5,by grind⟩
end
def V8(a:Y)(f:Nat->Y):Nat->Y
 |0=>[]
 |n+1=>V8 a f n++((if n=0 then [] else a)++f n)
def We(a:Y)(f:Nat->Y){j n:Nat}(h:j<=n):(V8 a f j).length<=(V8 a f n).length:=by
 induction n<;>grind[V8]
theorem YG(a:Y)(f:Nat->Y)(j:Nat):V8 a f (j+1)=V8 a f j++((if j=0 then [] else a)++f j):=rfl
section
variable{B a:Nat}{c:Value}{b:Bool}
def XH(p:Nat)(V:∀(F:Array Value) (W:E),(callFunc p F).run prog W=.ok (.enter p F) W)(w:E)(o:Y)(h:fF w B a c b o)(R:B<=w.heap.size)(n:Nat)(hn:n<=1000000000)(d:ByteArray)(G H:Value)(f:Nat->Y)(a2:o.length+(V8 d.data.toList f n).length<=100000000000000)
 (z:∀(s:E) (j:Nat) (t:Y),bQ B a w s->fF s B a c b t->j<n->t.length+(f j).length<=100000000000000->Calls prog p #[U (j:Int),G,H] s (U1 w B a c b (t++f j))):
 Calls prog 245 #[pV a,U (n:Int),.string d,.func (.func p) #[] #[G,H]] w (U1 w B a c b (o++V8 d.data.toList f n)):=by
 have T:=O h;have A:=O z;have N:Hid (d.data.toList.length=d.size):=bl d;clear h z;go_in;go_wp2_with fail;go_loopw [10] (λv wr=>∃(j:Nat),j<=n/\v=U (j:Int)/\Hid (fF wr B a c b (o++V8 d.data.toList f j))/\Hid (bQ B a w wr)) (λv _=>n-(intOf v).toNat);case atStart=>exact⟨0,wQ _,rfl,by grind[V8],bQ.refl _ _ _⟩
 case round=>
  obtain⟨j,Z,rfl,k,CR⟩:=hrel;by_cases x:j<n
  .have l:=We d.data.toList f (show j+1<=n from x);have m:=O (YG d.data.toList f j);rw[YG]at l;simp only[qQ]at l;have a4:=k.u.nw.2.2;by_cases u:j=0
   .have q:=O (A.u wr j _ CR.u k.u x (by grind));simp only[u,if_true,bY]at m;subst u;have y:=O CR.u;clear CR k l;go_wp2_with fail;refine q.u.mono ?_;rintro e L ⟨rfl,g,i⟩;have r:=O g;have P:=O i;clear g i;go_wp2;go_roundw;case rel=>exact⟨0+1,by omega,by go_num,by rw[m.u,<-List.append_assoc];omega,r.u⟩
    grind[intOf]
   .simp only[u,if_false]at m l;have a3:(0:Int)<(j:Int):=by omega
    have D:=O (WU k.u d (by have:=N.u;grind) (kQ R CR.u.size));have y:=O CR.u;have M:=O l;clear CR k l;go_wp2_with fail;refine D.u.mono ?_;rintro e L ⟨rfl,g,i⟩;have q:=O (A.u L j _ (y.u.trans g) i x (by have:=M.u;grind));clear g i D;go_wp2_with fail;refine q.u.mono ?_;rintro e a5 ⟨rfl,g,i⟩;have r:=O g;have P:=O i;clear g i;go_wp2;go_roundw;case rel=>exact⟨j+1,by omega,by go_num,by rw[m.u];grind,r.u⟩
    grind[intOf]
  .have S:j=n:=by omega
   subst S;go_wp2_with fail;go_end0;exact⟨rfl,CR.u,k.u⟩
end
section
variable{B b:Nat}{c:Value}{a:Bool}{T:List Ty}{m:Nat}
def nS(a:Bool)(T:List Ty)(d:bZ)(j:Nat):Y:=rO a T (d.getD j 0).toNat (qD (T.getD (d.getD j 0).toNat ty0).x (decide (j+1=d.length)))
def Hz(A:uK B b c a T m)(w:E)(l:Y)(h:jO w B b c a T l)(s:B<=w.heap.size)(i:Option Addr)(k:Nat)(d:bZ)(W:d.length<=100000000)(G:∀x∈d,0<=x/\x<T.length/\x+1<=m)(L:w.ownsRow 0 3 1 (.slice i d.length k) d.length (C7 d))(H:l.length+(V8 [32,124,32] (nS a T d) d.length).length<=100000000000000):
 Calls prog 247 #[pV b,.slice i d.length k] w (U1 w B b c a (l++V8 [32,124,32] (nS a T d) d.length)):=by
 have y:Hid (∀f,f=(w.alloc (.cells #[pV b] 212)).alloc (.cells #[.slice i d.length k] 54)->Calls prog 245 #[pV b,U d.length,.string ⟨#[32,124,32]⟩,.func (.func 263) #[] #[pV w.heap.size,pV (w.heap.size+1)]] f (U1 w B b c a (l++V8 [32,124,32] (nS a T d) d.length))):=by
  intro f r;have p:I No w f:=by subst r;exact(I.alloc No _ _).trans (I.alloc No _ _) (λ_ _ x=>x)
  have q:=h.y p;have R:f.heap[w.heap.size]?=some (.cells #[pV b] 212 (0,0)):=by
   subst r;rw[Below.heap_alloc _ _ _ (by simp)];exact yY w _
  have N:f.heap[w.heap.size+1]?=some (.cells #[.slice i d.length k] 54 (0,0)):=by
   subst r;have:=yY (w.alloc (.cells #[pV b] 212)) (.cells #[.slice i d.length k] 54);simpa using this
  have M:=A3 L p (λ_ _ x=>x);refine(XH 263 (λ_ _=>by go_simp) f l q.jo (kQ s p.size) d.length (by omega) ⟨#[32,124,32]⟩ _ _ (nS a T d) H ?_).mono ?_
  .intro D j F g P t u;have Z:=G d[j] (mQ t);obtain⟨z,S⟩:∃z:Nat,d[j]=z:=⟨d[j].toNat,by omega⟩;have v:z<T.length:=by omega
   have e:nS a T d j=rO a T z (qD T[z].x (decide (j+1=d.length))):=by
    unfold nS;rw[show d.getD j 0=z from by grind,tQ,eZ v]
   rw[e]at u⊢;refine(Hu A D F (q.kept g P) (kQ s (kQ p.size g.size)) j w.heap.size (w.heap.size+1) i k d t z S (by omega) v _ rfl u (g.other q.jo R (by decide) (by decide)) (g.other q.jo N (by decide) (by decide)) (g.own q.jo M (by decide) (by decide))).mono ?_;rintro e V ⟨rfl,n,o⟩;exact⟨rfl,g.trans n,o⟩
  .rintro e V ⟨rfl,n,o⟩;exact⟨rfl,(bQ.y p).trans n,o⟩
 generalize V8 [32,124,32] (nS a T d) d.length=tx at*;go_in;go_wp2_with fail;refine(y.u _ rfl).mono ?_;rintro e a3 ⟨rfl,n,o⟩;go_wp2;go_end0;exact⟨rfl,n,o⟩
end
def kH(a:Y)(f:Nat->Y):Nat->Y
 |0=>[]
 |n+1=>kH a f n++(a++f n)
theorem GL(a:Y)(f:Nat->Y):∀n,kH a f (n+1)=a++f 0++kH a (λj=>f (j+1)) n
 |0=>by simp[kH]
 |n+1=>by
  rw[kH,GL a f n,kH];simp
theorem GK(a:Y)(f:Nat->Y):∀n,V8 a f (n+1)=f 0++kH a (λj=>f (j+1)) n
 |0=>by grind[V8,kH]
 |n+1=>by
  rw[V8,GK a f n,kH];simp
theorem Ff(a:Y){f g:Nat->Y}:∀n,(∀j,j<n->f j=g j)->kH a f n=kH a g n
 |0,_=>rfl
 |n+1,h=>by rw[kH,kH,Ff a n (λj b=>h j (by omega)),h n (by omega)]
theorem IL(a:Y){f g:Nat->Y}:∀n,(∀j,j<n->f j=g j)->V8 a f n=V8 a g n
 |0,_=>rfl
 |n+1,h=>by rw[V8,V8,IL a n (λj b=>h j (by omega)),h n (by omega)]
def yX:Tr:=.nd 0 [] []
theorem OC:∀r:List Tr,oL false r=kH [44,32] (λj=>bO (r.getD j yX)) r.length
 |[]=>by rfl
 |t::r=>by
  rw[oL,OC r,jQ,GL];simp
theorem Vu:∀r:List Tr,oL true r=V8 [44,32] (λj=>bO (r.getD j yX)) r.length
 |[]=>by rfl
 |t::r=>by
  grind[oL,OC,jQ,GK]
def vE(t:Tr)(a:Bool):Y:=if qD t.k a then [40]++bO t++[41] else bO t
theorem RL(t:Tr)(r:List Tr):(if t.k=10\/t.k=9/\r.length≠0 then [40]++bO t++[41] else bO t)=vE t (decide (0+1=(t::r).length)):=by
 grind[vE,qD,decide]
theorem OD:∀r:List Tr,mV false r=kH [32,124,32] (λj=>vE (r.getD j yX) (decide (j+1=r.length))) r.length
 |[]=>by rfl
 |t::r=>by
  rw[mV,OD r,RL,jQ,GL];simp
theorem Vx:∀r:List Tr,mV true r=V8 [32,124,32] (λj=>vE (r.getD j yX) (decide (j+1=r.length))) r.length
 |[]=>by rfl
 |t::r=>by
  rw[mV,OD r,RL,jQ,GK];simp
theorem Yl(a:Bool)(t:Tr):(jX a t).k=t.k:=by
 grind[jX,Xc]
theorem BO(a:Bool){k:Int}{c:List Y}{b:List Tr}(h:k≠7):jX a (.nd k c b)=.nd k c (b.map (jX a)):=by
 cases a
 .have e:jX false=id:=by funext t;simp[jX]
  simp_all
 .have e:jX true=gO:=by funext t;simp[jX]
  simp_all[uE]
section
variable{bn:Bool}{T:List Ty}{i:Nat}
def Wm(a:aU T)(b:i<T.length)(c:1<=T[i].x)(d:T[i].x<=6):cZ bn T i=mG T[i].x:=by
 unfold cZ;rw[U0 a b,BO bn (by omega),bO,zY (by omega),zY (by omega),zY (by omega),zY (by omega)]
def Ym(a:aU T)(b:i<T.length)(h:T[i].x=8):cZ bn T i=[91]++cZ bn T T[i].ew.toNat++[93]:=by
 simp_all[cZ,U0,BO,bO,zY,wY,EX]
theorem BH(b:aU T)(c:i<T.length)(h:T[i].x=9\/T[i].x=10):T[i].ej=[]:=by
 obtain a|a|a|a|a:=b i c<;>grind
def Hc(b:aU T)(c:i<T.length)(h:T[i].x=9):cZ bn T i=[40]++V8 [44,32] (λj=>cZ bn T (T[i].M.getD j 0).toNat) T[i].M.length++[41,32,61,62,32]++cZ bn T T[i].ew.toNat:=by
 have e:V8 [44,32] (λj=>cZ bn T (T[i].M.getD j 0).toNat) T[i].M.length=oL true ((T[i].M.map λx=>tr T x.toNat).map (jX bn)):=by
  rw[Vu,uZ,uZ];refine IL _ _ λj a=>?_;unfold cZ;simp[a]
 simp_all[cZ,U0,BO,bO,zY,wY,BH,BK]
def Yp(a:aU T)(f:i<T.length)(h:T[i].x=10):cZ bn T i=V8 [32,124,32] (nS bn T T[i].M) T[i].M.length:=by
 have e:V8 [32,124,32] (nS bn T T[i].M) T[i].M.length=mV true ((T[i].M.map λx=>tr T x.toNat).map (jX bn)):=by
  rw[Vx,uZ,uZ];refine IL _ _ λj b=>?_;have g:=(a i f).kj T[i].M[j] (mQ b);have c:T[i].M[j].toNat<T.length:=by omega
  unfold nS rO vE cZ;have d:(tr T T[i].M[j].toNat).k=T[T[i].M[j].toNat].x:=by rw[U0 a c];rfl
  simp[b,Yl,d,c]
 simp_all[cZ,U0,BO,bO,zY,wY,BH]
end
section
variable{B wb:Nat}{tv:Value}{bn:Bool}{T:List Ty}{m:Nat}
def SF(B wb:Nat)(tv:Value)(bn:Bool)(T:List Ty)(i:Nat):Prop:=∀(d:i<T.length) (w:E) (a:Y) (b:Option Addr) (c:Nat),T[i].x=7->jO w B wb tv bn T a->B<=w.heap.size->w.ownsRow 0 137 2 (.slice b T[i].ej.length c) T[i].ej.length (G0 T[i].ej)->a.length+(cZ bn T i).length<=100000000000000->
 Calls prog 243 #[pV wb,.slice b T[i].ej.length c] w (U1 w B wb tv bn (a++cZ bn T i))
def UV{a0:E}(i:B<=a0.heap.size)(a:E)(q:Nat)(b:Y)(s:ByteArray)(f:q=a.heap.size)(c:bQ B wb a0 a)(g:fF a B wb tv bn b)(j:b.length+s.size<=100000000000000):
 Calls prog 244 #[pV wb,.slice (some (J q 0)) 1 1] (a.alloc (.cells #[.string s] 9)) (U1 a0 B wb tv bn (b++s.data.toList)):=by
 subst f;have e:=bl s;refine(JS (g.y (I.alloc _ _ _)) [s] a.heap.size (0,0) (yY a _) (by simp) (by grind[jS]) (by simp;have:=c.size;omega)).mono ?_;rintro e k ⟨rfl,d,h⟩;exact⟨rfl,(c.trans (bQ.y (I.alloc _ _ _))).trans d,by grind[jS]⟩
def Wt(IH:uK B wb tv bn T m)(i:Nat)(bf:i<=m)(ao:SF B wb tv bn T i)(M:i<T.length)(w:E)(A:Y)(h:jO w B wb tv bn T A)(ay:B<=w.heap.size)(af:A.length+(cZ bn T i).length<=100000000000000)(b1:T[i].M.length<=100000000):
 Calls prog 226 #[pV wb,U (i:Int)] w (U1 w B wb tv bn (A++cZ bn T i)):=by
 have hT:=h.ok;obtain⟨ad,b9,bc,ba,c3,bg,ap⟩:=h.cell;obtain⟨bd,n,p,d,f,rfl,hg,be,az,x0,x1,x2,x3,a6,a7⟩:=ap i M;unfold maxLen at az;clear ap;have W:=O (λe=>Ym (bn:=bn) hT M e);have Z:=O (λe=>Hc (bn:=bn) hT M e);have V:=O (λe=>Yp (bn:=bn) hT M e);have a3:=O (λe1 e2=>Wm (bn:=bn) hT M e1 e2);have S:=O (λe x g=>ao M x g n p e);have ah:=hT i M;have b2:=ah.kj;have a4:=ah.of;have b0:T[i].x=7\/T[i].x=8\/T[i].x=9\/T[i].x=10\/(1<=T[i].x/\T[i].x<=6):=by
  obtain t|t|t|t|t:=ah
  .omega
  .omega
  .omega
  .omega
  .omega
 clear ah ao;generalize cZ bn T i=tx at*;generalize T[i].x=k at*;generalize T[i].ew=o at*;generalize T[i].ej=q at*;generalize T[i].M=b at*;have v:I No w ((w.alloc (.cells #[pV wb] 212)).alloc (.cells #[U k,.slice n q.length p,.slice d b.length f,U o] 81)):=(I.alloc No _ _).trans (I.alloc No _ _) (λ_ _ a9=>a9);have r:=h.y v;have u:=kQ ay v.size;have aa:Hid (∀e x g,U1 ((w.alloc (.cells #[pV wb] 212)).alloc (.cells #[U k,.slice n q.length p,.slice d b.length f,U o] 81)) B wb tv bn g e x->U1 w B wb tv bn g e x):=by
  rintro e x g ⟨rfl,c,l⟩;exact⟨rfl,(bQ.y v).trans c,l⟩
 have P:((w.alloc (.cells #[pV wb] 212)).alloc (.cells #[U k,.slice n q.length p,.slice d b.length f,U o] 81)).heap[w.heap.size]?=some (.cells #[pV wb] 212 (0,0)):=by
  rw[Below.heap_alloc _ _ _ (by simp)];exact yY w _
 have t:((w.alloc (.cells #[pV wb] 212)).alloc (.cells #[U k,.slice n q.length p,.slice d b.length f,U o] 81)).heap[w.heap.size+1]?=some (.cells #[U k,.slice n q.length p,.slice d b.length f,U o] 81 (0,0)):=by
  have:=yY (w.alloc (.cells #[pV wb] 212)) (.cells #[U k,.slice n q.length p,.slice d b.length f,U o] 81);simpa using this
 have N:=A3 a7 v (λ_ _ a9=>a9);have a5:=A3 a6 v (λ_ _ a9=>a9);have y:Hid (∀a,bQ B wb ((w.alloc (.cells #[pV wb] 212)).alloc (.cells #[U k,.slice n q.length p,.slice d b.length f,U o] 81)) a->a.cell? (J w.heap.size 0)=some (pV wb)/\a.cell? (J (w.heap.size+1) 2)=some (.slice d b.length f)/\a.cell? (J (w.heap.size+1) 3)=some (U o)/\w.heap.size<a.heap.size/\w.heap.size+1<a.heap.size):=by
  intro a s;have ar:=s.other r.jo P (by decide) (by decide);have al:=s.other r.jo t (by decide) (by decide);exact⟨cr ar rfl,cr al rfl,cr al rfl,(aI ar),(aI al)⟩
 have G:=O (λa a8 g b8=>UV (wb:=wb) (tv:=tv) (bn:=bn) (a0:=((w.alloc (.cells #[pV wb] 212)).alloc (.cells #[U k,.slice n q.length p,.slice d b.length f,U o] 81))) u a a8 g b8);have FW:Hid (∀a z g,bQ B wb ((w.alloc (.cells #[pV wb] 212)).alloc (.cells #[U k,.slice n q.length p,.slice d b.length f,U o] 81)) a->fF a B wb tv bn g->z<i->g.length+(cZ bn T z).length<=100000000000000->Calls prog 226 #[pV wb,U (z:Int)] a (U1 ((w.alloc (.cells #[pV wb] 212)).alloc (.cells #[U k,.slice n q.length p,.slice d b.length f,U o] 81)) B wb tv bn (g++cZ bn T z))):=by
  intro a z g s hw hz hl;refine(IH z a g (by omega) (by omega) (r.kept s hw) (kQ u s.size) hl).mono ?_;rintro e x ⟨rfl,c,l⟩;exact⟨rfl,s.trans c,l⟩
 have FR:Hid (∀a g,bQ B wb ((w.alloc (.cells #[pV wb] 212)).alloc (.cells #[U k,.slice n q.length p,.slice d b.length f,U o] 81)) a->fF a B wb tv bn g->g.length+(V8 [44,32] (λj=>cZ bn T (b.getD j 0).toNat) b.length).length<=100000000000000->Calls prog 245 #[pV wb,U (b.length:Int),.string ⟨#[44,32]⟩,.func (.func 246) #[] #[pV w.heap.size,pV (w.heap.size+1)]] a (U1 ((w.alloc (.cells #[pV wb] 212)).alloc (.cells #[U k,.slice n q.length p,.slice d b.length f,U o] 81)) B wb tv bn (g++V8 [44,32] (λj=>cZ bn T (b.getD j 0).toNat) b.length))):=by
  intro a g s hw hl;have ag:=r.kept s hw;have b7:=s.other r.jo P (by decide) (by decide);have b5:=s.other r.jo t (by decide) (by decide);have b3:=s.own r.jo N (by decide) (by decide);refine(XH 246 (λ_ _=>by rfl) a g hw (kQ u s.size) b.length (by omega) ⟨#[44,32]⟩ _ _ (λj=>cZ bn T (b.getD j 0).toNat) hl ?_).mono ?_
  .intro a2 j ax D b6 hj aq;have bj:=b2 b[j] (mQ hj);obtain⟨z,hz⟩:∃z:Nat,b[j]=(z:Int):=⟨b[j].toNat,by omega⟩;have e:cZ bn T (b.getD j 0).toNat=cZ bn T z:=by
    rw[show b.getD j 0=(z:Int) from by grind,tQ]
   rw[e]at aq⊢;refine(Wc IH a2 ax (ag.kept D b6) (kQ u (kQ s.size D.size)) j w.heap.size (w.heap.size+1) _ _ _ d f b hj z hz (by omega) (by omega) aq (D.other ag.jo b7 (by decide) (by decide)) (D.other ag.jo b5 (by decide) (by decide)) (D.own ag.jo b3 (by decide) (by decide))).mono ?_;rintro e x ⟨rfl,c,l⟩;exact⟨rfl,D.trans c,l⟩
  .rintro e x ⟨rfl,c,l⟩;exact⟨rfl,s.trans c,l⟩
 have aj:=O r;have ak:=O (bQ.refl B wb ((w.alloc (.cells #[pV wb] 212)).alloc (.cells #[U k,.slice n q.length p,.slice d b.length f,U o] 81)));obtain rfl|rfl|rfl|rfl|⟨hk1,D⟩:=b0
 .have HC:=O (S.u rfl _ A r u a5 af);clear h r P t N a5 a6 a7 FW G y W Z V a3 S v u;go_in;go_wp2_with fail;refine HC.u.mono ?_;rintro e H F;have b4:=aa.u _ _ _ F;obtain⟨rfl,c,l⟩:=b4;go_wp2;go_end0;exact⟨rfl,c,l⟩
 .have e:=W.u rfl;obtain⟨z,rfl⟩:∃z:Nat,o=(z:Int):=⟨o.toNat,by omega⟩;have am:z<i:=by have:=a4 (.inl rfl);omega
  rw[tQ]at e;subst e;simp only[qQ,jQ,xQ]at af;have ab:=O (G.u _ (w.heap.size+1+1) A ⟨#[91]⟩ (by simp) ak.u aj.u.jo (by grind[ByteArray.size]));clear h r P t N a5 a6 a7 W Z V a3 S v u a4;go_in;go_wp2_with fail;refine ab.u.mono ?_;rintro e H ⟨rfl,c,l⟩;obtain⟨d1,d2,d3,l1,l2⟩:=y.u H c;have ac:=O (FW.u H z _ c l am (by grind));clear c l ab;go_wp2_with fail;refine ac.u.mono ?_;rintro e R ⟨rfl,L,h4⟩;obtain⟨d4,-,-,l4,-⟩:=y.u R L;have ae:=O (G.u R R.heap.size _ ⟨#[93]⟩ rfl L h4 (by grind[ByteArray.size]));clear L h4 ac;go_wp2_with fail;refine ae.u.mono ?_;rintro e an F;obtain⟨rfl,h5,h6⟩:=aa.u _ _ _ F;go_wp2;go_end0;exact⟨rfl,h5,by grind⟩
 .have e:=Z.u rfl;obtain⟨z,rfl⟩:∃z:Nat,o=(z:Int):=⟨o.toNat,by omega⟩;have am:z<i:=by have:=a4 (.inr rfl);omega
  rw[tQ]at e;subst e;generalize V8 [44,32] (λj=>cZ bn T (b.getD j 0).toNat) b.length=rb at*;simp only[qQ,jQ,xQ]at af;have ab:=O (G.u _ (w.heap.size+1+1) A ⟨#[40]⟩ (by simp) ak.u aj.u.jo (by grind[ByteArray.size]));clear h r P t N a5 a6 a7 W Z V a3 S v u a4;go_in;go_wp2_with fail;refine ab.u.mono ?_;rintro e H ⟨rfl,c,l⟩;obtain⟨d1,d2,d3,l1,l2⟩:=y.u H c;have ac:=O (FR.u H _ c l (by grind));clear c l ab;go_wp2_with fail;refine ac.u.mono ?_;rintro e R ⟨rfl,L,h4⟩;obtain⟨d4,d5,d6,l4,l5⟩:=y.u R L;have ae:=O (G.u R R.heap.size _ ⟨#[41,32,61,62,32]⟩ rfl L h4 (by grind[ByteArray.size]));clear L h4 ac;go_wp2_with fail;refine ae.u.mono ?_;rintro e an ⟨rfl,h5,h6⟩;obtain⟨d7,-,d8,l7,l8⟩:=y.u an h5;have au:=O (FW.u an z _ h5 h6 am (by grind));clear h5 h6 ae;go_wp2_with fail;refine au.u.mono ?_;rintro e bm F;obtain⟨rfl,h7,h8⟩:=aa.u _ _ _ F;go_wp2;go_end0;exact⟨rfl,h7,by grind⟩
 .have e:=V.u rfl;subst e;have HC:=O (Hz IH _ A r u d f b b1 (λa9 bi=>by grind) N af);clear h r P t N a5 a6 a7 FW G y FR W Z V a3 S v u a4;go_in;go_wp2_with fail;refine HC.u.mono ?_;rintro e H F;obtain⟨rfl,c,l⟩:=aa.u _ _ _ F;go_wp2;go_end0;exact⟨rfl,c,l⟩
 .have e:=a3.u hk1 D;subst e;obtain⟨d1,-,-,l1,l2⟩:=y.u _ ak.u;have d0:(((w.alloc (.cells #[pV wb] 212)).alloc (.cells #[U k,.slice n q.length p,.slice d b.length f,U o] 81))).cell? (J (w.heap.size+1) 0)=some (U k):=cr t rfl;have aw:=O aj.u.jo;have bh:(mG k).length<=7:=by
   have hk:k=1\/k=2\/k=3\/k=4\/k=5\/k=6:=by omega
   obtain rfl|rfl|rfl|rfl|rfl|rfl:=hk<;>decide
  have FP:Hid (∀ai a8,a8=w.heap.size+1+1->Calls prog 244 #[pV wb,.slice (some (J a8 0)) 1 1] (((((w.alloc (.cells #[pV wb] 212)).alloc (.cells #[U k,.slice n q.length p,.slice d b.length f,U o] 81))).drewN ai).alloc (.cells #[.string ⟨(mG k).toArray⟩] 9)) (U1 w B wb tv bn (A++mG k))):=by
   intro ai a8 hq;have hd:=I.drewN No ((w.alloc (.cells #[pV wb] 212)).alloc (.cells #[U k,.slice n q.length p,.slice d b.length f,U o] 81)) ai;refine(G.u (World.drewN ((w.alloc (.cells #[pV wb] 212)).alloc (.cells #[U k,.slice n q.length p,.slice d b.length f,U o] 81)) ai) a8 A ⟨(mG k).toArray⟩ (by simp_all) (bQ.y hd) (aw.u.y hd) (by grind[ByteArray.size])).mono ?_;intro e x F;exact aa.u _ _ _ F
  clear h r P t N a5 a6 a7 FW G y FR W Z V a3 S v u a4;have e7:(k==7)=false:=by simp;omega
  have e8:(k==8)=false:=by simp;omega
  have e9:(k==9)=false:=by simp;omega
  have bb:(k==10)=false:=by simp;omega
  have av:=O (λa=>Lj k hk1 D a);generalize mG k=wk at*;go_in;go_wp2_with fail;go_region_with (first
   |(go_at_call 248;refine(av.u _).mono ?_;rintro e x ⟨rfl,rfl⟩)
   |(go_at_call 244;refine(FP.u 1 _ (by simp)).mono ?_;rintro e H ⟨rfl,c,l⟩));all_goals
   go_wp2;go_end0;exact⟨rfl,c,l⟩
end
section
variable{a:Type}
theorem xM(b:a->List Value)(f:∀x,(b x).length=2):∀(l:List a) (i c:Nat) (e:i<l.length),c<2->(l.flatMap b)[i*2+c]?=(b l[i])[c]?
 |[],_,_,e,_=>by grind
 |x::r,0,c,_,d=>by
  grind
 |x::r,i+1,c,e,d=>by
  rw[List.flatMap_cons,List.getElem?_append_right (by grind),f,show (i+1)*2+c-2=i*2+c by omega,xM b f r i c (by grind) d];rfl
theorem DX(b:a->List Value)(c:∀x,(b x).length=2):∀l:List a,(l.flatMap b).length=l.length*2
 |[]=>rfl
 |x::r=>by
  rw[List.flatMap_cons,qQ,c,DX b c r,jQ];omega
end
theorem Rj[Inhabited (Y×Int)](d:Array (Y×Int))(a:Array Value)(h:d.size*2<=a.size):(Sort.putCells id 0 (Sort.flatK J8 2 d) a).toList.take (d.size*2)=G0 d.toList:=by
 have g:(G0 d.toList).length=d.size*2:=by
  unfold G0;rw[DX J8 (λ_=>rfl)];simp
 refine List.ext_getElem? λt=>?_;by_cases b:t<d.size*2
 .have e:=xM J8 (λ_=>rfl) d.toList (t/2) (t % 2) (by grind) (by omega);rw[show t/2*2+t % 2=t by omega]at e;unfold G0;rw[e,List.getElem?_take_of_lt b];have f:t<a.size:=by omega
  have c:(Sort.putCells id 0 (Sort.flatK J8 2 d) a).toList[t]?=some ((J8 d[t/2]!)[t % 2]!):=by
   unfold Sort.putCells;rw[Array.getElem?_toList,Array.getElem?_mapIdx];simp only[f,Array.getElem?_eq_getElem,Option.map_some];rw[wY (by simp_all)];simp only[Nat.sub_zero,id];rw[Sort.get_flatK _ _ _ _ b]
  rw[c];grind[J8]
 grind
def Gy(x y:Y×Int)(W:E):Calls prog 260 #[.agg #[.string ⟨x.1.toArray⟩,U x.2],.agg #[.string ⟨y.1.toArray⟩,U y.2]] W λe b=>e=.returned (U (Lib.compareBytes x.1 y.1))/\∃q d,b=Sort.grow (W.drewN q) d:=by
 have a:=λc=>Tryz.strings_Compare ⟨x.1.toArray⟩ ⟨y.1.toArray⟩ c;generalize f:Lib.compareBytes x.1 y.1=r;simp at a;go_in;go_wp2_with (go_at_call 261;refine(a _).mono ?_;rintro e b ⟨rfl,rfl⟩);go_ret;exact⟨rfl,0,_,by rw[Sort.alloc_eq_grow,Sort.alloc_eq_grow,Sort.grow_grow];rfl⟩
def tF(x y:Y×Int):Int:=Lib.compareBytes x.1 y.1
def CS:Sort.SWO (ltOf tF) where
 irrefl x:=by grind[ltOf,tF,WW]
 trans x y z h1 h2:=by
  have a1:=of_decide_eq_true h1;have a:=of_decide_eq_true h2;unfold tF at a1 a;exact decide_eq_true ((BQ x.1 y.1 z.1 (by omega) (by omega)).2 (.inl a1))
 ntrans x y z h1 h2:=by
  have a1:=of_decide_eq_false h1;have a:=of_decide_eq_false h2;unfold tF at a1 a;have b:=Y2 x.1 y.1;have c:=Y2 y.1 z.1;have d:=Y2 x.1 z.1;have:=(BQ z.1 y.1 x.1 (by omega) (by omega)).1;refine decide_eq_false ?_;grind[tF]
def Je(w:E)(y:Nat)(a:List (Y×Int))(M:(a.map (·.1)).Nodup)(v:Value)(R:w.ownsRow y 137 2 v a.length (G0 a))(a4:a.length<=100000000):
 Calls prog 259 #[v,.func (.func 260) #[] #[]] w λe f=>e=rT/\I (λk=>some k=v.ownBlock) w f/\f.ownsRow y 137 2 v a.length (G0 (kV a)):=by
 obtain⟨rfl,B⟩|⟨g,o,p,rfl,F,l,N,L,a3,V⟩:=R.2
 .have d:=AnyF.slices_SortFunc_none Tryz.sortF none 0 (.func (.func 260) #[] #[]) w;refine Calls.mono (show Calls prog 259 _ _ _ from d) ?_;rintro e f ⟨rfl,rfl⟩;have:=List.length_eq_zero_iff.1 B;subst this;have e:kV ([]:List (Y×Int))=[]:=List.length_eq_zero_iff.1 (CJ _);grind[I.refl]
 .have H:=(aI l);have A:=enters_of func260 (by rfl) rfl;have D:Sort.HoldsK J8 2 w g 0 a.toArray:=by
   intro j c;rw[Sort.size_flatK]at c;simp at c;refine⟨?_,by grind[frozen_of_row]⟩;rw[Nat.zero_add,cell_of_row w g j _ _ _ l,Sort.get_flatK _ _ _ _ (by omega)];have e:=xM J8 (λ_=>rfl) a (j/2) (j % 2) (by omega) (by omega);rw[show j/2*2+j % 2=j by omega]at e;have h:p[j]?=(G0 a)[j]?:=by
    rw[<-V,List.getElem?_take_of_lt c,Array.getElem?_toList]
   have r:j/2<a.length:=by omega
   have q:j % 2<(J8 a[j/2]).length:=by
    show j % 2<2;omega
   rw[h];unfold G0;rw[e,gQ q];simp[r,q]
  have d:=AnyQ.slices_SortFunc Tryz.sortF 2 Tryz.isAgg137 Tryz.sizeOf137 J8 (λ_=>rfl) (λx v u=>by simp[J8]at u;obtain rfl|rfl:=u<;>rfl) tF CS 260 #[] g 0 o a.toArray w A (λ_ _ _ _ x a2=>Gy x a2 _) D H (by grind);simp only[List.size_toArray]at d;refine Calls.mono (show Calls prog 259 _ _ _ from d) ?_;rintro e f ⟨rfl,b,n,Z,t,S,rfl⟩;have T:b.size=a.length:=by have:=t.1;simpa using this
  have r:b.toList=kV a:=by
   have m:=t.2.2;have z:(b.extract 0 a.length).toList=b.toList:=by rw[<-T];simp
   have h:(a.toArray.extract 0 a.length).toList=a:=by simp
   rw[z,h]at m;refine IP _ _ (m.trans (U4 a).symm) ((m.map _).nodup_iff.2 M) ?_ (JV a);rw[List.pairwise_iff_getElem];intro i j s c G;have:=S i j (wQ _) G (by grind);simp at s c;have this:=of_decide_eq_false this;unfold tF at this;rw[getElem!_pos b i s,getElem!_pos b j c]at this;simp only[kM,zB,Bool.not_eq_true',decide_eq_false_iff_not,Array.getElem_toList];exact this
  have W:(sortWorldK J8 2 w g 0 n b Z).heap[g]?=some (.cells (Sort.putCells id 0 (Sort.flatK J8 2 b) p) 137 (0,0)):=by
   unfold sortWorldK Sort.grow Sort.putRowK Sort.putRow Sort.mapBlock Sort.ahead;rw[Array.getElem?_append_left (by grind),Array.getElem?_modify,wY rfl,l];rfl
  refine⟨rfl,?_,?_⟩
  .refine⟨rfl,rfl,rfl,by grind[sortWorldK,Sort.grow,Sort.putRowK,Sort.putRow,Sort.mapBlock,Sort.ahead],λk hk P=>?_⟩;have a5:¬g=k:=λe=>P (by subst e;rfl);unfold sortWorldK Sort.grow Sort.putRowK Sort.putRow Sort.mapBlock Sort.ahead;grind
  .refine⟨?_,.inr ⟨g,o,_,rfl,F,W,N,L,?_,?_⟩⟩
   .unfold G0;rw[DX J8 (λ_=>rfl),CJ]
   .grind[Sort.putCells]
   grind[Rj]
def zt(w:E)(b:List (Y×Int))(i:Option Addr)(f:Nat)(h:w.ownsRow 0 137 2 (.slice i b.length f) b.length (G0 b))(hn:b.length<=100000000):
 Calls prog 258 #[.slice i b.length f] w λe r=>∃l m,e=.returned (.slice l b.length m)/\I No w r/\r.ownsRow w.heap.size 137 2 (.slice l b.length m) b.length (G0 b):=by
 obtain⟨Z,N,T,V,W⟩:=info_parts Tryz.jw;have a8:=λw a n c n' D=>Lib.run_eql_slice_nil w _ _ a n c n' D underlying79;obtain⟨d,G⟩|⟨g,a3,a4,d,hb,L,a6,hm,a5,a7⟩:=h.2
 .have:=List.length_eq_zero_iff.1 G;subst this;simp at d;obtain⟨rfl,-,rfl⟩:=d;go_in;go_wp2;go_ret;exact⟨none,0,rfl,I.refl _ _,rfl,.inl ⟨rfl,rfl⟩⟩
 .simp at d;obtain⟨rfl,-,rfl⟩:=d;have S:=(aI L);have z:Hid ((w.alloc (.cells #[] 137)).ownsRow w.heap.size 137 2 (.slice (some (J w.heap.size 0)) 0 0) 0 []):=
   ⟨rfl,.inr ⟨w.heap.size,0,#[],rfl,vQ _,yY w _,vQ _,wQ _,rfl,rfl⟩⟩;have v:=O (SP h);have y:Hid (∀j u,(G0 b)[j]?=some u->(w.alloc (.cells #[] 137)).cell? (((J g 0):Addr).add j)=some u):=by
   intro j u P;have e:=h.cells rfl j u P;have H:((J g 0):Addr).add j=(J g j):=by unfold Addr.add;split<;>simp_all
   rw[H]at e⊢;exact I4 S e
  have s:Hid (∀u∈G0 b,u.oneCell'=true):=by
   intro u p;unfold G0 at p;obtain⟨x,-,q⟩:=List.mem_flatMap.1 p;simp[J8]at q;obtain rfl|rfl:=q<;>rfl
  go_in;go_wp2_with (at_builtin;refine wpList_append_own _ rfl _ _ 79 rfl w.heap.size 137 Z (.agg #[.string ⟨#[]⟩,U 0]) 2 24 underlying79 N T V W rfl (by decide) _ 0 [] rfl z.u (J g 0) b.length f (G0 b) rfl v.u y.u s.u ?c3 ?c4 ?c5 ?_);case c3=>omega
  case c4=>omega
  case c5=>simp
  intro v' a2 o M _;obtain⟨B,F,rfl⟩:=B8 o;have A:=O o;have t:Hid (I No w a2):=by
   refine((I.alloc (λk=>w.heap.size<=k) w _).trans (I.grown M) (λk R x=>?_)).mono (λk R x=>by omega);have x':some k=some w.heap.size:=x;simp at x';omega
  go_wp2;go_ret;exact⟨B,F,rfl,t.u,A.u⟩
def yK(a:Bool)(T:List Ty)(p:Y×Int):Y:=[32]++p.1++[58,32]++cZ a T p.2.toNat++[59]
def lM(a:Bool)(T:List Ty)(l:List (Y×Int)):Y:=l.flatMap (yK a T)
def pN(a:Bool)(l:List (Y×Int)):List (Y×Int):=if a then kV l else l
def GV{bn:Bool}{T:List Ty}(l:List (Y×Int)){j:Nat}(a:j<l.length):lM bn T (l.take (j+1))=lM bn T (l.take j)++yK bn T l[j]:=by
 unfold lM;grind[nQ]
def RB{bn:Bool}{T:List Ty}(l:List (Y×Int)){j:Nat}(a:j<l.length):(lM bn T (l.take j)).length+(yK bn T l[j]).length<=(lM bn T l).length:=by
 have b:=GV (bn:=bn) (T:=T) l a;grind[lM,List.take_append_drop,qQ]
def Ds(a:Bool)(l:List (Y×Int)):(pN a l).length=l.length:=by
 grind[pN,CJ]
def Dv{a:Bool}{l:List (Y×Int)}{p:Y×Int}(h:p∈pN a l):p∈l:=by
 grind[pN,U4]
section
variable{bn:Bool}{T:List Ty}{i:Nat}
def XQ(b:aU T)(c:i<T.length)(h:T[i].x=7):T[i].M=[]/\(T[i].ej.map (·.1)).Nodup:=by
 obtain a|a|a|a|a:=b i c<;>grind
def Yo(b:aU T)(c:i<T.length)(h:T[i].x=7):cZ bn T i=[123]++lM bn T (pN bn T[i].ej)++(if T[i].ej.length=0 then [] else [32])++[125]:=by
 obtain⟨d,f⟩:=XQ b c h;have e:tr T i=.nd 7 (T[i].ej.map (·.1)) (T[i].ej.map λp=>(λz:Int=>tr T z.toNat) p.2):=by
  rw[U0 b c,zY (by omega),d,h];simp
 unfold cZ;rw[e];cases bn with
 |false=>
  have a:∀t,jX false t=t:=λt=>by rfl
  rw[a,XP T[i].ej (λz:Int=>tr T z.toNat)];rfl
 |true=>
  have a:∀t,jX true t=gO t:=λt=>by rfl
  rw[a,Xh _ (λz:Int=>tr T z.toNat) f,XP _ (λz:Int=>gO (tr T z.toNat)),CJ];rfl
end
section
variable{B wb:Nat}{tv:Value}{bn:Bool}{T:List Ty}{m:Nat}
def EO{a0:E}(p:B<=a0.heap.size)(a:E)(q:Nat)(f:Y)(b c d:ByteArray)(i:q=a.heap.size)(g:bQ B wb a0 a)(j:fF a B wb tv bn f)(r:f.length+b.size+c.size+d.size<=100000000000000):
 Calls prog 244 #[pV wb,.slice (some (J q 0)) 3 3] (a.alloc (.cells #[.string b,.string c,.string d] 9)) (U1 a0 B wb tv bn (f++(b.data.toList++c.data.toList++d.data.toList))):=by
 subst i;have k:=bl b;have l:=bl c;have n:=bl d;refine(JS (j.y (I.alloc _ _ _)) [b,c,d] a.heap.size (0,0) (yY a _) (by simp) (by grind[jS]) (by simp;have:=g.size;omega)).mono ?_;rintro e s ⟨rfl,h,o⟩;exact⟨rfl,(g.trans (bQ.y (I.alloc _ _ _))).trans h,by grind[jS]⟩
def XS{w:E}{f:Nat}{c:Option Addr}{b:Nat}{a:List (Y×Int)}(l:w.ownsRow f 137 2 (.slice c a.length b) a.length (G0 a)){j:Nat}(e:j<a.length):
 ∃g,c=some (J g 0)/\g<w.heap.size/\a.length<=b/\b<=maxLen/\w.cell? (J g (j*2))=some (.string ⟨a[j].1.toArray⟩)/\w.cell? (J g (j*2+1))=some (U a[j].2):=by
 obtain⟨g,rfl,-,k,h,i,d⟩:=D4 l (by omega);have a0:=xM J8 (λ_=>rfl) a j 0 e (by omega);have a1:=xM J8 (λ_=>rfl) a j 1 e (by omega);exact⟨g,rfl,k,h,i,d _ _ a0,d _ _ a1⟩
def Dk(IH:uK B wb tv bn T m)(i:Nat)(bd:i<=m)(hi:i<T.length)(bc:T[i].ej.length<=2001):SF B wb tv bn T i:=by
 intro _ w G fa fc aj h a3 ho a5;have hT:=h.ok;have hE:=Yo (bn:=bn) hT hi aj;have au:=(XQ hT hi aj).2;have ap:=(hT i hi).l9;have aw:=Ds bn T[i].ej;have ar:∀p∈pN bn T[i].ej,0<=p.2/\p.2<i:=λp hp=>ap p (Dv hp);have be:G.length+(lM bn T (pN bn T[i].ej)).length+2<=100000000000000:=by
  rw[hE]at a5;simp at a5;omega
 have aq:T[i].ej.length≠0->G.length+(lM bn T (pN bn T[i].ej)).length+3<=100000000000000:=by
  intro h0;rw[hE,zY h0]at a5;simp at a5;omega
 have y:=O hE;clear hE ap aj a5;generalize cZ bn T i=tx at*;obtain⟨ba,c3,bf⟩:=h.jo.nw;generalize bb:T[i].ej=R at*;generalize ab:pN bn R=b at*;
 have n:Hid (∀a0:E,I No w a0->∀a q f a8,q=a.heap.size->bQ B wb a0 a->fF a B wb tv bn f->f.length+a8.size<=100000000000000->Calls prog 244 #[pV wb,.slice (some (J q 0)) 1 1] (a.alloc (.cells #[.string a8] 9)) (U1 a0 B wb tv bn (f++a8.data.toList))):=
  λa0 o a q f a8=>UV (kQ a3 o.size) a q f a8;have b9:Hid (∀a0:E,I No w a0->∀a q f s1 s2 s3,q=a.heap.size->bQ B wb a0 a->fF a B wb tv bn f->f.length+s1.size+s2.size+s3.size<=100000000000000->Calls prog 244 #[pV wb,.slice (some (J q 0)) 3 3] (a.alloc (.cells #[.string s1,.string s2,.string s3] 9)) (U1 a0 B wb tv bn (f++(s1.data.toList++s2.data.toList++s3.data.toList)))):=
  λa0 o a q f s1 s2 s3=>EO (kQ a3 o.size) a q f s1 s2 s3;have FW:Hid (∀a0:E,I No w a0->∀a z f,bQ B wb a0 a->fF a B wb tv bn f->z<i->f.length+(cZ bn T z).length<=100000000000000->Calls prog 226 #[pV wb,U (z:Int)] a (U1 a0 B wb tv bn (f++cZ bn T z))):=by
  intro a0 o a z f ha hw A N;refine(IH z a f (by omega) (by omega) ((h.y o).kept ha hw) (kQ a3 (kQ o.size ha.size)) N).mono ?_;rintro e w' ⟨rfl,H,M⟩;exact⟨rfl,ha.trans H,M⟩
 have an:Hid (∀a0:E,I No w a0->fF a0 B wb tv bn G):=λa0 o=>h.jo.y o;have FR:Hid (∀a0:E,I No w a0->∀ga gc,a0.ownsRow 0 137 2 (.slice ga b.length gc) b.length (G0 b)->∀a,bQ B wb a0 a->a.ownsRow 0 137 2 (.slice ga b.length gc) b.length (G0 b)):=
  λa0 o ga gc hr a ha=>ha.own (h.jo.y o) hr (by decide) (by decide);have av:=O au;clear au;cases bn with
 |false=>
  have ac:b=R:=by rw[<-ab];rfl
  subst ac;clear ab aw;have c:I No w w:=I.refl _ _;have ak:=O ho;clear h ho;go_in;go_wp2_with fail;have V:=O (n.u w c w w.heap.size G ⟨#[123]⟩ rfl (bQ.refl _ _ _) (an.u w c) (by grind[ByteArray.size]));refine V.u.mono ?_;rintro e u1 ⟨rfl,H,M⟩;have K1:=O H;have R1:=O M;clear H M V;go_wp2_with fail;go_loopw [19] (λv wr=>∃j:Nat,j<=b.length/\v=U (j:Int)/\Hid (fF wr B wb tv false (G++[123]++lM false T (b.take j)))/\Hid (bQ B wb w wr)) (λv _=>b.length-(intOf v).toNat);case atStart=>grind[lM]
  case round=>
   obtain⟨j,hj,rfl,d,CR⟩:=hrel;have af:=kQ a3 (kQ c.size CR.u.size);by_cases u:j<b.length
   .have N:=RB (bn:=false) (T:=T) b u;have F:=O (GV (bn:=false) (T:=T) b u);obtain⟨az,ah,hg,b1,ag,x0,x1⟩:=XS (FR.u w c _ _ ak.u wr CR.u) u;subst ah;unfold maxLen at ag;have a7:=ar b[j] (mQ u);unfold yK at N F;generalize b[j]=p at*;obtain⟨x,zz⟩:=p;obtain⟨z,rfl⟩:∃z:Nat,zz=(z:Int):=⟨zz.toNat,by omega⟩;have am:z<i:=by have:=a7.2;simp only at this;omega
    simp only[tQ,qQ,jQ,xQ]at N F x0 x1;clear a7;have l:I No wr (wr.alloc (.cells #[.string ⟨x.toArray⟩,U (z:Int)] 137)):=I.alloc _ _ _;have Z:=O (EO (B:=B) (wb:=wb) (tv:=tv) (bn:=false) (a0:=wr.alloc (.cells #[.string ⟨x.toArray⟩,U (z:Int)] 137)) (kQ af l.size) _ (wr.heap.size+1) _ ⟨#[32]⟩ ⟨x.toArray⟩ ⟨#[58,32]⟩ (by simp) (bQ.refl _ _ _) (d.u.y l) (by grind[ByteArray.size]));have WA:=O (d.u.y l);have S:=O (CR.u.trans (bQ.y l));have a6:wr.heap.size<(wr.alloc (.cells #[.string ⟨x.toArray⟩,U (z:Int)] 137)).heap.size:=by simp
    clear CR d l;go_wp2_with fail;refine Z.u.mono ?_;rintro e a9 ⟨rfl,s,h4⟩;have hq:=s.other WA.u (yY wr _) (by decide) (by decide);have d1:a9.cell? (J wr.heap.size 1)=some (U (z:Int)):=cr hq rfl;have d2:=yQ a6 s.size;have a2:=O (FW.u w c a9 z _ (S.u.trans s) h4 am (by simp only[qQ,jQ,xQ];omega));clear s h4 hq WA S Z a6;go_wp2_with fail;refine a2.u.mono ?_;rintro e aa ⟨rfl,h5,h6⟩;have W:=O (n.u w c aa aa.heap.size _ ⟨#[59]⟩ rfl h5 h6 (by simp[ByteArray.size];omega));clear h5 h6 a2;go_wp2_with fail;refine W.u.mono ?_;rintro e b6 ⟨rfl,h7,h8⟩;have K7:=O h7;have R8:=O h8;clear h7 h8 W;go_wp2;go_roundw;case rel=>exact⟨j+1,by omega,by go_num,by rw[F.u];grind,K7.u⟩
    case measure=>simp[intOf];omega
   .have ai:j=b.length:=by omega
    subst ai;rw[jZ]at d;have a4:bQ B wb w w:=bQ.y c;by_cases A:b.length=0
    .have r:=O (n.u w c wr wr.heap.size _ ⟨#[125]⟩ rfl CR.u d.u (by grind[ByteArray.size]));have g:=y.u;rw[wY A]at g;have D:=O g;clear g y;clear CR d;have al:(b.length:Int)=0:=by omega
     simp only[al]at*;go_wp2_with fail;refine r.u.mono ?_;rintro e P ⟨rfl,t,L⟩;go_wp2;go_end0;exact⟨rfl,a4.trans t,by rw[D.u];grind⟩
    .have b3:(0:Int)<(b.length:Int):=by omega
     have b2:=aq A;have g:=y.u;rw[zY A]at g;have D:=O g;clear g y;have r:=O (n.u w c wr wr.heap.size _ ⟨#[32]⟩ rfl CR.u d.u (by grind[ByteArray.size]));clear CR d;go_wp2_with fail;refine r.u.mono ?_;rintro e P ⟨rfl,t,L⟩;have ad:=O (n.u w c P P.heap.size _ ⟨#[125]⟩ rfl t L (by grind[ByteArray.size]));clear t L r;go_wp2_with fail;refine ad.u.mono ?_;rintro e b7 ⟨rfl,ae,b0⟩;go_wp2;go_end0;exact⟨rfl,a4.trans ae,by rw[D.u];grind⟩
 |true=>
  have ac:b=kV R:=by rw[<-ab];rfl
  have HC:=O (zt w R fa fc ho (by omega));clear h ho;go_in;go_wp2_with fail;refine HC.u.mono ?_;rintro e b5 ⟨ga,gc,rfl,ax,o1⟩;have ao:=O (Je b5 w.heap.size R av.u _ o1 (by omega));have K1:=O ax;have O1:=O o1;clear ax o1 HC;go_wp2_with fail;refine ao.u.mono ?_;rintro e k ⟨rfl,ay,o2⟩;have c:=K1.u.trans ay (λb4 hk b8=>by have:=(A9 O1.u b4 b8.symm).1;omega);rw[<-ac]at o2;have ak:=O (C8 o2 (wQ _));clear K1 O1 ao ay o2 ac av ab;generalize R.length=bg at*;subst aw;go_wp2_with fail;have V:=O (n.u k c k k.heap.size G ⟨#[123]⟩ rfl (bQ.refl _ _ _) (an.u k c) (by grind[ByteArray.size]));refine V.u.mono ?_;rintro e u1 ⟨rfl,H,M⟩;have K1:=O H;have R1:=O M;clear H M V;go_wp2_with fail;go_loopw [19] (λv wr=>∃j:Nat,j<=b.length/\v=U (j:Int)/\Hid (fF wr B wb tv true (G++[123]++lM true T (b.take j)))/\Hid (bQ B wb k wr)) (λv _=>b.length-(intOf v).toNat);case atStart=>grind[lM]
  case round=>
   obtain⟨j,hj,rfl,d,CR⟩:=hrel;have af:=kQ a3 (kQ c.size CR.u.size);by_cases u:j<b.length
   .have N:=RB (bn:=true) (T:=T) b u;have F:=O (GV (bn:=true) (T:=T) b u);obtain⟨az,ah,hg,b1,ag,x0,x1⟩:=XS (FR.u k c _ _ ak.u wr CR.u) u;subst ah;unfold maxLen at ag;have a7:=ar b[j] (mQ u);unfold yK at N F;generalize b[j]=p at*;obtain⟨x,zz⟩:=p;obtain⟨z,rfl⟩:∃z:Nat,zz=(z:Int):=⟨zz.toNat,by omega⟩;have am:z<i:=by have:=a7.2;simp only at this;omega
    simp only[tQ,qQ,jQ,xQ]at N F x0 x1;clear a7;have l:I No wr (wr.alloc (.cells #[.string ⟨x.toArray⟩,U (z:Int)] 137)):=I.alloc _ _ _;have Z:=O (EO (B:=B) (wb:=wb) (tv:=tv) (bn:=true) (a0:=wr.alloc (.cells #[.string ⟨x.toArray⟩,U (z:Int)] 137)) (kQ af l.size) _ (wr.heap.size+1) _ ⟨#[32]⟩ ⟨x.toArray⟩ ⟨#[58,32]⟩ (by simp) (bQ.refl _ _ _) (d.u.y l) (by grind[ByteArray.size]));have WA:=O (d.u.y l);have S:=O (CR.u.trans (bQ.y l));have a6:wr.heap.size<(wr.alloc (.cells #[.string ⟨x.toArray⟩,U (z:Int)] 137)).heap.size:=by simp
    clear CR d l;go_wp2_with fail;refine Z.u.mono ?_;rintro e a9 ⟨rfl,s,h4⟩;have hq:=s.other WA.u (yY wr _) (by decide) (by decide);have d1:a9.cell? (J wr.heap.size 1)=some (U (z:Int)):=cr hq rfl;have d2:=yQ a6 s.size;have a2:=O (FW.u k c a9 z _ (S.u.trans s) h4 am (by simp only[qQ,jQ,xQ];omega));clear s h4 hq WA S Z a6;go_wp2_with fail;refine a2.u.mono ?_;rintro e aa ⟨rfl,h5,h6⟩;have W:=O (n.u k c aa aa.heap.size _ ⟨#[59]⟩ rfl h5 h6 (by simp[ByteArray.size];omega));clear h5 h6 a2;go_wp2_with fail;refine W.u.mono ?_;rintro e b6 ⟨rfl,h7,h8⟩;have K7:=O h7;have R8:=O h8;clear h7 h8 W;go_wp2;go_roundw;case rel=>exact⟨j+1,by omega,by go_num,by rw[F.u];grind,K7.u⟩
    case measure=>simp[intOf];omega
   .have ai:j=b.length:=by omega
    subst ai;rw[jZ]at d;have a4:bQ B wb w k:=bQ.y c;by_cases A:b.length=0
    .have r:=O (n.u k c wr wr.heap.size _ ⟨#[125]⟩ rfl CR.u d.u (by grind[ByteArray.size]));have g:=y.u;rw[wY A]at g;have D:=O g;clear g y;clear CR d;have al:(b.length:Int)=0:=by omega
     simp only[al]at*;go_wp2_with fail;refine r.u.mono ?_;rintro e P ⟨rfl,t,L⟩;go_wp2;go_end0;exact⟨rfl,a4.trans t,by rw[D.u];grind⟩
    .have b3:(0:Int)<(b.length:Int):=by omega
     have b2:=aq A;have g:=y.u;rw[zY A]at g;have D:=O g;clear g y;have r:=O (n.u k c wr wr.heap.size _ ⟨#[32]⟩ rfl CR.u d.u (by grind[ByteArray.size]));clear CR d;go_wp2_with fail;refine r.u.mono ?_;rintro e P ⟨rfl,t,L⟩;have ad:=O (n.u k c P P.heap.size _ ⟨#[125]⟩ rfl t L (by grind[ByteArray.size]));clear t L r;go_wp2_with fail;refine ad.u.mono ?_;rintro e b7 ⟨rfl,ae,b0⟩;go_wp2;go_end0;exact⟨rfl,a4.trans ae,by rw[D.u];grind⟩
def EZ(b:∀i (a:i<T.length),T[i].M.length<=100000000/\T[i].ej.length<=2001):∀m,uK B wb tv bn T m
 |0=>λi w c g=>by omega
 |m+1=>λi w c f a h d e=>Wt (EZ b m) i (by omega) (Dk (EZ b m) i (by omega) a (b i a).2) a w c h d e (b i a).1
end
def Jc{w:E}{B c:Nat}{q:Value}{i:Bool}{l:Y}(h:fF w B c q i l)(d:l≠[]):
 Calls prog 227 #[pV c] w λe s=>e=.returned (.string ⟨l.toArray⟩)/\Below B w s:=by
 obtain⟨u,p,v,m,_,f⟩:=h;have G:l.length≠0:=by simpa using d
 obtain⟨g,a,b,rfl,k,n,H,A,D,L⟩:∃g a b,v=.slice (some (J g 0)) l.length a/\B<=g/\w.heap[g]?=some (.cells b 5 (0,0))/\l.length<=a/\a<=maxLen/\b.size=a*1/\b.toList.take (l.length*1)=Lib.byteCells l:=by
  obtain⟨_,N⟩|⟨g,a,b,o,r⟩:=f.2
  .omega
  .exact⟨g,a,b,o,r⟩
 have t:w.drew.cell? (J c 1)=some (.slice (some (J g 0)) l.length a):=by
  have:=m;rw[cell_of_row w.drew c 1 _ _ _ this];rfl
 have y:(Builtin.unsafeSliceData_ #[214] 252 #[.slice (some (J g 0)) l.length a]).run prog w.drew=.ok (pV g) w.drew:=
  Lib.run_unsafeSliceData_row _ _ _ _ _ _ (by omega);have z:(Builtin.unsafeString_ #[252,3] 9 #[pV g,U l.length]).run prog w.drew=.ok (.string ⟨l.toArray⟩) (w.drew.freeze (J g 0) l.length):=by
  refine Lib.run_unsafeString_row w.drew 252 3 9 5 underlying252 Tryz.ma g b.size (by have F:w.drew.heap[g]?=some (.cells b 5 (0,0)):=n;grind[World.shape?]) l d (by omega) (by grind[maxLen]) ?_;intro j x M;have:=f.cells rfl j (.int .u8 x.toNat) (by grind[Lib.byteCells]);exact this
 go_in;go_wp2;go_region;all_goals (go_wp2;go_ret;exact⟨rfl,Lib.below_freeze (Below.drew (Below.refl B w)) k _⟩)
def pG(T:List Ty):Prop:=∀i (a:i<T.length),T[i].M.length<=100000000/\T[i].ej.length<=2001
def Hg{bn:Bool}{T:List Ty}{i:Nat}(a:aU T)(b:i<T.length):cZ bn T i≠[]:=by
 grind[cZ,jX,Gg,Gn,xE]
def YO{bn:Bool}{T:List Ty}{i:Nat}:(cZ bn T i).length<=wg (tr T i):=by
 grind[cZ,jX,kQ,Bj,Gq]
section
variable{a b N:Nat}{T:List Ty}{D:Dt}
def Rz(w:E)(h:dH w a b N T D)(H:pG T)(j:Bool)(d:Nat)(l:w.heap[d]?=some (.cells #[.pointer none,sN,sN,.bool j] 218 (0,0)))(i:Nat)(r:i<T.length)(hl:wg (tr T i)<=1000000000):
 Calls prog 199 #[pV a,pV d,U (i:Int)] w λe S=>e=.returned (.string ⟨(cZ j T i).toArray⟩)/\Below d w S:=by
 have q:=h.ok;obtain⟨_,_,yv,V,F,o,M⟩:=h;obtain⟨f,c,rfl⟩:=B8 o;have a4:=(aI l);have W:w.cell? (J a 0)=some (.slice f T.length c):=cr F rfl;have Z:w.cell? (J d 2)=some (sN):=cr l rfl;have a2:=frozen_of_row w d 2 _ _ l;have n:=I.set w (J d 2) (.slice f T.length c);have ne:∀g m e,w.heap[g]?=some (.cells m e (0,0))->e≠218->¬g=d:=by
  rintro g m e k G rfl;rw[l]at k;simp only[zQ,xW]at k;exact G k.2.1.symm
 have R:fF (w.setCell (J d 2) (.slice f T.length c)) d d (.slice f T.length c) j []:=⟨vQ _,.pointer none,sN,by rw[heap_setCell_same w d 2 _ _ _ l];rfl,.inl rfl,kW _ _ _ _⟩;have P:jO (w.setCell (J d 2) (.slice f T.length c)) d d (.slice f T.length c) j T []:=by
  refine⟨R,q,V,A3 (C8 o (wQ _)) n λg k x=>?_,M.imp (dM.P n (λg _ _ hx L=>?_) (λ_ _ _=>trivial))⟩
  .obtain⟨_,m,L⟩:=A9 o g k;grind
  .grind
 have a3:=YO (bn:=j) (T:=T) (i:=i);have z:=O (EZ H (i+1) i _ [] (vQ _) r P (by simp;omega) (by grind));have v:=O (Hg (bn:=j) q r);have s:=O (n.ek (B:=d) (λa5 _ x=>by grind) (by omega));go_in;go_wp2_with fail;refine z.u.mono ?_;rintro e a6 ⟨rfl,A,p⟩;rw[bY]at p;have y:=O (Jc p v.u);have t:=O (s.u.trans (A.below (by simp;omega)));go_wp2_with fail;refine y.u.mono ?_;rintro e a7 ⟨rfl,B⟩;have u:=O (t.u.trans B);go_wp2;go_ret;exact⟨rfl,u.u⟩
def Qq(w:E)(h:dH w a b N T D)(g:pG T)(i:Nat)(j:i<T.length)(l:wg (tr T i)<=1000000000):
 Calls prog 165 #[pV a,U (i:Int)] w λe m=>e=.returned (.string ⟨(cZ true T i).toArray⟩)/\I No w m:=by
 have d:=O (Rz _ (h.alloc (.cells #[.pointer none,sN,sN,.bool true] 218)) g true w.heap.size (yY w _) i j l);go_in;go_wp2_with fail;refine d.u.mono ?_;rintro e o ⟨rfl,f⟩;have c:=O (((I.alloc (λk=>w.heap.size<=k) w _).trans (I.below f) (λ_ _ x=>x)).mono (S':=λ_=>False) (λk n x=>by omega));go_wp2;go_ret;exact⟨rfl,c.u⟩
end
