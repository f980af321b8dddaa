/-
  A part of the proof.
-/
import Derived.RangeFuncNested
import Derived.RangeFuncBound
import Derived.RangeFuncCalls
import Derived.RangeFuncLeaves
import Derived.RangeFuncBox
import Derived.Shelf.Abstract
import Derived.Shelf.RegionOpen
import Derived.OwnWalkIn
import Derived.TacticsInMore
import Derived.LoopNIn
import Derived.LoopIn
import Derived.OwnWalk
import Derived.Test.YteocidgdmjaffaaGreatDoorBindD
set_option maxHeartbeats 0
set_option linter.all false
set_option maxRecDepth 100000
namespace Go.Proofs.YteocidgdmjaffaaGreatDoor
open Go.Proofs.Tryz
open Go.RowKit Go.Maps
section
variable(w:E)(b e f:Int)(a:bZ)(c:Option Addr)(d:Nat)(j:ByteArray)(g i h:Int)
def Dd(D:w.ownsRow 0 3 1 (.slice c a.length d) a.length (C7 a))(hn:a.length<=100000):Calls prog 40 #[.agg #[U 6,U b,U e,U f,.slice c a.length d,.string j,U g,U i,U h]] w (mX w (a++[b])):=by
 obtain⟨i0,S,Z,a2,a3⟩:=info_parts Tryz.fm;have A1:=I.alloc No w (.cells #[U 6,U b,U e,U f,.slice c a.length d,.string j,U g,U i,U h] 85);have nb:=yY w (.cells #[U 6,U b,U e,U f,.slice c a.length d,.string j,U g,U i,U h] 85);have n1:(w.alloc (.cells #[U 6,U b,U e,U f,.slice c a.length d,.string j,U g,U i,U h] 85)).cell? (J w.heap.size 1)=some (U b):=cr nb rfl;have n4:(w.alloc (.cells #[U 6,U b,U e,U f,.slice c a.length d,.string j,U g,U i,U h] 85)).cell? (J w.heap.size 4)=some (.slice c a.length d):=cr nb rfl;have V:(w.alloc (.cells #[U 6,U b,U e,U f,.slice c a.length d,.string j,U g,U i,U h] 85)).heap.size=w.heap.size+1:=Array.size_push _;have H:=O A1;have HO:=O D;go_in;go_wp2;generalize (w.alloc (.cells #[U 6,U b,U e,U f,.slice c a.length d,.string j,U g,U i,U h] 85))=W at*;have N:Hid (∀u,I No W u->Calls prog 71 #[.slice c a.length d] u λt r=>∃m n,t=.returned (.slice m a.length n)/\Hid (I No u r)/\Hid (r.ownsRow w.heap.size 3 1 (.slice m a.length n) a.length (C7 a))/\r.cell? (J w.heap.size 1)=some (U b)/\u.heap.size<=r.heap.size):=λu G=>by
  refine(MY u a c d (A3 (A3 HO.u H.u (λ_ _ x=>x)) G (λ_ _ x=>x)) hn).mono ?_;rintro t r ⟨m,n,rfl,B,D⟩;have:=G.size;exact⟨m,n,rfl,B,C8 D (by omega),A4 (B6 G B) n1,B.size⟩
 have a7:(W.drew.alloc (.cells #[U b] 3)).heap[w.heap.size+1]?=some (.cells #[U b] 3 (0,0)):=by
  have:=yY W.drew (.cells #[U b] 3);rw[show W.drew.heap.size=w.heap.size+1 from V]at this;exact this
 have a4:=O a7;have a9:(W.drew.alloc (.cells #[U b] 3)).heap.size=w.heap.size+2:=by
  show (W.heap.push _).size=_;rw[Array.size_push,V]
 have M:=O (B6 (I.drewN No W 1) (I.alloc No W.drew (.cells #[U b] 3)));go_region_law (first
  |(refine step_append_lies _ (by rfl) _ _ _ (by rfl) w.heap.size 3 i0 (U 0) 1 8 underlying54 S Z a2 a3 rfl (by omega) (.slice m a.length n) a.length (C7 a) (by rfl) (o.u.alloc _) (J l.heap.size 0) 1 1 [U b] (by rfl) (by rfl) (World.news_of_block (yY l _)) (by simp [Value.oneCell']) (by omega) (by grind[maxLen]) (by omega) (by simp;omega) (l.heap.size+1) (by simp) ?_;intro z y v q p A a5;have P:Hid (I (λk=>w.heap.size<=k) l v):=(I.alloc (λk=>w.heap.size<=k) l (.cells #[U b] 3)).trans (I.grown p) (λk T x=>(A9 o.u k x.symm).1);have R:=O q;clear q p A)
  |(refine step_append_lies _ (by rfl) _ _ _ (by rfl) w.heap.size 3 i0 (U 0) 1 8 underlying54 S Z a2 a3 rfl (by omega) (.slice m a.length n) a.length (C7 a) (by rfl) o.u (J (w.heap.size+1) 0) 1 1 [U b] (by rfl) (by rfl) (World.news_of_block (by rw [s.u.block _ (by omega) (λx=>x)];exact a4.u)) (by simp [Value.oneCell']) (by omega) (by grind[maxLen]) (by omega) (by omega) l.heap.size rfl ?_;intro z y v q p A a5;have P:Hid (I (λk=>w.heap.size<=k) l v):=(I.grown p).mono (λk T x=>(A9 o.u k x.symm).1);have R:=O q;clear q p A)
  |(go_simp;refine (N.u _ (I.drewN _ _ 1)).mono ?_;rintro t l ⟨m,n,rfl,s,o,a8,F⟩;have L:=O (B6 (I.drewN No W 1) s.u);have a6:w.heap.size+1<=l.heap.size:=(by simp_all);clear F)
  |(go_simp;refine (N.u _ M.u).mono ?_;rintro t l ⟨m,n,rfl,s,o,a8,F⟩;have L:=O (B6 M.u s.u);have a6:w.heap.size+1<=l.heap.size:=(by omega);clear F));all_goals
  have HR:Hid (mX w (a++[b]) (.returned (.slice (some (J z 0)) (a.length+1) y)) v):=by
   refine⟨some (J z 0),y,by simp,((B6 H.u L.u).mono (λ_ _ x=>x.elim)).trans P.u (λ_ _ x=>x)|>.mono (λk T x=>by omega),?_⟩;rw[qQ,List.length_singleton,Q9];exact R.u
  go_wp2;go_ret;exact HR.u
end
def Ul{N}{T}{i}{l}(q:nF N T i l)(w:E)(a)(b)(o:w.ownsRow 0 3 1 (.slice a l.M.length b) l.M.length (C7 l.M))(n:l.M.length<=100000):
 Calls prog 40 #[fE l a b] w (mX w (kK l)):=by
 have r:=q.k;unfold fE kK;obtain⟨m,d,e,f,c,s,g,k,j⟩:=l;simp only at*;split
 .rename_i h;exact EJ w d e f c a b _ g k j m h o n
 split
 .rename_i h;subst h;exact OE w d e f c a b _ g k j o n
 split
 .rename_i h;subst h;exact Dd w d e f c a b _ g k j o n
 split
 .rename_i h;exact EI w d e f c a b _ g k j m h
 split
 .rename_i h;exact vU w d e f c a b _ g k j m (by omega)
 split
 .rename_i h;exact BM w d e f c a b _ g k j m (by omega)
 split
 .rename_i h;split
  .rename_i p;exact vU w d e f c a b _ g k j m (by omega)
  .rename_i p;exact BM w d e f c a b _ g k j m (by omega)
 .exact EH w d e f c a b _ g k j m (by omega)
open Go.Shelf
attribute [local go_sem] Oper.semAt_some
def dn(m k:Nat):List (Fin (m+1)):=(List.range k).map λj=>⟨m-j,by omega⟩
theorem VJ(m k):dn m (k+1)=dn m k++[⟨m-k,by omega⟩]:=by grind[dn,List.range_succ]
theorem ub(m k):(dn m k).length=k:=by simp[dn]
def mZ(a b:Nat)(A B:E):Prop:=I (λk=>k=a\/b<=k) A B
theorem mZ.trans{a b}{A B c}(h:mZ a b A B)(k:mZ a b B c):mZ a b A c:=I.trans h k (λ_ _ x=>x)
def iG(W:E)(g:Nat)(a:C)(j:Nat)(b:Option Addr)(c:Nat):Prop:=W.cell? (J g (j*9))=some (U a.x)/\W.cell? (J g (j*9+1))=some (U a.a)/\W.cell? (J g (j*9+2))=some (U a.b)/\W.cell? (J g (j*9+3))=some (U a.c)/\W.cell? (J g (j*9+4))=some (.slice b a.M.length c)/\W.cell? (J g (j*9+5))=some (.string ⟨a.text.toArray⟩)/\W.cell? (J g (j*9+6))=some (U a.n)/\W.cell? (J g (j*9+7))=some (U a.ty)/\W.cell? (J g (j*9+8))=some (U a.at')
theorem mZ.cell{a b}{A B}(h:mZ a b A B){q o}{v}(f:q≠a)(e:q<b)(c:A.cell? (J q o)=some v):B.cell? (J q o)=some v:=by
 have d:=blt c;rw[World.cell?_of_block (I.block h q d (by omega))];omega
theorem iG.kp{c d}{A B}(h:mZ c d A B){g j}{i}{e}{f}(b:g≠c)(a:g<d)(t:iG A g i j e f):iG B g i j e f:=by
 obtain⟨k,l,m,n,o,p,q,r,s⟩:=t;exact⟨h.cell b a k,h.cell b a l,h.cell b a m,h.cell b a n,h.cell b a o,h.cell b a p,h.cell b a q,h.cell b a r,h.cell b a s⟩
def Zp(F)(n)(hF:F.fn 70)(Z:F.round=none)(hn:1<=n)(l d g B m f h)(hm:m<=1200)(r:Nat->C)(u:Nat->Option Addr)(w:Nat->Nat)(G:d≠f)(H:d<h)(S:g≠f)(T:g<h)(c s:List (Fin (m+1))->E->Prop)
 (t:∀b x W,c b W->b.length<m+1->YieldAt F (n-1) prog l #[U x.1,fE (r x.1) (u x.1) (w x.1)] W λe a=>
  (e=.returned (.bool true)/\c (b++[x]) a/\mZ f h W a)\/(e=.returned (.bool false)/\s (b++[x]) a))
 (W) (L:W.cell? (J d 0)=some (.slice (some (J g 0)) (m+1) B)) (P:∀j,j<m+1->iG W g (r j) j (u j) (w j)) (D:c [] W):
 CallsIn F n prog 70 #[.func (.yield l) #[] #[],pV d] W λe a=>(∃v,e=.returned v)/\
  ((∃y,y=dn m (m+1)/\c y a)\/(∃b,True/\s b a)):=by
 unfold fE at t;refine callsIn_of_wp func70 rfl hF ?_ Z;simp only[ntmps70,List.size_toArray,jQ,xQ,Nat.reduceAdd,Nat.reduceSub,Array.replicate_succ,Array.replicate_zero,List.push_toArray,List.append_toArray,bY,kZ];gi_wp2;gi_loopw [3] (λv wr=>∃k:Nat,k<=m+1/\v=U (m-k)/\c (dn m k) wr/\mZ f h W wr) (λv _=>(intOf v+1).toNat);case atStart=>exact⟨0,wQ _,by go_num,D,I.refl _ _⟩
 case round=>
  obtain⟨k,hk,rfl,M,i⟩:=hrel;have a8:=i.cell G H L;by_cases ac:k<m+1
  .obtain⟨p,hp⟩:∃p,p+k=m:=⟨m-k,by omega⟩;have o:p<m+1:=by omega
   have R:dn m (k+1)=dn m k++[⟨p,o⟩]:=by
    rw[VJ];have:m-k=p:=by omega
    simp only[this]
   obtain⟨a5,a6,a7,c3,c4,c5,c6,c7,c8⟩:=(P p o).kp i S T;obtain⟨fn,ad,a3,a4,hy,N⟩:=t (dn m k) ⟨p,o⟩ wr M (by grind[ub]);dsimp only at hy;have q:(m-k)=(p:Int):=by omega
   have z:=O R;have A:=O i;rw[q];generalize r p=a2 at*;obtain⟨kd,va,vb,vc,ls,tx,vn,vt,vp⟩:=a2;simp only at*;gi_wp2;refine N.mono ?_;rintro e W3 (⟨rfl,a9,V⟩|⟨rfl,aa⟩)
   .gi_wp2;go_roundw;case rel=>exact⟨k+1,by omega,by go_num,by rw[z.u];omega,A.u.trans V⟩
    simp_all[measure,intOf]
   .gi_wp2;refine bodyPost_ret (results_none rfl _ _ _) rfl ?_;grind
  .obtain rfl:k=m+1:=by omega
   have q:(m-((m+1:Nat):Int))=-1:=by omega
   rw[q];gi_wp2;go_end0;grind
def iG.below{d}{A B:E}(h:Below d A B){g j}{e}{b}{c}(t:g<d)(s:iG A g e j b c):iG B g e j b c:=by
 have a:∀{o:Nat} {v:Value},A.cell? (J g o)=some v->B.cell? (J g o)=some v:=λ{o v} u=>(h.cell t).trans u;obtain⟨f,i,k,l,m,n,p,q,r⟩:=s;exact⟨a f,a i,a k,a l,a m,a n,a p,a q,a r⟩
def vm(F:Fence)(n)(hF:F.fn 70)(H:F.round=none)(G:1<=n)(a g h m b c)(D:m<=1200)(f:Nat->C)(d:Nat->Option Addr)(e:Nat->Nat)(q:a≠b)(r:a<c)(y:g≠b)(z:g<c)(w:E)(t:a<w.heap.size)(A:g<w.heap.size)
 (s:w.cell? (J a 0)=some (.slice (some (J g 0)) (m+1) h)) (v:∀j,j<m+1->iG w g (f j) j (d j) (e j)):
 SeqStopsK F n prog 70 #[pV a] (λx:Fin (m+1)=>#[Value.int .i64 (x.1:Int),fE (f x.1) (d x.1) (e x.1)]) (mZ b c) (λL=>L=dn m (m+1)) (λ_=>True) (m+1) w:=λl k o W i _ _ u p=>
 Zp F n hF H G l a g h m b c D f d e q r y z k o u W ((i.cell t).trans s) (λj B=>(v j B).below i A) p
def Ko(F)(n)(hF:F.fn 39)(d:F.round=none)(a)(c b)(w:E):
 CallsIn F n prog 39 #[.slice a c b] w λe f=>e=.returned (.func (.func 70) #[] #[pV w.heap.size])/\f=w.alloc (.cells #[.slice a c b] 49):=by
 refine callsIn_of_wp func39 rfl hF ?_ d;simp only[ntmps39,List.size_toArray,jQ,xQ,Nat.reduceAdd,Nat.reduceSub,Array.replicate_succ,Array.replicate_zero,List.push_toArray,List.append_toArray,bY,kZ];gi_wp2;go_ret;exact⟨rfl,rfl⟩
theorem VX(N)(m)(b:N.length=m+1):∀k,k<=m+1->(dn m k).foldl (λa x=>fA N a x.1) (List.replicate N.length 0)=kP N k
 |0,_=>rfl
 |k+1,h=>by
  rw[VJ,List.foldl_append,VX N m b k (by omega),kP];grind
attribute [local go_sem] Oper.semAt_some
def Ct{N}{c5}(hf:∀i (b0),nF N c5 i N[i])(c4:∀i (b0:i<N.length),N[i].M.length<=1200)(m)(hN:N.length=m+1)(hm:m<=1200)(w)(g n)(hg:g<w.heap.size)(la:Nat->Option Addr)(lc:Nat->Nat)(hc:∀j,j<m+1->iG w g (aC N j) j (la j) (lc j))(c3:∀j,j<m+1->w.ownsRow 0 3 1 (.slice (la j) (aC N j).M.length (lc j)) (aC N j).M.length (C7 (aC N j).M)):
 Calls prog 23 #[.slice (some (J g 0)) (m+1) n] w λe w'=>∃fa fc,e=.returned (.slice fa (m+1) fc)/\I No w w'/\w'.ownsRow w.heap.size 3 1 (.slice fa (m+1) fc) (m+1) (C7 (kO N)):=by
 refine(callsIn_wide (n:=6)).1 ?_;obtain⟨i0,cb,ch,ci,cs⟩:=info_parts Tryz.fm;obtain⟨d,bj,aq,bg⟩:=run_make_full (P:=prog) (w.alloc (.cells #[.slice (some (J g 0)) (m+1) n] 49)) w.heap.size 54 3 i0 (U 0) 1 underlying54 cb ch ci .i64 .i64 (m+1) (by grind) (by grind[maxLen]) (by simp);have ce:(w.alloc (.cells #[.slice (some (J g 0)) (m+1) n] 49)).heap.size=w.heap.size+1:=Array.size_push _;rw[ce]at bj aq;have c8:((m+1:Nat):Int)=(m:Int)+1:=by omega
 rw[c8]at bj;have bl:=yY w (.cells #[.slice (some (J g 0)) (m+1) n] 49);have bb:d.heap[w.heap.size]?=some (.cells #[.slice (some (J g 0)) (m+1) n] 49 (0,0)):=by
  rw[bg.block _ (by simp) (by simp)];exact bl
 have c6:d.cell? (J w.heap.size 0)=some (.slice (some (J g 0)) (m+1) n):=cr bb rfl;have cq:w.heap.size+2<=d.heap.size:=by
  have:=(A9 aq (w.heap.size+1) rfl);obtain⟨_,ak,L⟩:=this;have:=(aI L);omega
 have bA:Boxed (d.alloc (.cells #[.slice (some (J (w.heap.size+1) 0)) (m+1) (m+1)] 54)) d.heap.size 54 (.slice (some (J (w.heap.size+1) 0)) (m+1) (m+1)):=Boxed.new d _ _;have bL:Boxed (d.alloc (.cells #[.slice (some (J (w.heap.size+1) 0)) (m+1) (m+1)] 54)) w.heap.size 49 (.slice (some (J g 0)) (m+1) n):=Boxed.alloc (show Boxed d _ _ _ from bb) _;have c7:=bL.cell;refine callsIn_of_wp_marks func23 rfl trivial ?_ rfl;simp only[ntmps23,List.size_toArray,jQ,xQ,Nat.reduceAdd,Nat.reduceSub,Array.replicate_succ,Array.replicate_zero,List.push_toArray,List.append_toArray,bY,kZ];gi_wp2_with (refine⟨trivial,?_⟩;gi_at_call 39;refine(Ko _ _ trivial rfl _ _ _ _).mono ?_;rintro e w' ⟨rfl,rfl⟩);have bS:=Boxed.new (d.alloc (.cells #[.slice (some (J (w.heap.size+1) 0)) (m+1) (m+1)] 54)) 49 (.slice (some (J g 0)) (m+1) n);rw[World.size_alloc]at bS;have bu:=bA.alloc (.cells #[.slice (some (J g 0)) (m+1) n] 49);have bv:=bL.alloc (.cells #[.slice (some (J g 0)) (m+1) n] 49);have bc:I No w ((d.alloc (.cells #[.slice (some (J (w.heap.size+1) 0)) (m+1) (m+1)] 54)).alloc (.cells #[.slice (some (J g 0)) (m+1) n] 49)):=B6 (B6 (B6 (I.alloc No w _) ((I.grown bg).mono (λ_ _ x=>by grind))) (I.alloc No d _)) (I.alloc No _ _);have bw:((d.alloc (.cells #[.slice (some (J (w.heap.size+1) 0)) (m+1) (m+1)] 54)).alloc (.cells #[.slice (some (J g 0)) (m+1) n] 49)).ownsRow w.heap.size 3 1 (.slice (some (J (w.heap.size+1) 0)) (m+1) (m+1)) (m+1) (C7 (List.replicate N.length 0)):=by
  have e:(madeCells (Value.int IntKind.i64 0).cells ((m+1)*1)).toList=C7 (List.replicate N.length 0):=by
   rw[hN];apply List.ext_getElem
   .grind[madeCells,C7]
   .simp_all[madeCells,C7,Value.cells,Nat.mod_one]
  rw[e]at aq;exact(aq.alloc _).alloc _
 have cf:((d.alloc (.cells #[.slice (some (J (w.heap.size+1) 0)) (m+1) (m+1)] 54)).alloc (.cells #[.slice (some (J g 0)) (m+1) n] 49)).heap.size=d.heap.size+2:=by simp
 obtain⟨W0,bx⟩:∃W0,(d.alloc (.cells #[.slice (some (J (w.heap.size+1) 0)) (m+1) (m+1)] 54)).alloc (.cells #[.slice (some (J g 0)) (m+1) n] 49)=W0:=⟨_,rfl⟩;rw[bx]at bS bu bv bc bw cf⊢;clear bx bA bL c6 c7 bl bb bj aq bg;refine wpIn_rangeFunc_ownH rfl (by omega) (gf:=70) (lb:=#[pV (d.heap.size+1)]) rfl trivial (enters_of func70 (by rfl) rfl)
  (vm _ _ trivial rfl (by omega) (d.heap.size+1) g n m (w.heap.size+1) (d.heap.size+2) hm (λj=>aC N j) la lc (by omega) (by omega) (by omega) (by omega) W0 (by omega) (by omega) bS.cell (λj hj=>(hc j hj).below (I.ek bc (λ_ _ x=>x.elim) (vQ _)) hg)) mZ.trans
  (λW an b9 o' hl b0 _ _=>⟨rfl,rfl,rfl,by simp,λk _ D=>World.putObj_heap_other (λe=>D (by omega))⟩) (Below.refl _ _) (λ_=>rfl)
  (λaj W=>(Boxed W w.heap.size 49 (.slice (some (J g 0)) (m+1) n)/\Boxed W d.heap.size 54 (.slice (some (J (w.heap.size+1) 0)) (m+1) (m+1)))/\(W.ownsRow w.heap.size 3 1 (.slice (some (J (w.heap.size+1) 0)) (m+1) (m+1)) (m+1) (C7 (aj.foldl (λb x=>fA N b x.1) (List.replicate N.length 0)))/\I No w W))
  (λ_ _ _=>False)
  (λaj W W' bp hs al hr=>by
   obtain⟨⟨h1,H⟩,r,h4⟩:=hs;refine⟨⟨boxed_own _ _ (λ(_:Unit)=>_) () W W' bp h1 al (λbo e=>(hr bo e).2),boxed_own _ _ (λ(_:Unit)=>_) () W W' bp H al (λbo e=>(hr bo e).2)⟩,A3 r (I.grown al) (λq F x=>?_),h4.trans (I.grown al) (λk D x=>by grind)⟩;obtain⟨_,ak,L⟩:=A9 r q F;grind[Obj.isCells])
  (λ_ _ _ _ _ hs _ _=>hs)
  ⟨⟨bv,bu⟩,bw,bc⟩
  (λx a' W=>∃Bx,d.heap.size<Bx/\W.heap[Bx]?=some (.cells #[U (aC N x.1).x,U (aC N x.1).a,U (aC N x.1).b,U (aC N x.1).c,.slice (la x.1) (aC N x.1).M.length (lc x.1),.string ⟨(aC N x.1).text.toArray⟩,U (aC N x.1).n,U (aC N x.1).ty,U (aC N x.1).at'] 85 (0,0))/\a'={tmps:=#[.slice (some (J g 0)) (m+1) n,pV w.heap.size,sN,pV d.heap.size,U (x.1:Int),pV Bx,undef,undef,undef,.slice (some (J g 0)) (m+1) n,U ((m:Int)+1),.slice (some (J (w.heap.size+1) 0)) (m+1) (m+1),.slice (some (J g 0)) (m+1) n,.func (.func 70) #[] #[pV (d.heap.size+1)],U (x.1:Int),fE (aC N x.1) (la x.1) (lc x.1),undef,undef,undef,undef,undef,undef,undef,undef,undef,undef,undef,undef,undef,undef,undef,undef,undef,undef,undef,undef,undef,undef,undef,undef,undef,undef,undef,undef,undef],defers:=[]})
  (λx a' _ cj Y bp hs al hr=>by
   obtain⟨Bx,h1,H,r⟩:=hs;refine⟨Bx,h1,?_,r⟩;rw[al.block Bx (aI H) (λe=>?_)]<;>grind[Obj.isCells])
  ?assign ?body ?done ?stop;case assign=>
  rintro an aj x W K ⟨⟨h1,H⟩,r,h4⟩ hK;unfold fE at hK⊢;generalize aC N x.1=nd at*;obtain⟨kd,va,vb,vc,ls,tx,vn,vt,vp⟩:=nd;simp only at*;gi_wp2;exact hK _ _ ((KeepsOthers.alloc _ _).from _) (I.alloc _ _ _) ⟨⟨h1.alloc _,H.alloc _⟩,r.alloc _,B6 h4 (I.alloc No _ _)⟩ ⟨W.heap.size,H.lt,yY W _,rfl⟩
 case body=>
  rintro an aj ⟨i,hi⟩ a' W hl-⟨⟨b1,b2⟩,au,b4⟩ ⟨Bx,cn,G,rfl⟩ cd;simp only at*;have bh:i<N.length:=by omega
  have b7:=B9 bh;have be:=hf i bh;have cp:=c4 i bh;have b6:=c3 i hi;rw[b7]at b6 G⊢;have cg:=b4.size;have aa:Hid (∀aw,I (λk=>k=w.heap.size+1) W aw->Calls prog 40 #[fE N[i] (la i) (lc i)] aw (mX aw (kK N[i]))):=λaw hu=>Ul be aw (la i) (lc i) (A3 (A3 b6 b4 (λ_ _ x=>x)) hu (λq F x=>by
   have x':=x;have:=(b6.lt q F).2;omega)) (by omega);have ay:=O (Dq be);obtain⟨b,bd⟩:∃b,aj.foldl (λb x=>fA N b x.1) (List.replicate N.length 0)=b:=⟨_,rfl⟩;have ao:Hid ((aj++[(⟨i,hi⟩:Fin (m+1))]).foldl (λb x=>fA N b x.1) (List.replicate N.length 0)=bE (jA N b i) (kN N b i) (kK N[i])):=by
   show _=_;rw[List.foldl_append,bd];simp only[List.foldl_cons,List.foldl_nil,fA,b7]
  rw[bd]at au;clear bd;have b3:b.length=m+1:=by
   have:=au.1;simpa[C7]using this
  have b8:W.ownsRow w.heap.size 3 1 (.slice (some (J (w.heap.size+1) 0)) b.length (m+1)) b.length (C7 b):=by rw[b3];exact au
  obtain⟨gx,B,b5,a6,a7,v1⟩:=D6 (j:=i) (C8 b8 (wQ _)) (show i<b.length by omega);have a5:gx=w.heap.size+1:=by
   have:=vZ B;exact(congrArg Addr.block this).symm
  subst a5;have ab:W.frozen? (J (w.heap.size+1) i)=false:=by
   obtain⟨_,ak,L⟩:=A9 b8 (w.heap.size+1) rfl;exact frozen_of_row W _ i _ _ L
  have S:=O (sX b8 i (-1));rw[b3]at S;have c9:b.getD i 0=b[i]'(by omega):=by rw[lQ,gQ (show i<b.length by omega)];rfl
  have ca:(b.set i (-1)).getD i 0=-1:=by rw[lQ,List.getElem?_set_self (show i<b.length by omega)];rfl
  have HW:Hid ((i=m->N[i].x=6->jA N b i=b.set i (-1)/\kN N b i=(i:Int))/\(i=m->N[i].x≠6->jA N b i=b.set i (-1)/\kN N b i=-1)/\(i≠m->N[i].x=6->jA N b i=b/\kN N b i=(i:Int))/\(i≠m->N[i].x≠6->jA N b i=b/\kN N b i=b[i]'(by omega))):=by
   unfold kN jA;rw[b7,hN];refine⟨λe k=>?_,λe k=>?_,λe k=>?_,λe k=>?_⟩
   .grind
   .grind
   .grind
   .grind
  have cL:=b1.cell;have cA:=b2.cell;have a8:=O b1;have a9:=O b2;have ax:=O b4;have az:=O cg;have bt:=O au;have bs:=O b3;have br:Hid ((b.set i (-1)).length=m+1):=by
   show _=_;rw[List.length_set];exact b3
  clear c9 ca be hf c4 c3 hc b6 au b8 b1 b2 b4 B a6 a7 b7 cd;generalize kK N[i]=a at*;generalize jA N b i=f at*;generalize kN N b i=ww at*;generalize b[i]'_=ai at*;generalize b.set i (-1)=ck at*;unfold fE at*;generalize N[i]=nd at*;obtain⟨kd,va,vb,vc,ls,tx,vn,vt,vp⟩:=nd;simp only at*;have n0:=cell_of_row _ _ 0 _ _ _ G;have n1:=cell_of_row _ _ 1 _ _ _ G;have n2:=cell_of_row _ _ 2 _ _ _ G;have n3:=cell_of_row _ _ 3 _ _ _ G;have n4:=cell_of_row _ _ 4 _ _ _ G;have n5:=cell_of_row _ _ 5 _ _ _ G;have n6:=cell_of_row _ _ 6 _ _ _ G;have n7:=cell_of_row _ _ 7 _ _ _ G;have n8:=cell_of_row _ _ 8 _ _ _ G;have cm:=(aI G);clear G;by_cases am:i=m
  .by_cases h6:kd=6
   .skip;obtain⟨e1,e2⟩:=HW.u.1 am h6;subst e1 e2;have ac:=O br.u;have T:Hid ((W.setCell (J (w.heap.size+1) i) (U (-1))).ownsRow w.heap.size 3 1 (.slice (some (J (w.heap.size+1) 0)) (m+1) (m+1)) (m+1) (C7 f)):=S.u;have h:Hid (I (λk=>k=w.heap.size+1) W (W.setCell (J (w.heap.size+1) i) (U (-1)))):=(show I (λk=>k=w.heap.size+1) W _ from I.set W (J (w.heap.size+1) i) (U (-1)));have ad:=O ao.u;have bi:=am.symm;subst bi;subst h6;gi_wp2;refine⟨trivial,(CallsIn.inRound an (callsIn_wide.2 (aa.u _ h.u))).mono ?_⟩;rintro e bq ⟨ga,gc,rfl,u,a4⟩;have M:=O (h.u.trans u (λ_ _ x=>x.elim));have P:=O (C8 a4 h.u.size);have R:=O (A3 T.u u (λ_ _ x=>x));clear u a4 T h aa v1 ab cL cA n0 n1 n2 n3 n4 n5 n6 n7 n8;gi_wp2;gi_loopw [35] (λv wr=>∃j:Nat,j<=a.length/\v=U (j:Int)/\Hid (I (λk=>k=w.heap.size+1) W wr)/\Hid (wr.ownsRow w.heap.size 3 1 (.slice (some (J (w.heap.size+1) 0)) (m+1) (m+1)) (m+1) (C7 (bE f (m:Int) (a.take j))))/\Hid (wr.ownsRow W.heap.size 3 1 (.slice ga a.length gc) a.length (C7 a))) (λv _=>a.length-(intOf v).toNat);case atStart=>exact⟨0,wQ _,rfl,M,R,P⟩
    case round=>
     obtain⟨j,hj,rfl,CR,l,t⟩:=hrel;clear M R P;have a3:Boxed wr d.heap.size 54 (.slice (some (J (w.heap.size+1) 0)) (m+1) (m+1)):=(CR.u.block _ a9.u.lt (by omega)).trans a9.u;have cA:=a3.cell;by_cases z:j<a.length
     .obtain⟨o,af,bf,ap,ah,v0⟩:=D6 (C8 t.u (wQ _)) z;subst af;obtain⟨y,A,bn⟩:=ay.u a[j] (mQ z);rw[A]at v0;have Z:Hid (bE f (m:Int) (a.take (j+1))=(bE f (m:Int) (a.take j)).set y (m:Int)):=by
       show _=_;rw[nQ z,BJ,A,tQ]
      have p:(bE f (m:Int) (a.take j)).length=m+1:=by rw[vA];exact ac.u
      have V:=O p;obtain⟨c,a2⟩:∃c,bE f (m:Int) (a.take j)=c:=⟨_,rfl⟩;rw[a2]at l Z V p;clear a2;have s:Hid (wr.ownsRow w.heap.size 3 1 (.slice (some (J (w.heap.size+1) 0)) c.length (m+1)) c.length (C7 c)):=by
       show World.ownsRow _ _ _ _ _ _ _;rw[p];exact l.u
      obtain⟨gx,B,b5,a6,a7,v1⟩:=D6 (j:=y) (C8 s.u (wQ _)) (show y<c.length by omega);have a5:gx=w.heap.size+1:=by
       have:=vZ B;exact(congrArg Addr.block this).symm
      subst a5;have ab:wr.frozen? (J (w.heap.size+1) y)=false:=by
       obtain⟨_,ak,L⟩:=A9 s.u (w.heap.size+1) rfl;exact frozen_of_row wr _ y _ _ L
      have S:=O (sX s.u y (m:Int));have ae:Hid (o≠w.heap.size+1):=by
       show o≠w.heap.size+1;have h1:=(t.u.lt o rfl).1;have H:=az.u;omega
      unfold maxLen at ah;have bm:(y:Int)<(m:Int)+1:=by omega
      generalize c[y]'_=av at*;clear p A B a6 a7;gi_wp2;go_roundw;case rel=>exact⟨j+1,by omega,by go_num,(show I (λk=>k=w.heap.size+1) W _ from CR.u.trans (I.set wr (J (w.heap.size+1) y) _) (λ_ _ x=>x)),(show World.ownsRow _ _ _ _ _ _ _ from by
       rw[Z.u];have:=S.u;rw[V.u]at this;omega),A3 t.u (I.set wr (J (w.heap.size+1) y) _) (λq F x=>by
        have x':q=w.heap.size+1:=x;have r:o=q:=vZ F;exact ae.u (r.trans x'))⟩
      grind[intOf]
     .have ag:j=a.length:=by omega
      subst ag;rw[jZ]at l;gi_wp2;refine⟨⟨CR.u.size,λk b9 D ho hn=>by rw[CR.u.block k (aI ho) (by omega)];omega⟩,CR.u.mono (λk _ x=>.inl x),⟨(CR.u.block _ a8.u.lt (by omega)).trans a8.u,a3⟩,?_,ax.u.trans CR.u (λk D x=>by omega)⟩;rw[ad.u];exact l.u
   .skip;obtain⟨e1,e2⟩:=HW.u.2.1 am h6;subst e1;rw[e2]at ao;have ac:=O br.u;have T:Hid ((W.setCell (J (w.heap.size+1) i) (U (-1))).ownsRow w.heap.size 3 1 (.slice (some (J (w.heap.size+1) 0)) (m+1) (m+1)) (m+1) (C7 f)):=S.u;have h:Hid (I (λk=>k=w.heap.size+1) W (W.setCell (J (w.heap.size+1) i) (U (-1)))):=(show I (λk=>k=w.heap.size+1) W _ from I.set W (J (w.heap.size+1) i) (U (-1)));have ad:=O ao.u;have bi:=am.symm;subst bi;have cc:(kd==6)=false:=by simpa using h6
    clear h6;gi_wp2;refine⟨trivial,(CallsIn.inRound an (callsIn_wide.2 (aa.u _ h.u))).mono ?_⟩;rintro e bq ⟨ga,gc,rfl,u,a4⟩;have M:=O (h.u.trans u (λ_ _ x=>x.elim));have P:=O (C8 a4 h.u.size);have R:=O (A3 T.u u (λ_ _ x=>x));clear u a4 T h aa v1 ab cL cA n0 n1 n2 n3 n4 n5 n6 n7 n8;gi_wp2;gi_loopw [35] (λv wr=>∃j:Nat,j<=a.length/\v=U (j:Int)/\Hid (I (λk=>k=w.heap.size+1) W wr)/\Hid (wr.ownsRow w.heap.size 3 1 (.slice (some (J (w.heap.size+1) 0)) (m+1) (m+1)) (m+1) (C7 (bE f (-1) (a.take j))))/\Hid (wr.ownsRow W.heap.size 3 1 (.slice ga a.length gc) a.length (C7 a))) (λv _=>a.length-(intOf v).toNat);case atStart=>exact⟨0,wQ _,rfl,M,R,P⟩
    case round=>
     obtain⟨j,hj,rfl,CR,l,t⟩:=hrel;clear M R P;have a3:Boxed wr d.heap.size 54 (.slice (some (J (w.heap.size+1) 0)) (m+1) (m+1)):=(CR.u.block _ a9.u.lt (by omega)).trans a9.u;have cA:=a3.cell;by_cases z:j<a.length
     .obtain⟨o,af,bf,ap,ah,v0⟩:=D6 (C8 t.u (wQ _)) z;subst af;obtain⟨y,A,bn⟩:=ay.u a[j] (mQ z);rw[A]at v0;have Z:Hid (bE f (-1) (a.take (j+1))=(bE f (-1) (a.take j)).set y (-1)):=by
       show _=_;rw[nQ z,BJ,A,tQ]
      have p:(bE f (-1) (a.take j)).length=m+1:=by rw[vA];exact ac.u
      have V:=O p;obtain⟨c,a2⟩:∃c,bE f (-1) (a.take j)=c:=⟨_,rfl⟩;rw[a2]at l Z V p;clear a2;have s:Hid (wr.ownsRow w.heap.size 3 1 (.slice (some (J (w.heap.size+1) 0)) c.length (m+1)) c.length (C7 c)):=by
       show World.ownsRow _ _ _ _ _ _ _;rw[p];exact l.u
      obtain⟨gx,B,b5,a6,a7,v1⟩:=D6 (j:=y) (C8 s.u (wQ _)) (show y<c.length by omega);have a5:gx=w.heap.size+1:=by
       have:=vZ B;exact(congrArg Addr.block this).symm
      subst a5;have ab:wr.frozen? (J (w.heap.size+1) y)=false:=by
       obtain⟨_,ak,L⟩:=A9 s.u (w.heap.size+1) rfl;exact frozen_of_row wr _ y _ _ L
      have S:=O (sX s.u y (-1));have ae:Hid (o≠w.heap.size+1):=by
       show o≠w.heap.size+1;have h1:=(t.u.lt o rfl).1;have H:=az.u;omega
      unfold maxLen at ah;have bm:(y:Int)<(m:Int)+1:=by omega
      generalize c[y]'_=av at*;clear p A B a6 a7;gi_wp2;go_roundw;case rel=>exact⟨j+1,by omega,by go_num,(show I (λk=>k=w.heap.size+1) W _ from CR.u.trans (I.set wr (J (w.heap.size+1) y) _) (λ_ _ x=>x)),(show World.ownsRow _ _ _ _ _ _ _ from by
       rw[Z.u];have:=S.u;rw[V.u]at this;omega),A3 t.u (I.set wr (J (w.heap.size+1) y) _) (λq F x=>by
        have x':q=w.heap.size+1:=x;have r:o=q:=vZ F;exact ae.u (r.trans x'))⟩
      grind[intOf]
     .have ag:j=a.length:=by omega
      subst ag;rw[jZ]at l;gi_wp2;refine⟨⟨CR.u.size,λk b9 D ho hn=>by rw[CR.u.block k (aI ho) (by omega)];omega⟩,CR.u.mono (λk _ x=>.inl x),⟨(CR.u.block _ a8.u.lt (by omega)).trans a8.u,a3⟩,?_,ax.u.trans CR.u (λk D x=>by omega)⟩;rw[ad.u];exact l.u
  .by_cases h6:kd=6
   .skip;obtain⟨e1,e2⟩:=HW.u.2.2.1 am h6;subst e1 e2;have ac:=O bs.u;have T:Hid (W.ownsRow w.heap.size 3 1 (.slice (some (J (w.heap.size+1) 0)) (m+1) (m+1)) (m+1) (C7 f)):=bt.u;have h:Hid (I (λk=>k=w.heap.size+1) W W):=I.refl _ _;have ad:=O ao.u;have ap:((i:Int)==(m:Int))=false:=by simp;omega
    subst h6;gi_wp2;refine⟨trivial,(CallsIn.inRound an (callsIn_wide.2 (aa.u _ h.u))).mono ?_⟩;rintro e bq ⟨ga,gc,rfl,u,a4⟩;have M:=O (h.u.trans u (λ_ _ x=>x.elim));have P:=O (C8 a4 h.u.size);have R:=O (A3 T.u u (λ_ _ x=>x));clear u a4 T h aa v1 ab cL cA n0 n1 n2 n3 n4 n5 n6 n7 n8;gi_wp2;gi_loopw [35] (λv wr=>∃j:Nat,j<=a.length/\v=U (j:Int)/\Hid (I (λk=>k=w.heap.size+1) W wr)/\Hid (wr.ownsRow w.heap.size 3 1 (.slice (some (J (w.heap.size+1) 0)) (m+1) (m+1)) (m+1) (C7 (bE f (i:Int) (a.take j))))/\Hid (wr.ownsRow W.heap.size 3 1 (.slice ga a.length gc) a.length (C7 a))) (λv _=>a.length-(intOf v).toNat);case atStart=>exact⟨0,wQ _,rfl,M,R,P⟩
    case round=>
     obtain⟨j,hj,rfl,CR,l,t⟩:=hrel;clear M R P;have a3:Boxed wr d.heap.size 54 (.slice (some (J (w.heap.size+1) 0)) (m+1) (m+1)):=(CR.u.block _ a9.u.lt (by omega)).trans a9.u;have cA:=a3.cell;by_cases z:j<a.length
     .obtain⟨o,af,bf,ap,ah,v0⟩:=D6 (C8 t.u (wQ _)) z;subst af;obtain⟨y,A,bn⟩:=ay.u a[j] (mQ z);rw[A]at v0;have Z:Hid (bE f (i:Int) (a.take (j+1))=(bE f (i:Int) (a.take j)).set y (i:Int)):=by
       show _=_;rw[nQ z,BJ,A,tQ]
      have p:(bE f (i:Int) (a.take j)).length=m+1:=by rw[vA];exact ac.u
      have V:=O p;obtain⟨c,a2⟩:∃c,bE f (i:Int) (a.take j)=c:=⟨_,rfl⟩;rw[a2]at l Z V p;clear a2;have s:Hid (wr.ownsRow w.heap.size 3 1 (.slice (some (J (w.heap.size+1) 0)) c.length (m+1)) c.length (C7 c)):=by
       show World.ownsRow _ _ _ _ _ _ _;rw[p];exact l.u
      obtain⟨gx,B,b5,a6,a7,v1⟩:=D6 (j:=y) (C8 s.u (wQ _)) (show y<c.length by omega);have a5:gx=w.heap.size+1:=by
       have:=vZ B;exact(congrArg Addr.block this).symm
      subst a5;have ab:wr.frozen? (J (w.heap.size+1) y)=false:=by
       obtain⟨_,ak,L⟩:=A9 s.u (w.heap.size+1) rfl;exact frozen_of_row wr _ y _ _ L
      have S:=O (sX s.u y (i:Int));have ae:Hid (o≠w.heap.size+1):=by
       show o≠w.heap.size+1;have h1:=(t.u.lt o rfl).1;have H:=az.u;omega
      unfold maxLen at ah;have bm:(y:Int)<(m:Int)+1:=by omega
      generalize c[y]'_=av at*;clear p A B a6 a7;gi_wp2;go_roundw;case rel=>exact⟨j+1,by omega,by go_num,(show I (λk=>k=w.heap.size+1) W _ from CR.u.trans (I.set wr (J (w.heap.size+1) y) _) (λ_ _ x=>x)),(show World.ownsRow _ _ _ _ _ _ _ from by
       rw[Z.u];have:=S.u;rw[V.u]at this;omega),A3 t.u (I.set wr (J (w.heap.size+1) y) _) (λq F x=>by
        have x':q=w.heap.size+1:=x;have r:o=q:=vZ F;exact ae.u (r.trans x'))⟩
      grind[intOf]
     .have ag:j=a.length:=by omega
      subst ag;rw[jZ]at l;gi_wp2;refine⟨⟨CR.u.size,λk b9 D ho hn=>by rw[CR.u.block k (aI ho) (by omega)];omega⟩,CR.u.mono (λk _ x=>.inl x),⟨(CR.u.block _ a8.u.lt (by omega)).trans a8.u,a3⟩,?_,ax.u.trans CR.u (λk D x=>by omega)⟩;rw[ad.u];exact l.u
   .skip;obtain⟨e1,e2⟩:=HW.u.2.2.2 am h6;subst e1 e2;have ac:=O bs.u;have T:Hid (W.ownsRow w.heap.size 3 1 (.slice (some (J (w.heap.size+1) 0)) (m+1) (m+1)) (m+1) (C7 f)):=bt.u;have h:Hid (I (λk=>k=w.heap.size+1) W W):=I.refl _ _;have ad:=O ao.u;have ap:((i:Int)==(m:Int))=false:=by simp;omega
    have cc:(kd==6)=false:=by simpa using h6
    clear h6;gi_wp2;refine⟨trivial,(CallsIn.inRound an (callsIn_wide.2 (aa.u _ h.u))).mono ?_⟩;rintro e bq ⟨ga,gc,rfl,u,a4⟩;have M:=O (h.u.trans u (λ_ _ x=>x.elim));have P:=O (C8 a4 h.u.size);have R:=O (A3 T.u u (λ_ _ x=>x));clear u a4 T h aa v1 ab cL cA n0 n1 n2 n3 n4 n5 n6 n7 n8;gi_wp2;gi_loopw [35] (λv wr=>∃j:Nat,j<=a.length/\v=U (j:Int)/\Hid (I (λk=>k=w.heap.size+1) W wr)/\Hid (wr.ownsRow w.heap.size 3 1 (.slice (some (J (w.heap.size+1) 0)) (m+1) (m+1)) (m+1) (C7 (bE f ww (a.take j))))/\Hid (wr.ownsRow W.heap.size 3 1 (.slice ga a.length gc) a.length (C7 a))) (λv _=>a.length-(intOf v).toNat);case atStart=>exact⟨0,wQ _,rfl,M,R,P⟩
    case round=>
     obtain⟨j,hj,rfl,CR,l,t⟩:=hrel;clear M R P;have a3:Boxed wr d.heap.size 54 (.slice (some (J (w.heap.size+1) 0)) (m+1) (m+1)):=(CR.u.block _ a9.u.lt (by omega)).trans a9.u;have cA:=a3.cell;by_cases z:j<a.length
     .obtain⟨o,af,bf,ap,ah,v0⟩:=D6 (C8 t.u (wQ _)) z;subst af;obtain⟨y,A,bn⟩:=ay.u a[j] (mQ z);rw[A]at v0;have Z:Hid (bE f ww (a.take (j+1))=(bE f ww (a.take j)).set y ww):=by
       show _=_;rw[nQ z,BJ,A,tQ]
      have p:(bE f ww (a.take j)).length=m+1:=by rw[vA];exact ac.u
      have V:=O p;obtain⟨c,a2⟩:∃c,bE f ww (a.take j)=c:=⟨_,rfl⟩;rw[a2]at l Z V p;clear a2;have s:Hid (wr.ownsRow w.heap.size 3 1 (.slice (some (J (w.heap.size+1) 0)) c.length (m+1)) c.length (C7 c)):=by
       show World.ownsRow _ _ _ _ _ _ _;rw[p];exact l.u
      obtain⟨gx,B,b5,a6,a7,v1⟩:=D6 (j:=y) (C8 s.u (wQ _)) (show y<c.length by omega);have a5:gx=w.heap.size+1:=by
       have:=vZ B;exact(congrArg Addr.block this).symm
      subst a5;have ab:wr.frozen? (J (w.heap.size+1) y)=false:=by
       obtain⟨_,ak,L⟩:=A9 s.u (w.heap.size+1) rfl;exact frozen_of_row wr _ y _ _ L
      have S:=O (sX s.u y ww);have ae:Hid (o≠w.heap.size+1):=by
       show o≠w.heap.size+1;have h1:=(t.u.lt o rfl).1;have H:=az.u;omega
      unfold maxLen at ah;have bm:(y:Int)<(m:Int)+1:=by omega
      generalize c[y]'_=av at*;clear p A B a6 a7;gi_wp2;go_roundw;case rel=>exact⟨j+1,by omega,by go_num,(show I (λk=>k=w.heap.size+1) W _ from CR.u.trans (I.set wr (J (w.heap.size+1) y) _) (λ_ _ x=>x)),(show World.ownsRow _ _ _ _ _ _ _ from by
       rw[Z.u];have:=S.u;rw[V.u]at this;omega),A3 t.u (I.set wr (J (w.heap.size+1) y) _) (λq F x=>by
        have x':q=w.heap.size+1:=x;have r:o=q:=vZ F;exact ae.u (r.trans x'))⟩
      grind[intOf]
     .have ag:j=a.length:=by omega
      subst ag;rw[jZ]at l;gi_wp2;refine⟨⟨CR.u.size,λk b9 D ho hn=>by rw[CR.u.block k (aI ho) (by omega)];omega⟩,CR.u.mono (λk _ x=>.inl x),⟨(CR.u.block _ a8.u.lt (by omega)).trans a8.u,a3⟩,?_,ax.u.trans CR.u (λk D x=>by omega)⟩;rw[ad.u];exact l.u
 case done=>
  rintro ba zs W hD rfl ⟨⟨h1,H⟩,r,h4⟩ hK;have cA:=H.cell;gi_wp2;refine⟨by simp,.inl ⟨_,_,rfl,run_takeDeferred hK,?_⟩⟩;have bz:I (λk=>k=ba) W (W.putObj ba (.deferred none)):=⟨rfl,rfl,rfl,by simp,λk _ D=>World.putObj_heap_other (λe=>D e)⟩;refine⟨_,results_tmp rfl _ _ _,_,_,rfl,h4.trans bz (λk D x=>by omega),?_⟩;have:=A3 r bz (λq F x=>by
   have x':=x;have:w.heap.size+1=q:=vZ F;omega);rw[VX N m hN (m+1) (vQ _)]at this;grind[kO]
 case stop=>
  rintro ba cl aj W _ _ b0 _;exact b0.elim
def Jy{N}{T}(u:∀i (h),nF N T i N[i])(y:∀i (h:i<N.length),N[i].M.length<=1200)(t:0<N.length)(D:N.length<=1200)(w)(q)(p:cV w q N):
 Calls prog 23 #[q] w λe r=>∃k,e=.returned k/\I No w r/\r.ownsRow w.heap.size 3 1 k N.length (C7 (kO N)):=by
 obtain⟨m,l⟩:∃m,N.length=m+1:=⟨N.length-1,by omega⟩;obtain⟨g,B,_,_,n,v,_⟩:=p.at (Below.refl _ _) 0 t;have b:∀j:Nat,∃(c:Option Addr) (d:Nat),j<m+1->iG w g (aC N j) j c d/\w.ownsRow 0 3 1 (.slice c (aC N j).M.length d) (aC N j).M.length (C7 (aC N j).M):=λj=>by
  by_cases a:j<N.length
  .obtain⟨s,F,c,d,o,_,_,_,A,z,_⟩:=p.at (Below.refl _ _) j a;rw[n]at o;have x:g=s:=by
    injection o with f _ _;injection f with f;exact congrArg Addr.block f
   subst x;refine⟨c,d,λ_=>?_⟩;rw[show aC N j=N[j] from B9 a];exact⟨A,z⟩
  .exact⟨none,0,λh=>by omega⟩
 subst n;rw[l];refine(Ct u y m l (by omega) w g B v (λj=>(b j).choose) (λj=>(b j).choose_spec.choose) (λj a=>((b j).choose_spec.choose_spec a).1) (λj a=>((b j).choose_spec.choose_spec a).2)).mono ?_;grind
def oU(w:E)(b:Value)(T:List Ty):Prop:=∃a,w.ownsRow 0 81 4 b T.length a/\dS (dM w (λ_=>True)) T a
def oU.et{S}{w c}{d}{T}(h:oU w d T)(b:I S w c)(p:∀k f e i,w.heap[k]?=some (.cells f e i)->(e=81\/e=137\/e=3)->¬S k):oU c d T:=by
 obtain⟨n,a,j⟩:=h;refine⟨n,A3 a b λg l x=>?_,j.imp (dM.P b (λg _ _ q m=>?_) (λ_ _ _=>trivial))⟩
 .obtain⟨_,o,m⟩:=A9 a g l;grind
 grind
def mY.row{w}{c}{v}{N}(h:mY w c v N):cV w v N:=by
 obtain⟨d,a,b⟩:=h;exact⟨d,C8 a (wQ _),b.imp (fH.P (I.refl No w) (λ_ _ _ x=>x.elim) (λ_ _ _=>trivial))⟩
def mW.row{w}{c}{v}{T}(h:mW w c v T):oU w v T:=by
 obtain⟨d,a,b⟩:=h;exact⟨d,C8 a (wQ _),b.imp (dM.P (I.refl No w) (λ_ _ _ x=>x.elim) (λ_ _ _=>trivial))⟩
structure iF(w:E)(N:List C)(pb lb mb qb:Nat)(nv:Value)(cs:Array Value)(S:List Ty)(k:Nat)(f:Int->Option Int):Prop where
 fe:cV w nv N
 eo:w.heap[pb]?=some (.cells cs 57 (0,0))
 jf:gM w lb mb 4000 S (.map []) (λ_=>True)
 names:eK w qb k f
 ne:qb≠mb
section
variable{w e:E}{N:List C}{b c mb d:Nat}{g:Value}{a:Array Value}{S:List Ty}{k:Nat}{f:Int->Option Int}
theorem iF.y(h:iF w N b c mb d g a S k f)(i:I No w e):iF e N b c mb d g a S k f:=
 ⟨h.fe.et i (λ_ _ _ _ _ _ x=>x),by rw[i.block b (aI h.eo) (λx=>x)];exact h.eo,h.jf.y i,h.names.P i (λx=>x),h.ne⟩
theorem iF.put{p}{o}(h:iF w N b c mb d g a S k f)(m:I (λx=>x=d) w e)(s:eK e d p o):iF e N b c mb d g a S p o:=by
 have n:∀q a i l,w.heap[q]?=some (.cells a i l)->q≠d:=λq a i l j x=>by
  subst x;exact h.names.eu j
 refine⟨h.fe.et m (λq a i l j _=>n q a i l j),?_,h.jf.P m (h.jf.fy.P m (λx=>h.ne x.symm)) (λq r i j _=>n q r i _ j) (λ_ x _=>x),s,h.ne⟩;rw[m.block b (aI h.eo) (n _ _ _ _ h.eo)];exact h.eo
theorem iF.not(h:iF w N b c mb d g a S k f):∀q a i j,w.heap[q]?=some (.cells a i j)->i≠57->q≠b:=λq a i j l m x=>by
 subst x;rw[h.eo]at l;grind
def iF.store{m}(h:iF w N b c mb d g a S k f)(j:I (λx=>x=b) w e)(p:e.heap[b]?=some (.cells m 57 (0,0))):iF e N b c mb d g m S k f:=by
 have s:mb≠b:=λx=>by
  subst x;exact h.jf.fy.tag _ _ _ h.eo
 have i:d≠b:=λx=>by
  subst x;exact h.names.eu h.eo
 refine⟨h.fe.et j (λq a l o i r=>h.not q a l o i (by grind)),p,h.jf.P j (h.jf.fy.P j s) (λq n l i r=>h.not q n l _ i (by grind)) (λ_ x _=>x),h.names.P j i,h.ne⟩
theorem iF.grow{v}{S':List Ty}(h:iF w N b c mb d g a S k f)(u:w.cell? (J c 0)=some v)(n:I (kC c v) w e)(D:gM e c mb 4000 S' (.map []) (λ_=>True)):iF e N b c mb d g a S' k f/\(∀(q:Nat) (a) (i) (j),w.heap[q]?=some (.cells a i j)->i≠108->i≠81->e.heap[q]?=some (.cells a i j))/\I (λx=>c<=x) w e:=by
 obtain⟨F,H,t,o,_⟩:=h.jf.eo;have B:v=F:=by
  rw[cell_of_row w c 0 _ _ _ t]at u;exact(vZ u).symm
 subst B;have z:∀q (a:Array Value) (i:TypeId) (j:Nat×Nat),w.heap[q]?=some (.cells a i j)->i≠108->i≠81->¬kC c v q:=by
  rintro q a i j l p r (rfl|m)
  .grind
  .obtain⟨_,A,s⟩:=A9 o q m.symm;grind
 have y:∀(q:Nat) (a:Array Value) (i:TypeId) (j:Nat×Nat),w.heap[q]?=some (.cells a i j)->i≠108->i≠81->e.heap[q]?=some (.cells a i j):=λq a i j l p r=>by
  rw[n.block q (aI l) (z q a i j l p r)];omega
 refine⟨⟨h.fe.et n (λq a i j l G=>z q a i j l (by grind) (by grind)),y _ _ _ _ h.eo (by decide) (by decide),D,h.names.P n ?_,h.ne⟩,y,n.mono ?_⟩
 .rintro(rfl|m)
  .exact h.names.eu t
  .obtain⟨_,A,s⟩:=A9 o d m.symm;exact h.names.eu s
 .rintro q _ (rfl|m)
  .simp
  .exact(A9 o q m.symm).1
end
def iy{w}{q}{t}(f:w.heap[q]?=some (.cells #[U 0,U 0] t (0,0))):I No w ((w.setCell (J q 0) (U 0)).setCell (J q 1) (U 0)):=by
 have a:I (λk=>k=q) w ((w.setCell (J q 0) (U 0)).setCell (J q 1) (U 0)):=I.trans (I.set w (J q 0) _) (I.set _ (J q 1) _) (λ_ _ x=>x);refine⟨a.os,a.tape,a.output,a.size,λk c _=>?_⟩;by_cases b:k=q
 .subst b;rw[heap_setCell_same _ k 1 _ _ _ (heap_setCell_same w k 0 _ _ _ f)];grind
 .exact a.block k c b
def EU{a w e:E}{d b c B}(h:I (SW a d b c) a e)(f:Below B w a)(g:B<=a.heap.size)(i:B<=d)(j:B<=b)(l:B<=c):Below B w e:=
 f.trans (I.ek h (λk _ x=>by
  obtain rfl|rfl|rfl|⟨x,_⟩:=x<;>omega) g)
def oH(n:Nat)(d f:Value)(c:Int)(b e:Nat)(a:Value)(j:Nat):Array Value:=
 #[d,f,U c,pV b,.map (some e),a,sN,U 0,U (if 1<=j then n else 0),U (if 2<=j then ((n+1:Nat)) else 0),U (if 3<=j then ((n+2:Nat)) else 0),U (if 4<=j then ((n+3:Nat)) else 0),U (if 5<=j then ((n+4:Nat)) else 0)]
theorem Hy(c)(e g)(d)(b f)(a):oH c.T.length e g d b f a 5=tN c e g d b f a (sN):=rfl
def Ib(n)(d f)(c)(b e)(a){j}(g:j<5):(oH n d f c b e a j).setIfInBounds (7+(j+1)) (U ((n+j:Nat)))=oH n d f c b e a (j+1):=by
 have:j=0\/j=1\/j=2\/j=3\/j=4:=by omega
 obtain rfl|rfl|rfl|rfl|rfl:=this<;>rfl
theorem Uf{j}(a:j<5):I8.take (j+1)=I8.take j++[⟨((j+1:Nat)),[],[],0⟩]:=by
 have:j=0\/j=1\/j=2\/j=3\/j=4:=by omega
 obtain rfl|rfl|rfl|rfl|rfl:=this<;>rfl
theorem Eu:I8.take 5=I8:=rfl
theorem Iv(a):W9 [] a=a:=by
 unfold W9;have:(iU ([]:List Ty).length)=id:=by
  funext t;obtain⟨k,b,c,o⟩:=t;simp[iU]
 simp_all
def MA:∀(l) (j) (h),(Z4 l)[j*2]?=some (U l[j].1)/\(Z4 l)[j*2+1]?=some (U l[j].2)
 |p::r,0,_=>⟨rfl,rfl⟩
 |p::r,j+1,h=>by
  have a:=MA r j (by grind);grind[Z4]
section
variable{N:List C}{T:List Ty}{b:List K}{c:List Fr}{a:List (Nat×Int)}
def Lh(d:bH N T b)(f:jI b=.ok c a):∀p∈S7 (cQ (List.replicate N.length (-1)) a) N.length,(0<=p.1/\p.1<=1000000)/\(0<=p.2/\p.2<=1000000):=λp g=>by
 obtain⟨j,e,rfl,h⟩:=PI _ _ p g;have i:=(NU d f).rg j e;have k:=d.fh;omega
def Ec{d}{q k p m bl}{l w f}{v}(o:bH N T b)(z:jI b=.ok c a)(h:iF d N q k p m l (oH T.length l w v k m f 5) (T++I8.take 5) bl (kB (S7 (cQ (List.replicate N.length (-1)) a) N.length)))(A:bl<=5000)(B:d.ownsRow 0 3 1 f N.length (C7 (kO N))):
 cP d (bM N T a) q k p m l f/\aS d d (bM N T a) q k p m l w v f [] []:=by
 have y:kB (S7 (cQ (List.replicate N.length (-1)) a) N.length)=mL (bM N T a):=Zn (bM N T a);have r:T++I8.take 5=tl (bM N T a) []:=by
  rw[Eu];unfold tl;rw[lY];rfl
 rw[y,r]at h;obtain⟨P,R,F,_⟩:=h.jf.eo;obtain⟨n,⟨H,G,j,_⟩,_⟩:=h.jf.fy.own;refine⟨⟨BL o z o.tx,h.fe,h.names.more A,B,⟨_,h.eo⟩,⟨_,F⟩,⟨_,_,j⟩,h.ne⟩,⟨I.refl _ _,⟨sN,.map [],?_,kW _ _ _ _,h.jf.P (I.refl No _) h.jf.fy (λ_ _ _ _ _ x=>x) (λg _ _=>by simp[Value.ownBlock])⟩,?_⟩⟩
 .rw[<-Hy];exact h.eo
 .intro i D;have s:(tl (bM N T a) [])=T++I8:=by rw[<-r];rfl
  have L:i<(T++I8).length:=by rw[<-s];exact D
  have e:(tl (bM N T a) [])[i]=(T++I8)[i]:=by simp only[s]
  rw[e];by_cases u:i<T.length
  .rw[List.getElem_append_left u];have:=o.ls i u;omega
  .rw[List.getElem_append_right (by omega)];have j:=mQ (show i-T.length<I8.length from by
    grind);generalize I8[i-T.length]'_=t at*;have M:t.M=[]/\t.ej=[]:=by
    simp only[I8,jW,yZ,or_false]at j;obtain rfl|rfl|rfl|rfl|rfl:=j<;>exact⟨rfl,rfl⟩
   simp_all
end
