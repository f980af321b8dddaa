/-
  A part of the proof.
-/
import Derived.RangeFuncNested
import Derived.RangeFuncBound
import Derived.RangeFuncCalls
import Derived.RangeFuncLeaves
import Derived.RangeFuncBox
import Derived.Shelf.Abstract
import Derived.Shelf.RegionOpen
import Derived.OwnWalkIn
import Derived.TacticsInMore
import Derived.LoopNIn
import Derived.LoopIn
import Derived.OwnWalk
import Derived.Test.YtneelacbkianjaaGreatDoorBindD
set_option maxHeartbeats 16000000
set_option maxRecDepth 100000
namespace Go.Proofs.YtneelacbkianjaaGreatDoor
open Go.Proofs.Tryz
open Go.RowKit Go.Maps
section
variable(w:lZ)(b i e:Int)(a:uZ)(d:Option Addr)(c:Nat)(g:ByteArray)(h j f:Int)
theorem A6e(y:w.ownsRow 0 3 1 (.slice d a.length c) a.length (C8 a))(hn:a.length<=100000):Calls prog 39 #[.agg #[U 6,U b,U i,U e,.slice d a.length c,.string g,U h,U j,U f]] w (PaP w (a++[b])):=by
  obtain⟨i0,S,X,Y,Z⟩:=info_parts Tryz.infoInt
  have H:=I.alloc No w (.cells #[U 6,U b,U i,U e,.slice d a.length c,.string g,U h,U j,U f] 87)
  have G:=qY w (.cells #[U 6,U b,U i,U e,.slice d a.length c,.string g,U h,U j,U f] 87)
  have n1:(w.alloc (.cells #[U 6,U b,U i,U e,.slice d a.length c,.string g,U h,U j,U f] 87)).cell? (J w.heap.size 1)=some (U b):=cr G rfl
  have n4:(w.alloc (.cells #[U 6,U b,U i,U e,.slice d a.length c,.string g,U h,U j,U f] 87)).cell? (J w.heap.size 4)=some (.slice d a.length c):=cr G rfl
  have E:(w.alloc (.cells #[U 6,U b,U i,U e,.slice d a.length c,.string g,U h,U j,U f] 87)).heap.size=w.heap.size+1:=Array.size_push _
  have K:=O H
  have HO:=O y
  clear H G y
  go_enter func39,ntmps39
  go_wp2_with fail
  generalize (w.alloc (.cells #[U 6,U b,U i,U e,.slice d a.length c,.string g,U h,U j,U f] 87))=W at *
  have N:Hid (∀u,I No W u->Calls prog 71 #[.slice d a.length c] u λv s=>∃m n,v= .returned (.slice m a.length n)/\Hid (I No u s)/\Hid (s.ownsRow w.heap.size 3 1 (.slice m a.length n) a.length (C8 a))/\s.cell? (J w.heap.size 1)=some (U b)/\u.heap.size<=s.heap.size):=λu F=>by
    refine(B7b u a d c (A4 (A4 HO.o K.o (λ_ _ x=>x)) F (λ_ _ x=>x)) hn).mono ?_
    rintro v s ⟨m,n,rfl,D,y⟩
    have:=F.size
    exact⟨m,n,rfl,D,C9 y (by omega),A8 (D3 F D) n1,D.size⟩
  have a7:(W.alloc (.cells #[U b] 3)).cell? (J w.heap.size 4)=some (.slice d a.length c):=I5 (by omega) n4
  have a2:(W.drew.alloc (.cells #[U b] 3)).heap[w.heap.size+1]? =some (.cells #[U b] 3 (0,0)):=by
    have:=qY W.drew (.cells #[U b] 3)
    rw[show W.drew.heap.size=w.heap.size+1 from E]at this
    exact this
  have a3:=O a2
  have V:(W.drew.alloc (.cells #[U b] 3)).heap.size=w.heap.size+2:=by
    show (W.heap.push _).size=_
    rw[Array.size_push,E]
  have M:=O (D3 (I.drewN No W 1) (I.alloc No W.drew (.cells #[U b] 3)))
  clear a2
  go_region_law (first
    | (refine step_append_lies _ (by rfl) _ _ _ (by rfl) w.heap.size 3 i0 (U 0) 1 8 underlying43 S X Y Z rfl (by omega) (.slice m a.length n) a.length (C8 a) (by rfl) (o.o.alloc _) (J l.heap.size 0) 1 1 [U b] (by rfl) (by rfl) (World.news_of_block (cs := #[U b]) (t := 3) (fr := (0, 0)) (qY l _)) (by simp [Value.oneCell']) (by omega) (by simp only [maxLen]; omega) (by omega) (by simp; omega) (l.heap.size + 1) (by simp) ?_
       intro B A z q p C a4
       have P:Hid (I (λk=>w.heap.size<=k) l z):=(I.alloc (λk=>w.heap.size<=k) l (.cells #[U b] 3)).trans (I.grown p) (λk T x=>(A9 o.o k x.symm).1)
       have R:=O q
       clear q p C)
    | (refine step_append_lies _ (by rfl) _ _ _ (by rfl) w.heap.size 3 i0 (U 0) 1 8 underlying43 S X Y Z rfl (by omega) (.slice m a.length n) a.length (C8 a) (by rfl) o.o (J (w.heap.size + 1) 0) 1 1 [U b] (by rfl) (by rfl) (World.news_of_block (cs := #[U b]) (t := 3) (fr := (0, 0)) (by rw [t.o.block _ (by rw [V]; omega) (λx => x)]; exact a3.o)) (by simp [Value.oneCell']) (by omega) (by simp only [maxLen]; omega) (by omega) (by omega) l.heap.size rfl ?_
       intro B A z q p C a4
       have P:Hid (I (λk=>w.heap.size<=k) l z):=(I.grown p).mono (λk T x=>(A9 o.o k x.symm).1)
       have R:=O q
       clear q p C)
    | (go_simp; refine (N.o _ (I.drewN _ _ 1)).mono ?_; rintro v l ⟨m, n, rfl, t, o, a6, r⟩; have L := O (D3 (I.drewN No W 1) t.o); have a5 : w.heap.size + 1 <= l.heap.size := (by rw [<- E]; exact r); clear r)
    | (go_simp; refine (N.o _ M.o).mono ?_; rintro v l ⟨m, n, rfl, t, o, a6, r⟩; have L := O (D3 M.o t.o); have a5 : w.heap.size + 1 <= l.heap.size := (by rw [V] at r; omega); clear r))
  all_goals
    have HR:Hid (PaP w (a++[b]) (.returned (.slice (some (J B 0)) (a.length+1) A)) z):=by
      refine⟨some (J B 0),A,by rw[qQ,List.length_singleton],((D3 K.o L.o).mono (S':=λk=>w.heap.size<=k) (λ_ _ x=>x.elim)).trans P.o (λ_ _ x=>x)|>.mono (λk T x=>by omega), ?_⟩
      rw[qQ,List.length_singleton,T7]
      exact R.o
    go_wp2_with fail
    go_ret
    exact HR.o
end
theorem P8d{N:List Nd}{T:List Ty}{i:Nat}{l:Nd}(p:FlN N T i l)(w:lZ)(a:Option Addr)(b:Nat)(o:w.ownsRow 0 3 1 (.slice a l.list.length b) l.list.length (C8 l.list))(n:l.list.length<=100000):
 Calls prog 39 #[nvl l a b] w (PaP w (prt l)):=by
 have r:=p.k;clear p;unfold nvl prt;obtain⟨m,d,e,f,c,s,g,k,j⟩:=l;simp only at *;split
 · rename_i h;exact A7c w d e f c a b _ g k j m h o n
 split
 · rename_i h;subst h;exact Y0c w d e f c a b _ g k j o n
 split
 · rename_i h;subst h;exact A6e w d e f c a b _ g k j o n
 split
 · rename_i h;exact A8c w d e f c a b _ g k j m h
 split
 · rename_i h;exact A4b w d e f c a b _ g k j m (by omega)
 split
 · rename_i h;exact L3b w d e f c a b _ g k j m (by omega)
 split
 · rename_i h;split
   · rename_i q;exact A4b w d e f c a b _ g k j m (by omega)
   · rename_i q;exact L3b w d e f c a b _ g k j m (by omega)
 · exact A9c w d e f c a b _ g k j m (by omega)
open Go.Shelf
attribute [local go_sem] Oper.semAt_some
def dn(m k:Nat):List (Fin (m+1)):=(List.range k).map λj=>⟨m - j,by omega⟩
theorem K7c(m k:Nat):dn m (k+1)=dn m k++[⟨m - k,by omega⟩]:=by simp[dn,List.range_succ]
theorem D7e(m k:Nat):(dn m k).length=k:=by simp[dn]
def KpB(a b:Nat)(A B:lZ):Prop:=I (λk=>k=a\/b<=k) A B
theorem KpB.trans{a b:Nat}{A B C:lZ}(h:KpB a b A B)(k:KpB a b B C):KpB a b A C:=I.trans h k (λ_ _ x=>x)
def NdAt(W:lZ)(g:Nat)(a:Nd)(j:Nat)(b:Option Addr)(c:Nat):Prop:=W.cell? (J g (j * 9))=some (U a.kind)/\W.cell? (J g (j * 9+1))=some (U a.a)/\W.cell? (J g (j * 9+2))=some (U a.b)/\W.cell? (J g (j * 9+3))=some (U a.c)/\W.cell? (J g (j * 9+4))=some (.slice b a.list.length c)/\W.cell? (J g (j * 9+5))=some (.string ⟨a.text.toArray⟩)/\W.cell? (J g (j * 9+6))=some (U a.n)/\W.cell? (J g (j * 9+7))=some (U a.ty)/\W.cell? (J g (j * 9+8))=some (U a.at')
theorem KpB.cell{a b:Nat}{A B:lZ}(h:KpB a b A B){q o:Nat}{v:Value}(f:q≠a)(e:q<b)(c:A.cell? (J q o)=some v):B.cell? (J q o)=some v:=by
 have d:=blt c;rw[World.cell?_of_block (I.block h q d (by omega))];exact c
theorem NdAt.kp{c d:Nat}{A B:lZ}(h:KpB c d A B){g j:Nat}{i:Nd}{e:Option Addr}{f:Nat}(b:g≠c)(a:g<d)(t:NdAt A g i j e f):NdAt B g i j e f:=by
 obtain⟨k,l,m,n,o,p,q,r,s⟩:=t;exact⟨h.cell b a k,h.cell b a l,h.cell b a m,h.cell b a n,h.cell b a o,h.cell b a p,h.cell b a q,h.cell b a r,h.cell b a s⟩
theorem K9d(F:Fence)(n:Nat)(hF:F.fn 70)(X:F.round=none)(hn:1<=n)(l f g E m h i:Nat)(hm:m<=1200)(t:Nat->Nd)(z:Nat->Option Addr)(A:Nat->Nat)(H:f≠h)(K:f<i)(R:g≠h)(S:g<i)(c u:List (Fin (m+1))->lZ->Prop)
 (o:∀b x W,c b W->b.length<m+1->YieldAt F (n - 1) prog l #[U (x.1:Int),nvl (t x.1) (z x.1) (A x.1)] W λe a=>
  (e= .returned (.bool true)/\c (b++[x]) a/\KpB h i W a)\/(e= .returned (.bool false)/\u (b++[x]) a))
 (W:lZ) (L:W.cell? (J f 0)=some (.slice (some (J g 0)) (m+1) E)) (r:∀j,j<m+1->NdAt W g (t j) j (z j) (A j)) (G:c [] W):
 CallsIn F n prog 70 #[.func (.yield l) #[] #[],pV f] W λe a=>(∃v,e= .returned v)/\
  ((∃B,B=dn m (m+1)/\c B a)\/(∃b,True/\u b a)):=by
 unfold nvl at o;refine callsIn_of_wp func70 rfl hF ?_ X;simp only[ntmps70,List.size_toArray,jQ,xQ,Nat.reduceAdd,Nat.reduceSub,Array.replicate_succ,Array.replicate_zero,List.push_toArray,List.append_toArray,lY,vZ];gi_wp2
 gi_loopw [3] (λv wr=>∃k:Nat,k<=m+1/\v=U ((m:Int) - (k:Int))/\c (dn m k) wr/\KpB h i W wr) (λv _=>(intOf v+1).toNat)
 case atStart=>exact⟨0,wQ _,by go_num,G,I.refl _ _⟩
 case round=>
  obtain⟨k,hk,rfl,w,q⟩:=hrel;have a8:=q.cell H K L;by_cases V:k<m+1
  · obtain⟨p,hp⟩:∃p,p+k=m:=⟨m - k,by omega⟩;have s:p<m+1:=by omega
    have y:dn m (k+1)=dn m k++[⟨p,s⟩]:=by
     rw[K7c];have:m - k=p:=by omega
     simp only[this]
    obtain⟨a5,a6,a7,c3,c4,c5,c6,c7,c8⟩:=(r p s).kp q R S;obtain⟨fn,a9,a3,a4,Y,P⟩:=o (dn m k) ⟨p,s⟩ wr w (by rw[D7e];exact V);dsimp only at Y
    have d:((m:Int) - (k:Int))=(p:Int):=by omega
    have C:=O y;have D:=O q;have HC:=O r;have a2:=O o;rw[d];clear y q r o d;generalize t p=Z at *;obtain⟨kd,va,vb,vc,ls,tx,vn,vt,vp⟩:=Z;simp only at *;gi_wp2
    refine P.mono ?_;rintro e W3 (⟨rfl,M,T⟩|⟨rfl,N⟩)
    · gi_wp2
      go_roundw
      case rel=>exact⟨k+1,by omega,by go_num,by rw[C.o];exact M,D.o.trans T⟩
      case measure=>simp[intOf]
    · gi_wp2
      refine bodyPost_ret (results_none rfl _ _ _) rfl ?_;exact⟨⟨_,rfl⟩,.inr ⟨_,trivial,N⟩⟩
  · obtain rfl:k=m+1:=by omega
    have d:((m:Int) - ((m+1:Nat):Int))= -1:=by omega
    rw[d];clear d;gi_wp2
    go_end0;exact⟨⟨_,rfl⟩,.inl ⟨_,rfl,w⟩⟩
theorem NdAt.below{d:Nat}{A B:lZ}(h:Below d A B){g j:Nat}{e:Nd}{b:Option Addr}{c:Nat}(t:g<d)(s:NdAt A g e j b c):NdAt B g e j b c:=by
 have a:∀{o:Nat} {v:Value},A.cell? (J g o)=some v->B.cell? (J g o)=some v:=λ{o v} u=>(h.cell (p:=(J g o)) t).trans u;obtain⟨f,i,k,l,m,n,p,q,r⟩:=s;exact⟨a f,a i,a k,a l,a m,a n,a p,a q,a r⟩
theorem F0c(F:Fence)(n:Nat)(hF:F.fn 70)(E:F.round=none)(D:1<=n)(a g h m b c:Nat)(C:m<=1200)(f:Nat->Nd)(d:Nat->Option Addr)(e:Nat->Nat)(q:a≠b)(r:a<c)(y:g≠b)(z:g<c)(w:lZ)(t:a<w.heap.size)(A:g<w.heap.size)
 (s:w.cell? (J a 0)=some (.slice (some (J g 0)) (m+1) h)) (v:∀j,j<m+1->NdAt w g (f j) j (d j) (e j)):
 SeqStopsK F n prog 70 #[pV a] (λx:Fin (m+1)=>#[Value.int .i64 (x.1:Int),nvl (f x.1) (d x.1) (e x.1)]) (KpB b c) (λG=>G=dn m (m+1)) (λ_=>True) (m+1) w:=λl k o W i _ _ u p=>
 K9d F n hF E D l a g h m b c C f d e q r y z k o u W ((i.cell (p:=(J a 0)) t).trans s) (λj B=>(v j B).below i A) p
theorem V4d(F:Fence)(n:Nat)(hF:F.fn 38)(d:F.round=none)(a:Option Addr)(c b:Nat)(w:lZ):
 CallsIn F n prog 38 #[.slice a c b] w λe f=>e= .returned (.func (.func 70) #[] #[pV w.heap.size])/\f=w.alloc (.cells #[.slice a c b] 37):=by
 refine callsIn_of_wp func38 rfl hF ?_ d;simp only[ntmps38,List.size_toArray,jQ,xQ,Nat.reduceAdd,Nat.reduceSub,Array.replicate_succ,Array.replicate_zero,List.push_toArray,List.append_toArray,lY,vZ];gi_wp2
 go_ret;exact⟨rfl,rfl⟩
theorem K0c(N:List Nd)(m:Nat)(a:N.length=m+1):∀k,k<=m+1->(dn m k).foldl (λb x=>fnSQ N b x.1) (List.replicate N.length 0)=fnI N k
 |0,_=>rfl
 |k+1,h=>by
  rw[K7c,List.foldl_append,K0c N m a k (by omega),fnI];simp[a]
attribute [local go_sem] Oper.semAt_some
theorem B9b{N:List Nd}{c8:List Ty}(hf:∀i (b5:i<N.length),FlN N c8 i N[i])(c6:∀i (b5:i<N.length),N[i].list.length<=1200)(m:Nat)(hN:N.length=m+1)(hm:m<=1200)(w:lZ)(g o:Nat)(hg:g<w.heap.size)(la:Nat->Option Addr)(lc:Nat->Nat)(hc:∀j,j<m+1->NdAt w g (ndx N j) j (la j) (lc j))(c5:∀j,j<m+1->w.ownsRow 0 3 1 (.slice (la j) (ndx N j).list.length (lc j)) (ndx N j).list.length (C8 (ndx N j).list)):
 Calls prog 19 #[.slice (some (J g 0)) (m+1) o] w λe w'=>∃fa fc,e= .returned (.slice fa (m+1) fc)/\I No w w'/\w'.ownsRow w.heap.size 3 1 (.slice fa (m+1) fc) (m+1) (C8 (fnP N)):=by
 refine(callsIn_wide (n:=6)).1 ?_;obtain⟨i0,cc,cg,ch,ci⟩:=info_parts Tryz.infoInt;obtain⟨f,bk,ax,bh⟩:=run_make_full (P:=prog) (w.alloc (.cells #[.slice (some (J g 0)) (m+1) o] 37)) w.heap.size 43 3 i0 (U 0) 1 underlying43 cc cg ch .i64 .i64 (m+1) (by rw[ci];omega) (by simp only[maxLen];omega) (by simp);have c7:(w.alloc (.cells #[.slice (some (J g 0)) (m+1) o] 37)).heap.size=w.heap.size+1:=Array.size_push _;rw[c7]at bk ax;have cb:((m+1:Nat):Int)=(m:Int)+1:=by omega
 rw[cb]at bk;have bl:=qY w (.cells #[.slice (some (J g 0)) (m+1) o] 37);have bc:f.heap[w.heap.size]? =some (.cells #[.slice (some (J g 0)) (m+1) o] 37 (0,0)):=by
  rw[bh.block _ (by rw[c7];omega) (by simp)];exact bl
 have c9:f.cell? (J w.heap.size 0)=some (.slice (some (J g 0)) (m+1) o):=cr bc rfl;have ct:w.heap.size+2<=f.heap.size:=by
  have:=(A9 ax (w.heap.size+1) rfl);obtain⟨_,al,H⟩:=this;have:=(ltG H);omega
 have bA:Boxed (f.alloc (.cells #[.slice (some (J (w.heap.size+1) 0)) (m+1) (m+1)] 43)) f.heap.size 43 (.slice (some (J (w.heap.size+1) 0)) (m+1) (m+1)):=Boxed.new f _ _;have bL:Boxed (f.alloc (.cells #[.slice (some (J (w.heap.size+1) 0)) (m+1) (m+1)] 43)) w.heap.size 37 (.slice (some (J g 0)) (m+1) o):=Boxed.alloc (show Boxed f _ _ _ from bc) _;have ca:=bL.cell;refine callsIn_of_wp_marks func19 rfl trivial ?_ rfl;simp only[ntmps19,List.size_toArray,jQ,xQ,Nat.reduceAdd,Nat.reduceSub,Array.replicate_succ,Array.replicate_zero,List.push_toArray,List.append_toArray,lY,vZ];gi_wp2_with (refine⟨trivial, ?_⟩;gi_at_call 38;refine(V4d _ _ trivial rfl _ _ _ _).mono ?_;rintro e w' ⟨rfl,rfl⟩)
 have bS:=Boxed.new (f.alloc (.cells #[.slice (some (J (w.heap.size+1) 0)) (m+1) (m+1)] 43)) 37 (.slice (some (J g 0)) (m+1) o);rw[World.size_alloc]at bS;have bu:=bA.alloc (.cells #[.slice (some (J g 0)) (m+1) o] 37);have bv:=bL.alloc (.cells #[.slice (some (J g 0)) (m+1) o] 37);have bd:I No w ((f.alloc (.cells #[.slice (some (J (w.heap.size+1) 0)) (m+1) (m+1)] 43)).alloc (.cells #[.slice (some (J g 0)) (m+1) o] 37)):=D3 (D3 (D3 (I.alloc No w _) ((I.grown bh).mono (λ_ _ x=>by simp at x))) (I.alloc No f _)) (I.alloc No _ _);have bw:((f.alloc (.cells #[.slice (some (J (w.heap.size+1) 0)) (m+1) (m+1)] 43)).alloc (.cells #[.slice (some (J g 0)) (m+1) o] 37)).ownsRow w.heap.size 3 1 (.slice (some (J (w.heap.size+1) 0)) (m+1) (m+1)) (m+1) (C8 (List.replicate N.length 0)):=by
  have e:(madeCells (Value.int IntKind.i64 0).cells ((m+1) * 1)).toList=C8 (List.replicate N.length 0):=by
   rw[hN];apply List.ext_getElem
   · simp[madeCells,C8]
   · intro cm Y B;simp[madeCells,C8,Value.cells,Nat.mod_one]
  rw[e]at ax;exact(ax.alloc _).alloc _
 have a6:((f.alloc (.cells #[.slice (some (J (w.heap.size+1) 0)) (m+1) (m+1)] 43)).alloc (.cells #[.slice (some (J g 0)) (m+1) o] 37)).heap.size=f.heap.size+2:=by simp
 obtain⟨W0,bx⟩:∃W0,(f.alloc (.cells #[.slice (some (J (w.heap.size+1) 0)) (m+1) (m+1)] 43)).alloc (.cells #[.slice (some (J g 0)) (m+1) o] 37)=W0:=⟨_,rfl⟩;rw[bx]at bS bu bv bd bw a6⊢;clear bx bA bL c9 ca bl bc bk ax bh;refine wpIn_rangeFunc_ownH rfl (by omega) (gf:=70) (lb:=#[pV (f.heap.size+1)]) rfl trivial (enters_of func70 (by kernel_rfl) rfl)
  (F0c _ _ trivial rfl (by omega) (f.heap.size+1) g o m (w.heap.size+1) (f.heap.size+2) hm (λj=>ndx N j) la lc (by omega) (by omega) (by omega) (by omega) W0 (by omega) (by omega) bS.cell (λj hj=>(hc j hj).below (I.toBelow bd (λ_ _ x=>x.elim) (vQ _)) hg)) KpB.trans
  (λW ao ap o' hl b5 _ _=>⟨rfl,rfl,rfl,by simp,λk _ s=>World.putObj_heap_other (λe=>s (by rw[a6]at hl;exact .inr (by omega)))⟩) (Below.refl _ _) (λ_=>rfl)
  (λak W=>(Boxed W w.heap.size 37 (.slice (some (J g 0)) (m+1) o)/\Boxed W f.heap.size 43 (.slice (some (J (w.heap.size+1) 0)) (m+1) (m+1)))/\(W.ownsRow w.heap.size 3 1 (.slice (some (J (w.heap.size+1) 0)) (m+1) (m+1)) (m+1) (C8 (ak.foldl (λb x=>fnSQ N b x.1) (List.replicate N.length 0)))/\I No w W))
  (λ_ _ _=>False)
  (λak W W' bp hs am hr=>by
   obtain⟨⟨Y,B⟩,u,h4⟩:=hs;refine⟨⟨boxed_own _ _ (λ(_:Unit)=>_) () W W' bp Y am (λbo e=>(hr bo e).2),boxed_own _ _ (λ(_:Unit)=>_) () W W' bp B am (λbo e=>(hr bo e).2)⟩,A4 u (I.grown am) (λq K x=> ?_),h4.trans (I.grown am) (λk s x=>by have:=(hr k x.symm).1;rw[a6]at this;omega)⟩;obtain⟨_,al,H⟩:=A9 u q K;obtain⟨_,ap,t,hn⟩:=hr q x.symm;rw[H]at t;cases t;simp[Obj.isCells]at hn)
  (λ_ _ _ _ _ hs _ _=>hs)
  ⟨⟨bv,bu⟩,bw,bd⟩
  (λx a' W=>∃Bx,f.heap.size<Bx/\W.heap[Bx]? =some (.cells #[U (ndx N x.1).kind,U (ndx N x.1).a,U (ndx N x.1).b,U (ndx N x.1).c,.slice (la x.1) (ndx N x.1).list.length (lc x.1),.string ⟨(ndx N x.1).text.toArray⟩,U (ndx N x.1).n,U (ndx N x.1).ty,U (ndx N x.1).at'] 87 (0,0))/\a'={ tmps:=#[.slice (some (J g 0)) (m+1) o,pV w.heap.size,sN,pV f.heap.size,U (x.1:Int),pV Bx,undef,undef,undef,.slice (some (J g 0)) (m+1) o,U ((m:Int)+1),.slice (some (J (w.heap.size+1) 0)) (m+1) (m+1),.slice (some (J g 0)) (m+1) o,.func (.func 70) #[] #[pV (f.heap.size+1)],U (x.1:Int),nvl (ndx N x.1) (la x.1) (lc x.1),undef,undef,undef,undef,undef,undef,undef,undef,undef,undef,undef,undef,undef,undef,undef,undef,undef,undef,undef,undef,undef,undef,undef,undef,undef,undef,undef,undef,undef],defers:=[] })
  (λx a' _ ck cl bp hs am hr=>by
   obtain⟨Bx,Y,B,u⟩:=hs;refine⟨Bx,Y, ?_,u⟩;rw[am.block Bx (ltG B) (λe=> ?_)]
   · exact B
   · obtain⟨_,ap,t,hn⟩:=hr Bx e.symm;rw[B]at t;cases t;simp[Obj.isCells]at hn)
  ?assign ?body ?done ?stop
 case assign=>
  rintro ao ak x W cj ⟨⟨Y,B⟩,u,h4⟩ hK;unfold nvl at hK⊢;generalize ndx N x.1=nd at *;obtain⟨kd,va,vb,vc,ls,tx,vn,vt,vp⟩:=nd;simp only at *;gi_wp2
  exact hK _ _ ((KeepsOthers.alloc _ _).from _) (I.alloc _ _ _) ⟨⟨Y.alloc _,B.alloc _⟩,u.alloc _,D3 h4 (I.alloc No _ _)⟩ ⟨W.heap.size,B.lt,qY W _,rfl⟩
 case body=>
  rintro ao ak ⟨i,hi⟩ a' W hl - ⟨⟨b1,b2⟩,ay,b7⟩ ⟨Bx,cq,L,rfl⟩ ce;simp only at *;have bi:i<N.length:=by omega
  have ba:ndx N (i:Int)=N[i]:=F7 bi;have bf:=hf i bi;have cs:=c6 i bi;have b9:=c5 i hi;rw[ba]at b9 L⊢;have cf:w.heap.size<=W.heap.size:=b7.size;have ab:Hid (∀az,I (λk=>k=w.heap.size+1) W az->Calls prog 39 #[nvl N[i] (la i) (lc i)] az (PaP az (prt N[i]))):=λaz hu=>P8d bf az (la i) (lc i) (A4 (A4 b9 b7 (λ_ _ x=>x)) hu (λq K x=>by
   have G:q=w.heap.size+1:=x;have:=(b9.lt q K).2
   omega)) (by omega)
  have b3:=O (A2e bf);obtain⟨b,be⟩:∃b,ak.foldl (λb x=>fnSQ N b x.1) (List.replicate N.length 0)=b:=⟨_,rfl⟩;have au:Hid ((ak++[(⟨i,hi⟩:Fin (m+1))]).foldl (λb x=>fnSQ N b x.1) (List.replicate N.length 0)=setAQ (fnH N b i) (fnW N b i) (prt N[i])):=by
   show _=_;rw[List.foldl_append,be];simp only[List.foldl_cons,List.foldl_nil,fnSQ,ba]
  rw[be]at ay;clear be;have b6:b.length=m+1:=by
   have:=ay.1;simpa[C8]using this
  have bb:W.ownsRow w.heap.size 3 1 (.slice (some (J (w.heap.size+1) 0)) b.length (m+1)) b.length (C8 b):=by rw[b6];exact ay
  obtain⟨gx,F,b8,a7,a8,v1⟩:=D9 (j:=i) (C9 bb (wQ _)) (show i<b.length by omega);have a5:gx=w.heap.size+1:=by
   have:=bY F;exact(congrArg Addr.block this).symm
  subst a5;have ac:W.frozen? (J (w.heap.size+1) i)=false:=by
   obtain⟨_,al,H⟩:=A9 bb (w.heap.size+1) rfl;exact frozen_of_row W _ i _ _ H
  have S:=O (H7a bb i (-1));rw[b6]at S;have c3:b.getD i 0=b[i]'(by omega):=by rw[lQ,gQ (show i<b.length by omega)];rfl
  have c4:(b.set i (-1)).getD i 0= -1:=by rw[lQ,List.getElem?_set_self (show i<b.length by omega)];rfl
  have HW:Hid ((i=m->N[i].kind=6->fnH N b i=b.set i (-1)/\fnW N b i=(i:Int))/\(i=m->N[i].kind≠6->fnH N b i=b.set i (-1)/\fnW N b i= -1)/\(i≠m->N[i].kind=6->fnH N b i=b/\fnW N b i=(i:Int))/\(i≠m->N[i].kind≠6->fnH N b i=b/\fnW N b i=b[i]'(by omega))):=by
   unfold fnW fnH;rw[ba,hN];refine⟨λe k=> ?_,λe k=> ?_,λe k=> ?_,λe k=> ?_⟩
   · rw[rY (by omega),rY k];exact⟨rfl,rfl⟩
   · rw[rY (by omega),yY k];exact⟨rfl,c4⟩
   · rw[yY (by omega),rY k];exact⟨rfl,rfl⟩
   · rw[yY (by omega),yY k];exact⟨rfl,c3⟩
  have cL:=b1.cell;have cA:=b2.cell;have a9:=O b1;have aa:=O b2;have b0:=O b7;have b4:=O cf;have bt:=O ay;have bs:=O b6;have br:Hid ((b.set i (-1)).length=m+1):=by
   show _=_;rw[List.length_set];exact b6
  clear c3 c4 bf hf c6 c5 hc b9 ay bb b1 b2 b7 F a7 a8 ba ce;generalize prt N[i]=a at *;generalize fnH N b i=h at *;generalize fnW N b i=ww at *;generalize b[i]'_=ai at *;generalize b.set i (-1)=cn at *;unfold nvl at *;generalize N[i]=nd at *;obtain⟨kd,va,vb,vc,ls,tx,vn,vt,vp⟩:=nd;simp only at *;have n0:=cell_of_row _ _ 0 _ _ _ L;have n1:=cell_of_row _ _ 1 _ _ _ L;have n2:=cell_of_row _ _ 2 _ _ _ L;have n3:=cell_of_row _ _ 3 _ _ _ L;have n4:=cell_of_row _ _ 4 _ _ _ L;have n5:=cell_of_row _ _ 5 _ _ _ L;have n6:=cell_of_row _ _ 6 _ _ _ L;have n7:=cell_of_row _ _ 7 _ _ _ L;have n8:=cell_of_row _ _ 8 _ _ _ L;have cp:=(ltG L);clear L;by_cases an:i=m
  · by_cases Z:kd=6
    · skip
      obtain⟨e1,e2⟩:=HW.o.1 an Z;subst e1 e2;have ad:=O br.o;have T:Hid ((W.setCell (J (w.heap.size+1) i) (U (-1))).ownsRow w.heap.size 3 1 (.slice (some (J (w.heap.size+1) 0)) (m+1) (m+1)) (m+1) (C8 h)):=S.o;have l:Hid (I (λk=>k=w.heap.size+1) W (W.setCell (J (w.heap.size+1) i) (U (-1)))):=(show I (λk=>k=w.heap.size+1) W _ from I.set W (J (w.heap.size+1) i) (U (-1)));have ae:=O au.o;have bj:=an.symm;subst bj;subst Z;gi_wp2
      refine⟨trivial,(CallsIn.inRound ao (callsIn_wide.2 (ab.o _ l.o))).mono ?_⟩;rintro e bq ⟨ga,gc,rfl,C,a4⟩;have M:=O (l.o.trans C (λ_ _ x=>x.elim));have P:=O (C9 a4 l.o.size);have R:=O (A4 T.o C (λ_ _ x=>x));clear C a4 T l ab v1 ac cL cA n0 n1 n2 n3 n4 n5 n6 n7 n8;gi_wp2
      gi_loopw [35] (λv wr=>∃j:Nat,j<=a.length/\v=U (j:Int)/\Hid (I (λk=>k=w.heap.size+1) W wr)/\Hid (wr.ownsRow w.heap.size 3 1 (.slice (some (J (w.heap.size+1) 0)) (m+1) (m+1)) (m+1) (C8 (setAQ h (m:Int) (a.take j))))/\Hid (wr.ownsRow W.heap.size 3 1 (.slice ga a.length gc) a.length (C8 a))) (λv _=>a.length - (intOf v).toNat)
      case atStart=>exact⟨0,wQ _,rfl,M,R,P⟩
      case round=>
       obtain⟨j,hj,rfl,c,n,A⟩:=hrel;clear M R P;have a3:Boxed wr f.heap.size 43 (.slice (some (J (w.heap.size+1) 0)) (m+1) (m+1)):=(c.o.block _ aa.o.lt (by omega)).trans aa.o;have cA:=a3.cell;by_cases D:j<a.length
       · obtain⟨p,ag,bg,aw,aj,v0⟩:=D9 (C9 A.o (wQ _)) D;subst ag;obtain⟨y,E,bn⟩:=b3.o a[j] (mQ D);rw[E]at v0;have X:Hid (setAQ h (m:Int) (a.take (j+1))=(setAQ h (m:Int) (a.take j)).set y (m:Int)):=by
          show _=_;rw[nQ D,L8a,E,tQ]
         have r:(setAQ h (m:Int) (a.take j)).length=m+1:=by rw[J7a];exact ad.o
         have V:=O r;obtain⟨d,a2⟩:∃d,setAQ h (m:Int) (a.take j)=d:=⟨_,rfl⟩;rw[a2]at n X V r;clear a2;have z:Hid (wr.ownsRow w.heap.size 3 1 (.slice (some (J (w.heap.size+1) 0)) d.length (m+1)) d.length (C8 d)):=by
          show World.ownsRow _ _ _ _ _ _ _;rw[r];exact n.o
         obtain⟨gx,F,b8,a7,a8,v1⟩:=D9 (j:=y) (C9 z.o (wQ _)) (show y<d.length by omega);have a5:gx=w.heap.size+1:=by
          have:=bY F;exact(congrArg Addr.block this).symm
         subst a5;have ac:wr.frozen? (J (w.heap.size+1) y)=false:=by
          obtain⟨_,al,H⟩:=A9 z.o (w.heap.size+1) rfl;exact frozen_of_row wr _ y _ _ H
         have S:=O (H7a z.o y (m:Int));have af:Hid (p≠w.heap.size+1):=by
          show p≠w.heap.size+1;have Y:=(A.o.lt p rfl).1;have B:=b4.o;omega
         unfold maxLen at aj;have bm:(y:Int)<(m:Int)+1:=by omega
         generalize d[y]'_=av at *;clear r E F a7 a8;gi_wp2
         go_roundw
         case rel=>exact⟨j+1,by omega,by go_num,(show I (λk=>k=w.heap.size+1) W _ from c.o.trans (I.set wr (J (w.heap.size+1) y) _) (λ_ _ x=>x)),(show World.ownsRow _ _ _ _ _ _ _ from by
          rw[X.o];have:=S.o;rw[V.o]at this;exact this),A4 A.o (I.set wr (J (w.heap.size+1) y) _) (λq K x=>by
           have G:q=w.heap.size+1:=x;have u:p=q:=bY K;exact af.o (u.trans G))⟩
         case measure=>simp[intOf];omega
       · have ah:j=a.length:=by omega
         subst ah;rw[xZ]at n;gi_wp2
         refine⟨⟨c.o.size,λk ap s t hn=>by rw[c.o.block k (ltG t) (by rw[a6]at s;omega)];exact t⟩,c.o.mono (λk _ x=> .inl x),⟨(c.o.block _ a9.o.lt (by omega)).trans a9.o,a3⟩, ?_,b0.o.trans c.o (λk s x=>by have G:k=w.heap.size+1:=x;omega)⟩;rw[ae.o];exact n.o
    · skip
      obtain⟨e1,e2⟩:=HW.o.2.1 an Z;subst e1;rw[e2]at au;have ad:=O br.o;have T:Hid ((W.setCell (J (w.heap.size+1) i) (U (-1))).ownsRow w.heap.size 3 1 (.slice (some (J (w.heap.size+1) 0)) (m+1) (m+1)) (m+1) (C8 h)):=S.o;have l:Hid (I (λk=>k=w.heap.size+1) W (W.setCell (J (w.heap.size+1) i) (U (-1)))):=(show I (λk=>k=w.heap.size+1) W _ from I.set W (J (w.heap.size+1) i) (U (-1)));have ae:=O au.o;have bj:=an.symm;subst bj;have cd:(kd==6)=false:=by simpa using Z
      clear Z;gi_wp2
      refine⟨trivial,(CallsIn.inRound ao (callsIn_wide.2 (ab.o _ l.o))).mono ?_⟩;rintro e bq ⟨ga,gc,rfl,C,a4⟩;have M:=O (l.o.trans C (λ_ _ x=>x.elim));have P:=O (C9 a4 l.o.size);have R:=O (A4 T.o C (λ_ _ x=>x));clear C a4 T l ab v1 ac cL cA n0 n1 n2 n3 n4 n5 n6 n7 n8;gi_wp2
      gi_loopw [35] (λv wr=>∃j:Nat,j<=a.length/\v=U (j:Int)/\Hid (I (λk=>k=w.heap.size+1) W wr)/\Hid (wr.ownsRow w.heap.size 3 1 (.slice (some (J (w.heap.size+1) 0)) (m+1) (m+1)) (m+1) (C8 (setAQ h (-1) (a.take j))))/\Hid (wr.ownsRow W.heap.size 3 1 (.slice ga a.length gc) a.length (C8 a))) (λv _=>a.length - (intOf v).toNat)
      case atStart=>exact⟨0,wQ _,rfl,M,R,P⟩
      case round=>
       obtain⟨j,hj,rfl,c,n,A⟩:=hrel;clear M R P;have a3:Boxed wr f.heap.size 43 (.slice (some (J (w.heap.size+1) 0)) (m+1) (m+1)):=(c.o.block _ aa.o.lt (by omega)).trans aa.o;have cA:=a3.cell;by_cases D:j<a.length
       · obtain⟨p,ag,bg,aw,aj,v0⟩:=D9 (C9 A.o (wQ _)) D;subst ag;obtain⟨y,E,bn⟩:=b3.o a[j] (mQ D);rw[E]at v0;have X:Hid (setAQ h (-1) (a.take (j+1))=(setAQ h (-1) (a.take j)).set y (-1)):=by
          show _=_;rw[nQ D,L8a,E,tQ]
         have r:(setAQ h (-1) (a.take j)).length=m+1:=by rw[J7a];exact ad.o
         have V:=O r;obtain⟨d,a2⟩:∃d,setAQ h (-1) (a.take j)=d:=⟨_,rfl⟩;rw[a2]at n X V r;clear a2;have z:Hid (wr.ownsRow w.heap.size 3 1 (.slice (some (J (w.heap.size+1) 0)) d.length (m+1)) d.length (C8 d)):=by
          show World.ownsRow _ _ _ _ _ _ _;rw[r];exact n.o
         obtain⟨gx,F,b8,a7,a8,v1⟩:=D9 (j:=y) (C9 z.o (wQ _)) (show y<d.length by omega);have a5:gx=w.heap.size+1:=by
          have:=bY F;exact(congrArg Addr.block this).symm
         subst a5;have ac:wr.frozen? (J (w.heap.size+1) y)=false:=by
          obtain⟨_,al,H⟩:=A9 z.o (w.heap.size+1) rfl;exact frozen_of_row wr _ y _ _ H
         have S:=O (H7a z.o y (-1));have af:Hid (p≠w.heap.size+1):=by
          show p≠w.heap.size+1;have Y:=(A.o.lt p rfl).1;have B:=b4.o;omega
         unfold maxLen at aj;have bm:(y:Int)<(m:Int)+1:=by omega
         generalize d[y]'_=av at *;clear r E F a7 a8;gi_wp2
         go_roundw
         case rel=>exact⟨j+1,by omega,by go_num,(show I (λk=>k=w.heap.size+1) W _ from c.o.trans (I.set wr (J (w.heap.size+1) y) _) (λ_ _ x=>x)),(show World.ownsRow _ _ _ _ _ _ _ from by
          rw[X.o];have:=S.o;rw[V.o]at this;exact this),A4 A.o (I.set wr (J (w.heap.size+1) y) _) (λq K x=>by
           have G:q=w.heap.size+1:=x;have u:p=q:=bY K;exact af.o (u.trans G))⟩
         case measure=>simp[intOf];omega
       · have ah:j=a.length:=by omega
         subst ah;rw[xZ]at n;gi_wp2
         refine⟨⟨c.o.size,λk ap s t hn=>by rw[c.o.block k (ltG t) (by rw[a6]at s;omega)];exact t⟩,c.o.mono (λk _ x=> .inl x),⟨(c.o.block _ a9.o.lt (by omega)).trans a9.o,a3⟩, ?_,b0.o.trans c.o (λk s x=>by have G:k=w.heap.size+1:=x;omega)⟩;rw[ae.o];exact n.o
  · by_cases Z:kd=6
    · skip
      obtain⟨e1,e2⟩:=HW.o.2.2.1 an Z;subst e1 e2;have ad:=O bs.o;have T:Hid (W.ownsRow w.heap.size 3 1 (.slice (some (J (w.heap.size+1) 0)) (m+1) (m+1)) (m+1) (C8 h)):=bt.o;have l:Hid (I (λk=>k=w.heap.size+1) W W):=I.refl _ _;have ae:=O au.o;have aw:((i:Int)==(m:Int))=false:=by simp;omega
      subst Z;gi_wp2
      refine⟨trivial,(CallsIn.inRound ao (callsIn_wide.2 (ab.o _ l.o))).mono ?_⟩;rintro e bq ⟨ga,gc,rfl,C,a4⟩;have M:=O (l.o.trans C (λ_ _ x=>x.elim));have P:=O (C9 a4 l.o.size);have R:=O (A4 T.o C (λ_ _ x=>x));clear C a4 T l ab v1 ac cL cA n0 n1 n2 n3 n4 n5 n6 n7 n8;gi_wp2
      gi_loopw [35] (λv wr=>∃j:Nat,j<=a.length/\v=U (j:Int)/\Hid (I (λk=>k=w.heap.size+1) W wr)/\Hid (wr.ownsRow w.heap.size 3 1 (.slice (some (J (w.heap.size+1) 0)) (m+1) (m+1)) (m+1) (C8 (setAQ h (i:Int) (a.take j))))/\Hid (wr.ownsRow W.heap.size 3 1 (.slice ga a.length gc) a.length (C8 a))) (λv _=>a.length - (intOf v).toNat)
      case atStart=>exact⟨0,wQ _,rfl,M,R,P⟩
      case round=>
       obtain⟨j,hj,rfl,c,n,A⟩:=hrel;clear M R P;have a3:Boxed wr f.heap.size 43 (.slice (some (J (w.heap.size+1) 0)) (m+1) (m+1)):=(c.o.block _ aa.o.lt (by omega)).trans aa.o;have cA:=a3.cell;by_cases D:j<a.length
       · obtain⟨p,ag,bg,aw,aj,v0⟩:=D9 (C9 A.o (wQ _)) D;subst ag;obtain⟨y,E,bn⟩:=b3.o a[j] (mQ D);rw[E]at v0;have X:Hid (setAQ h (i:Int) (a.take (j+1))=(setAQ h (i:Int) (a.take j)).set y (i:Int)):=by
          show _=_;rw[nQ D,L8a,E,tQ]
         have r:(setAQ h (i:Int) (a.take j)).length=m+1:=by rw[J7a];exact ad.o
         have V:=O r;obtain⟨d,a2⟩:∃d,setAQ h (i:Int) (a.take j)=d:=⟨_,rfl⟩;rw[a2]at n X V r;clear a2;have z:Hid (wr.ownsRow w.heap.size 3 1 (.slice (some (J (w.heap.size+1) 0)) d.length (m+1)) d.length (C8 d)):=by
          show World.ownsRow _ _ _ _ _ _ _;rw[r];exact n.o
         obtain⟨gx,F,b8,a7,a8,v1⟩:=D9 (j:=y) (C9 z.o (wQ _)) (show y<d.length by omega);have a5:gx=w.heap.size+1:=by
          have:=bY F;exact(congrArg Addr.block this).symm
         subst a5;have ac:wr.frozen? (J (w.heap.size+1) y)=false:=by
          obtain⟨_,al,H⟩:=A9 z.o (w.heap.size+1) rfl;exact frozen_of_row wr _ y _ _ H
         have S:=O (H7a z.o y (i:Int));have af:Hid (p≠w.heap.size+1):=by
          show p≠w.heap.size+1;have Y:=(A.o.lt p rfl).1;have B:=b4.o;omega
         unfold maxLen at aj;have bm:(y:Int)<(m:Int)+1:=by omega
         generalize d[y]'_=av at *;clear r E F a7 a8;gi_wp2
         go_roundw
         case rel=>exact⟨j+1,by omega,by go_num,(show I (λk=>k=w.heap.size+1) W _ from c.o.trans (I.set wr (J (w.heap.size+1) y) _) (λ_ _ x=>x)),(show World.ownsRow _ _ _ _ _ _ _ from by
          rw[X.o];have:=S.o;rw[V.o]at this;exact this),A4 A.o (I.set wr (J (w.heap.size+1) y) _) (λq K x=>by
           have G:q=w.heap.size+1:=x;have u:p=q:=bY K;exact af.o (u.trans G))⟩
         case measure=>simp[intOf];omega
       · have ah:j=a.length:=by omega
         subst ah;rw[xZ]at n;gi_wp2
         refine⟨⟨c.o.size,λk ap s t hn=>by rw[c.o.block k (ltG t) (by rw[a6]at s;omega)];exact t⟩,c.o.mono (λk _ x=> .inl x),⟨(c.o.block _ a9.o.lt (by omega)).trans a9.o,a3⟩, ?_,b0.o.trans c.o (λk s x=>by have G:k=w.heap.size+1:=x;omega)⟩;rw[ae.o];exact n.o
    · skip
      obtain⟨e1,e2⟩:=HW.o.2.2.2 an Z;subst e1 e2;have ad:=O bs.o;have T:Hid (W.ownsRow w.heap.size 3 1 (.slice (some (J (w.heap.size+1) 0)) (m+1) (m+1)) (m+1) (C8 h)):=bt.o;have l:Hid (I (λk=>k=w.heap.size+1) W W):=I.refl _ _;have ae:=O au.o;have aw:((i:Int)==(m:Int))=false:=by simp;omega
      have cd:(kd==6)=false:=by simpa using Z
      clear Z;gi_wp2
      refine⟨trivial,(CallsIn.inRound ao (callsIn_wide.2 (ab.o _ l.o))).mono ?_⟩;rintro e bq ⟨ga,gc,rfl,C,a4⟩;have M:=O (l.o.trans C (λ_ _ x=>x.elim));have P:=O (C9 a4 l.o.size);have R:=O (A4 T.o C (λ_ _ x=>x));clear C a4 T l ab v1 ac cL cA n0 n1 n2 n3 n4 n5 n6 n7 n8;gi_wp2
      gi_loopw [35] (λv wr=>∃j:Nat,j<=a.length/\v=U (j:Int)/\Hid (I (λk=>k=w.heap.size+1) W wr)/\Hid (wr.ownsRow w.heap.size 3 1 (.slice (some (J (w.heap.size+1) 0)) (m+1) (m+1)) (m+1) (C8 (setAQ h ww (a.take j))))/\Hid (wr.ownsRow W.heap.size 3 1 (.slice ga a.length gc) a.length (C8 a))) (λv _=>a.length - (intOf v).toNat)
      case atStart=>exact⟨0,wQ _,rfl,M,R,P⟩
      case round=>
       obtain⟨j,hj,rfl,c,n,A⟩:=hrel;clear M R P;have a3:Boxed wr f.heap.size 43 (.slice (some (J (w.heap.size+1) 0)) (m+1) (m+1)):=(c.o.block _ aa.o.lt (by omega)).trans aa.o;have cA:=a3.cell;by_cases D:j<a.length
       · obtain⟨p,ag,bg,aw,aj,v0⟩:=D9 (C9 A.o (wQ _)) D;subst ag;obtain⟨y,E,bn⟩:=b3.o a[j] (mQ D);rw[E]at v0;have X:Hid (setAQ h ww (a.take (j+1))=(setAQ h ww (a.take j)).set y ww):=by
          show _=_;rw[nQ D,L8a,E,tQ]
         have r:(setAQ h ww (a.take j)).length=m+1:=by rw[J7a];exact ad.o
         have V:=O r;obtain⟨d,a2⟩:∃d,setAQ h ww (a.take j)=d:=⟨_,rfl⟩;rw[a2]at n X V r;clear a2;have z:Hid (wr.ownsRow w.heap.size 3 1 (.slice (some (J (w.heap.size+1) 0)) d.length (m+1)) d.length (C8 d)):=by
          show World.ownsRow _ _ _ _ _ _ _;rw[r];exact n.o
         obtain⟨gx,F,b8,a7,a8,v1⟩:=D9 (j:=y) (C9 z.o (wQ _)) (show y<d.length by omega);have a5:gx=w.heap.size+1:=by
          have:=bY F;exact(congrArg Addr.block this).symm
         subst a5;have ac:wr.frozen? (J (w.heap.size+1) y)=false:=by
          obtain⟨_,al,H⟩:=A9 z.o (w.heap.size+1) rfl;exact frozen_of_row wr _ y _ _ H
         have S:=O (H7a z.o y ww);have af:Hid (p≠w.heap.size+1):=by
          show p≠w.heap.size+1;have Y:=(A.o.lt p rfl).1;have B:=b4.o;omega
         unfold maxLen at aj;have bm:(y:Int)<(m:Int)+1:=by omega
         generalize d[y]'_=av at *;clear r E F a7 a8;gi_wp2
         go_roundw
         case rel=>exact⟨j+1,by omega,by go_num,(show I (λk=>k=w.heap.size+1) W _ from c.o.trans (I.set wr (J (w.heap.size+1) y) _) (λ_ _ x=>x)),(show World.ownsRow _ _ _ _ _ _ _ from by
          rw[X.o];have:=S.o;rw[V.o]at this;exact this),A4 A.o (I.set wr (J (w.heap.size+1) y) _) (λq K x=>by
           have G:q=w.heap.size+1:=x;have u:p=q:=bY K;exact af.o (u.trans G))⟩
         case measure=>simp[intOf];omega
       · have ah:j=a.length:=by omega
         subst ah;rw[xZ]at n;gi_wp2
         refine⟨⟨c.o.size,λk ap s t hn=>by rw[c.o.block k (ltG t) (by rw[a6]at s;omega)];exact t⟩,c.o.mono (λk _ x=> .inl x),⟨(c.o.block _ a9.o.lt (by omega)).trans a9.o,a3⟩, ?_,b0.o.trans c.o (λk s x=>by have G:k=w.heap.size+1:=x;omega)⟩;rw[ae.o];exact n.o
 case done=>
  rintro aq zs W hD rfl ⟨⟨Y,B⟩,u,h4⟩ hK;have cA:=B.cell;gi_wp2
  refine⟨by simp,.inl ⟨_,_,rfl,run_takeDeferred hK, ?_⟩⟩;have bz:I (λk=>k=aq) W (W.putObj aq (.deferred none)):=⟨rfl,rfl,rfl,by simp,λk _ s=>World.putObj_heap_other (λe=>s e)⟩;refine⟨_,results_tmp rfl _ _ _,_,_,rfl,h4.trans bz (λk s x=>by have G:k=aq:=x;rw[a6]at hD;omega), ?_⟩;have:=A4 u bz (λq K x=>by
   have G:q=aq:=x;have:w.heap.size+1=q:=bY K;rw[a6]at hD
   omega)
  rw[K0c N m hN (m+1) (vQ _)]at this;unfold fnP;rw[hN];exact this
 case stop=>
  rintro aq co ak W _ _ b5 _;exact b5.elim
theorem U5b{N:List Nd}{T:List Ty}(x:∀i (h:i<N.length),FlN N T i N[i])(A:∀i (h:i<N.length),N[i].list.length<=1200)(u:0<N.length)(F:N.length<=1200)(w:lZ)(s:Value)(r:Nrow w s N):
 Calls prog 19 #[s] w λe l=>∃n,e= .returned n/\I No w l/\l.ownsRow w.heap.size 3 1 n N.length (C8 (fnP N)):=by
 obtain⟨m,o⟩:∃m,N.length=m+1:=⟨N.length - 1,by omega⟩;obtain⟨g,C,_,_,p,y,_⟩:=r.at (Below.refl _ _) 0 u;have b:∀j:Nat,∃(c:Option Addr) (d:Nat),j<m+1->NdAt w g (ndx N j) j c d/\w.ownsRow 0 3 1 (.slice c (ndx N j).list.length d) (ndx N j).list.length (C8 (ndx N j).list):=λj=>by
  by_cases a:j<N.length
  · obtain⟨t,G,c,d,q,_,_,_,B,k,_⟩:=r.at (Below.refl _ _) j a;rw[p]at q;have z:g=t:=by
     injection q with f _ _;injection f with f;exact congrArg Addr.block f
    subst z;refine⟨c,d,λ_=> ?_⟩;rw[show ndx N (j:Int)=N[j] from F7 a];exact⟨B,k⟩
  · exact⟨none,0,λh=>by omega⟩
 subst p;rw[o];refine(B9b x A m o (by omega) w g C y (λj=>(b j).choose) (λj=>(b j).choose_spec.choose) (λj a=>((b j).choose_spec.choose_spec a).1) (λj a=>((b j).choose_spec.choose_spec a).2)).mono ?_;rintro e l ⟨D,E,rfl,v,k⟩;exact⟨_,rfl,v,k⟩
def Tyr(w:lZ)(b:Value)(T:List Ty):Prop:=∃a,w.ownsRow 0 76 4 b T.length a/\Rws (TyV w (λ_=>True)) T a
theorem Tyr.keep{S:Nat->Prop}{w f:lZ}{i:Value}{T:List Ty}(h:Tyr w i T)(c:I S w f)(d:∀k j e m,w.heap[k]? =some (.cells j e m)->(e=76\/e=131\/e=3)->¬S k):Tyr f i T:=by
 obtain⟨r,b,n⟩:=h;refine⟨r,A4 b c λg p x=> ?_,n.imp (TyV.chg c (λg _ _ q a=> ?_) (λ_ _ _=>trivial))⟩
 · obtain⟨_,l,a⟩:=A9 b g p;exact d _ _ _ _ a (.inl rfl) x
 · obtain⟨l,e,a,o⟩:=a;exact d _ _ _ _ a (.inr o) q
theorem NdOwn.row{w:lZ}{c:Nat}{v:Value}{N:List Nd}(h:NdOwn w c v N):Nrow w v N:=by
 obtain⟨d,a,b⟩:=h;exact⟨d,C9 a (wQ _),b.imp (NdV.chg (I.refl No w) (λ_ _ _ x=>x.elim) (λ_ _ _=>trivial))⟩
theorem TyOwn.row{w:lZ}{c:Nat}{v:Value}{T:List Ty}(h:TyOwn w c v T):Tyr w v T:=by
 obtain⟨d,a,b⟩:=h;exact⟨d,C9 a (wQ _),b.imp (TyV.chg (I.refl No w) (λ_ _ _ x=>x.elim) (λ_ _ _=>trivial))⟩
structure Rdb(w:lZ)(N:List Nd)(pb lb mb qb:Nat)(nv:Value)(cs:Array Value)(S:List Ty)(k:Nat)(f:Int->Option Int):Prop where
 nodes:Nrow w nv N
 blk:w.heap[pb]? =some (.cells cs 46 (0,0))
 sho:Sho w lb mb 4000 S (.map []) (λ_=>True)
 names:ImM w qb k f
 ne:qb≠mb
section
variable{w d:lZ}{N:List Nd}{b c g e:Nat}{h:Value}{a:Array Value}{S:List Ty}{k:Nat}{f:Int->Option Int}
theorem Rdb.still(i:Rdb w N b c g e h a S k f)(j:I No w d):Rdb d N b c g e h a S k f:=
 ⟨i.nodes.keep j (λ_ _ _ _ _ _ x=>x),by rw[j.block b (ltG i.blk) (λx=>x)];exact i.blk,i.sho.still j,i.names.chg j (λx=>x),i.ne⟩
theorem Rdb.put{r:Nat}{p:Int->Option Int}(i:Rdb w N b c g e h a S k f)(n:I (λx=>x=e) w d)(t:ImM d e r p):Rdb d N b c g e h a S r p:=by
 have o:∀q a j m,w.heap[q]? =some (.cells a j m)->q≠e:=λq a j m l x=>by
  subst x;exact i.names.notcells l
 refine⟨i.nodes.keep n (λq a j m l _=>o q a j m l), ?_,i.sho.chg n (i.sho.mst.chg n (λx=>i.ne x.symm)) (λq s j l _=>o q s j _ l) (λ_ x _=>x),t,i.ne⟩;rw[n.block b (ltG i.blk) (o _ _ _ _ i.blk)];exact i.blk
theorem Rdb.not(m:Rdb w N b c g e h a S k f):∀q a i l,w.heap[q]? =some (.cells a i l)->i≠46->q≠b:=λq a i l j n x=>by
 subst x;rw[m.blk]at j;simp only[zQ,xW]at j;exact n j.2.1.symm
theorem Rdb.store{o:Array Value}(i:Rdb w N b c g e h a S k f)(l:I (λx=>x=b) w d)(s:d.heap[b]? =some (.cells o 46 (0,0))):Rdb d N b c g e h o S k f:=by
 have t:g≠b:=λx=>by
  subst x;exact i.sho.mst.tag _ _ _ i.blk
 have j:e≠b:=λx=>by
  subst x;exact i.names.notcells i.blk
 refine⟨i.nodes.keep l (λq a m r j n=>i.not q a m r j (by rcases n with rfl|rfl|rfl<;>decide)),s,i.sho.chg l (i.sho.mst.chg l t) (λq p m j n=>i.not q p m _ j (by rcases n with rfl|rfl|⟨rfl|rfl,_⟩<;>decide)) (λ_ x _=>x),i.names.chg l j,i.ne⟩
theorem Rdb.grow{v:Value}{S':List Ty}(m:Rdb w N b c g e h a S k f)(z:w.cell? (J c 0)=some v)(r:I (L4a c v) w d)(E:Sho d c g 4000 S' (.map []) (λ_=>True)):Rdb d N b c g e h a S' k f/\(∀(q:Nat) (a:Array Value) (i:TypeId) (j:Nat×Nat),w.heap[q]? =some (.cells a i j)->i≠102->i≠76->d.heap[q]? =some (.cells a i j))/\I (λx=>c<=x) w d:=by
 obtain⟨F,G,o,u,_⟩:=m.sho.blk;have D:v=F:=by
  rw[cell_of_row w c 0 _ _ _ o]at z;exact(bY z).symm
 subst D;have B:∀(q:Nat) (a:Array Value) (i:TypeId) (j:Nat×Nat),w.heap[q]? =some (.cells a i j)->i≠102->i≠76->¬L4a c v q:=by
  rintro q a i j l s t (rfl|p)
  · rw[l]at o;simp only[zQ,xW]at o;exact s o.2.1
  · obtain⟨_,C,n⟩:=A9 u q p.symm;rw[l]at n;simp only[zQ,xW]at n;exact t n.2.1
 have A:∀(q:Nat) (a:Array Value) (i:TypeId) (j:Nat×Nat),w.heap[q]? =some (.cells a i j)->i≠102->i≠76->d.heap[q]? =some (.cells a i j):=λq a i j l s t=>by
  rw[r.block q (ltG l) (B q a i j l s t)];exact l
 refine⟨⟨m.nodes.keep r (λq a i j l y=>B q a i j l (by rcases y with rfl|rfl|rfl<;>decide) (by rcases y with rfl|rfl|rfl<;>decide)),A _ _ _ _ m.blk (by decide) (by decide),E,m.names.chg r ?_,m.ne⟩,A,r.mono ?_⟩
 · rintro(rfl|p)
   · exact m.names.notcells o
   · obtain⟨_,C,n⟩:=A9 u e p.symm;exact m.names.notcells n
 · rintro q _ (rfl|p)
   · exact vQ _
   · exact(A9 u q p.symm).1
end
theorem J9d{w:lZ}{q:Nat}{t:TypeId}(f:w.heap[q]? =some (.cells #[U 0,U 0] t (0,0))):I No w ((w.setCell (J q 0) (U 0)).setCell (J q 1) (U 0)):=by
 have a:I (λk=>k=q) w ((w.setCell (J q 0) (U 0)).setCell (J q 1) (U 0)):=I.trans (I.set w (J q 0) _) (I.set _ (J q 1) _) (λ_ _ x=>x);refine⟨a.os,a.tape,a.output,a.size,λk c _=> ?_⟩;by_cases b:k=q
 · subst b;rw[heap_setCell_same _ k 1 _ _ _ (heap_setCell_same w k 0 _ _ _ f)];exact f.symm
 · exact a.block k c b
theorem P6b{a w e:lZ}{d b c B:Nat}(h:I (SW a d b c) a e)(j:Below B w a)(l:B<=a.heap.size)(f:B<=d)(g:B<=b)(i:B<=c):Below B w e:=
 j.trans (I.toBelow h (λk _ x=>by
  rcases x with rfl|rfl|rfl|⟨x,_⟩
  · exact f
  · exact g
  · exact i
  · omega) l)
def E9b(n:Nat)(d f:Value)(c:Int)(b e:Nat)(a:Value)(j:Nat):Array Value:=
 #[d,f,U c,pV b,.map (some e),a,sN,U 0,U (if 1<=j then (n:Int) else 0),U (if 2<=j then ((n+1:Nat):Int) else 0),U (if 3<=j then ((n+2:Nat):Int) else 0),U (if 4<=j then ((n+3:Nat):Int) else 0),U (if 5<=j then ((n+4:Nat):Int) else 0)]
theorem X8c(c:Cx)(e g:Value)(d:Int)(b f:Nat)(a:Value):E9b c.T.length e g d b f a 5=pcs c e g d b f a (sN):=rfl
theorem X7c(n:Nat)(d f:Value)(c:Int)(b e:Nat)(a:Value){j:Nat}(g:j<5):(E9b n d f c b e a j).setIfInBounds (7+(j+1)) (U ((n+j:Nat):Int))=E9b n d f c b e a (j+1):=by
 have:j=0\/j=1\/j=2\/j=3\/j=4:=by omega
 rcases this with rfl|rfl|rfl|rfl|rfl<;>rfl
theorem O6c{j:Nat}(a:j<5):I9.take (j+1)=I9.take j++[⟨((j+1:Nat):Int),[],[],0⟩]:=by
 have:j=0\/j=1\/j=2\/j=3\/j=4:=by omega
 rcases this with rfl|rfl|rfl|rfl|rfl<;>rfl
theorem A6c:I9.take 5=I9:=rfl
theorem X0b(X:List Ty):Z9 [] X=X:=by
 unfold Z9;have:(mvT ([]:List Ty).length)=id:=by
  funext t
  obtain⟨k,a,b,o⟩:=t;simp[mvT]
 rw[this];simp
theorem D6b:∀(l:List (Int×Int)) (j:Nat) (h:j<l.length),(H2a l)[j * 2]? =some (U l[j].1)/\(H2a l)[j * 2+1]? =some (U l[j].2)
 |p::r,0,_=>⟨rfl,rfl⟩
 |p::r,j+1,h=>by
  have a:=D6b r j (by simpa using h);have e:H2a (p::r)=U p.1::U p.2::H2a r:=rfl;rw[e,show (j+1) * 2=j * 2+1+1 from by omega];simpa using a
section
variable{N:List Nd}{T:List Ty}{b:List Nt}{c:List Fr}{a:List (Nat×Int)}
theorem U9d(d:Prgm N T b)(f:bnP b= .ok c a):∀p∈U3 (upd (List.replicate N.length (-1)) a) N.length,(0<=p.1/\p.1<=1000000)/\(0<=p.2/\p.2<=1000000):=λp g=>by
 obtain⟨j,e,rfl,h⟩:=W6b _ _ p g;have i:=(Z7c d f).rg j e;have k:=d.lenN;simp only;omega
theorem A0e{d:lZ}{q k p m bl:Nat}{l y f:Value}{w:Int}(o:Prgm N T b)(A:bnP b= .ok c a)(h:Rdb d N q k p m l (E9b T.length l y w k m f 5) (T++I9.take 5) bl (asg (U3 (upd (List.replicate N.length (-1)) a) N.length)))(B:bl<=5000)(C:d.ownsRow 0 3 1 f N.length (C8 (fnP N))):
 Cbs d (cxP N T a) q k p m l f/\Cst d d (cxP N T a) q k p m l y w f [] []:=by
 have z:asg (U3 (upd (List.replicate N.length (-1)) a) N.length)=nmM (cxP N T a):=F4e (cxP N T a);have r:T++I9.take 5=tl (cxP N T a) []:=by
  rw[A6c];unfold tl;rw[zY];rfl
 rw[z,r]at h;obtain⟨L,M,E,_⟩:=h.sho.blk;obtain⟨n,⟨G,F,j,_⟩,_⟩:=h.sho.mst.own;refine⟨⟨J5d o A o.tx,h.nodes,h.names.more B,C,⟨_,h.blk⟩,⟨_,E⟩,⟨_,_,j⟩,h.ne⟩,⟨I.refl _ _,⟨sN,.map [], ?_,kW _ _ _ _,h.sho.chg (I.refl No _) h.sho.mst (λ_ _ _ _ _ x=>x) (λg _ _=>by simp[Value.ownBlock])⟩, ?_⟩⟩
 · rw[<-X8c];exact h.blk
 · intro i D;have s:(tl (cxP N T a) [])=T++I9:=by rw[<-r];rfl
   have K:i<(T++I9).length:=by rw[<-s];exact D
   have e:(tl (cxP N T a) [])[i]=(T++I9)[i]:=by simp only[s]
   rw[e];by_cases u:i<T.length
   · rw[List.getElem_append_left u];have:=o.ls i u;omega
   · rw[List.getElem_append_right (by omega)];have j:=mQ (l:=I9) (show i - T.length<I9.length from by
      have H:(T++I9).length=T.length+I9.length:=by simp
      omega)
     generalize I9[i - T.length]'_=t at *;have v:t.list=[]/\t.fields=[]:=by
      simp only[I9,jW,qZ,or_false]at j;rcases j with rfl|rfl|rfl|rfl|rfl<;>exact⟨rfl,rfl⟩
     rw[v.1,v.2];exact⟨by decide,by decide⟩
end
