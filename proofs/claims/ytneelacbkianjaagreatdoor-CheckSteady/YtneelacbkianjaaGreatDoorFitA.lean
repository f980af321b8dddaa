/-
  A part of the proof.
-/
import Derived.Test.YtneelacbkianjaaGreatDoorScanB
import Derived.Maps.Views
import Derived.Maps.OwnOps
import Derived.DeepKeys4
import Derived.BigRegion
set_option maxHeartbeats 16000000
set_option maxRecDepth 100000
namespace Go.Proofs.YtneelacbkianjaaGreatDoor
open Go.Proofs.Tryz
open Go.RowKit Go.Maps
theorem Tryz.laidOut:laidOutB prog=true:=by kernel_rfl
theorem Tryz.rowPair:(205:TypeId)<prog.types.size:=of_decide_eq_true (by kernel_rfl)
theorem Tryz.widePair:(match prog.underlying 205 with|some (.array _ _)|some (.struct _)=>true|_=>false)=true:=by kernel_rfl
theorem Tryz.keyPair:prog.keyType 205=true:=by kernel_rfl
theorem Y0a:Keyed prog 205:=Keyed.of_law (deep_law_laid Tryz.laidOut (m:=2) (by omega) Tryz.rowPair (by kernel_rfl) Tryz.widePair)
theorem Tryz.cellsPair:prog.cellsOf 205=2:=by kernel_rfl
theorem Tryz.cellsInt:prog.cellsOf 3=1:=by kernel_rfl
def kp(a b:Int):Lit:= .string (keyBytes [.int .i64 a,.int .i64 b])
theorem E4a(a b:Int)(d:(Lit.int .i64 a).wf=true)(e:(Lit.int .i64 b).wf=true):keyOf prog 205 (.agg #[.int .i64 a,.int .i64 b])=some (kp a b):=by
 have c:2<=prog.types.size+1:=of_decide_eq_true (by kernel_rfl);obtain⟨m,g⟩:=Nat.exists_eq_add_of_le c;have f:(Value.agg #[.int .i64 a,.int .i64 b]).formed prog 205=true:=by simp[Value.formed,underlying205,Tryz.cellsPair]
 unfold keyOf;simp only[underlying205,Tryz.keyPair,f,Bool.and_self,if_true];rw[g,show 2+m=m+1+1 by omega];simp[Program.keyLits,underlying205,underlying3,Tryz.cellsPair,Tryz.cellsInt,d,e,Value.cells,kp]
theorem C2e{a b c d:Int}(g:(Lit.int .i64 a).wf=true)(i:(Lit.int .i64 b).wf=true)(j:(Lit.int .i64 c).wf=true)(k:(Lit.int .i64 d).wf=true)(h:kp a b=kp c d):a=c/\b=d:=by
 have e:=E4a a b g i;have f:=E4a c d j k;rw[h]at e;have:=Y0a.inj e f;simpa using this
theorem U4(a:Nat)(h:a<1000000000000):(Lit.int .i64 (a:Int)).wf=true:=by
 simp[Lit.wf,IntKind.min,IntKind.max,IntKind.bits,IntKind.signed];omega
abbrev Dt:=DataW Unit
def zi:Dt:= .lit (.int .i64 0)
def at2(D:Dt)(a b:Nat):Dt:=D.atKey (kp a b) zi
def isZ:Dt->Bool
 | .lit (.int _ c)=>c==0
 |_=>true
def D0c(N:Nat):List (Nat×Nat):=(List.range N).flatMap λp=>(List.range N).map λq=>(p,q)
theorem H0b(N:Nat):∀l:List Nat,(l.map λ_=>N).sum=l.length * N
 |[]=>by simp
 |a::l=>by rw[uY,List.sum_cons,H0b N l,jQ,Nat.add_mul];omega
theorem F9d(N:Nat):(D0c N).length=N * N:=by
 have:=H0b N (List.range N);simpa[D0c]using this
theorem B3d{N a b:Nat}(c:a<N)(d:b<N):(a,b)∈D0c N:=by
 simp only[D0c,List.mem_flatMap,jZ,List.mem_range];exact⟨a,c,b,d,rfl⟩
def free(N:Nat)(D:Dt):Nat:=(D0c N).countP λx=>isZ (at2 D x.1 x.2)
theorem W6a{e:Type}{p q:e->Bool}:∀{l:List e} {x:e},(∀y∈l,q y=true->p y=true)->x∈l->p x=true->q x=false->l.countP q+1<=l.countP p
 |a::l,x,h,c,f,i=>by
  have j:l.countP q<=l.countP p:=List.countP_mono_left λy d=>h y (by simp[d]);rcases jW.1 c with rfl|c
  · rw[List.countP_cons_of_pos f,List.countP_cons_of_neg (by simp[i])];omega
  · have:=W6a (λy d=>h y (by simp[d])) c f i;by_cases b:q a=true
    · rw[List.countP_cons_of_pos b,List.countP_cons_of_pos (h a (by simp) b)];omega
    · rw[List.countP_cons_of_neg b];have:l.countP p<=(a::l).countP p:=by
       by_cases g:p a=true
       · rw[List.countP_cons_of_pos g];omega
       · rw[List.countP_cons_of_neg g];exact vQ _
      omega
theorem X1b{D:Dt}(c:IsMap D){a b:Nat}(d:Dt):at2 (D.put (kp a b) d) a b=d:=atKey_put_same (k:=kp a b) c (show WideAt.IsKeyLit (kp a b) from trivial) d zi
theorem V0a{D:Dt}{a b p q:Nat}(c:a<1000000000000)(f:b<1000000000000)(g:p<1000000000000)(i:q<1000000000000)(d:Dt)(h:¬(p=a/\q=b)):at2 (D.put (kp a b) d) p q=at2 D p q:=by
 refine atKey_put_other (λe=>h ?_) d zi;have:=C2e (U4 p g) (U4 q i) (U4 a c) (U4 b f) e;omega
theorem G2d{N:Nat}(l:N<=4000){D:Dt}(g:IsMap D){a b:Nat}(i:a<N)(j:b<N)(f:isZ (at2 D a b)=true)(d:Dt)(k:isZ d=false):free N (D.put (kp a b) d)+1<=free N D:=by
 refine W6a (x:=(a,b)) (λy e c=> ?_) (B3d i j) f (by show isZ (at2 _ _ _)=_;rw[X1b g];exact k);obtain⟨p,q⟩:=y;by_cases h:p=a/\q=b
 · obtain⟨rfl,rfl⟩:=h;exact f
 · simp only[D0c,List.mem_flatMap,jZ,List.mem_range,Prod.mk.injEq]at e;obtain⟨o,m,r,n,rfl,rfl⟩:=e;simp only at c⊢;rw[V0a (by omega) (by omega) (by omega) (by omega) d h]at c;exact c
def Memo(N:Nat)(T:List Ty)(D:Dt):Prop:=∀p q c,p<N->q<N->at2 D p q= .lit (.int .i64 c)->c=0\/(p<T.length/\q<T.length/\((c=1/\F2 (tr T p) (tr T q)=true)\/(c=2/\F2 (tr T p) (tr T q)=false)))
structure Mst(w:lZ)(mb N:Nat)(T:List Ty)(D:Dt):Prop where
 few:N<=4000
 len:T.length<=N
 memo:Memo N T D
 isMap:IsMap D
 own:∃n,w.ownsMap prog 205 (plainElem prog 3) mb n D/\n+free N D<=N * N
theorem Mst.chg{S:Nat->Prop}{w g:lZ}{e N:Nat}{T:List Ty}{D:Dt}(h:Mst w e N T D)(l:I S w g)(m:¬S e):Mst g e N T D:=by
 obtain⟨a,b,c,d,n,⟨j,i,f,k⟩,r⟩:=h;exact⟨a,b,c,d,n,⟨j,i,by rw[l.block e (ltG f) m];exact f,k⟩,r⟩
theorem Mst.lt{w:lZ}{a N:Nat}{T:List Ty}{D:Dt}(h:Mst w a N T D):a<w.heap.size:=by
 obtain⟨n,h,_⟩:=h.own;exact h.lt
theorem Mst.tag{w:lZ}{d N:Nat}{T:List Ty}{D:Dt}(h:Mst w d N T D):∀a e b,w.heap[d]? ≠some (.cells a e b):=by
 obtain⟨n,⟨i,g,f,j⟩,r⟩:=h.own;intro a e b c;rw[f]at c;cases c
theorem R4d(w:lZ)(N:Nat)(a:N<=4000):Mst (w.alloc (.map #[] 0)) w.heap.size N [] (.map []):=by
 refine⟨a,wQ _,λp q c _ _ h=> ?_,isMap_empty,0,World.ownsMap_made w _ _ _, ?_⟩
 · left;have:at2 (.map []) p q=zi:=rfl;rw[this]at h;simp[zi]at h;exact h.symm
 · have:=List.countP_le_length (p:=λx:Nat×Nat=>isZ (at2 (.map []) x.1 x.2)) (l:=D0c N);rw[F9d]at this;unfold free;omega
theorem Mst.more{w:lZ}{d N:Nat}{T:List Ty}{D:Dt}(h:Mst w d N T D)(b:TsOk T)(X:List Ty)(f:(T++X).length<=N):Mst w d N (T++X) D:=by
 refine⟨h.few,f,λp q c g i e=> ?_,h.isMap,h.own⟩;rcases h.memo p q c g i e with a|⟨a,h2,h3⟩
 · exact .inl a
 · refine .inr ⟨by simp;omega,by simp;omega, ?_⟩;rw[H3a X b a,H3a X b h2];exact h3
theorem C3e{D:Dt}{a b:Nat}{c:Int}(h:at2 D a b= .lit (.int .i64 c)):isZ (at2 D a b)=(c==0):=by rw[h];rfl
theorem Mst.put{w j:lZ}{e N n:Nat}{T:List Ty}{D:Dt}{a b:Nat}(h:Mst w e N T D)(k:a<T.length)(l:b<T.length)(u:isZ (at2 D a b)=true)(r:Bool)(i:F2 (tr T a) (tr T b)=r)(v:n+free N D<=N * N)
 (o:j.ownsMap prog 205 (plainElem prog 3) e (n+1) (D.put (kp a b) (.lit (.int .i64 (if r then 1 else 2))))):Mst j e N T (D.put (kp a b) (.lit (.int .i64 (if r then 1 else 2)))):=by
 have f:=h.few;have m:=h.len;refine⟨f,m,λp q c s t d=> ?_,h.isMap.put _ _,n+1,o, ?_⟩
 · by_cases g:p=a/\q=b
   · obtain⟨rfl,rfl⟩:=g;rw[X1b h.isMap]at d;refine .inr ⟨k,l, ?_⟩;cases r
     · simp at d;exact .inr ⟨d.symm,i⟩
     · simp at d;exact .inl ⟨d.symm,i⟩
   · rw[V0a (by omega) (by omega) (by omega) (by omega) _ g]at d;exact h.memo p q c s t d
 · have:=G2d f h.isMap (a:=a) (b:=b) (by omega) (by omega) u (.lit (.int .i64 (if r then 1 else 2))) (by cases r<;>rfl);omega
structure Shp(w:lZ)(lb mb N:Nat)(T:List Ty)(D:Dt):Prop where
 ok:TsOk T
 mst:Mst w mb N T D
 blk:∃yv yx,w.heap[lb]? =some (.cells #[yv,.map (some mb)] 102 (0,0))/\w.ownsRow lb 76 4 yv T.length yx/\Rws (TyV w (λ_=>True)) T yx
theorem Shp.chg{S:Nat->Prop}{w l:lZ}{d j N:Nat}{T:List Ty}{D m:Dt}(h:Shp w d j N T D)(i:I S w l)(s:Mst l j N T m)
 (c:∀k a e,w.heap[k]? =some (.cells a e (0,0))->(e=102\/e=76\/e=131\/e=3)->¬S k):Shp l d j N T m:=by
 obtain⟨p,_,u,v,f,o,t⟩:=h;refine⟨p,s,u,v, ?_,A4 o i λg r x=> ?_,t.imp (TyV.chg i (λg _ _ n b=> ?_) (λ_ _ _=>trivial))⟩
 · rw[i.block d (ltG f) (c d _ _ f (.inl rfl))];exact f
 · obtain⟨_,a,b⟩:=A9 o g r;exact c g a _ b (.inr (.inl rfl)) x
 · obtain⟨a,e,b,q⟩:=b;rcases q with rfl|rfl
   · exact c g a _ b (.inr (.inr (.inl rfl))) n
   · exact c g a _ b (.inr (.inr (.inr rfl))) n
theorem Shp.still{w d:lZ}{b c N:Nat}{T:List Ty}{D:Dt}(h:Shp w b c N T D)(a:I No w d):Shp d b c N T D:=h.chg a (h.mst.chg a (λx=>x)) (λ_ _ _ _ _ x=>x)
theorem Shp.alloc{w:lZ}{a b N:Nat}{T:List Ty}{D:Dt}(h:Shp w a b N T D)(o:Obj):Shp (w.alloc o) a b N T D:=h.still (I.alloc _ _ _)
theorem Shp.memo{w b:lZ}{d a N:Nat}{T:List Ty}{D c:Dt}(h:Shp w d a N T D)(f:I (λk=>k=a) w b)(i:Mst b a N T c):Shp b d a N T c:=
 h.chg f i (λk l e g _ x=>by have j:k=a:=x;subst j;exact h.mst.tag _ _ _ g)
theorem Shp.few{w:lZ}{a b N:Nat}{T:List Ty}{D:Dt}(h:Shp w a b N T D):T.length<=4000:=kQ h.mst.len h.mst.few
theorem Shp.cell{w:lZ}{a s N:Nat}{T:List Ty}{D:Dt}(h:Shp w a s N T D):∃b c,w.cell? (J a 0)=some (.slice b T.length c)/\w.cell? (J a 1)=some (.map (some s))/\a<w.heap.size/\(∀o,w.frozen? (J a o)=false)/\
 ∀i (n:i<T.length),∃g d e l m,b=some (J g 0)/\g<w.heap.size/\T.length<=c/\c<=maxLen/\w.cell? (J g (i * 4))=some (.int .i64 T[i].kind)/\w.cell? (J g (i * 4+1))=some (.slice d T[i].fields.length e)/\w.cell? (J g (i * 4+2))=some (.slice l T[i].list.length m)/\
  w.cell? (J g (i * 4+3))=some (.int .i64 T[i].of')/\w.ownsRow 0 131 2 (.slice d T[i].fields.length e) T[i].fields.length (G5 T[i].fields)/\w.ownsRow 0 3 1 (.slice l T[i].list.length m) T[i].list.length (C8 T[i].list):=by
 obtain⟨B,_,F,G,f,r,y⟩:=h;obtain⟨b,c,rfl⟩:=B9 r;have x:=(ltG f);refine⟨b,c,cr f rfl,cr f rfl,x,λo=>frozen_of_row w a o _ _ f,λi n=> ?_⟩;obtain⟨g,rfl,_,v,t,u,j⟩:=F5 r (by omega);obtain⟨E,z,k⟩:=Rws.at (z:=4) (λ_ _ h=>h.len) i n y;obtain⟨A,C,rfl,p,q,_⟩:=z;obtain⟨d,e,rfl⟩:=B9 p;obtain⟨l,m,rfl⟩:=B9 q;refine⟨g,d,e,l,m,rfl,v,t,u,j _ _ ?_,j _ _ ?_,j _ _ ?_,j _ _ ?_,p,q⟩
 · have:=k 0 (by omega);simpa using this
 · have:=k 1 (by omega);simpa using this
 · have:=k 2 (by omega);simpa using this
 · have:=k 3 (by omega);simpa using this
def M8a(w:lZ)(b N:Nat)(T:List Ty)(D:Dt)(m:Nat)(r:Bool)(e:Ending)(c:lZ):Prop:=
 e= .returned (.bool r)/\I (λk=>k=b) w c/\∃a,Mst c b N T a/\∀p q,p<N->q<N->m<p+q->at2 a p q=at2 D p q
def P2a(c d N:Nat)(T:List Ty)(m:Nat):Prop:=∀(a b:Nat) (w:lZ) (D:Dt),a+b+1<=m->a<T.length->b<T.length->Shp w c d N T D->
 Calls prog 160 #[pV c,U (a:Int),U (b:Int)] w (M8a w d N T D (a+b) (F2 (tr T a) (tr T b)))
structure Box(w:lZ)(q:Nat)(v:Value)(e:TypeId):Prop where
 at':w.heap[q]? =some (.cells #[v] e (0,0))
theorem Box.cell{w:lZ}{q:Nat}{v:Value}{e:TypeId}(h:Box w q v e):w.cell? (J q 0)=some v:=cr h.at' rfl
theorem Box.lt{w:lZ}{q:Nat}{v:Value}{e:TypeId}(h:Box w q v e):q<w.heap.size:=(ltG h.at')
theorem Box.memo{w b:lZ}{q a N:Nat}{T:List Ty}{D:Dt}{v:Value}{e:TypeId}(h:Box w q v e)(d:Mst w a N T D)(c:I (λk=>k=a) w b):Box b q v e:=
 ⟨by rw[c.block q h.lt (λx=>by have f:q=a:=x;subst f;exact d.tag _ _ _ h.at')];exact h.at'⟩
theorem Box.still{w a:lZ}{q:Nat}{v:Value}{e:TypeId}(h:Box w q v e)(b:I No w a):Box a q v e:=⟨by rw[b.block q h.lt (λx=>x)];exact h.at'⟩
theorem L6c(w:lZ)(v:Value)(e:TypeId):Box (w.alloc (.cells #[v] e)) w.heap.size v e:=⟨qY w _⟩
theorem Box.alloc{w:lZ}{q:Nat}{v:Value}{e:TypeId}(h:Box w q v e)(o:Obj):Box (w.alloc o) q v e:=h.still (I.alloc _ _ _)
theorem D9{w:lZ}{b:Option Addr}{a:Nat}{ls:uZ}(h:w.ownsRow 0 3 1 (.slice b ls.length a) ls.length (C8 ls)){j:Nat}(l:j<ls.length):∃g,b=some (J g 0)/\g<w.heap.size/\ls.length<=a/\a<=maxLen/\w.cell? (J g j)=some (U ls[j]):=by
 obtain⟨c,d,_,e,f,i,k⟩:=F5 h (by omega);exact⟨c,d,e,f,i,k j _ (by simp[C8,l])⟩
theorem Y3{w d:lZ}{b c n a N:Nat}{T:List Ty}{D:Dt}{e:TypeId}{v:Value}{f:List Value}(h:w.ownsRow b e c v n f)(m:Mst w a N T D)(i:I (λk=>k=a) w d):d.ownsRow b e c v n f:=
 A4 h i λg j x=>by
  have o:g=a:=x;subst o;obtain⟨_,p,l⟩:=A9 h g j;exact m.tag _ _ _ l
section
variable{a b N:Nat}{T:List Ty}
theorem R4c(m:Nat)(j:P2a a b N T m)(w:lZ)(D:Dt)(h:Shp w a b N T D)(k c i g:Nat)(p:k<T.length)(l:c<T.length)(q:k+c+1<=m)(d:Box w i (pV a) 41)(f:Box w g (U (c:Int)) 3):
 Calls prog 189 #[U (k:Int),pV i,pV g] w (M8a w b N T D (k+c) (!F2 (tr T k) (tr T c))):=by
 have H:=j k c w D q p l h;have s:=d.cell;have t:=f.cell;clear h d f;generalize F2 (tr T k) (tr T c)=r at *;go_enter func189,ntmps189;go_wp2_with fail
 refine H.mono ?_;clear H;rintro e u ⟨rfl,n,o⟩;go_wp2;go_ret;exact⟨rfl,n,o⟩
theorem R3c(m:Nat)(j:P2a a b N T m)(w:lZ)(D:Dt)(h:Shp w a b N T D)(k c i g:Nat)(p:k<T.length)(l:c<T.length)(q:c+k+1<=m)(d:Box w i (pV a) 41)(f:Box w g (U (c:Int)) 3):
 Calls prog 190 #[U (k:Int),pV i,pV g] w (M8a w b N T D (c+k) (F2 (tr T c) (tr T k))):=by
 have H:=j c k w D q l p h;have s:=d.cell;have t:=f.cell;clear h d f;generalize F2 (tr T c) (tr T k)=r at *;go_enter func190,ntmps190;go_wp2_with fail
 refine H.mono ?_;clear H;rintro e u ⟨rfl,n,o⟩;go_wp2;go_ret;exact⟨rfl,n,o⟩
end
structure Mid(w:lZ)(mb N:Nat)(T:List Ty)(D:Dt)(m:Nat)(w':lZ):Prop where
 chg:I (λk=>k=mb) w w'
 memo:∃D',Mst w' mb N T D'/\∀p q,p<N->q<N->m<=p+q->at2 D' p q=at2 D p q
theorem Mid.refl{w:lZ}{b a N:Nat}{T:List Ty}{D:Dt}(h:Shp w b a N T D)(m:Nat):Mid w a N T D m w:=⟨I.refl _ _,D,h.mst,λ_ _ _ _ _=>rfl⟩
theorem Mid.shp{w d:lZ}{c b N:Nat}{T:List Ty}{D:Dt}{m:Nat}(h:Mid w b N T D m d)(g:Shp w c b N T D):∃a,Shp d c b N T a/\∀p q,p<N->q<N->m<=p+q->at2 a p q=at2 D p q:=by
 obtain⟨a,e,f⟩:=h.memo;exact⟨a,g.memo h.chg e,f⟩
theorem Mid.after{w f g:lZ}{a N:Nat}{T:List Ty}{D b:Dt}{m m1:Nat}{r:Bool}{e:Ending}(h:Mid w a N T D m f)(o:∀p q,p<N->q<N->m<=p+q->at2 b p q=at2 D p q)(t:m1+1<=m)(k:M8a f a N T b m1 r e g):Mid w a N T D m g:=by
 obtain⟨_,j,i,l,n⟩:=k;exact⟨h.chg.trans j (λ_ _ x=>x),i,l,λp q c d s=>(n p q c d (by omega)).trans (o p q c d s)⟩
theorem Mid.alloc{w b:lZ}{a N:Nat}{T:List Ty}{D:Dt}{m:Nat}(h:Mid w a N T D m b)(o:Obj):Mid w a N T D m (b.alloc o):=by
 obtain⟨c,d,e⟩:=h.memo;exact⟨h.chg.trans (I.alloc No _ _) (λ_ _ x=>x.elim),c,d.chg (I.alloc No _ _) (λx=>x),e⟩
theorem G2a{a:Type}{p:a->Bool}{l:List a}{j:Nat}(b:j<l.length):(l.take (j+1)).any p=((l.take j).any p||p l[j]):=by
 rw[nQ b,List.any_append];simp
section
variable{b a N:Nat}{T:List Ty}
theorem C9c(m:Nat)(IH:P2a b a N T m)(w:lZ)(D:Dt)(h:Shp w b a N T D)(P:Option Addr)(R:Nat)(c:uZ)(H:w.ownsRow 0 3 1 (.slice P c.length R) c.length (C8 c))(d u t:Nat)(hb:d<T.length)(F:∀x∈c,0<=x/\x<T.length/\x+d+1<=m)
 (G:Box w u (pV b) 41) (K:Box w t (U (d:Int)) 3):
 Calls prog 202 #[.slice P c.length R,.func (.func 189) #[] #[pV u,pV t]] w λe w'=>
  (∃r:Int,e= .returned (U r)/\decide (0<=r)=c.any λx=> !F2 (tr T x.toNat) (tr T d))/\Mid w a N T D m w':=by
 have i:=O h;have W:=O H;have X:=O G;have Y:=O K;have V:=O F;clear h H G K F;go_enter func202,ntmps202;go_wp2;go_loopw [8] (λv wr=>∃j:Nat,j<=c.length/\v=U (j:Int)/\Hid ((c.take j).any (λx=> !F2 (tr T x.toNat) (tr T d))=false)/\Hid (Mid w a N T D m wr)) (λv _=>c.length - (intOf v).toNat)
 case atStart=>exact⟨0,wQ _,rfl,by simp[Hid],Mid.refl i.o m⟩
 case round=>
  obtain⟨j,hj,rfl,o,f⟩:=hrel;by_cases l:j<c.length
  · obtain⟨a7,rfl,hg,a8,a3,y0⟩:=D9 (Y3 W.o i.o.mst f.o.chg) l;have M:=V.o c[j] (mQ l);obtain⟨z,s⟩:∃z:Nat,c[j]=(z:Int):=⟨c[j].toNat,by omega⟩;have p:=O (G2a (p:=λx:Int=> !F2 (tr T x.toNat) (tr T d)) l);have A:=O (mQ l);simp only[s,tQ]at p A;rw[s]at y0 M;obtain⟨S,L,E⟩:=f.o.shp i.o;have g:=R4c m IH wr S L z d u t (by omega) hb (by omega) (X.o.memo i.o.mst f.o.chg) (Y.o.memo i.o.mst f.o.chg);have y:=O E;unfold maxLen at a3;have C:=O (show z+d+1<=m by omega);clear s M L E;have B:Hid (∀r,r=(!F2 (tr T z) (tr T d))->(∃x∈c,(!F2 (tr T x.toNat) (tr T d))=true)\/r=false):=by
     intro r n;cases r
     · exact .inr rfl
     · exact .inl ⟨_,A.o,by simpa using n.symm⟩
    generalize n:(!F2 (tr T z) (tr T d))=r at p g;have Z:=O (B.o r n.symm);clear n B;cases r
    · go_wp2_with fail
      refine g.mono ?_;clear g;rintro e a6 k;have q:=O (f.o.after y.o (by have:=C.o;omega) k);obtain⟨rfl,-,-⟩:=k;go_wp2;go_roundw
      case rel=>exact⟨j+1,by omega,by go_num,by show _=_;rw[p.o,o.o];rfl,q.o⟩
      case measure=>simp[intOf];omega
    · go_wp2_with fail
      refine g.mono ?_;clear g;rintro e a6 k;have q:=O (f.o.after y.o (by have:=C.o;omega) k);obtain⟨rfl,-,-⟩:=k;go_wp2;go_ret;refine⟨⟨_,rfl, ?_⟩,q.o⟩;rcases Z.o with ⟨x,a4,a5⟩|h0
      · rw[List.any_eq_true.2 ⟨x,a4,a5⟩];simp
      · cases h0
  · have a2:j=c.length:=by omega
    subst a2;rw[xZ]at o;go_wp2;go_ret;exact⟨⟨_,rfl,by rw[o.o];simp⟩,f.o⟩
theorem G2b(m:Nat)(q:P2a b a N T m)(w:lZ)(D:Dt)(h:Shp w b a N T D)(f:Option Addr)(g:Nat)(c:uZ)(o:w.ownsRow 0 3 1 (.slice f c.length g) c.length (C8 c))(d j i:Nat)(s:d<T.length)(l:∀x∈c,0<=x/\x<T.length/\x+d+1<=m)
 (n:Box w j (pV b) 41) (p:Box w i (U (d:Int)) 3):
 Calls prog 188 #[.slice f c.length g,.func (.func 189) #[] #[pV j,pV i]] w λe u=>
  e= .returned (.bool (c.any λx=> !F2 (tr T x.toNat) (tr T d)))/\Mid w a N T D m u:=by
 have H:=C9c m q w D h f g c o d j i s l n p;clear h o n p l;generalize (c.any λx=> !F2 (tr T x.toNat) (tr T d))=r at *;go_enter func188,ntmps188;go_wp2_with fail
 refine H.mono ?_;clear H;rintro e y ⟨⟨k,rfl,v⟩,t⟩;go_wp2;all_goals go_ret
 all_goals exact⟨F8 (by simp_all),t⟩
theorem C8c(m:Nat)(IH:P2a b a N T m)(w:lZ)(D:Dt)(h:Shp w b a N T D)(P:Option Addr)(R:Nat)(c:uZ)(H:w.ownsRow 0 3 1 (.slice P c.length R) c.length (C8 c))(d u t:Nat)(hb:d<T.length)(F:∀x∈c,0<=x/\x<T.length/\x+d+1<=m)
 (G:Box w u (pV b) 41) (K:Box w t (U (d:Int)) 3):
 Calls prog 202 #[.slice P c.length R,.func (.func 190) #[] #[pV u,pV t]] w λe w'=>
  (∃r:Int,e= .returned (U r)/\decide (0<=r)=c.any λx=>F2 (tr T d) (tr T x.toNat))/\Mid w a N T D m w':=by
 have i:=O h;have W:=O H;have X:=O G;have Y:=O K;have V:=O F;clear h H G K F;go_enter func202,ntmps202;go_wp2;go_loopw [8] (λv wr=>∃j:Nat,j<=c.length/\v=U (j:Int)/\Hid ((c.take j).any (λx=>F2 (tr T d) (tr T x.toNat))=false)/\Hid (Mid w a N T D m wr)) (λv _=>c.length - (intOf v).toNat)
 case atStart=>exact⟨0,wQ _,rfl,by simp[Hid],Mid.refl i.o m⟩
 case round=>
  obtain⟨j,hj,rfl,o,f⟩:=hrel;by_cases l:j<c.length
  · obtain⟨a7,rfl,hg,a8,a3,y0⟩:=D9 (Y3 W.o i.o.mst f.o.chg) l;have M:=V.o c[j] (mQ l);obtain⟨z,s⟩:∃z:Nat,c[j]=(z:Int):=⟨c[j].toNat,by omega⟩;have p:=O (G2a (p:=λx:Int=>F2 (tr T d) (tr T x.toNat)) l);have A:=O (mQ l);simp only[s,tQ]at p A;rw[s]at y0 M;obtain⟨S,L,E⟩:=f.o.shp i.o;have g:=R3c m IH wr S L z d u t (by omega) hb (by omega) (X.o.memo i.o.mst f.o.chg) (Y.o.memo i.o.mst f.o.chg);have y:=O E;unfold maxLen at a3;have C:=O (show z+d+1<=m by omega);clear s M L E;have B:Hid (∀r,r=(F2 (tr T d) (tr T z))->(∃x∈c,(F2 (tr T d) (tr T x.toNat))=true)\/r=false):=by
     intro r n;cases r
     · exact .inr rfl
     · exact .inl ⟨_,A.o,by simpa using n.symm⟩
    generalize n:(F2 (tr T d) (tr T z))=r at p g;have Z:=O (B.o r n.symm);clear n B;cases r
    · go_wp2_with fail
      refine g.mono ?_;clear g;rintro e a6 k;have q:=O (f.o.after y.o (by have:=C.o;omega) k);obtain⟨rfl,-,-⟩:=k;go_wp2;go_roundw
      case rel=>exact⟨j+1,by omega,by go_num,by show _=_;rw[p.o,o.o];rfl,q.o⟩
      case measure=>simp[intOf];omega
    · go_wp2_with fail
      refine g.mono ?_;clear g;rintro e a6 k;have q:=O (f.o.after y.o (by have:=C.o;omega) k);obtain⟨rfl,-,-⟩:=k;go_wp2;go_ret;refine⟨⟨_,rfl, ?_⟩,q.o⟩;rcases Z.o with ⟨x,a4,a5⟩|h0
      · rw[List.any_eq_true.2 ⟨x,a4,a5⟩];simp
      · cases h0
  · have a2:j=c.length:=by omega
    subst a2;rw[xZ]at o;go_wp2;go_ret;exact⟨⟨_,rfl,by rw[o.o];simp⟩,f.o⟩
theorem G1b(m:Nat)(q:P2a b a N T m)(w:lZ)(D:Dt)(h:Shp w b a N T D)(f:Option Addr)(g:Nat)(c:uZ)(o:w.ownsRow 0 3 1 (.slice f c.length g) c.length (C8 c))(d j i:Nat)(s:d<T.length)(l:∀x∈c,0<=x/\x<T.length/\x+d+1<=m)
 (n:Box w j (pV b) 41) (p:Box w i (U (d:Int)) 3):
 Calls prog 188 #[.slice f c.length g,.func (.func 190) #[] #[pV j,pV i]] w λe u=>
  e= .returned (.bool (c.any λx=>F2 (tr T d) (tr T x.toNat)))/\Mid w a N T D m u:=by
 have H:=C8c m q w D h f g c o d j i s l n p;clear h o n p l;generalize (c.any λx=>F2 (tr T d) (tr T x.toNat))=r at *;go_enter func188,ntmps188;go_wp2_with fail
 refine H.mono ?_;clear H;rintro e y ⟨⟨k,rfl,v⟩,t⟩;go_wp2;all_goals go_ret
 all_goals exact⟨F8 (by simp_all),t⟩
end
theorem C0b:∀(L:List (bZ×Int)) (k:Nat) (h:k<L.length) (j:Nat),j<2->(G5 L)[2 * k+j]? =(M5 L[k])[j]?
 |[],k,h,_,_=>by simp at h
 |t::r,0,_,j,a=>by
  simp only[G5,List.flatMap_cons,Nat.mul_zero,Nat.zero_add,List.getElem_cons_zero];rw[List.getElem?_append_left (by simp[M5];omega)]
 |t::r,k+1,h,j,a=>by
  simp only[G5,List.flatMap_cons,List.getElem_cons_succ];rw[List.getElem?_append_right (by simp[M5];omega)];have:=C0b r k (by simpa using h) j a;rw[<-this];simp only[M5,jQ,xQ,G5];congr 1
  omega
theorem Y5{w:lZ}{c:Option Addr}{b:Nat}{a:List (bZ×Int)}(h:w.ownsRow 0 131 2 (.slice c a.length b) a.length (G5 a)){j:Nat}(e:j<a.length):∃g,c=some (J g 0)/\g<w.heap.size/\a.length<=b/\b<=maxLen/\
 w.cell? (J g (j * 2))=some (.string ⟨a[j].1.toArray⟩)/\w.cell? (J g (j * 2+1))=some (U a[j].2):=by
 obtain⟨f,i,_,k,l,m,d⟩:=F5 h (by omega);refine⟨f,i,k,l,m, ?_, ?_⟩
 · have:=C0b a j e 0 (by omega);rw[Nat.mul_comm];exact d _ _ this
 · have:=C0b a j e 1 (by omega);rw[Nat.mul_comm];exact d _ _ this
section
variable{d c N:Nat}{T:List Ty}
theorem N8c(w:lZ)(a b:bZ)(x:Int)(f:Nat)(g:w.cell? (J f 0)=some (.string ⟨a.toArray⟩)):
 Calls prog 205 #[.agg #[.string ⟨b.toArray⟩,U x],pV f] w λe i=>e= .returned (.bool (b==a))/\I No w i:=by
 have j:=World.block_lt_of_cell? w _ g;by_cases h:b=a
 · subst h;go_enter func205,ntmps205;go_wp2;go_ret;exact⟨F8 (by simp),I.alloc _ _ _⟩
 · go_enter func205,ntmps205;go_wp2;go_ret;exact⟨F8 (by simp),I.alloc _ _ _⟩
def Idx(a:List (bZ×Int))(b:bZ)(r:Int):Prop:=(∃k:Nat,∃f:k<a.length,r=k/\a[k].1=b/\∀i (e:i<a.length),i<k->a[i].1≠b)\/(r= -1/\∀p∈a,p.1≠b)
theorem I3a{b:bZ}{f:bZ×Int->Tr}:∀{a:List (bZ×Int)},(∀p∈a,p.1≠b)->J1 b (a.map (·.1)) (a.map f)=none
 |[],_=>rfl
 |p::a,h=>by
  rw[uY,uY,J1,yY (h p (by simp))];exact I3a λq e=>h q (by simp[e])
theorem P0a{e:bZ}{f:bZ×Int->Tr}:∀{a:List (bZ×Int)} {k:Nat} (g:k<a.length),a[k].1=e->(∀i (j:i<a.length),i<k->a[i].1≠e)->J1 e (a.map (·.1)) (a.map f)=some (f a[k])
 |[],_,g,_,_=>by simp at g
 |p::a,0,_,b,_=>by
  have b:p.1=e:=b;rw[uY,uY,J1,rY b];rfl
 |p::a,k+1,g,b,h=>by
  have l:p.1≠e:=h 0 (by simp) (by omega);rw[uY,uY,J1,yY l];exact P0a (by simpa using g) b (λi j m=>h (i+1) (by simpa using j) (by omega))
theorem V3b(n:Nat)(Y:∀(y:Array Value) (W:lZ),(callFunc n y).run prog W= .ok (.enter n y) W)(w:lZ)(z:Option Addr)(A:Nat)(a:List (bZ×Int))(C:w.ownsRow 0 131 2 (.slice z a.length A) a.length (G5 a))(b:bZ)(G:Nat)(D:∀u,I No w u->∀F x,Calls prog n #[.agg #[.string ⟨F.toArray⟩,U x],pV G] u λe q=>e= .returned (.bool (F==b))/\I No u q):
 Calls prog 114 #[.slice z a.length A,.func (.func n) #[] #[pV G]] w λe q=>
  (∃r:Int,e= .returned (U r)/\Idx a b r)/\I No w q:=by
 have H:=O C;have K:=O D;clear C D;go_enter func114,ntmps114;go_wp2;go_loopw [8] (λv wr=>∃j:Nat,j<=a.length/\v=U (j:Int)/\Hid (∀i (m:i<a.length),i<j->a[i].1≠b)/\Hid (I No w wr)) (λv _=>a.length - (intOf v).toNat)
 case atStart=>exact⟨0,wQ _,rfl,λ_ _ h=>by omega,I.refl _ _⟩
 case round=>
  obtain⟨j,hj,rfl,o,k⟩:=hrel;by_cases B:j<a.length
  · obtain⟨g,rfl,hg,a3,P,y0,y1⟩:=Y5 (A4 H.o k.o (λ_ _ x=>x)) B;have f:=K.o wr k.o a[j].1 a[j].2;have s:Hid (∀r,r=(a[j].1==b)->(r=true->a[j].1=b)/\(r=false->a[j].1≠b)):=by
     rintro r rfl;exact⟨λh=>by simpa using h,λh=>by simpa using h⟩
    unfold maxLen at P;generalize E:(a[j].1==b)=r at f;have t:=O (s.o r E.symm);clear E s;generalize a[j].2=Z at *;generalize S:(⟨a[j].1.toArray⟩:ByteArray)=X at *;clear S;cases r
    · go_wp2_with fail
      refine f.mono ?_;clear f;rintro e V ⟨rfl,l⟩;have p:=O (k.o.trans l (λ_ _ x=>x));clear l;go_wp2;go_roundw
      case rel=>
       refine⟨j+1,by omega,by go_num,λi m a2=> ?_,p.o⟩;by_cases L:i=j
       · subst L;exact t.o.2 trivial
       · exact o.o i m (by omega)
      case measure=>simp[intOf];omega
    · go_wp2_with fail
      refine f.mono ?_;clear f;rintro e V ⟨rfl,l⟩;have p:=O (k.o.trans l (λ_ _ x=>x));clear l;go_wp2;go_ret;exact⟨⟨_,rfl,.inl ⟨j,B,rfl,t.o.1 trivial,o.o⟩⟩,p.o⟩
  · have M:j=a.length:=by omega
    subst M;go_wp2;go_ret;refine⟨⟨_,rfl,.inr ⟨rfl,λa4 R=> ?_⟩⟩,k.o⟩;obtain⟨i,m,rfl⟩:=List.mem_iff_getElem.1 R;exact o.o i m m
def S5(T:List Ty)(a:List (bZ×Int))(p:bZ×Int):Bool:=match J1 p.1 (a.map (·.1)) (a.map λq=>tr T q.2.toNat) with
 |none=>false
 |some x=>F2 x (tr T p.2.toNat)
theorem I6{w a b:lZ}{D:Dt}{m q o:Nat}{v:Value}(i:Mid w c N T D m a)(g:I (λk=>k=c) a b)(h:a.cell? (J q o)=some v):b.cell? (J q o)=some v:=by
 obtain⟨p,e,_⟩:=i.memo;have j:q≠c:=by
  intro l;subst l;obtain⟨n,⟨s,r,f,_⟩,_⟩:=e.own;simp[World.cell?,f]at h
 rw[World.cell?_of_block (g.block q (World.block_lt_of_cell? a _ h) j)];exact h
theorem Mid.drewN{w a:lZ}{D:Dt}{m:Nat}(h:Mid w c N T D m a)(n:Nat):Mid w c N T D m (a.drewN n):=by
 obtain⟨b,e,f⟩:=h.memo;exact⟨h.chg.trans (I.drewN No _ n) (λ_ _ x=>x.elim),b,e.chg (I.drewN No _ n) (λx=>x),f⟩
theorem K8a{m:Nat}(n:P2a d c N T m){w:lZ}{D:Dt}(s:Shp w d c N T D){a b:Nat}(i:a+b+1<=m)(q:a<T.length)(r:b<T.length)(f:lZ)(h:Mid w c N T D m f):
 Calls prog 160 #[pV d,U (a:Int),U (b:Int)] f λe j=>e= .returned (.bool (F2 (tr T a) (tr T b)))/\I (λk=>k=c) f j/\Mid w c N T D m j:=by
 obtain⟨l,o,p⟩:=h.shp s;refine(n a b f l i q r o).mono ?_;rintro e t g;exact⟨g.1,g.2.1,h.after p i g⟩
theorem H7e{w a b:lZ}{D:Dt}{m:Nat}{p1 p2 p3 p4:Nat×Nat}{f g i j:Value}(e:I (λk=>k=c) a b)(l:Mid w c N T D m b)(h:a.cell? (J p1.1 p1.2)=some f/\a.cell? (J p2.1 p2.2)=some g/\a.cell? (J p3.1 p3.2)=some i/\a.cell? (J p4.1 p4.2)=some j/\Hid (Mid w c N T D m a)):b.cell? (J p1.1 p1.2)=some f/\b.cell? (J p2.1 p2.2)=some g/\b.cell? (J p3.1 p3.2)=some i/\b.cell? (J p4.1 p4.2)=some j/\Hid (Mid w c N T D m b):=
 ⟨I6 h.2.2.2.2.o e h.1,I6 h.2.2.2.2.o e h.2.1,I6 h.2.2.2.2.o e h.2.2.1,I6 h.2.2.2.2.o e h.2.2.2.1,l⟩
theorem Z0c(m:Nat)(IH:P2a d c N T m)(w:lZ)(D:Dt)(h:Shp w d c N T D)(A:Option Addr)(o:Nat)(b:List (bZ×Int))(F:w.ownsRow 0 131 2 (.slice A b.length o) b.length (G5 b))(f:bZ)(y:Nat)(t u:Nat)(hy:y<T.length)
 (Y:∀p∈b,0<=p.2/\p.2<T.length/\p.2+y+1<=m) (E:Box w u (pV d) 41) (s:Box w t (.slice A b.length o) 74):
 Calls prog 204 #[.agg #[.string ⟨f.toArray⟩,U (y:Int)],pV t,pV u] w λe i=>e= .returned (.bool (!S5 T b (f,(y:Int))))/\Mid w c N T D m i:=by
 have j:=h.alloc (.cells #[.string ⟨f.toArray⟩,U (y:Int)] 131);have K:=V3b 205 (λ_ _=>by go_simp) (w.alloc (.cells #[.string ⟨f.toArray⟩,U (y:Int)] 131)) A o b (F.alloc _) f w.heap.size (λab hu aa x=>N8c ab f aa x _ (by rw[World.cell?_of_block (hu.block _ (by simp) (λx=>x)),World.cell?_alloc_new];rfl));have z:Hid (∀r,Idx b f r->(r= -1/\(!S5 T b (f,(y:Int)))=true)\/∃(k:Nat) (x:Nat) (n:k<b.length),r=k/\b[k].2=x/\x<T.length/\x+y+1<=m/\(!S5 T b (f,(y:Int)))= !F2 (tr T x) (tr T y)):=by
  intro r hr;rcases hr with ⟨k,n,rfl,j,B⟩|⟨rfl,j⟩
  · have hp:=Y _ (mQ n);refine .inr ⟨k,b[k].2.toNat,n,rfl,by omega,by omega,by omega, ?_⟩;simp only[S5];rw[P0a n j B];simp
  · refine .inl ⟨rfl, ?_⟩;simp only[S5];rw[I3a j];rfl
 have R:=O j;have L:=O (F.alloc (.cells #[.string ⟨f.toArray⟩,U (y:Int)] 131));have M:=O (E.alloc (.cells #[.string ⟨f.toArray⟩,U (y:Int)] 131));have P:=O (s.alloc (.cells #[.string ⟨f.toArray⟩,U (y:Int)] 131));have v:=O (Mid.refl h m);have H0:=O h;have H:=O (qY w (.cells #[.string ⟨f.toArray⟩,U (y:Int)] 131));have ah:=E.lt;have ag:=s.lt;have cq:=s.cell;clear h j F E s Y;generalize (!S5 T b (f,(y:Int)))=ac at *;go_enter func204,ntmps204;go_wp2_with fail
 refine K.mono ?_;clear K;rintro e G ⟨⟨r,rfl,C⟩,l⟩;have S1:=O (R.o.still l);have V:=O (A4 L.o l (λ_ _ x=>x));have W:=O (M.o.still l);have X:=O (P.o.still l);have a5:=W.o.cell;have a6:=X.o.cell;have B1:Hid (G.heap[w.heap.size]? =some (.cells #[.string ⟨f.toArray⟩,U (y:Int)] 131 (0,0))):=(l.block w.heap.size (by simp) (λx=>x)).trans H.o;have c3:G.cell? (J w.heap.size 1)=some (U (y:Int)):=cr B1.o rfl;have S:Hid (Mid w c N T D m G):=by
  obtain⟨D',j,B⟩:=(v.o.alloc (.cells #[.string ⟨f.toArray⟩,U (y:Int)] 131)).memo;exact⟨((v.o.alloc _).chg).trans l (λ_ _ x=>x.elim),D',j.chg l (λx=>x),B⟩
 clear l R L M P v H;rcases z.o r C with ⟨rfl,q⟩|⟨k,x,n,rfl,Z,a2,a3,q⟩
 · clear C z;subst q;go_wp2_with fail
   go_quiet (fail)
   go_wp2;go_ret;exact⟨F8 (by simp),S.o.drewN _⟩
 · obtain⟨g,rfl,hg,af,a8,-,y1⟩:=Y5 V.o n;rw[Z]at y1;have FM:=λa (ha:Mid w c N T D m a)=>K8a IH H0.o a3 a2 hy a ha;unfold maxLen at a8;have ad:(k:Int)<(b.length:Int):=by omega
   have ae:decide ((k:Int)<0)=false:=by simp
   clear C z S1 V W X Z a2 a3;generalize F2 (tr T x) (tr T y)=r at *;have a4:=O q;clear q;go_wp2_with fail
   go_region_held3 (λi=>i.cell? (J t 0)=some (.slice (some (J g 0)) b.length o)/\i.cell? (J u 0)=some (pV d)/\i.cell? (J g (k * 2+1))=some (U (x:Int))/\i.cell? (J w.heap.size 1)=some (U (y:Int))/\Hid (Mid w c N T D m i))
    (first
     |exact⟨a6,a5,y1,c3,S.o.drewN 1⟩
     |exact H7e (p1:=(t,0)) (p2:=(u,0)) (p3:=(g,k * 2+1)) (p4:=(w.heap.size,1)) a7 a9 ⟨by assumption,by assumption,by assumption,by assumption,by assumption⟩
     |(go_split_ands;exact⟨by assumption,by assumption,by assumption,by assumption,by assumption⟩))
    (first
     |((go_at_call 160;go_split_ands;refine(FM _ (Hid.o (by assumption))).mono ?_;rintro e i ⟨rfl,a7,a9⟩)))
   have M2:Hid (Mid w c N T D m i):=by assumption
   go_wp2;go_ret;exact⟨F8 (by rw[a4.o]),M2.o⟩
end
