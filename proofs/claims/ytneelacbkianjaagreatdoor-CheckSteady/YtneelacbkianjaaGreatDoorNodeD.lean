/-
  A part of the proof.
-/
import Derived.Test.YtneelacbkianjaaGreatDoorNodeA
import Derived.Test.YtneelacbkianjaaGreatDoorWho
import Derived.Test.YtneelacbkianjaaGreatDoorShelf
set_option maxHeartbeats 16000000
set_option maxRecDepth 100000
namespace Go.Proofs.YtneelacbkianjaaGreatDoor
open Go.Proofs.Tryz
open Go.RowKit
section
variable{w:lZ}{B pb:Nat}{c:Value}{L:List Tk}{ok:Nat->Prop}{d:Nat}{s:St}
theorem PstL.cell{w:lZ}{B pb:Nat}{c:Value}{L:List Tk}{ok:Nat->Prop}{d:Nat}{s:St}(h:PstL w B pb c L ok d s):
 ∃g a f i,c= .slice (some (J g 0)) L.length a/\L.length<=a/\a<=maxLen/\g<w.heap.size/\pb<w.heap.size/\w.cell? (J pb 0)=some (.slice (some (J g 0)) L.length a)/\w.cell? (J pb 1)=some (U (s.i:Int))/\w.cell? (J pb 2)=some (U (d:Int))/\
  w.cell? (J pb 3)=some f/\w.cell? (J pb 4)=some i/\(∀o,w.frozen? (J pb o)=false)/\∀j u,(F9a L)[j]? =some u->w.cell? (J g j)=some u:=by
 obtain⟨q,a,rfl⟩:=B9 h.toks;obtain⟨g,rfl,_,n,k,l,m⟩:=F5 h.toks (by have:=h.at';omega);obtain⟨f,i,r,t,e,_⟩:=h.blk;have p:=(ltG e);have b:=λo=>cell_of_row w pb o _ _ _ e;refine⟨g,a,f,i,rfl,k,l,n,p,by rw[b];rfl,by rw[b];rfl,by rw[b];rfl,by rw[b];rfl,by rw[b];rfl,λo=> ?_,m⟩;simp[World.frozen?,e]
theorem Y3b(f:LOk L)(h:PstL w B pb c L ok d s):
 Calls prog 90 #[pV pb] w λe p=>e= .returned (tkv (tk L s.i))/\I No w p:=by
 obtain⟨g,u,F,G,rfl,A,j,C,D,v,y,_,_,_,z,a⟩:=h.cell;have k:=h.at';have E:=f.short;obtain⟨q,r,t⟩:=P4b k a;clear h a;generalize tk L s.i=n at *;obtain⟨l,o,m⟩:=n;simp only[tkv]at q r t⊢;generalize (⟨o.toArray⟩:ByteArray)=b at *;generalize s.i=i at *;unfold maxLen at j;go_enter func90,ntmps90;go_wp2;go_region
 go_wp2;exact bodyPost_ret (v:= .agg #[U l,.string b,U m]) (by simp[results,results90,go_sem]) rfl ⟨rfl,(I.alloc _ _ _).trans (I.drewN _ _ 1) (λ_ _ x=>x)⟩
theorem E4c(a:LOk L)(h:PstL w B pb c L ok d s):
 Calls prog 51 #[pV pb] w λe g=>e= .returned (.bool (decide ((tk L s.i).kind=6)))/\I No w g:=by
 have H:=Y3b a h;have i:=Y9;have j:=K5b;generalize tk L s.i=f at *;obtain⟨k,m,l⟩:=f;simp only[tkv]at H⊢;clear h a;go_enter func51,ntmps51;go_wp2_with fail
 refine H.mono ?_;clear H;rintro e n ⟨rfl,b⟩;go_wp2;go_ret;exact⟨F8 (by rw[Bool.eq_iff_iff];simp),b⟩
def J1e(w:lZ)(B pb:Nat)(c:Value)(L:List Tk)(ok:Nat->Prop)(d:Nat)(g:Sp->Option (Out Int))(e:Ending)(f:lZ):Prop:=
 Kept B ok w f/\∃o,Ev L g o/\match o with
  | .ok b x=>e= .returned (U x)/\(tk L b.i).kind=6/\PstL f B pb c L ok d b
  | .fail a p=>e=gu a p/\a≠0
theorem M8b{a:uZ}(b:(tk L s.i).kind=6):Ev L (λr=>r.progL d s a) (.ok s a):=
 Ev.step (Ev.pure.eq λr=>by show (if (tk L s.i).kind=6 then _ else _)=_;rw[rY b])
theorem F5b{a:uZ}{o:Out uZ}(b:¬(tk L s.i).kind=6)(h:Ev L (λr=>A3 (r.stmt d s) λs x=>r.progL d s (a++[x])) o):Ev L (λr=>r.progL d s a) o:=
 Ev.step (h.eq λr=>by show (if (tk L s.i).kind=6 then _ else _)=_;rw[yY b])
theorem R6b(E:LOk L)(hS:∀m',ConN B pb c L 53 (λd s r=>r.stmt d s) m')(M:∀g,w.heap.size<=g->ok g)(hB:B<=w.heap.size)(h:Pst w B pb c L ok d s):
 Calls prog 27 #[pV pb] w (J1e w B pb c L ok d (G5a d s)):=by
 have hi:=h.at';have hs:=E.short;have aq:=h.few;have a4:Hid (∀o,Ev L (λr=>A3 (r.progL d s []) λk l=>addN k (Nd.mk 26 0 0 0 l [] 0 (-1) 0)) o->Ev L (G5a d s) o):=λo K=>K;obtain⟨i0,ah,aj,ak,al⟩:=info_parts Tryz.infoInt;have X:=O h;clear h;go_enter func27,ntmps27;go_wp2_with fail
 go_loopw [3] (λan wr=>∃(a:uZ) (b:St) (i:Option Addr) (j:Nat),an= .slice i a.length j/\a.length<=b.i/\Hid (Kept B ok w wr)/\Hid (J9 s b)/\Hid (wr.ownsRow w.heap.size 3 1 (.slice i a.length j) a.length (C8 a))/\
  Hid (Pst wr B pb c L (λg=>ok g/\some g≠Value.ownBlock (.slice i a.length j)) d b)/\Hid (∀o,Ev L (λr=>A3 (r.progL d b a) λk l=>addN k (Nd.mk 26 0 0 0 l [] 0 (-1) 0)) o->Ev L (G5a d s) o)) (λ_ wr=>L.length - nxt wr pb)
 case atStart=>exact⟨[],s,none,0,rfl,by simp,Kept.refl _ _ _,⟨vQ _,by omega,by omega,by omega⟩,kW _ _ _ _,X.o.mono (λg e _=>⟨e,by simp[Value.ownBlock]⟩),a4.o⟩
 case round=>
  clear X a4;obtain⟨a,b,i,j,rfl,ap,V,GR,W,n,q⟩:=hrel;have T:=J3b E n.o;have av:=n.o.at';have ai:=n.o.nxt;have ar:=n.o.few;have ag:=GR.o;simp only[J9]at ag;generalize hq:decide ((tk L b.i).kind=6)=am at *;have D:=O hq;clear hq;go_wp2_with fail
  refine T.mono ?_;clear T;rintro a6 ac ⟨rfl,z⟩;have f:=O (V.o.trans (C7 z));have m:=O (A4 W.o z (λ_ _ x=>x));have v:=O (n.o.still z);clear z W n V;cases am
  · have p:¬(tk L b.i).kind=6:=by simpa using D.o
    have PX:Hid (Pst ac B pb c L (λg=>ok g/\some g≠Value.ownBlock (.slice i a.length j)) d b):=v.o;clear v;have S:=O (hS (L.length - b.i) ac _ d b (vQ _) (λg e=>⟨M g (kQ f.o.size e),λhx=>by have:=(m.o.lt g hx.symm).2;omega⟩) (kQ hB f.o.size) PX.o);clear PX;go_wp2_with fail
    refine S.o.mono ?_;rintro a6 ao ⟨H,o,a8,a9⟩;have t:=O (f.o.trans (H.mono λ_ h=>h.1));have u:=O (G0 m.o H (by decide));have P:=O a8;clear H a8 f m S;cases o with
    |fail er ax=>
     obtain⟨rfl,he⟩:=a9;exact⟨rfl,t.o,_,q.o _ (Ev.bad (F5b p (Ev.bad (k:=λr s x=>r.progL d s (a++[x])) P.o))),rfl,he⟩
    |ok C y=>
     obtain⟨rfl,N,e,_⟩:=a9;have Y:=O N;have au:_/\_/\_/\_:=e;have aw:=N.at';clear N e;have VN:=O (λo (K:Ev L (λr=>A3 (r.progL d C (a++[y])) λk l=>addN k (Nd.mk 26 0 0 0 l [] 0 (-1) 0)) o)=>q.o o (by
      obtain⟨ae,h1⟩:=P.o;obtain⟨af,h2⟩:=K;refine⟨ae+af+1,λa7 hf=> ?_⟩;obtain⟨g,rfl⟩:∃g,a7=g+1:=⟨a7 - 1,by omega⟩;have a1:(sp' L g).stmt d b=some (.ok C y):=h1 g (by omega);have a2:=h2 g (by omega);have a3:=h2 (g+1) (by omega);show A3 (if (tk L b.i).kind=6 then some (.ok b a) else A3 ((sp' L g).stmt d b) λs x=>(sp' L g).progL d s (a++[x])) _=some o;rw[yY p,a1];exact a2))
     clear q;have ab:=O (u.o.alloc (.cells #[U y] 3));go_wp2_with (at_builtin;refine wpList_append_own_at _ rfl _ _ 43 rfl w.heap.size 3 i0 (U 0) 1 8 underlying43 ah aj ak al rfl (by decide) _ _ _ rfl ab.o (J ao.heap.size 0) 1 1 [U y] rfl rfl ?c1 ?c2 ?c3 ?c4 ?c5 ?_)
     case c1=>exact cell_one_new _ _ _
     case c2=>intro ay hu;simp at hu;rcases hu with rfl;rfl
     case c3=>simp only[maxLen];omega
     case c4=>omega
     case c5=>have:=t.o.size;simp;omega
     intro v' az A G _ F;obtain⟨a5,c2,aa⟩:=B9 A;rw[aa]at A F⊢;have Z:=O ((Y.o.alloc (.cells #[U y] 3)).grown (v:= .slice i a.length j) (v':= .slice a5 (a.length+1) c2) (u.o.alloc _) (.inl rfl) G (by simpa using F));have KG:=O ((t.o.alloc (.cells #[U y] 3)).grown (u.o.alloc _) G);have OG:=O A;clear A G F ab Y u t aa;go_wp2_with fail
     go_roundw
     case rel=>
      refine⟨a++[y],C,a5,c2,by simp,by simp;omega,KG.o,(show J9 s C from by simp only[J9];omega), ?_, ?_,VN.o⟩
      · have:=OG.o;show World.ownsRow _ _ _ _ _ _ _;rw[T7];simpa using this
      · have:=Z.o;show Pst _ _ _ _ _ _ _ _;simpa using this
     case measure=>
      have h3:=Z.o.nxt;rw[h3,ai];omega
  · have p:(tk L b.i).kind=6:=by simpa using D.o
    have PY:=O (v.o.mono (ok':=ok) (λg e _=>e.1));clear v;have R:=O (X4b E PY.o (Nd.mk 26 0 0 0 a [] 0 (-1) 0) 0 i a.length j ⟨_,rfl,C9 m.o (wQ _),λg e=>M g (A9 m.o g e).1⟩ rfl (by omega) (kQ hB f.o.size) (λg e=>M g (kQ f.o.size e)));have EV:=O (q.o _ (Ev.bind (k:=λ_ k l=>addN k (Nd.mk 26 0 0 0 l [] 0 (-1) 0)) (M8b p) Ev.pure));have Q3:=O p;clear PY q m p D;go_wp2_with fail
    refine R.o.mono ?_;rintro a6 b0 ⟨rfl,k9,p9⟩;have K9:=O (f.o.trans k9);have P9:=O p9;clear k9 p9 R;go_wp2_with fail
    go_ret;exact⟨K9.o,_,EV.o,rfl,Q3.o,P9.o⟩
def F9e(w:lZ)(B pb:Nat)(c:Value)(L:List Tk)(ok:Nat->Prop)(d:Nat)(g:Sp->Option (Out Int))(e:Ending)(f:lZ):Prop:=
 Kept B ok w f/\∃o,Ev L g o/\match o with
  | .ok a _=>if (tk L a.i).kind=6 then e=rT/\PstL f B pb c L ok d a else e=gu 1 ((tk L a.i).at':Int)
  | .fail b p=>e=gu b p/\b≠0
def O4b(w:lZ)(B pb:Nat)(c:Value)(L:List Tk)(ok:Nat->Prop)(d:Nat)(g:Sp->Option (Out Int))(e:Ending)(f:lZ):Prop:=
 Kept B ok w f/\∃o,Ev L g o/\match o with
  | .ok a _=>if (tk L a.i).kind=6 then e= .returned (.agg #[U 0,U 0])/\PstL f B pb c L ok d a else e= .returned (.agg #[U 1,U ((tk L a.i).at':Int)])
  | .fail b p=>e= .returned (.agg #[U b,U p])/\b≠0
def L7d(w:lZ)(B pb:Nat)(c:Value)(L:List Tk)(ok:Nat->Prop)(d:Nat)(g:Sp->Option (Out Int))(e:Ending)(f:lZ):Prop:=
 Kept B ok w f/\∃o,Ev L g o/\match o with
  | .ok a _=>if (tk L a.i).kind=6 then (if 1200<a.N.length\/300<a.T.length then e= .returned (.agg #[U 2,U 0]) else e= .returned (.agg #[U 0,U 0])/\PstL f B pb c L ok d a) else e= .returned (.agg #[U 1,U ((tk L a.i).at':Int)])
  | .fail b p=>e= .returned (.agg #[U b,U p])/\b≠0
theorem O7b(t:LOk L)(H:∀N,ConN B pb c L 53 (λd s r=>r.stmt d s) N)(M:∀g,w.heap.size<=g->ok g)(G:B<=w.heap.size)(h:Pst w B pb c L ok d s)(j k:Nat)(v:w.heap[j]? =some (.cells #[.func (.func 27) #[pV pb] #[]] 60 (0,0)))
 (a:w.heap[k]? =some (.cells #[pV pb] 82 (0,0))):
 Calls prog 50 #[pV j,pV k] w (F9e w B pb c L ok d (G5a d s)):=by
 have m:=R6b t H M G h;have E:w.cell? (J j 0)=some (.func (.func 27) #[pV pb] #[]):=cr v rfl;have z:=O a;clear v a h;go_enter func50,ntmps50;go_wp2_with fail
 refine m.mono ?_;clear m;rintro e R ⟨i,o,u,y⟩;have n:=O i;have l:=O u;have T:R.cell? (J k 0)=some (pV pb):=(J4 i z.o (by decide) rfl).2;clear i u E;cases o with
 |fail S p=>
  obtain⟨rfl,K⟩:=y;exact⟨rfl,n.o,_,l.o,rfl,K⟩
 |ok P x=>
  obtain⟨rfl,q,a⟩:=y;have b:=E4c t a;have C:=O a;clear a;have F:decide ((tk L P.i).kind=6)=true:=by simp[q]
  rw[F]at b;go_wp2_with fail
  refine b.mono ?_;clear b;rintro e V ⟨rfl,f⟩;have D:=O (C.o.still f);have A:=O (n.o.trans (C7 f));clear f;go_wp2_with fail
  go_end0;exact⟨A.o,_,l.o,by simp[q];exact D.o⟩
theorem C4b{j w e:lZ}{q:Nat}{a b:Value}{f:Array Value}(n:w.heap[q]? =some (.cells f 26 (0,0)))(h:PstL w B pb c L ok d s)(p:c.ownBlock≠some q)(r:Kept B ok j w)(o:j.heap.size<=q)(m:f.size=2)
 (i:I No ((w.setCell (J q 0) a).setCell (J q 1) b) e):e.cell? (J q 0)=some a/\e.cell? (J q 1)=some b/\Kept B ok j e/\PstL e B pb c L ok d s:=by
 have k:=heap_setCell_same w q 0 f _ a n;have l:=heap_setCell_same (w.setCell (J q 0) a) q 1 _ _ b k;have t:=(ltG l);have g:=i.block q t (λx=>x);rw[l]at g;refine⟨?_, ?_,((r.setOwn a o).setOwn b o).trans (C7 i),((h.setOwn a n p (by decide)).setOwn b k p (by decide)).still i⟩
 · rw[cell_of_row e q 0 _ _ _ g];simp[m]
 · rw[cell_of_row e q 1 _ _ _ g];simp[m]
theorem C5b(K:LOk L)(M:∀m',ConN B pb c L 53 (λd s a3=>a3.stmt d s) m')(Y:∀g,w.heap.size<=g->ok g)(hB:B<=w.heap.size)(h:Pst w B pb c L ok d s)(u v:Nat)(t:w.heap[u]? =some (.cells #[.func (.func 27) #[pV pb] #[]] 60 (0,0)))
 (a:w.heap[v]? =some (.cells #[pV pb] 82 (0,0))):
 Calls prog 22 #[.func (.func 50) #[] #[pV u,pV v]] w (O4b w B pb c L ok d (G5a d s)):=by
 have a7:=mkf;have W:=(ltG t);have X:=(ltG a);have x:=O7b K M (w:=w.alloc (.cells #[U 0,U 0] 26)) (ok:=ok) (λg T=>Y g (by simp at T;omega)) (by simp;omega) (h.alloc _) u v (by rw[Below.heap_alloc _ _ _ W];exact t) (by rw[Below.heap_alloc _ _ _ X];exact a);have Z:c.ownBlock≠some w.heap.size:=h.tokLt (vQ _);clear t a h;go_enter_defers func22,ntmps22
 go_wp2_with fail
 refine x.mono ?_;clear x;rintro e F ⟨m,o,z,f⟩;obtain⟨l,A⟩:=J4 m (qY w _) (by decide) (o:=0) rfl;have C:=(J4 m (qY w _) (by decide) (o:=1) rfl).2;have hz:=(ltG l);have D:∀o,F.frozen? (J w.heap.size o)=false:=λo=>frozen_of_row F _ o _ _ l;have G:=O l;have r:=O (((Kept.refl B ok w).alloc _).trans m);have q:=O z;clear m z l;cases o with
 |fail y p=>
  obtain⟨rfl,S⟩:=f;unfold gu;refine leaves_cons (f:=41) (args:=#[pV w.heap.size]) (by simp) (by simp[go_sem]) ?_;refine(H1a w.heap.size y p 0 0 [] _ A C D).mono ?_;rintro e E a4 ⟨rfl,rfl,N,i,j⟩;have b:O4b w B pb c L ok d (G5a d s) (.returned (.agg #[U y,U p])) a4:=⟨r.o.trans' N (λa2 V hx=>by omega),_,q.o,rfl,S⟩;simp[Leaves,settle,results,results22,go_sem,i,j];exact b
 |ok n a8=>
  by_cases k:(tk L n.i).kind=6
  · simp only[k,if_true]at f;obtain⟨rfl,a⟩:=f;have H:=O a;clear a;go_wp2_with fail
    refine leaves_cons (f:=41) (args:=#[pV w.heap.size]) (by simp) (by simp[go_sem]) ?_;refine(I6a w.heap.size _).mono ?_;rintro e E a6 ⟨rfl,rfl,R⟩;obtain⟨i,j,k6,p6⟩:=C4b G.o H.o Z r.o (vQ _) rfl R;have b:O4b w B pb c L ok d (G5a d s) (.returned (.agg #[U 0,U 0])) a6:=⟨k6,_,q.o,by simp[k,p6]⟩;simp[Leaves,settle,results,results22,go_sem,i,j];exact b
  · simp only[k,if_false]at f;subst f;unfold gu;refine leaves_cons (f:=41) (args:=#[pV w.heap.size]) (by simp) (by simp[go_sem]) ?_;refine(H1a w.heap.size 1 ((tk L n.i).at':Int) 0 0 [] _ A C D).mono ?_;rintro e E a5 ⟨rfl,rfl,P,i,j⟩;have b:O4b w B pb c L ok d (G5a d s) (.returned (.agg #[U 1,U ((tk L n.i).at':Int)])) a5:=⟨r.o.trans' P (λa2 V hx=>by omega),_,q.o,by simp[k]⟩;generalize ((tk L n.i).at':Int)=pa at *;simp[Leaves,settle,results,results22,go_sem,i,j];exact b
theorem Z1a(R:LOk L)(S:∀Y,ConN B pb c L 53 (λd s a3=>a3.stmt d s) Y)(V:∀g,w.heap.size<=g->ok g)(hB:B<=w.heap.size)(h:Pst w B pb c L ok d s):
 Calls prog 26 #[pV pb,.func (.func 27) #[pV pb] #[]] w (L7d w B pb c L ok d (G5a d s)):=by
 have a7:=mkf;obtain⟨t,C,D⟩:=I2a w (.cells #[pV pb] 82) (.cells #[.func (.func 27) #[pV pb] #[]] 60) (.cells #[U 0,U 0] 26);have z:=C5b R S (ok:=ok) (λg T=>V g (by simp at T;omega)) (by simp;omega) (((h.alloc _).alloc _).alloc _) (w.heap.size+1) w.heap.size C t;have W:c.ownBlock≠some (w.heap.size+2):=h.tokLt (by omega);have y:=O t;have p:=O D;clear h t C D;go_enter func26,ntmps26;go_wp2_with fail
 refine z.mono ?_;clear z;rintro a4 b ⟨i,o,G,k⟩;have j:=O (((((Kept.refl B ok w).alloc _).alloc _).alloc _).trans i);have f:=O G;have a9:b.cell? (J w.heap.size 0)=some (pV pb):=(J4 i y.o (by decide) rfl).2;obtain⟨r,-⟩:=J4 i p.o (by decide) (o:=0) rfl;have m:b.cell? (J (w.heap.size+2) 0)=some (U 0):=(J4 i p.o (by decide) (o:=0) rfl).2;have n:b.cell? (J (w.heap.size+2) 1)=some (U 0):=(J4 i p.o (by decide) (o:=1) rfl).2;have l:=(ltG r);have rf:∀o,b.frozen? (J (w.heap.size+2) o)=false:=λo=>frozen_of_row b _ o _ _ r;have M:=O r;clear i G r y p;have a8:w.heap.size<b.heap.size:=by omega
 cases o with
 |fail E a2=>
  obtain⟨rfl,F⟩:=k;have a5:(E==0)=false:=by simp[F]
  go_wp2_with fail
  exact bodyPost_ret (v:= .agg #[U E,U a2]) (by simp[results,results26,go_sem,m,n,l]) rfl ⟨((j.o.setOwn _ (by omega)).setOwn _ (by omega)).alloc _,_,f.o,rfl,F⟩
 |ok a aa=>
  by_cases e:(tk L a.i).kind=6
  · simp only[e,if_true]at k;obtain⟨rfl,x⟩:=k;have N:=O x;obtain⟨nv,yv,nx,yx,q,H,K,_⟩:=x.blk;have a6:=(ltG q);obtain⟨Z,nc,rfl⟩:=B9 H;obtain⟨ya,yc,rfl⟩:=B9 K;have c3:b.cell? (J pb 3)=some (.slice Z a.N.length nc):=cr q rfl;have c4:b.cell? (J pb 4)=some (.slice ya a.T.length yc):=cr q rfl;clear x q H K;by_cases hN:(1200:Int)<(a.N.length:Int)
    · have u:1200<a.N.length:=by omega
      go_wp2_with fail
      exact bodyPost_ret (v:= .agg #[U 2,U 0]) (by simp[results,results26,go_sem,m,n,l]) rfl ⟨((j.o.setOwn _ (by omega)).setOwn _ (by omega)).alloc _,_,f.o,by simp[e,u]⟩
    · have u:¬1200<a.N.length:=by omega
      by_cases hT:(300:Int)<(a.T.length:Int)
      · have v:300<a.T.length:=by omega
        go_wp2_with fail
        exact bodyPost_ret (v:= .agg #[U 2,U 0]) (by simp[results,results26,go_sem,m,n,l]) rfl ⟨((j.o.setOwn _ (by omega)).setOwn _ (by omega)).alloc _,_,f.o,by simp[e,v]⟩
      · have v:¬300<a.T.length:=by omega
        go_wp2_with fail
        obtain⟨_,_,X,p6⟩:=C4b (a:=U 0) (b:=U 0) M.o N.o W j.o (by omega) rfl (I.alloc No _ (.cells #[U 0,U 0] 26));exact bodyPost_ret (v:= .agg #[U 0,U 0]) (by simp[results,results26,go_sem,m,n,l]) rfl ⟨X,_,f.o,by simp[e,u,v,p6]⟩
  · simp only[e,if_false]at k;subst k;have A:L7d w B pb c L ok d (G5a d s) (.returned (.agg #[U 1,U ((tk L a.i).at':Int)])) (((b.setCell (J (w.heap.size+2) 0) (U 1)).setCell (J (w.heap.size+2) 1) (U ((tk L a.i).at':Int))).alloc (.cells #[U 1,U ((tk L a.i).at':Int)] 26)):=
     ⟨((j.o.setOwn _ (by omega)).setOwn _ (by omega)).alloc _,_,f.o,by simp[e]⟩
    have P:=O A;clear A e f;go_wp2_with fail
    exact bodyPost_ret (v:= .agg #[U 1,U ((tk L a.i).at':Int)]) (by simp[results,results26,go_sem,m,n,l]) rfl P.o
end
set_option linter.unusedSimpArgs false
section
variable{B a:Nat}{b:Value}{L:List Tk}
theorem E1a{w g i:lZ}{c:Nat->Prop}{d:Nat}{s:St}{j l:Sp->Option (Out Int)}{e:Ending}(u:Kept B c w g)(h:Y6 g B a b L c d s.nx j e i)(v:∀o,Ev L j o->Ev L l o):Y6 w B a b L c d s l e i:=by
 obtain⟨k,o,m,f⟩:=h;refine⟨u.trans k,o,v o m, ?_⟩;cases o with
 |fail y p=>exact f
 |ok z x=>
  obtain⟨n,q,r,t⟩:=f;exact⟨n,q,Y4a r,t⟩
theorem E0a{w g i:lZ}{c:Nat->Prop}{d:Nat}{s:St}{j l:Sp->Option (Out Int)}{e:Ending}(n:Kept B c w g)(h:Y6 g B a b L c d s j e i)(q:∀o,Ev L j o->Ev L l o):Y6 w B a b L c d s l e i:=by
 obtain⟨k,o,m,f⟩:=h;refine⟨n.trans k,o,q o m, ?_⟩;cases o with
 |fail r p=>exact f
 |ok t x=>exact f
theorem P8{w i:lZ}{g:Nat->Prop}{d:Nat}{s:St}{j:Sp->Option (Out Int)}{e:Ending}(h:Y6 w B a b L g d s j e i):(∃x,e= .returned (U x))\/∃c p,e=gu c p:=by
 obtain⟨k,o,l,f⟩:=h;cases o with
 |fail c p=>exact .inr ⟨c,p,f.1⟩
 |ok m x=>exact .inl ⟨x,f.1⟩
theorem V1a(v:LOk L)(hX:∀(d:Nat) (s s':St) (x:Int),Ev L (λr=>r.expr d s) (.ok s' x)->(s.N.length:Int)<=x)(m:Nat)(F:∀j,j<=m->ConN B a b L 168 (λd s r=>r.expr d s) j)(hK:∀j,j<m->ConN B a b L 170 (λd s r=>r.block d s) j):ConN B a b L 93 (λd s r=>r.any d s) m:=by
 intro a7 k d s hm G E h;have hi:=h.at';have hs:=v.short;have HA:=O (U9a v h);have a5:Hid (∀X,I No a7 X->Pst X B a b L k d s):=λX ha=>h.still ha;have V:Hid (∀o φ,Ev L φ o->(∀r,(step L r).any d s=φ r)->Ev L (λr=>r.any d s) o):=λo φ y he=>Ev.step (y.eq (λr=>he r));clear h;generalize a6:((tk L s.i).at':Int)=M at *;have C:=O a6;clear a6;go_enter func93,ntmps93;go_wp2_with fail
 refine HA.o.mono ?_;rintro e w0 ⟨rfl,Y⟩;have K:=O (C7 (B:=B) (ok:=k) Y);have P:=O (a5.o w0 Y);clear Y HA a5;have i:=G8 v P.o [108,101,116];generalize u:isM L s.i [[108,101,116]]=q0 at i;have D:=O u;have q:=O i;clear u i P;go_wp2_with fail
 refine q.o.mono ?_;rintro e Z ⟨rfl,t,c⟩;replace K:=O (K.o.trans t);clear t q;cases q0
 case true=>
  have P:Hid (Pst Z B a b L k d s.nx):=c;clear c;have l:=O (S0d v (L.length - s.nx.i) (λj w=>F j (by simp only[St.nx]at w;omega)) M Z k d s.nx (vQ _) (λg A=>G g (kQ K.o.size A)) (kQ E K.o.size) P.o);clear P;go_wp2_with fail
  refine l.o.mono ?_;rintro e R f;have n:=O (E1a K.o f (λo y=>V.o o _ y (λr=>by simp only[step,D.o,rZ,if_false,if_true,C.o];try rfl)));have z:=P8 f;clear f l K V;rcases z with ⟨x,rfl⟩|⟨N,p,rfl⟩
  · go_wp2_with fail
    go_ret;exact n.o
  · exact⟨rfl,n.o⟩
 have P:Hid (Pst Z B a b L k d s):=c;clear c;have i:=G8 v P.o [112,114,105,110,116];generalize u:isM L s.i [[112,114,105,110,116]]=q1 at i;have H:=O u;have q:=O i;clear u i P;go_wp2_with fail
 refine q.o.mono ?_;rintro e a2 ⟨rfl,t,c⟩;replace K:=O (K.o.trans t);clear t q;cases q1
 case true=>
  have P:Hid (Pst a2 B a b L k d s.nx):=c;clear c;have l:=O (F2a v (L.length - s.nx.i) (λj w=>F j (by simp only[St.nx]at w;omega)) 21 M a2 k d s.nx (vQ _) (λg A=>G g (kQ K.o.size A)) (kQ E K.o.size) P.o);clear P;go_wp2_with fail
  refine l.o.mono ?_;rintro e R f;have n:=O (E1a K.o f (λo y=>V.o o _ y (λr=>by simp only[step,D.o,H.o,rZ,if_false,if_true,C.o];try rfl)));have z:=P8 f;clear f l K V;rcases z with ⟨x,rfl⟩|⟨N,p,rfl⟩
  · go_wp2_with fail
    go_ret;exact n.o
  · exact⟨rfl,n.o⟩
 have P:Hid (Pst a2 B a b L k d s):=c;clear c;have i:=G8 v P.o [114,101,116,117,114,110];generalize u:isM L s.i [[114,101,116,117,114,110]]=q2 at i;have S:=O u;have q:=O i;clear u i P;go_wp2_with fail
 refine q.o.mono ?_;rintro e a3 ⟨rfl,t,c⟩;replace K:=O (K.o.trans t);clear t q;cases q2
 case true=>
  have P:Hid (Pst a3 B a b L k d s.nx):=c;clear c;have l:=O (F2a v (L.length - s.nx.i) (λj w=>F j (by simp only[St.nx]at w;omega)) 24 M a3 k d s.nx (vQ _) (λg A=>G g (kQ K.o.size A)) (kQ E K.o.size) P.o);clear P;go_wp2_with fail
  refine l.o.mono ?_;rintro e R f;have n:=O (E1a K.o f (λo y=>V.o o _ y (λr=>by simp only[step,D.o,H.o,S.o,rZ,if_false,if_true,C.o];try rfl)));have z:=P8 f;clear f l K V;rcases z with ⟨x,rfl⟩|⟨N,p,rfl⟩
  · go_wp2_with fail
    go_ret;exact n.o
  · exact⟨rfl,n.o⟩
 have P:Hid (Pst a3 B a b L k d s):=c;clear c;have i:=G8 v P.o [105,102];generalize u:isM L s.i [[105,102]]=q3 at i;have W:=O u;have q:=O i;clear u i P;go_wp2_with fail
 refine q.o.mono ?_;rintro e a4 ⟨rfl,t,c⟩;replace K:=O (K.o.trans t);clear t q;cases q3
 case true=>
  have P:Hid (Pst a4 B a b L k d s.nx):=c;clear c;have l:=O (E9c v (L.length - s.nx.i) (λj w=>F j (by simp only[St.nx]at w;omega)) (λj w=>hK j (by simp only[St.nx]at w;omega)) M a4 k d s.nx (vQ _) (λg A=>G g (kQ K.o.size A)) (kQ E K.o.size) P.o);clear P;go_wp2_with fail
  refine l.o.mono ?_;rintro e R f;have n:=O (E1a K.o f (λo y=>V.o o _ y (λr=>by simp only[step,D.o,H.o,S.o,W.o,W0b,rZ,if_false,if_true,C.o];try rfl)));have z:=P8 f;clear f l K V;rcases z with ⟨x,rfl⟩|⟨N,p,rfl⟩
  · go_wp2_with fail
    go_ret;exact n.o
  · exact⟨rfl,n.o⟩
 have P:Hid (Pst a4 B a b L k d s):=c;clear c;have i:=G8 v P.o [119,104,105,108,101];generalize u:isM L s.i [[119,104,105,108,101]]=q4 at i;have Q4:=O u;have q:=O i;clear u i P;go_wp2_with fail
 refine q.o.mono ?_;rintro e T ⟨rfl,t,c⟩;replace K:=O (K.o.trans t);clear t q;cases q4
 case true=>
  have P:Hid (Pst T B a b L k d s.nx):=c;clear c;have l:=O (C8d v (L.length - s.nx.i) (λj w=>F j (by simp only[St.nx]at w;omega)) (λj w=>hK j (by simp only[St.nx]at w;omega)) M T k d s.nx (vQ _) (λg A=>G g (kQ K.o.size A)) (kQ E K.o.size) P.o);clear P;go_wp2_with fail
  refine l.o.mono ?_;rintro e R f;have n:=O (E1a K.o f (λo y=>V.o o _ y (λr=>by simp only[step,D.o,H.o,S.o,W.o,Q4.o,W0b,rZ,if_false,if_true,C.o];try rfl)));have z:=P8 f;clear f l K V;rcases z with ⟨x,rfl⟩|⟨N,p,rfl⟩
  · go_wp2_with fail
    go_ret;exact n.o
  · exact⟨rfl,n.o⟩
 have P:Hid (Pst T B a b L k d s):=c;clear c;have l:=O (V8b v hX m F T k d s hm (λg A=>G g (kQ K.o.size A)) (kQ E K.o.size) P.o);clear P;go_wp2_with fail
 refine l.o.mono ?_;rintro e R f;have n:=O (E0a K.o f (λo y=>V.o o _ y (λr=>by simp only[step,D.o,H.o,S.o,W.o,Q4.o,rZ,if_false,if_true,C.o];try rfl)));have z:=P8 f;clear f l K V;rcases z with ⟨x,rfl⟩|⟨N,p,rfl⟩
 · go_wp2_with fail
   go_ret;exact n.o
 · exact⟨rfl,n.o⟩
theorem E4b(v:LOk L)(m:Nat)(D:ConN B a b L 93 (λd s r=>r.any d s) m):ConN B a b L 53 (λd s r=>r.stmt d s) m:=by
 intro w F d s S T M h;have C:=O (I0a v (h.alloc (.cells (T0a [[108,101,116],[112,114,105,110,116],[114,101,116,117,114,110],[105,102],[119,104,105,108,101]]) 9)) w.heap.size 5 [[108,101,116],[112,114,105,110,116],[114,101,116,117,114,110],[105,102],[119,104,105,108,101]] (A5a _ _ _) (by decide));have A:Hid (∀c,I No w c->Calls prog 92 #[pV a] c λe W=>e= .returned (.bool (I8a L s.i))/\I No c W):=λc N=>D8b v (h.still N);have t:Hid (∀c,I No w c->∀i,Calls prog 60 #[pV a,.bool i,.func (.func 93) #[pV a] #[]] c (Y6 c B a b L F d s (λr=>insideQ L i d s (λd s=>r.any d s)))):=λc f i=>I1a (w:=c) (ok:=F) 93 (λ_ _=>by go_simp) v m _ D i S (λg R=>T g (kQ f.size R)) (kQ M f.size) (h.still f);have V:Hid (∀i o,i=K8d L s.i->Ev L (λr=>insideQ L i d s (λd s=>r.any d s)) o->Ev L (λr=>r.stmt d s) o):=λi o P n=>Ev.step (n.eq (λr=>by rw[P];rfl));have E:K8d L s.i=(isM L s.i [[108,101,116],[112,114,105,110,116],[114,101,116,117,114,110],[105,102],[119,104,105,108,101]]||I8a L s.i):=rfl;rw[E]at V;clear E h D;generalize isM L s.i [[108,101,116],[112,114,105,110,116],[114,101,116,117,114,110],[105,102],[119,104,105,108,101]]=q at *;generalize I8a L s.i=G at *;go_enter func53,ntmps53;go_wp2_with fail
 refine C.o.mono ?_;rintro e z ⟨rfl,f⟩;have k:Hid (I No w z):=(I.alloc No _ _).trans f (λ_ _ x=>x);clear f C;cases q
 · go_wp2_with fail
   refine(A.o z k.o).mono ?_;rintro e H ⟨rfl,f⟩;have u:Hid (I No w H):=k.o.trans f (λ_ _ x=>x);clear f k A;go_wp2_with fail
   refine(t.o H u.o G).mono ?_;rintro e X j;have l:=O (E0a (C7 u.o) j (λo n=>V.o G o (by simp) n));have y:=P8 j;clear j V u t;rcases y with ⟨x,rfl⟩|⟨K,p,rfl⟩
   · go_wp2_with fail
     go_ret;exact l.o
   · exact⟨rfl,l.o⟩
 · go_wp2_with fail
   refine(t.o z k.o true).mono ?_;rintro e X j;have l:=O (E0a (C7 k.o) j (λo n=>V.o true o (by simp) n));have y:=P8 j;clear j V k t;rcases y with ⟨x,rfl⟩|⟨K,p,rfl⟩
   · go_wp2_with fail
     go_ret;exact l.o
   · exact⟨rfl,l.o⟩
end
theorem I.bytes(S:Nat->Prop)(w:lZ)(e:TypeId)(t:ByteArray):I S w (Lib.bytesWorld w e t):=by
 exact⟨rfl,rfl,rfl,by rw[Lib.bytesWorld_size];omega,λk a _=>Lib.bytesWorld_at_old w e t k a⟩
section
variable{B a:Nat}{b:Value}{L:List Tk}
theorem S9b(l:LOk L)(H:NuL L)(c:Int)(w:lZ)(n:Nat->Prop)(d:Nat)(s:St)(k:(tk L s.i).kind=3)(N:∀g,w.heap.size<=g->n g)(G:B<=w.heap.size)(h:Pst w B a b L n d s):
 Calls prog 225 #[pV a,U c] w (Y6 w B a b L n d s (λ_=>addN s.nx ⟨1,0,0,0,[],[],C7a (tk L s.i).text,-1,c⟩)):=by
 have V:=h.at';have W:=l.short;have T:=h.few;have r:=O (J4a l h (by rw[k];decide));have m:=H s.i k;have S:=@B6a;have q:=O (λF=>Tryz.strconv_Atoi ⟨(tk L s.i).text.toArray⟩ (C7a (tk L s.i).text) (by have:=m.2.1;simp[ByteArray.size];omega) (by simpa using F1c _ m) F);clear h m;generalize C7a (tk L s.i).text=o at *;generalize tk L s.i=X at *;clear k;go_enter func225,ntmps225;go_wp2_with fail
 refine r.o.mono ?_;rintro e f ⟨rfl,x,y⟩;have u:=O x;have v:=O y;clear x y r;simp only[tkv];go_wp2_with fail
 refine(q.o f).mono ?_;rintro e R ⟨rfl,t,rfl⟩;have i:=O (u.o.trans (C7 (I.bytes _ f 5 t)));have j:=O (v.o.still (I.bytes _ f 5 t));clear u v q;generalize Lib.bytesWorld f 5 t=R at *;have M:=j.o.at';simp only[St.nx]at M;have p:=O (O8 l j.o (Nd.mk 1 0 0 0 [] [] o (-1) c) 0 none 0 0 ⟨_,rfl,kW _ _ _ _,by simp[Value.ownBlock]⟩ rfl (by simp only[St.nx];omega) (kQ G i.o.size) (λg K=>N g (kQ i.o.size K)));have C:=O (show F6 s ⟨s.nx.i,s.nx.N++[Nd.mk 1 0 0 0 [] [] o (-1) c],s.nx.T⟩ by
  simp only[F6,St.nx,qQ,jQ,xQ]
  omega)
 have P:(0:Int)<=(s.nx.N.length:Int)/\(s.nx.N.length:Int)<((s.nx.N++[Nd.mk 1 0 0 0 [] [] o (-1) c]).length:Int):=by simp;omega
 clear j;go_wp2_with fail
 refine p.o.mono ?_;rintro e Y ⟨rfl,z,A⟩;have D:=O (i.o.trans z);have E:=O A;clear z A p;go_wp2_with fail
 go_ret;exact F9 D.o Ev.pure E.o C.o P
end
set_option linter.unusedSimpArgs false
def V9d(B b:Nat)(e:Value)(L:List Tk)(K:Nat)(f:Int->Nat->St->Sp->Option (Out Int))(m:Nat):Prop:=
 ∀(c:Int) (w:lZ) (a:Nat->Prop) (d:Nat) (s:St),L.length - s.i<=m->(∀g,w.heap.size<=g->a g)->B<=w.heap.size->Pst w B b e L a d s->
  Calls prog K #[pV b,U c] w (Y6 w B b e L a d s (f c d s))
def fnS(L:List Tk)(a:Int)(d:Nat)(s:St)(r:Sp):Option (Out Int):=A3 (needQ L s [40]) λb _=>A3 (r.list .par [41] d b [] []) λc l=>A3 (typeIfQ L r d c) λe t=>A3 (r.block d e) λf x=>addN f ⟨6,x,0,0,l,[],0,t,a⟩
def Y9c(a:Int)(d:Nat)(s:St)(r:Sp):Option (Out Int):=A3 (r.list .obj [125] d s [] []) λb l=>addN b ⟨10,0,0,0,l,[],0,-1,a⟩
section
variable{B a:Nat}{b:Value}{L:List Tk}
theorem Z9b(p:LOk L)(hN:NuL L)(a4:Nat)(hE:∀T,T<a4->ConN B a b L 168 (λd s r=>r.expr d s) T)(hF:∀T,T<a4->V9d B a b L 226 (fnS L) T)(hO:∀T,T<a4->V9d B a b L 227 Y9c T):ConN B a b L 222 (λd s r=>r.simple d s) a4:=by
 intro a9 j d s hm z R a3;have hi:=a3.at';have hs:=p.short;have ao:=a3.few;have HA:=O (U9a p a3);have ac:Hid (∀m,I No a9 m->Pst m B a b L j d s):=λm ha=>a3.still ha;have FT:Hid (∀m,I No a9 m->Calls prog 90 #[pV a] m λe w'=>e= .returned (tkv (tk L s.i))/\I No m w'):=λm ha=>V8 p (a3.still ha);have TK:Hid (∀m,(tk L s.i).kind≠6->Pst m B a b L j d s->Calls prog 194 #[pV a] m λe w'=>e= .returned (tkv (tk L s.i))/\Kept B j m w'/\Pst w' B a b L j d s.nx):=λm h ha=>J4a p ha h;have NB:Hid (∀f m,(tk L s.i).kind=3->(∀g,m.heap.size<=g->j g)->B<=m.heap.size->Pst m B a b L j d s->Calls prog 225 #[pV a,U f] m (Y6 m B a b L j d s (λ_=>addN s.nx ⟨1,0,0,0,[],[],C7a (tk L s.i).text,-1,f⟩))):=λf m N y hb ha=>S9b p hN f m j d s N y hb ha;have V:Hid (∀o φ,Ev L φ o->(∀r,(step L r).simple d s=φ r)->Ev L (λr=>r.simple d s) o):=λo φ y he=>Ev.step (y.eq (λr=>he r));have am:=Y9;have an:=B6a;clear a3;generalize ad:((tk L s.i).at':Int)=f at *;have A:=O ad;clear ad;generalize af:(tk L s.i).kind=kd at *;have F:=O af;clear af;generalize ag:(tk L s.i).text=Y at *;have M:=O ag;clear ag;have ah:tkv (tk L s.i)= .agg #[U kd,.string ⟨Y.toArray⟩,U f]:=by rw[tkv,F.o,M.o,A.o]
 rw[ah]at FT TK;clear ah;go_enter func222,ntmps222;go_wp2_with fail
 refine HA.o.mono ?_;rintro e wa ⟨rfl,hc⟩;have C1:=O hc;clear hc HA;go_wp2_with fail
 refine(FT.o wa C1.o).mono ?_;rintro e w0 ⟨rfl,hc⟩;have C2:Hid (I No a9 w0):=C1.o.trans hc (λ_ _ a5=>a5);have K:=O (C7 (B:=B) (ok:=j) C2.o);have P:=O (ac.o w0 C2.o);clear hc FT ac C1 C2;by_cases N:kd=3
 case pos=>
  subst N;have n:=O (NB.o f w0 rfl (λg i=>z g (kQ K.o.size i)) (kQ R K.o.size) P.o);clear P NB;go_wp2_with fail
  refine n.o.mono ?_;rintro e Z q;have H:=O (E0a K.o q (λo y=>V.o o _ y (λr=>by simp only[step,F.o,M.o,A.o,rY,rZ,if_false,if_true];try rfl)));have a2:=P8 q;clear q n K V;rcases a2 with ⟨a5,rfl⟩|⟨er,a6,rfl⟩
  · go_wp2_with fail
    go_ret;exact H.o
  · exact⟨rfl,H.o⟩
 clear NB;have b3:(kd==3)=false:=by simp[N]
 by_cases X:kd=4
 case pos=>
  subst X;have n:=O (TK.o w0 (by decide) P.o);clear P TK;go_wp2_with fail
  refine n.o.mono ?_;rintro e a7 ⟨rfl,h,c⟩;replace K:=O (K.o.trans h);have P:=O c;clear h c n;have hj:=P.o.at';have u:=O (O8 p P.o (Nd.mk 2 0 0 0 [] Y 0 (-1) f) 0 none 0 0 ⟨_,rfl,kW _ _ _ _,by simp[Value.ownBlock]⟩ rfl (by simp only[St.nx]at *;omega) (kQ R K.o.size) (λg i=>z g (kQ K.o.size i)));have C:=O (V.o _ (λr=>addN s.nx (Nd.mk 2 0 0 0 [] Y 0 (-1) f)) Ev.pure (λr=>by simp only[step,F.o,M.o,A.o,(by decide:¬(4:Int)=3),rZ,if_false,if_true];try rfl));have D:=O (show F6 s ⟨(s.nx).i,(s.nx).N++[(Nd.mk 2 0 0 0 [] Y 0 (-1) f)],(s.nx).T⟩ by
   simp only[F6,St.nx,qQ,jQ,xQ]at *
   omega)
  have S:(0:Int)<=((s.nx).N.length:Int)/\((s.nx).N.length:Int)<(((s.nx).N++[(Nd.mk 2 0 0 0 [] Y 0 (-1) f)]).length:Int):=by simp;omega
  clear P V;go_wp2_with fail
  refine u.o.mono ?_;rintro e Z ⟨rfl,w,x⟩;have E:=O (K.o.trans w);have G:=O x;clear w x u;go_wp2_with fail
  go_ret;exact F9 E.o C.o G.o D.o S
 have b4:(kd==4)=false:=by simp[X]
 by_cases W:kd=1
 case pos=>
  subst W;have n:=O (TK.o w0 (by decide) P.o);clear P TK;go_wp2_with fail
  refine n.o.mono ?_;rintro e a7 ⟨rfl,h,c⟩;replace K:=O (K.o.trans h);have P:=O c;clear h c n;have hj:=P.o.at';have u:=O (O8 p P.o (Nd.mk 5 0 0 0 [] Y 0 (-1) f) 0 none 0 0 ⟨_,rfl,kW _ _ _ _,by simp[Value.ownBlock]⟩ rfl (by simp only[St.nx]at *;omega) (kQ R K.o.size) (λg i=>z g (kQ K.o.size i)));have C:=O (V.o _ (λr=>addN s.nx (Nd.mk 5 0 0 0 [] Y 0 (-1) f)) Ev.pure (λr=>by simp only[step,F.o,M.o,A.o,(by decide:¬(1:Int)=3),(by decide:¬(1:Int)=4),rZ,if_false,if_true];try rfl));have D:=O (show F6 s ⟨(s.nx).i,(s.nx).N++[(Nd.mk 5 0 0 0 [] Y 0 (-1) f)],(s.nx).T⟩ by
   simp only[F6,St.nx,qQ,jQ,xQ]at *
   omega)
  have S:(0:Int)<=((s.nx).N.length:Int)/\((s.nx).N.length:Int)<(((s.nx).N++[(Nd.mk 5 0 0 0 [] Y 0 (-1) f)]).length:Int):=by simp;omega
  clear P V;go_wp2_with fail
  refine u.o.mono ?_;rintro e Z ⟨rfl,w,x⟩;have E:=O (K.o.trans w);have G:=O x;clear w x u;go_wp2_with fail
  go_ret;exact F9 E.o C.o G.o D.o S
 have b1:(kd==1)=false:=by simp[W]
 clear TK;have k:=G8 p P.o [116,114,117,101];generalize v:isM L s.i [[116,114,117,101]]=q0 at k;have Q0:=O v;have t:=O k;clear v k P;go_wp2_with fail
 refine t.o.mono ?_;rintro e a7 ⟨rfl,h,c⟩;replace K:=O (K.o.trans h);clear h t;cases q0
 case true=>
  have P:Hid (Pst a7 B a b L j d s.nx):=c;have hj:=c.at';clear c;have u:=O (O8 p P.o (Nd.mk 3 0 0 0 [] [] 1 (-1) f) 0 none 0 0 ⟨_,rfl,kW _ _ _ _,by simp[Value.ownBlock]⟩ rfl (by simp only[St.nx]at *;omega) (kQ R K.o.size) (λg i=>z g (kQ K.o.size i)));have C:=O (V.o _ (λr=>addN s.nx (Nd.mk 3 0 0 0 [] [] 1 (-1) f)) Ev.pure (λr=>by simp only[step,F.o,M.o,A.o,N,X,W,Q0.o,rZ,if_false,if_true];try rfl));have D:=O (show F6 s ⟨(s.nx).i,(s.nx).N++[(Nd.mk 3 0 0 0 [] [] 1 (-1) f)],(s.nx).T⟩ by
   simp only[F6,St.nx,qQ,jQ,xQ]at *
   omega)
  have S:(0:Int)<=((s.nx).N.length:Int)/\((s.nx).N.length:Int)<(((s.nx).N++[(Nd.mk 3 0 0 0 [] [] 1 (-1) f)]).length:Int):=by simp;omega
  clear P V;go_wp2_with fail
  refine u.o.mono ?_;rintro e Z ⟨rfl,w,x⟩;have E:=O (K.o.trans w);have G:=O x;clear w x u;go_wp2_with fail
  go_ret;exact F9 E.o C.o G.o D.o S
 have P:Hid (Pst a7 B a b L j d s):=c;clear c;have k:=G8 p P.o [102,97,108,115,101];generalize v:isM L s.i [[102,97,108,115,101]]=q1 at k;have Q1:=O v;have t:=O k;clear v k P;go_wp2_with fail
 refine t.o.mono ?_;rintro e ai ⟨rfl,h,c⟩;replace K:=O (K.o.trans h);clear h t;cases q1
 case true=>
  have P:Hid (Pst ai B a b L j d s.nx):=c;have hj:=c.at';clear c;have u:=O (O8 p P.o (Nd.mk 3 0 0 0 [] [] 0 (-1) f) 0 none 0 0 ⟨_,rfl,kW _ _ _ _,by simp[Value.ownBlock]⟩ rfl (by simp only[St.nx]at *;omega) (kQ R K.o.size) (λg i=>z g (kQ K.o.size i)));have C:=O (V.o _ (λr=>addN s.nx (Nd.mk 3 0 0 0 [] [] 0 (-1) f)) Ev.pure (λr=>by simp only[step,F.o,M.o,A.o,N,X,W,Q0.o,Q1.o,rZ,if_false,if_true];try rfl));have D:=O (show F6 s ⟨(s.nx).i,(s.nx).N++[(Nd.mk 3 0 0 0 [] [] 0 (-1) f)],(s.nx).T⟩ by
   simp only[F6,St.nx,qQ,jQ,xQ]at *
   omega)
  have S:(0:Int)<=((s.nx).N.length:Int)/\((s.nx).N.length:Int)<(((s.nx).N++[(Nd.mk 3 0 0 0 [] [] 0 (-1) f)]).length:Int):=by simp;omega
  clear P V;go_wp2_with fail
  refine u.o.mono ?_;rintro e Z ⟨rfl,w,x⟩;have E:=O (K.o.trans w);have G:=O x;clear w x u;go_wp2_with fail
  go_ret;exact F9 E.o C.o G.o D.o S
 have P:Hid (Pst ai B a b L j d s):=c;clear c;have k:=G8 p P.o [110,117,108,108];generalize v:isM L s.i [[110,117,108,108]]=q2 at k;have Q2:=O v;have t:=O k;clear v k P;go_wp2_with fail
 refine t.o.mono ?_;rintro e aj ⟨rfl,h,c⟩;replace K:=O (K.o.trans h);clear h t;cases q2
 case true=>
  have P:Hid (Pst aj B a b L j d s.nx):=c;have hj:=c.at';clear c;have u:=O (O8 p P.o (Nd.mk 4 0 0 0 [] [] 0 (-1) f) 0 none 0 0 ⟨_,rfl,kW _ _ _ _,by simp[Value.ownBlock]⟩ rfl (by simp only[St.nx]at *;omega) (kQ R K.o.size) (λg i=>z g (kQ K.o.size i)));have C:=O (V.o _ (λr=>addN s.nx (Nd.mk 4 0 0 0 [] [] 0 (-1) f)) Ev.pure (λr=>by simp only[step,F.o,M.o,A.o,N,X,W,Q0.o,Q1.o,Q2.o,rZ,if_false,if_true];try rfl));have D:=O (show F6 s ⟨(s.nx).i,(s.nx).N++[(Nd.mk 4 0 0 0 [] [] 0 (-1) f)],(s.nx).T⟩ by
   simp only[F6,St.nx,qQ,jQ,xQ]at *
   omega)
  have S:(0:Int)<=((s.nx).N.length:Int)/\((s.nx).N.length:Int)<(((s.nx).N++[(Nd.mk 4 0 0 0 [] [] 0 (-1) f)]).length:Int):=by simp;omega
  clear P V;go_wp2_with fail
  refine u.o.mono ?_;rintro e Z ⟨rfl,w,x⟩;have E:=O (K.o.trans w);have G:=O x;clear w x u;go_wp2_with fail
  go_ret;exact F9 E.o C.o G.o D.o S
 have P:Hid (Pst aj B a b L j d s):=c;clear c;have k:=G8 p P.o [102,110];generalize v:isM L s.i [[102,110]]=q3 at k;have Q3:=O v;have t:=O k;clear v k P;go_wp2_with fail
 refine t.o.mono ?_;rintro e aa ⟨rfl,h,c⟩;replace K:=O (K.o.trans h);clear h t;cases q3
 case true=>
  have P:Hid (Pst aa B a b L j d s.nx):=c;have hj:=c.at';clear c;have n:=O (hF (L.length - s.nx.i) (by simp only[St.nx];omega) f aa j d s.nx (vQ _) (λg i=>z g (kQ K.o.size i)) (kQ R K.o.size) P.o);clear P;go_wp2_with fail
  refine n.o.mono ?_;rintro e Z q;have H:=O (E1a K.o q (λo y=>V.o o _ y (λr=>by simp only[step,F.o,M.o,A.o,N,X,W,Q0.o,Q1.o,Q2.o,Q3.o,rZ,if_false,if_true];try rfl)));have a2:=P8 q;clear q n K V;rcases a2 with ⟨a5,rfl⟩|⟨er,a6,rfl⟩
  · go_wp2_with fail
    go_ret;exact H.o
  · exact⟨rfl,H.o⟩
 have P:Hid (Pst aa B a b L j d s):=c;clear c;have k:=G8 p P.o [91];generalize v:isM L s.i [[91]]=q4 at k;have Q4:=O v;have t:=O k;clear v k P;go_wp2_with fail
 refine t.o.mono ?_;rintro e ab ⟨rfl,h,c⟩;replace K:=O (K.o.trans h);clear h t;cases q4
 case true=>
  have P:Hid (Pst ab B a b L j d s.nx):=c;have hj:=c.at';clear c;have n:=O (O6a (w:=ab) (ok:=j) 168 (λ_ _=>by go_simp) (pt:= .expr) (φ:=λd s r=>r.expr d s) (λ_ _ _=>rfl) p (L.length - s.nx.i) (λT al=>(hE T (by simp only[St.nx]at al;omega)).con) [93] (vQ _) (λg i=>z g (kQ K.o.size i)) (kQ R K.o.size) P.o);clear P;go_wp2_with fail
  refine n.o.mono ?_;rintro e aq ⟨h,o,ae,q⟩;have K':=O (K.o.trans h);have E1:=O ae;have hz:=K.o.size;clear h ae n K;have K:=O K'.o;clear K';have VL:=O (λo (y:Ev L (λr=>A3 (r.list .expr [93] d s.nx [] []) λs' l=>addN s' (Nd.mk 11 0 0 0 l [] 0 (-1) f)) o)=>V.o o _ y (λr=>by simp only[step,F.o,M.o,A.o,N,X,W,Q0.o,Q1.o,Q2.o,Q3.o,Q4.o,rZ,if_false,if_true];try rfl));cases o with
  |fail er a6=>
   obtain⟨rfl,he⟩:=q;exact⟨rfl,D5 K.o (VL.o _ (Ev.bad E1.o)) he⟩
  |ok s1 l=>
   obtain⟨la,lc,rfl,y,hl,c,i⟩:=q;have ak:_/\_/\_/\_:=i;simp only[St.nx]at ak;have P:=O c;have O1:=O y;have ap:=c.at';clear c y i;have u:=O (O8 p P.o (Nd.mk 11 0 0 0 l [] 0 (-1) f) 0 la l.length lc ⟨_,rfl,C9 O1.o (wQ _),λg i=>z g (by have:=(A9 O1.o g i).1;omega)⟩ rfl (by simp only[St.nx]at *;omega) (kQ R K.o.size) (λg i=>z g (kQ K.o.size i)));have C:=O (VL.o _ (Ev.bind (k:=λr s' l=>addN s' (Nd.mk 11 0 0 0 l [] 0 (-1) f)) E1.o Ev.pure));have D:=O (show F6 s ⟨(s1).i,(s1).N++[(Nd.mk 11 0 0 0 l [] 0 (-1) f)],(s1).T⟩ by
    simp only[F6,St.nx,qQ,jQ,xQ]at *
    omega)
   have S:(0:Int)<=((s1).N.length:Int)/\((s1).N.length:Int)<(((s1).N++[(Nd.mk 11 0 0 0 l [] 0 (-1) f)]).length:Int):=by simp;omega
   clear P V;go_wp2_with fail
   refine u.o.mono ?_;rintro e Z ⟨rfl,w,x⟩;have E:=O (K.o.trans w);have G:=O x;clear w x u;go_wp2_with fail
   go_ret;exact F9 E.o C.o G.o D.o S
 have P:Hid (Pst ab B a b L j d s):=c;clear c;have k:=G8 p P.o [123];generalize v:isM L s.i [[123]]=q5 at k;have Q5:=O v;have t:=O k;clear v k P;go_wp2_with fail
 refine t.o.mono ?_;rintro e a8 ⟨rfl,h,c⟩;replace K:=O (K.o.trans h);clear h t;cases q5
 case true=>
  have P:Hid (Pst a8 B a b L j d s.nx):=c;have hj:=c.at';clear c;have n:=O (hO (L.length - s.nx.i) (by simp only[St.nx];omega) f a8 j d s.nx (vQ _) (λg i=>z g (kQ K.o.size i)) (kQ R K.o.size) P.o);clear P;go_wp2_with fail
  refine n.o.mono ?_;rintro e Z q;have H:=O (E1a K.o q (λo y=>V.o o _ y (λr=>by simp only[step,F.o,M.o,A.o,N,X,W,Q0.o,Q1.o,Q2.o,Q3.o,Q4.o,Q5.o,rZ,if_false,if_true];try rfl)));have a2:=P8 q;clear q n K V;rcases a2 with ⟨a5,rfl⟩|⟨er,a6,rfl⟩
  · go_wp2_with fail
    go_ret;exact H.o
  · exact⟨rfl,H.o⟩
 have P:Hid (Pst a8 B a b L j d s):=c;clear c;have n:=O (O1b p a4 hE a8 j d s hm (λg i=>z g (kQ K.o.size i)) (kQ R K.o.size) P.o);clear P;go_wp2_with fail
 refine n.o.mono ?_;rintro e Z q;have H:=O (E0a K.o q (λo y=>V.o o _ y (λr=>by simp only[step,F.o,M.o,A.o,N,X,W,Q0.o,Q1.o,Q2.o,Q3.o,Q4.o,Q5.o,rZ,if_false,if_true];try rfl)));have a2:=P8 q;clear q n K V;rcases a2 with ⟨a5,rfl⟩|⟨er,a6,rfl⟩
 · go_wp2_with fail
   go_ret;exact H.o
 · exact⟨rfl,H.o⟩
theorem KeptS.andThen{d:Nat->Prop}{n:Nat}{f g c:lZ}(h:KeptS B d n f g)(k:Kept B d g c):KeptS B d n f c:=by
 refine⟨k.os.trans h.os,k.tape.trans h.tape,k.output.trans h.output,kQ h.size k.size,λi l m=> ?_⟩;have j:=h.block i l m;refine(k.block i (yQ l h.size) (λx=>m ?_)).trans j;obtain⟨s,⟨o,e,p,q,r⟩,t⟩:=x;exact .inl ⟨s,⟨o,e,p,by rw[<-j];exact q,r⟩,t⟩
theorem K5a{p:Nat->Prop}{o:Nat}{w l:lZ}{q:Nat}{j:Array Value}{e:TypeId}(m:KeptS B p o w l)(h:w.heap[q]? =some (.cells j e (0,0)))(f:e≠84/\e≠87/\e≠76/\e≠122/\e≠9):l.heap[q]? =some (.cells j e (0,0)):=by
 refine(m.block q (ltG h) (λn=> ?_)).trans h;have k:∀g d i,w.heap[q]? =some (.cells g d i)->d=e:=by
  intro g d i c;rw[h]at c;simp only[zQ,xW]at c;exact c.2.1.symm
 rcases n with ⟨_,⟨g,d,i,c,r⟩,_⟩|⟨_,g,d,i,c,r⟩
 · have:=k _ _ _ c;subst this;rcases r with r|r|r
   · exact f.1 r
   · exact f.2.1 r
   · exact f.2.2.1 r
 · have:=k _ _ _ c;subst this;rcases r with r|r
   · exact f.2.2.2.1 r
   · exact f.2.2.2.2 r
def S3a(w:lZ)(B a:Nat)(b:Value)(L:List Tk)(h:Nat->Prop)(d:Nat)(s:St)(g j:Nat)(k:Sp->Option (Out (Int×List bZ)))(e:Ending)(c:lZ):Prop:=
 KeptS B h g w c/\∃o,Ev L k o/\match o with
  | .ok i x=>e= .returned (U x.1)/\Nms c g j x.2/\Pst c B a b L h d i/\F6 s i
  | .fail f p=>e=gu f p/\f≠0
theorem S6b(H:LOk L)(ad:Nat)(hE:∀m',m'<=ad->ConN B a b L 168 (λd s r=>r.expr d s) m')(w:lZ)(n:Nat->Prop)(d:Nat)(s:St)(t v A:Nat)(i:List bZ)(R:w.heap[A]? =some (.cells #[pV a] 82 (0,0)))(hn:Nms w t v i)(hl:i.length<=1001)(aj:t<=w.heap.size)(hm:L.length - s.i<=ad)(a9:∀g,w.heap.size<=g->n g)(hB:B<=w.heap.size)(h:Pst w B a b L n d s):
 Calls prog 231 #[pV A,pV v] w (S3a w B a b L n d s t v (λr=>part L r d s i .obj)):=by
 have hi:=h.at';have hs:=H.short;have aq:=h.few;have ak:=(ltG R);have X:Hid (∀j,I No w j->j.heap[A]? =some (.cells #[pV a] 82 (0,0))):=λj m=>(m.block A ak (λx=>x)).trans R;have ae:w.cell? (J A 0)=some (pV a):=cr R rfl;have HA:Hid (∀j,I No w j->Calls prog 91 #[pV a] j λe D=>e= .returned (U ((tk L s.i).at':Int))/\Hid (I No w D)/\D.cell? (J A 0)=some (pV a)):=λj m=>(U9a H (h.still m)).mono (by
  rintro e D ⟨he,K⟩;have a6:=m.trans K (λ_ _ x=>x);exact⟨he,a6,cr (X.o D a6) rfl⟩)
 have V:Hid (∀o,Ev L (λr=>A3 (newNameQ L s i) λk f=>A3 (needQ L k [58]) λF _=>A3 (r.expr d F) λz x=>A3 (addN z (Nd.mk 15 x 0 0 [] f 0 (-1) ((tk L s.i).at':Int))) λc y=>some (.ok c (y,i++[f]))) o->Ev L (λr=>part L r d s i .obj) o):=λo M=>M;have HN:Hid (∀j,I No w j->Calls prog 178 #[pV a,pV v] j λe D=>
  (∃u p,e=gu u p/\Hid (S3a w B a b L n d s t v (λr=>part L r d s i .obj) (gu u p) D))\/
  (∃k f,e= .returned (.string ⟨f.toArray⟩)/\Hid (newNameQ L s i=some (.ok k f))/\KeptS B n t j D/\Nms D t v (i++[f])/\Pst D B a b L n d k)):=by
  intro j m;refine(K1a H (h.still m) t v i (hn.chg m (λ_ _ _ _ x=>x.elim)) hl (kQ aj m.size)).mono ?_;rintro e D ⟨hk,C⟩;rcases q:newNameQ L s i with _|⟨k,f⟩|⟨u,p⟩
  · rw[q]at C;exact C.elim
  · rw[q]at C;exact .inr ⟨k,f,C.1,O rfl,hk,C.2.1,C.2.2⟩
  · rw[q]at C;have ah:u≠0:=by
     unfold newNameQ fltQ at q;split at q
     · split at q
       · simp at q;omega
       · simp at q
     · simp at q;omega
    exact .inl ⟨u,p,C,KeptS.after (C7 m) hk,_,V.o _ (Ev.bad (Ev.pure.eq (λr=>q))),rfl,ah⟩
 clear h hn R;generalize ((tk L s.i).at':Int)=E at *;go_enter func231,ntmps231;go_wp2_with fail
 go_region_with (first|(go_at_call 91;refine(HA.o _ (I.drewN _ _ 1)).mono ?_;rintro e am ⟨rfl,K,af⟩)|(go_at_call 178;refine(HN.o _ (Hid.o (by assumption))).mono ?_;rintro e an (⟨u,p,rfl,HF⟩|⟨k,f,rfl,q,a3,a8,aa⟩);exact⟨rfl,HF.o⟩))
 all_goals
  have K2:=O (KeptS.after (C7 (Hid.o K)) a3);have a2:=K5a a3 (X.o am (Hid.o K)) (by decide);have ag:an.cell? (J A 0)=some (pV a):=cr a2 rfl;have HD:=O (J0 H aa [58]);have N2:=O a8;have Z:=O (λo (M:Ev L (λr=>A3 (needQ L k [58]) λF (_:Unit)=>A3 (r.expr d F) λz x=>A3 (addN z (Nd.mk 15 x 0 0 [] f 0 (-1) E)) λc y=>some (.ok c (y,i++[f]))) o)=>V.o o (Ev.bind (k:=λr k f=>A3 (needQ L k [58]) λF _=>A3 (r.expr d F) λz x=>A3 (addN z (Nd.mk 15 x 0 0 [] f 0 (-1) E)) λc y=>some (.ok c (y,i++[f]))) (Ev.pure.eq (λr=>Hid.o q)) M));have ac:k=s.nx:=newName_ok (Hid.o q);have B2:=O a2;clear a3 aa a8 K ae af HA HN V X a2;go_wp2_with fail
  refine HD.o.mono ?_;rintro e a4 ⟨S,C⟩;have G:=O (K2.o.andThen S);have N3:=O (N2.o.kept S);have W:=O (B0a S B2.o (by decide));clear S K2 N2 B2 HD ag;rcases C with ⟨P,rfl,hp⟩|⟨P,rfl⟩
  case inr=>exact⟨rfl,G.o,_,Z.o _ (Ev.bad (U0 P)),rfl,by decide⟩
  have V3:=O (λo (M:Ev L (λr=>A3 (r.expr d k.nx) λz x=>A3 (addN z (Nd.mk 15 x 0 0 [] f 0 (-1) E)) λc y=>some (.ok c (y,i++[f]))) o)=>Z.o o (Ev.bind (k:=λr F (_:Unit)=>A3 (r.expr d F) λz x=>A3 (addN z (Nd.mk 15 x 0 0 [] f 0 (-1) E)) λc y=>some (.ok c (y,i++[f]))) (Q7 P) M));have ar:=hp.at';have ao:a4.cell? (J A 0)=some (pV a):=cr W.o rfl;have HX:Hid (∀j,I No a4 j->Calls prog 168 #[pV a] j λe l=>
   (∃u p,e=gu u p/\Hid (S3a w B a b L n d s t v (λr=>part L r d s i .obj) (gu u p) l))\/
   (∃c x,e= .returned (U x)/\l.cell? (J A 0)=some (pV a)/\Hid (KeptS B n t w l/\Nms l t v (i++[f])/\Pst l B a b L n d c/\F6 k.nx c/\Ev L (λr=>part L r d s i .obj) (.ok ⟨c.i,c.N++[(Nd.mk 15 x 0 0 [] f 0 (-1) E)],c.T⟩ ((c.N.length:Int),i++[f]))))):=by
   intro j m;refine(hE (L.length - k.nx.i) (by rw[ac];simp only[St.nx];omega) j n d k.nx (vQ _) (λg hg=>a9 g (kQ G.o.size (kQ m.size hg))) (kQ hB (kQ G.o.size m.size)) (hp.still m)).mono ?_;rintro e l ⟨N,o,a7,ab⟩;have T:Kept B n a4 l:=(C7 m).trans N;cases o with
   |fail u p=>
    obtain⟨rfl,he⟩:=ab;exact .inl ⟨u,p,rfl,G.o.andThen T,_,V3.o _ (Ev.bad a7),rfl,he⟩
   |ok c x=>
    obtain⟨rfl,al,ai,au⟩:=ab;refine .inr ⟨c,x,rfl,by rw[cell_of_row l A 0 _ _ _ (B0a T W.o (by decide))];rfl,G.o.andThen T,N3.o.kept T,al,ai,V3.o _ (Ev.bind (k:=λr z x=>A3 (addN z (Nd.mk 15 x 0 0 [] f 0 (-1) E)) λc y=>some (.ok c (y,i++[f]))) a7 (Ev.pure.eq (λr=>rfl)))⟩
  have HY:Hid (∀l c x,KeptS B n t w l/\Nms l t v (i++[f])/\Pst l B a b L n d c/\F6 k.nx c/\Ev L (λr=>part L r d s i .obj) (.ok ⟨c.i,c.N++[(Nd.mk 15 x 0 0 [] f 0 (-1) E)],c.T⟩ ((c.N.length:Int),i++[f]))->Calls prog 54 #[pV a,.agg #[U 15,U x,U 0,U 0,sN,.string ⟨f.toArray⟩,U 0,U 0,U E]] l λe a5=>
   e= .returned (U (c.N.length:Int))/\Hid (S3a w B a b L n d s t v (λr=>part L r d s i .obj) (.returned (U (c.N.length:Int))) a5)):=by
   rintro l c x ⟨N,n4,p4,g4,e4⟩;have g5:_/\_/\_/\_:=g4;rw[ac]at g5;simp only[St.nx]at g5;refine(O8 H p4 (Nd.mk 15 x 0 0 [] f 0 (-1) E) 0 none 0 0 ⟨_,rfl,kW _ _ _ _,by simp[Value.ownBlock]⟩ rfl (by omega) (kQ hB N.size) (λg hg=>a9 g (kQ N.size hg))).mono ?_;rintro e a5 ⟨rfl,k5,p5⟩;refine⟨rfl,N.andThen k5,_,e4,rfl,n4.kept k5,p5, ?_⟩;simp only[F6,qQ,jQ,xQ];omega
  clear Z V3 P hp G N3 W;go_wp2_with fail
  go_region_with (first|(go_at_call 168;refine(HX.o _ (I.drewN _ _ 1)).mono ?_;rintro e l (⟨u,p,rfl,Y⟩|⟨c,x,rfl,ap,Y⟩);exact⟨rfl,Y.o⟩)|(go_at_call 54;refine(HY.o _ _ _ (Hid.o Y)).mono ?_;rintro e a5 ⟨rfl,H5⟩))
  all_goals go_wp2_with fail
  all_goals go_ret
  all_goals exact H5.o
theorem F3b(G:LOk L)(w:lZ)(q:Nat->Prop)(d:Nat)(s:St)(n v A:Nat)(i:List bZ)(M:w.heap[A]? =some (.cells #[pV a] 82 (0,0)))(hn:Nms w n v i)(hl:i.length<=1001)(af:n<=w.heap.size)(a9:∀g,w.heap.size<=g->q g)(hB:B<=w.heap.size)(h:Pst w B a b L q d s):
 Calls prog 230 #[pV A,pV v] w (S3a w B a b L q d s n v (λr=>part L r d s i .par)):=by
 have hi:=h.at';have hs:=G.short;have am:=h.few;have ag:=(ltG M);have R:Hid (∀j,I No w j->j.heap[A]? =some (.cells #[pV a] 82 (0,0))):=λj l=>(l.block A ag (λx=>x)).trans M;have ab:w.cell? (J A 0)=some (pV a):=cr M rfl;have HA:Hid (∀j,I No w j->Calls prog 91 #[pV a] j λe z=>e= .returned (U ((tk L s.i).at':Int))/\Hid (I No w z)/\z.cell? (J A 0)=some (pV a)):=λj l=>(U9a G (h.still l)).mono (by
  rintro e z ⟨W,H⟩;have a6:=l.trans H (λ_ _ x=>x);exact⟨W,a6,cr (R.o z a6) rfl⟩)
 have V:Hid (∀o,Ev L (λr=>A3 (newNameQ L s i) λt f=>A3 (typeIfQ L r d t) λE x=>A3 (addN E (Nd.mk 16 0 0 0 [] f 0 x ((tk L s.i).at':Int))) λc y=>some (.ok c (y,i++[f]))) o->Ev L (λr=>part L r d s i .par) o):=λo Z=>Z;have HN:Hid (∀j,I No w j->Calls prog 178 #[pV a,pV v] j λe z=>
  (∃u p,e=gu u p/\Hid (S3a w B a b L q d s n v (λr=>part L r d s i .par) (gu u p) z))\/
  (∃t f,e= .returned (.string ⟨f.toArray⟩)/\Hid (newNameQ L s i=some (.ok t f))/\KeptS B q n j z/\Nms z n v (i++[f])/\Pst z B a b L q d t)):=by
  intro j l;refine(K1a G (h.still l) n v i (hn.chg l (λ_ _ _ _ x=>x.elim)) hl (kQ af l.size)).mono ?_;rintro e z ⟨hk,C⟩;rcases m:newNameQ L s i with _|⟨t,f⟩|⟨u,p⟩
  · rw[m]at C;exact C.elim
  · rw[m]at C;exact .inr ⟨t,f,C.1,O rfl,hk,C.2.1,C.2.2⟩
  · rw[m]at C;have ad:u≠0:=by
     unfold newNameQ fltQ at m;split at m
     · split at m
       · simp at m;omega
       · simp at m
     · simp at m;omega
    exact .inl ⟨u,p,C,KeptS.after (C7 l) hk,_,V.o _ (Ev.bad (Ev.pure.eq (λr=>m))),rfl,ad⟩
 clear h hn M;generalize ((tk L s.i).at':Int)=D at *;go_enter func230,ntmps230;go_wp2_with fail
 go_region_with (first|(go_at_call 91;refine(HA.o _ (I.drewN _ _ 1)).mono ?_;rintro e aj ⟨rfl,H,ac⟩)|(go_at_call 178;refine(HN.o _ (Hid.o (by assumption))).mono ?_;rintro e a3 (⟨u,p,rfl,HF⟩|⟨t,f,rfl,m,Y,a8,a2⟩);exact⟨rfl,HF.o⟩))
 all_goals
  have F:=O (KeptS.after (C7 (Hid.o H)) Y);have P:=O (K5a Y (R.o aj (Hid.o H)) (by decide));have ak:a3.cell? (J A 0)=some (pV a):=cr P.o rfl;have N3:=O a8;have T:=O (λo (Z:Ev L (λr=>A3 (typeIfQ L r d t) λE x=>A3 (addN E (Nd.mk 16 0 0 0 [] f 0 x D)) λc y=>some (.ok c (y,i++[f]))) o)=>V.o o (Ev.bind (k:=λr t f=>A3 (typeIfQ L r d t) λE x=>A3 (addN E (Nd.mk 16 0 0 0 [] f 0 x D)) λc y=>some (.ok c (y,i++[f]))) (Ev.pure.eq (λr=>Hid.o m)) Z));have ai:t=s.nx:=newName_ok (Hid.o m);have a5:=O a2;have an:=a2.at';clear Y a2 a8 H ab ac HA HN V R;have HX:Hid (∀j,I No a3 j->Calls prog 167 #[pV a] j λe k=>
   (∃u p,e=gu u p/\Hid (S3a w B a b L q d s n v (λr=>part L r d s i .par) (gu u p) k))\/
   (∃c x,e= .returned (U x)/\k.cell? (J A 0)=some (pV a)/\Hid (KeptS B q n w k/\Nms k n v (i++[f])/\Pst k B a b L q d c/\J9 t c/\Ev L (λr=>part L r d s i .par) (.ok ⟨c.i,c.N++[(Nd.mk 16 0 0 0 [] f 0 x D)],c.T⟩ ((c.N.length:Int),i++[f]))))):=by
   intro j l;refine(F6a G (a5.o.still l) (λg X=>a9 g (kQ F.o.size (kQ l.size X))) (kQ hB (kQ F.o.size l.size))).mono ?_;rintro e k ⟨K,o,a7,aa⟩;have N:Kept B q a3 k:=(C7 l).trans K;cases o with
   |fail u p=>
    obtain⟨rfl,W⟩:=aa;exact .inl ⟨u,p,rfl,F.o.andThen N,_,T.o _ (Ev.bad a7),rfl,W⟩
   |ok c x=>
    obtain⟨rfl,ah,ae⟩:=aa;refine .inr ⟨c,x,rfl,by rw[cell_of_row k A 0 _ _ _ (B0a N P.o (by decide))];rfl,F.o.andThen N,N3.o.kept N,ah,ae,T.o _ (Ev.bind (k:=λr E x=>A3 (addN E (Nd.mk 16 0 0 0 [] f 0 x D)) λc y=>some (.ok c (y,i++[f]))) a7 (Ev.pure.eq (λr=>rfl)))⟩
  have HY:Hid (∀k c x,KeptS B q n w k/\Nms k n v (i++[f])/\Pst k B a b L q d c/\J9 t c/\Ev L (λr=>part L r d s i .par) (.ok ⟨c.i,c.N++[(Nd.mk 16 0 0 0 [] f 0 x D)],c.T⟩ ((c.N.length:Int),i++[f]))->Calls prog 94 #[pV a,.agg #[U 16,U 0,U 0,U 0,sN,.string ⟨f.toArray⟩,U 0,U x,U D]] k λe a4=>
   e= .returned (U (c.N.length:Int))/\Hid (S3a w B a b L q d s n v (λr=>part L r d s i .par) (.returned (U (c.N.length:Int))) a4)):=by
   rintro k c x ⟨K,n4,p4,g4,e4⟩;have g5:_/\_/\_/\_:=g4;rw[ai]at g5;simp only[St.nx]at g5;refine(T6 G p4 (Nd.mk 16 0 0 0 [] f 0 x D) none 0 0 ⟨_,rfl,kW _ _ _ _,by simp[Value.ownBlock]⟩ (by omega) (kQ hB K.size) (λg X=>a9 g (kQ K.size X))).mono ?_;rintro e a4 ⟨rfl,k5,p5⟩;refine⟨rfl,K.andThen k5,_,e4,rfl,n4.kept k5,p5, ?_⟩;simp only[F6,qQ,jQ,xQ];omega
  clear T a5 F N3 P;go_wp2_with fail
  go_region_with (first|(go_at_call 167;refine(HX.o _ (I.drewN _ _ 1)).mono ?_;rintro e k (⟨u,p,rfl,S⟩|⟨c,x,rfl,al,S⟩);exact⟨rfl,S.o⟩)|(go_at_call 94;refine(HY.o _ _ _ (Hid.o S)).mono ?_;rintro e a4 ⟨rfl,H5⟩))
  all_goals go_wp2_with fail
  all_goals go_ret
  all_goals exact H5.o
end
section
variable{w:lZ}{B a:Nat}{b:Value}{L:List Tk}{ok:Nat->Prop}{d:Nat}{s:St}
theorem KeptS.mono{ok ok':Nat->Prop}{f:Nat}{c e:lZ}(h:KeptS B ok f c e)(i:∀g,ok g->ok' g):KeptS B ok' f c e:=
 I.mono h λ_ _ x=>x.elim (λx=> .inl ⟨x.1,x.2.1,i _ x.2.2⟩) .inr
theorem KeptS.trans{ok:Nat->Prop}{m:Nat}{o p c:lZ}(h:KeptS B ok m o p)(k:KeptS B ok m p c):KeptS B ok m o c:=by
 refine⟨k.os.trans h.os,k.tape.trans h.tape,k.output.trans h.output,kQ h.size k.size,λi q t=> ?_⟩;have j:=h.block i q t;refine(k.block i (yQ q h.size) (λx=>t ?_)).trans j;rcases x with ⟨n,⟨f,e,g,l,r⟩,u⟩|⟨n,f,e,g,l,r⟩
 · exact .inl ⟨n,⟨f,e,g,by rw[<-j];exact l,r⟩,u⟩
 · exact .inr ⟨n,f,e,g,by rw[<-j];exact l,r⟩
theorem KeptS.grown{ok:Nat->Prop}{f:Nat}{c w g:lZ}{m n:Nat}{e:TypeId}{v:Value}{o:List Value}(j:KeptS B ok f c w)(k:w.ownsRow c.heap.size e m v n o)(h:w.grownBy g v.ownBlock):KeptS B ok f c g:=
 I.trans j (I.grown h) (λi p l=>by have:=(A9 k i l.symm).1;omega)
theorem KeptS.alloc{ok:Nat->Prop}{f:Nat}{c e:lZ}(h:KeptS B ok f c e)(o:Obj):KeptS B ok f c (e.alloc o):=h.andThen ((Kept.refl _ _ _).alloc o)
theorem Y1c{p:V4a}{r:Sp}{d:Nat}{s f:St}{c:List bZ}{x:Int×List bZ}(e:p= .obj\/p= .par)(h:part L r d s c p=some (.ok f x)):x.2.length=c.length+1:=by
 rcases e with rfl|rfl;all_goals
  simp only[part,A3]at h;repeat' split at h
  all_goals first
   |(simp only[zQ,Out.ok.injEq]at h;obtain⟨_,rfl⟩:=h;simp)
   |simp at h
theorem part_len'{p:V4a}{d:Nat}{s i:St}{c:List bZ}{x:Int×List bZ}(g:p= .obj\/p= .par)(h:Ev L (λr=>part L r d s c p) (.ok i x)):x.2.length=c.length+1:=by
 obtain⟨f,e⟩:=h;exact Y1c g (e f (vQ _))
def M2c(s c:St):Prop:=s.i<c.i/\c.N.length+s.i+1<=s.N.length+c.i/\c.T.length+s.i<=s.T.length+c.i/\s.N.length<=c.N.length
def L8d(w:lZ)(B a:Nat)(b:Value)(L:List Tk)(ok:Nat->Prop)(d:Nat)(s:St)(j:Nat)(k:Sp->Option (Out uZ))(e:Ending)(g:lZ):Prop:=
 KeptS B ok j w g/\∃o,Ev L k o/\match o with
  | .ok f l=>∃h c,e= .returned (.slice h l.length c)/\g.ownsRow w.heap.size 3 1 (.slice h l.length c) l.length (C8 l)/\l.length<=f.i/\Pst g B a b L ok d f/\M2c s f
  | .fail i p=>e=gu i p/\i≠0
theorem N9a{e:Nat}{g:Sp->Option (Out uZ)}{f:lZ}{c p:Int}(j:KeptS B ok e w f)(i:Ev L g (.fail c p))(h:c≠0):L8d w B a b L ok d s e g (gu c p) f:=⟨j,_,i,rfl,h⟩
theorem X5c{h:Nat}{i:Sp->Option (Out uZ)}{f:lZ}{e:St}{l:uZ}{g:Option Addr}{c:Nat}(m:KeptS B ok h w f)(j:Ev L i (.ok e l))(o:f.ownsRow w.heap.size 3 1 (.slice g l.length c) l.length (C8 l))(n:l.length<=e.i)(p:Pst f B a b L ok d e)(k:M2c s e):
 L8d w B a b L ok d s h i (.returned (.slice g l.length c)) f:=⟨m,_,j,_,_,rfl,o,n,p,k⟩
def ConP(B a:Nat)(b:Value)(L:List Tk)(K:Nat)(p:V4a)(m:Nat):Prop:=
 ∀(w:lZ) (ok:Nat->Prop) (d:Nat) (s:St) (c f h:Nat) (e:List bZ),w.heap[h]? =some (.cells #[pV a] 82 (0,0))->Nms w c f e->e.length<=1001->c<=w.heap.size->L.length - s.i<=m->(∀g,w.heap.size<=g->ok g)->B<=w.heap.size->Pst w B a b L ok d s->
  Calls prog K #[pV h,pV f] w (S3a w B a b L ok d s c f (λr=>part L r d s e p))
def bxv(w:lZ)(c a:Nat):Prop:=w.heap[c]? =some (.cells #[pV a] 82 (0,0))
theorem bxv.keptS{ok:Nat->Prop}{g c:Nat}{w e:lZ}(h:bxv w c a)(f:KeptS B ok g w e):bxv e c a:=K5a f h (by decide)
theorem bxv.chg{c:Nat}{S:Nat->Prop}{w e:lZ}(h:bxv w c a)(f:I S w e)(g:¬S c):bxv e c a:=(f.block c (ltG h) g).trans h
theorem bxv.grown{w f:lZ}{c g l n:Nat}{v:Value}{m:List Value}(h:bxv w c a)(j:w.ownsRow g 3 l v n m)(i:w.grownBy f v.ownBlock):bxv f c a:=by
 refine h.chg (I.grown i) (λk=> ?_);obtain⟨_,o,e⟩:=A9 j c k.symm;rw[show w.heap[c]? =_ from h]at e;simp only[zQ,xW]at e;exact absurd e.2.1 (by decide)
theorem Nms.grown{w j:lZ}{f i l r n:Nat}{g:List bZ}{v:Value}{t:List Value}(h:Nms w f i g)(p:w.ownsRow l 3 r v n t)(m:w.grownBy j v.ownBlock):Nms j f i g:=by
 refine h.chg (I.grown m) (λk u e o q=> ?_);obtain⟨_,x,c⟩:=A9 p k q.symm;rw[o]at c;simp only[zQ,xW]at c;obtain⟨_,rfl,_⟩:=c;exact⟨by decide,by decide⟩
theorem Nms.alloc{w:lZ}{c f:Nat}{e:List bZ}(h:Nms w c f e)(o:Obj):Nms (w.alloc o) c f e:=h.chg (I.alloc No _ o) (λ_ _ _ _ x=>x.elim)
theorem bxv.alloc{w:lZ}{c:Nat}(h:bxv w c a)(o:Obj):bxv (w.alloc o) c a:=h.chg (I.alloc No _ o) (λx=>x)
theorem Q8a(kf:Nat)(cf:∀(ak:Array Value) (aj:lZ),(callFunc kf ak).run prog aj= .ok (.enter kf ak) aj){t:V4a}(ap:t= .obj\/t= .par)(hL:LOk L)(aq:Nat)(hC:∀m',m'<=aq->ConP B a b L kf t m')(E:bZ)(M nb bx:Nat)(al:bxv w bx a)(hn:Nms w M nb [])(am:M<=w.heap.size)(hm:L.length - s.i<=aq)(ao:∀g,w.heap.size<=g->ok g)(hB:B<=w.heap.size)(h:Pst w B a b L ok d s):
 Calls prog 179 #[pV a,.string ⟨E.toArray⟩,.func (.func kf) #[] #[pV bx,pV nb]] w (L8d w B a b L ok d s M (λr=>r.list t E d s [] [])):=by
 have hs:=hL.short;have hi:=h.at';have HP:=O h;have HX:=O al;have HN:=O hn;clear h al hn;go_enter func179,ntmps179;go_wp2_with fail
 go_loopw [7] (λaz wr=>∃(n:List bZ) (e:uZ) (i:St) (C:Option Addr) (c:Nat),az= .slice C e.length c/\e.length<=i.i/\Hid (n.length=e.length)/\Hid (Nms wr M nb n)/\Hid (bxv wr bx a)/\Hid (KeptS B ok M w wr)/\Hid (J9 s i)/\Hid (wr.ownsRow w.heap.size 3 1 (.slice C e.length c) e.length (C8 e))/\
  Hid (Pst wr B a b L (λg=>ok g/\some g≠Value.ownBlock (.slice C e.length c)) d i)/\Hid (∀o,Ev L (λr=>r.list t E d i n e) o->Ev L (λr=>r.list t E d s [] []) o)) (λ_ wr=>L.length - nxt wr a)
 case atStart=>exact⟨[],[],s,none,0,rfl,by simp,rfl,HN.o,HX.o,(Kept.refl _ _ _).toS,⟨vQ _,by omega,by omega,by omega⟩,kW _ _ _ _,HP.o.mono (λg l _=>⟨l,by simp[Value.ownBlock]⟩),λ_ h=>h⟩
 case round=>
  obtain⟨n,e,i,C,c,rfl,ar,W,NR,XR,KR,S,OR,PR,v⟩:=hrel;have HT:=G8 hL PR.o E;have b2:=PR.o.at';have an:=PR.o.nxt;generalize hq:isM L i.i [E]=ax at *;have R:=O hq;clear hq;go_wp2_with fail
  refine HT.mono ?_;clear HT;rintro aa ag ⟨rfl,f,q⟩;have A:=O (KR.o.andThen (f.mono λ_ h=>h.1));have N3:=O (NR.o.kept f);have X3:=O (XR.o.keptS (f.toS (lo:=0)));have a9:=O q;have H:=O (G0 OR.o f (by decide));clear f q OR PR KR NR XR;cases ax
  · have m:Pst ag B a b L (λg=>ok g/\some g≠Value.ownBlock (.slice C e.length c)) d i:=by simpa using a9.o
    clear a9;by_cases hz:e.length=0
    · have T:Hid ((if e.length=0 then some (.ok i ()) else needQ L i [44])=some (Out.ok i ())):=by show _=_;rw[rY hz]
      have ha:e=[]:=iY hz;subst ha;simp only[xQ]at H m ar W⊢;clear hz;have hj:s.i<=i.i:=S.o.1;have V:=hC (L.length - i.i) (by first|(simp only[St.nx];omega)|omega) ag _ d i M nb bx n X3.o N3.o (by have h0:n.length=0:=W.o;omega) (kQ am A.o.size) (vQ _) (λg l=>⟨ao g (kQ A.o.size l),λhx=>by have:=(H.o.lt g hx.symm).2;omega⟩) (kQ hB A.o.size) m;clear m;go_wp2_with fail
      refine V.mono ?_;clear V;rintro aa ah ⟨f,o,a3,a5⟩;have u:=O (A.o.trans (f.mono λ_ h=>h.1));have X4:=O (X3.o.keptS f);have j:=O (O3a H.o f (by decide));have D:=O a3;clear f a3 A H X3 N3;cases o with
      |fail er aw=>
       obtain⟨rfl,he⟩:=a5;exact⟨rfl,N9a u.o (v.o _ (Z7 R.o T.o (Ev.bad D.o))) he⟩
      |ok N ai=>
       obtain⟨rfl,a4,q,l⟩:=a5;have X:=O (part_len' ap D.o);obtain⟨y,z⟩:=ai;have G:=O a4;clear a4;simp only at G X;have Y:=O q;have F:=O l;have au:=q.at';clear q l;have VN:=O (λo (ho:Ev L (λr=>r.list t E d N z ([]++[y])) o)=>v.o o (Z7 R.o T.o (Ev.bind (k:=λr s a8=>r.list t E d s a8.2 ([]++[a8.1])) D.o ho)));clear v;obtain⟨i0,ab,ac,ae,af⟩:=info_parts Tryz.infoInt;have a7:=O (j.o.alloc (.cells #[U y] 3));have av:0+1<=N.i:=by
        have k:=F.o.1;first|(simp only[St.nx]at k;omega)|omega
       go_wp2_with (at_builtin;refine wpList_append_own_at _ rfl _ _ 43 rfl w.heap.size 3 i0 (U 0) 1 8 underlying43 ab ac ae af rfl (by decide) _ _ _ rfl a7.o (J ah.heap.size 0) 1 1 [U y] rfl rfl ?c1 ?c2 ?c3 ?c4 ?c5 ?_)
       case c1=>exact cell_one_new _ _ _
       case c2=>intro ay hu;simp at hu;rcases hu with rfl;rfl
       case c3=>simp only[maxLen];omega
       case c4=>omega
       case c5=>have:=u.o.size;simp;omega
       · intro v' b0 x p _ K;obtain⟨a2,c2,a6⟩:=B9 x;rw[a6]at x K⊢;have Z:=O ((Y.o.alloc (.cells #[U y] 3)).grown (v:= .slice C 0 c) (v':= .slice a2 (0+1) c2) (j.o.alloc _) (.inl rfl) p (by simpa using K));have KG:=O ((u.o.alloc (.cells #[U y] 3)).grown (j.o.alloc _) p);have NG:=O ((G.o.alloc (.cells #[U y] 3)).grown (j.o.alloc _) p);have XG:=O ((X4.o.alloc (.cells #[U y] 3)).grown (j.o.alloc _) p);have OG:=O x;clear x p K a7 Y j u a6 G X4;go_wp2_with fail
         go_roundw
         case rel=>
          have h1:=S.o;have k:=F.o;simp only[F6,J9]at h1 k;refine⟨z,[y],N,a2,c2,by simp,by simp;omega,(by have h3:z.length=n.length+1:=X.o;have h4:n.length=0:=W.o;show z.length=1;omega),NG.o,XG.o,KG.o,⟨by omega,by omega,by omega,by omega⟩, ?_, ?_,VN.o⟩
          · have:=OG.o;show World.ownsRow _ _ _ _ _ _ _;simpa[C8]using this
          · have:=Z.o;show Pst _ _ _ _ _ _ _ _;simpa using this
         case measure=>
          have k:=F.o;have h3:=Z.o.nxt;simp only[F6]at k;rw[h3,an];omega
    · have b4:(0:Int)<(e.length:Int):=by omega
      have HN:=J0 hL m [44];go_wp2_with fail
      refine HN.mono ?_;clear HN;rintro aa b1 ⟨f,hr⟩;have P:=O (A.o.andThen (f.mono λ_ h=>h.1));have N6:=O (N3.o.kept f);have X6:=O (X3.o.keptS (f.toS (lo:=0)));have O6:=O (G0 H.o f (by decide));clear f A H m N3 X3;rcases hr with ⟨hb,rfl,m⟩|⟨hb,rfl⟩
      · have b3:=m.at';have T:Hid ((if e.length=0 then some (.ok i ()) else needQ L i [44])=some (Out.ok i.nx ())):=by show _=_;rw[yY hz,needQ,hb];rfl
        clear hb;have hj:s.i<=i.i:=S.o.1;have V:=hC (L.length - i.nx.i) (by first|(simp only[St.nx];omega)|omega) b1 _ d i.nx M nb bx n X6.o N6.o (by have h0:n.length=e.length:=W.o;omega) (kQ am P.o.size) (vQ _) (λg l=>⟨ao g (kQ P.o.size l),λhx=>by have:=(O6.o.lt g hx.symm).2;omega⟩) (kQ hB P.o.size) m;clear m;go_wp2_with fail
        refine V.mono ?_;clear V;rintro aa ah ⟨f,o,a3,a5⟩;have u:=O (P.o.trans (f.mono λ_ h=>h.1));have X4:=O (X6.o.keptS f);have j:=O (O3a O6.o f (by decide));have D:=O a3;clear f a3 P O6 X6 N6;cases o with
        |fail er aw=>
         obtain⟨rfl,he⟩:=a5;exact⟨rfl,N9a u.o (v.o _ (Z7 R.o T.o (Ev.bad D.o))) he⟩
        |ok N ai=>
         obtain⟨rfl,a4,q,l⟩:=a5;have X:=O (part_len' ap D.o);obtain⟨y,z⟩:=ai;have G:=O a4;clear a4;simp only at G X;have Y:=O q;have F:=O l;have au:=q.at';clear q l;have VN:=O (λo (ho:Ev L (λr=>r.list t E d N z (e++[y])) o)=>v.o o (Z7 R.o T.o (Ev.bind (k:=λr s a8=>r.list t E d s a8.2 (e++[a8.1])) D.o ho)));clear v;obtain⟨i0,ab,ac,ae,af⟩:=info_parts Tryz.infoInt;have a7:=O (j.o.alloc (.cells #[U y] 3));have av:e.length+1<=N.i:=by
          have k:=F.o.1;first|(simp only[St.nx]at k;omega)|omega
         go_wp2_with (at_builtin;refine wpList_append_own_at _ rfl _ _ 43 rfl w.heap.size 3 i0 (U 0) 1 8 underlying43 ab ac ae af rfl (by decide) _ _ _ rfl a7.o (J ah.heap.size 0) 1 1 [U y] rfl rfl ?c1 ?c2 ?c3 ?c4 ?c5 ?_)
         case c1=>exact cell_one_new _ _ _
         case c2=>intro ay hu;simp at hu;rcases hu with rfl;rfl
         case c3=>simp only[maxLen];omega
         case c4=>omega
         case c5=>have:=u.o.size;simp;omega
         · intro v' b0 x p _ K;obtain⟨a2,c2,a6⟩:=B9 x;rw[a6]at x K⊢;have Z:=O ((Y.o.alloc (.cells #[U y] 3)).grown (v:= .slice C e.length c) (v':= .slice a2 (e.length+1) c2) (j.o.alloc _) (.inl rfl) p (by simpa using K));have KG:=O ((u.o.alloc (.cells #[U y] 3)).grown (j.o.alloc _) p);have NG:=O ((G.o.alloc (.cells #[U y] 3)).grown (j.o.alloc _) p);have XG:=O ((X4.o.alloc (.cells #[U y] 3)).grown (j.o.alloc _) p);have OG:=O x;clear x p K a7 Y j u a6 G X4;go_wp2_with fail
           go_roundw
           case rel=>
            have h1:=S.o;have k:=F.o;simp only[F6,J9,St.nx]at h1 k;refine⟨z,e++[y],N,a2,c2,by simp,by simp;omega,(by have h3:z.length=n.length+1:=X.o;have h4:n.length=e.length:=W.o;show z.length=(e++[y]).length;rw[qQ];show _=e.length+1;omega),NG.o,XG.o,KG.o,⟨by omega,by omega,by omega,by omega⟩, ?_, ?_,VN.o⟩
            · have:=OG.o;show World.ownsRow _ _ _ _ _ _ _;rw[T7];simpa using this
            · have:=Z.o;show Pst _ _ _ _ _ _ _ _;simpa using this
           case measure=>
            have k:=F.o;have h3:=Z.o.nxt;simp only[F6,St.nx]at k;rw[h3,an];omega
      · exact⟨rfl,N9a P.o (v.o _ (W4a R.o (by rw[yY hz,needQ,hb];rfl))) (by decide)⟩
  · have m:Pst ag B a b L (λg=>ok g/\some g≠Value.ownBlock (.slice C e.length c)) d i.nx:=by simpa using a9.o
    have PY:=O (m.mono (ok':=ok) (λg l _=>l.1));have EV:=O (v.o _ (W3a R.o));have GX:=O (show M2c s i.nx by
     have k:=S.o;simp only[M2c,J9,St.nx]at k⊢
     omega)
    clear v a9 m;go_wp2_with fail
    go_ret;exact X5c A.o EV.o H.o (by simp only[St.nx];omega) PY.o GX.o
end
section
variable{B a:Nat}{b:Value}{L:List Tk}
theorem heap_alloc_old(w:lZ)(o:Obj){k:Nat}(c:k<w.heap.size):(w.alloc o).heap[k]? =w.heap[k]? :=Below.heap_alloc _ _ _ c
theorem S5b(k:LOk L)(m:Nat)(hE:∀p,p<=m->ConN B a b L 168 (λd s r=>r.expr d s) p):V9d B a b L 227 Y9c m:=by
 intro c w q d s R i j h;have ad:=h.at';have hs:=k.short;have ab:=h.few;have K:=O (((Kept.refl B q w).alloc (.cells #[pV a] 82)).alloc (.cells #[sN] 122));have P:=O ((h.alloc (.cells #[pV a] 82)).alloc (.cells #[sN] 122));have t:Hid (bxv ((w.alloc (.cells #[pV a] 82)).alloc (.cells #[sN] 122)) w.heap.size a):=bxv.alloc (qY w _) _;have E:Hid (Nms ((w.alloc (.cells #[pV a] 82)).alloc (.cells #[sN] 122)) w.heap.size (w.heap.size+1) []):=by
  refine⟨by omega,none,0, ?_,kW _ _ _ _⟩;have:=qY (w.alloc (.cells #[pV a] 82)) (.cells #[sN] 122);simpa using this
 have V:Hid (∀o,Ev L (λr=>A3 (r.list .obj [125] d s [] []) λx l=>addN x (Nd.mk 10 0 0 0 l [] 0 (-1) c)) o->Ev L (λr=>Y9c c d s r) o):=λo n=>n;have z:=O (Q8a (ok:=q) 231 (λ_ _=>by go_simp) (.inl rfl) k (L.length - s.i) (λp af w q d s lo nb bx a7 a3 hn N a4 R i j h=>S6b k p (λa6 aa=>hE a6 (by omega)) w q d s lo nb bx a7 a3 hn N a4 R i j h) [125] w.heap.size (w.heap.size+1) w.heap.size t.o E.o (by simp;omega) (vQ _) (λg e=>i g (kQ K.o.size e)) (kQ j K.o.size) P.o);clear h P E;generalize H:(λ(r:Sp)=>Y9c c d s r)=Y at V;have A:Hid (Y9c c d s=Y):=H;clear H;rw[A.o];clear A;go_enter func227,ntmps227;go_wp2_with fail
 refine z.o.mono ?_;rintro a2 a8 ⟨u,o,M,S⟩;have D:=O (K.o.transS u);have G:=O (t.o.keptS u);have y:=O M;have hz:=K.o.size;clear u M z K t;have K:=O D.o;clear D;cases o with
 |fail er ag=>
  obtain⟨rfl,he⟩:=S;exact⟨rfl,D5 K.o (V.o _ (Ev.bad y.o)) he⟩
 |ok f l=>
  obtain⟨la,lc,rfl,n,N,v,e⟩:=S;have ac:_/\_/\_/\_:=e;have P:=O v;have F:=O n;have ae:=v.at';have a9:a8.cell? (J w.heap.size 0)=some (pV a):=cr G.o rfl;clear v n e G;have C:=O (O8 k P.o (Nd.mk 10 0 0 0 l [] 0 (-1) c) 0 la l.length lc ⟨_,rfl,C9 F.o (wQ _),λg e=>i g (by have:=(A9 F.o g e).1;omega)⟩ rfl (by omega) (kQ j K.o.size) (λg e=>i g (kQ K.o.size e)));have X:=O (V.o _ (Ev.bind (k:=λr x l=>addN x (Nd.mk 10 0 0 0 l [] 0 (-1) c)) y.o Ev.pure));have Z:=O (show F6 s ⟨f.i,f.N++[Nd.mk 10 0 0 0 l [] 0 (-1) c],f.T⟩ by
   simp only[F6,qQ,jQ,xQ]
   omega)
  have a5:(0:Int)<=(f.N.length:Int)/\(f.N.length:Int)<((f.N++[Nd.mk 10 0 0 0 l [] 0 (-1) c]).length:Int):=by simp;omega
  clear P V;go_wp2_with fail
  refine C.o.mono ?_;rintro a2 ah ⟨rfl,T,W⟩;have K9:=O (K.o.trans T);have P9:=O W;clear T W C;go_wp2_with fail
  go_ret;exact F9 K9.o X.o P9.o Z.o a5
theorem M6b(z:LOk L)(a3:Nat)(hK:∀S,S<=a3->ConN B a b L 170 (λd s r=>r.block d s) S):V9d B a b L 226 (fnS L) a3:=by
 intro n w C d s hm v y h;have al:=h.at';have hs:=z.short;have ai:=h.few;have K:=O ((Kept.refl B C w).alloc (.cells #[pV a] 82));have P:=O (h.alloc (.cells #[pV a] 82));have W:Hid (bxv (w.alloc (.cells #[pV a] 82)) w.heap.size a):=qY w _;have V:Hid (∀o,Ev L (λr=>A3 (needQ L s [40]) λs1 (_:Unit)=>A3 (r.list .par [41] d s1 [] []) λG l=>A3 (typeIfQ L r d G) λu t=>A3 (r.block d u) λT x=>addN T (Nd.mk 6 x 0 0 l [] 0 t n)) o->Ev L (λr=>fnS L n d s r) o):=λo F=>F;have k:=O (J0 z P.o [40]);clear h P;generalize a2:(λ(r:Sp)=>fnS L n d s r)=FF at V;have X:Hid (fnS L n d s=FF):=a2;clear a2;rw[X.o];clear X;go_enter func226,ntmps226;go_wp2_with fail
 refine k.o.mono ?_;rintro e D ⟨f,hr⟩;have j:=O (K.o.trans f);have H:=O (W.o.keptS (f.toS (lo:=0)));have aq:w.heap.size<D.heap.size:=by have:=f.size;simp at this;omega
 clear f k K W;have K:=O j.o;clear j;rcases hr with ⟨E,rfl,i⟩|⟨E,rfl⟩
 case inr=>exact⟨rfl,D5 K.o (V.o _ (Ev.bad (U0 E))) (by decide)⟩
 replace V:=O (Ev.vb V.o (Q7 E));clear E;have ab:=i.at';simp only[St.nx]at ab;have j:=O (K.o.alloc (.cells #[sN] 122));have P:=O (i.alloc (.cells #[sN] 122));have M:=O (H.o.alloc (.cells #[sN] 122));have a6:D.cell? (J w.heap.size 0)=some (pV a):=cr H.o rfl;have Z:Hid (Nms (D.alloc (.cells #[sN] 122)) w.heap.size D.heap.size []):=⟨by omega,none,0,qY _ _,kW _ _ _ _⟩;clear i K H;have K:=O j.o;clear j;have k:=O (Q8a (ok:=C) 230 (λ_ _=>by go_simp) (.inr rfl) z (L.length - s.nx.i) (λS ap w C d s lo nb bx ae a9 hn hl ac hm v y h=>F3b z w C d s lo nb bx ae a9 hn hl ac v y h) [41] w.heap.size D.heap.size w.heap.size M.o Z.o (by simp;omega) (vQ _) (λg c=>v g (kQ K.o.size c)) (kQ y K.o.size) P.o);clear P Z;go_wp2_with fail
 refine k.o.mono ?_;rintro e af ⟨f,o,p,q⟩;have j:=O (K.o.transS f);have N:=O (M.o.keptS f);have m:=O p;have hz:=K.o.size;clear f p k K M a6;have K:=O j.o;clear j;cases o with
 |fail er a4=>
  obtain⟨rfl,A⟩:=q;exact⟨rfl,D5 K.o (V.o _ (Ev.bad m.o)) A⟩
 |ok s1 l=>
  obtain⟨la,lc,rfl,F,hl,i,c⟩:=q;have aa:_/\_/\_/\_:=c;simp only[St.nx]at aa;have O1:=O F;have am:=i.at';have a7:af.cell? (J w.heap.size 0)=some (pV a):=cr N.o rfl;replace V:=O (Ev.vb V.o m.o);clear m;have k:=O (F6a z i (λg c=>v g (kQ K.o.size c)) (kQ y K.o.size));clear i F c;go_wp2_with fail
  refine k.o.mono ?_;rintro e a5 ⟨f,o,p,q⟩;have j:=O (K.o.trans f);have R:=O (N.o.keptS (f.toS (lo:=0)));have O4:=O (G0 O1.o f (by decide));have m:=O p;clear f p k K N O1 a7;have K:=O j.o;clear j;cases o with
  |fail er a4=>
   obtain⟨rfl,A⟩:=q;exact⟨rfl,D5 K.o (V.o _ (Ev.bad m.o)) A⟩
  |ok G t=>
   obtain⟨rfl,i,c⟩:=q;have aj:_/\_/\_/\_:=c;have an:=i.at';have a8:a5.cell? (J w.heap.size 0)=some (pV a):=cr R.o rfl;replace V:=O (Ev.vb V.o m.o);clear m;have k:=O (hK (L.length - G.i) (by omega) a5 C d G (vQ _) (λg c=>v g (kQ K.o.size c)) (kQ y K.o.size) i);clear i c;go_wp2_with fail
   refine k.o.mono ?_;rintro e ag ⟨f,o,p,q⟩;have j:=O (K.o.trans f);have X5:=O (R.o.keptS (f.toS (lo:=0)));have O5:=O (G0 O4.o f (by decide));have m:=O p;clear f p k K R O4 a8;have K:=O j.o;clear j;cases o with
   |fail er a4=>
    obtain⟨rfl,A⟩:=q;exact⟨rfl,D5 K.o (V.o _ (Ev.bad m.o)) A⟩
   |ok u x=>
    obtain⟨rfl,i,c,hx⟩:=q;have ak:_/\_/\_/\_:=c;have ao:=i.at';have ah:ag.cell? (J w.heap.size 0)=some (pV a):=cr X5.o rfl;have Y:=O (T6 z i (Nd.mk 6 x 0 0 l [] 0 t n) la l.length lc ⟨_,rfl,C9 O5.o (wQ _),λg c=>v g (by have:=(A9 O5.o g c).1;omega)⟩ (by omega) (kQ y K.o.size) (λg c=>v g (kQ K.o.size c)));have EV:=O (V.o _ (Ev.bind (k:=λr T x=>addN T (Nd.mk 6 x 0 0 l [] 0 t n)) m.o Ev.pure));have GX:=O (show F6 s ⟨u.i,u.N++[Nd.mk 6 x 0 0 l [] 0 t n],u.T⟩ by
     simp only[F6,qQ,jQ,xQ]
     omega)
    have ad:(0:Int)<=(u.N.length:Int)/\(u.N.length:Int)<((u.N++[Nd.mk 6 x 0 0 l [] 0 t n]).length:Int):=by simp;omega
    clear i c V;go_wp2_with fail
    refine Y.o.mono ?_;rintro e ar ⟨rfl,k9,p9⟩;have K9:=O (K.o.trans k9);have P9:=O p9;clear k9 p9 Y;go_wp2_with fail
    go_ret;exact F9 K9.o EV.o P9.o GX.o ad
def ConX(B a:Nat)(b:Value)(L:List Tk)(m:Nat):Prop:=
 ConN B a b L 216 (λd s r=>r.oper d s) m/\ConN B a b L 168 (λd s r=>r.expr d s) m/\
 ConN B a b L 170 (λd s r=>r.block d s) m/\ConN B a b L 53 (λd s r=>r.stmt d s) m
theorem U5d(f:LOk L)(t:NuL L):∀m,ConX B a b L m:=by
 intro m;induction m using Nat.strongRecOn with
 |ind m i=>
  have k:∀c,c<m->ConN B a b L 168 (λd s r=>r.expr d s) c:=λc h=>(i c h).2.1;have w:=Z9b f t m k (λc h=>M6b f c (λg j=>(i g (by omega)).2.2.1)) (λc h=>S5b f c (λg j=>k g (by omega)));have n:=S2b f m (λc h=>(i c h).1) w (λc h=>K0b f c (λg j=>k g (by omega)));have u:∀c,c<=m->ConN B a b L 216 (λd s r=>r.oper d s) c:=λc h=>if e:c=m then e ▸ n else (i c (by omega)).1
  have v:∀c,c<=m->_:=λc h=>R7b f c (λg j=>u g (by omega));have y:∀c,c<=m->_:=λc h=>N7d f c (λg j=>v g (by omega));have l:=C6b f m (D1b f m (λc h=>y c h));have q:∀c,c<=m->ConN B a b L 168 (λd s r=>r.expr d s) c:=λc h=>if e:c=m then e ▸ l else k c (by omega)
  have p:=S3c f m (λc h=>(i c h).2.2.2);have o:=V1a f (λd s z x h=>H7d d s z x h) m q (λc h=>(i c h).2.2.1);exact⟨n,l,p,E4b f m o⟩
end
