/-
  A part of the proof.
-/
import Derived.Test.YtneelacbkianjaaGreatDoorParseA
set_option maxHeartbeats 16000000
set_option maxRecDepth 100000
namespace Go.Proofs.YtneelacbkianjaaGreatDoor
open Go.Proofs.Tryz
open Go.RowKit
theorem Tryz.infoNd:(prog.info? 87).map (λi=>(i.zero,i.size,i.bytes))=some (some (.agg #[U 0,U 0,U 0,U 0,sN,.string ⟨#[]⟩,U 0,U 0,U 0]),9,96):=by kernel_rfl
section
variable{w:lZ}{B a:Nat}{c:Value}{L:List Tk}{b:Nat->Prop}{d:Nat}{s:St}
theorem PstL.pushN{w w1 w2:lZ}{B a:Nat}{c:Value}{L:List Tk}{b:Nat->Prop}{d:Nat}{s:St}{o:Value}{C H:List Value}{j:Option Addr}{l g cap:Nat}{t:Nd}{Z:Value}(S:B<=a)(a4:s.i<L.length)(a7:s.T.length<=s.i)(hf:s.N.length+1<=s.i+1)
 (X:w.ownsRow 0 116 3 c L.length (F9a L)) (m:w.heap[a]? =some (.cells #[c,U (s.i:Int),U (d:Int),.slice j s.N.length l,o] 84 (0,0)))
 (z:w.ownsRow B 87 9 (.slice j s.N.length l) s.N.length C) (Y:w.ownsRow B 76 4 o s.T.length H) (ac:Rws (NdV w b) s.N C) (ae:Rws (TyV w b) s.T H) (ht:NdV w b t [U t.kind,U t.a,U t.b,U t.c,Z,.string ⟨t.text.toArray⟩,U t.n,U t.ty,U t.at']) (A:b a/\(∀g,Value.ownBlock (.slice j s.N.length l)=some g->b g)/\(∀g,o.ownBlock=some g->b g)) (a9:b g)
 (r:I No w w1) (R:w1.grownBy w2 (Value.ownBlock (.slice j s.N.length l))) (W:w2.ownsRow B 87 9 (.slice (some (J g 0)) (s.N.length+1) cap) (s.N.length+1) (C++[U t.kind,U t.a,U t.b,U t.c,Z,.string ⟨t.text.toArray⟩,U t.n,U t.ty,U t.at'])):
 Kept B b w (w2.setCell (J a 3) (.slice (some (J g 0)) (s.N.length+1) cap))/\PstL (w2.setCell (J a 3) (.slice (some (J g 0)) (s.N.length+1) cap)) B a c L b d ⟨s.i,s.N++[t],s.T⟩:=by
 have T:=(ltG m);have N:w1.heap[a]? =w.heap[a]? :=r.block a T (λx=>x);have ag:w1.ownsRow B 87 9 (.slice j s.N.length l) s.N.length C:=A4 z r (λ_ _ x=>x);have ab:some a≠Value.ownBlock (.slice j s.N.length l):=by
  intro f;obtain⟨_,q,h⟩:=A9 ag a f.symm;rw[N,m]at h;simp only[zQ,xW]at h;exact absurd h.2.1 (by decide)
 have P:w2.heap[a]? =some (.cells #[c,U (s.i:Int),U (d:Int),.slice j s.N.length l,o] 84 (0,0)):=by rw[R.block a (yQ T r.size) ab,N,m]
 have a5:I (λk=>some k=Value.ownBlock (.slice j s.N.length l)) w w2:=(r.mono λ_ _ x=>x.elim).trans (I.grown R) (λ_ _ x=>x);have n:I (λk=>some k=Value.ownBlock (.slice j s.N.length l)\/k=a) w (w2.setCell (J a 3) (.slice (some (J g 0)) (s.N.length+1) cap)):=(a5.mono λ_ _ x=> .inl x).trans (I.set _ _ _) (λ_ _ x=> .inr x);have V:∀{K:Nat} {e:TypeId} {a3:Nat} {v:Value} {a2:Nat} {xs:List Value},w.ownsRow K e a3 v a2 xs->e≠84->e≠87->∀k,v.ownBlock=some k->¬(some k=Value.ownBlock (.slice j s.N.length l)\/k=a):=by
  intro K e a3 v a2 xs hw u a6 k y f;obtain⟨_,q,h⟩:=A9 hw k y;rcases f with f|rfl
  · obtain⟨_,D,i⟩:=A9 z k f.symm;rw[h]at i;simp only[zQ,xW]at i;exact a6 i.2.1
  · rw[m]at h;simp only[zQ,xW]at h;exact u h.2.1.symm
 have G:∀k,b k->k<w.heap.size->(some k=Value.ownBlock (.slice j s.N.length l)\/k=a)->(∃q e,w.heap[k]? =some (.cells q e (0,0))/\(e=131\/e=3))->False:=by
  rintro k _ _ f ⟨q,e,h,u⟩;rcases f with f|rfl
  · obtain⟨_,D,i⟩:=A9 z k f.symm;rw[h]at i;simp only[zQ,xW]at i;rcases u with rfl|rfl<;>exact absurd i.2.1 (by decide)
  · rw[m]at h;simp only[zQ,xW]at h;rcases u with rfl|rfl<;>exact absurd h.2.1 (by decide)
 have E:(w2.setCell (J a 3) (.slice (some (J g 0)) (s.N.length+1) cap)).heap[a]? =some (.cells #[c,U (s.i:Int),U (d:Int),.slice (some (J g 0)) (s.N.length+1) cap,o] 84 (0,0)):=by rw[heap_setCell_same w2 a 3 _ _ _ P];rfl
 refine⟨n.mono λk y f=> ?_,S,a4,⟨by simp;omega,a7⟩,A4 X n (V X (by decide) (by decide)),⟨A.1,λah M p F=> ?_,λah M p F=> ?_⟩,_,o,_,H,E, ?_,A4 Y n (V Y (by decide) (by decide)),(ac.imp (NdV.chg n G (λ_ x _=>x))).snoc (NdV.chg n G (λ_ x _=>x) _ _ ht),ae.imp (TyV.chg n G (λ_ x _=>x))⟩
 · rcases f with f|rfl
   · obtain⟨aa,D,i⟩:=A9 z k f.symm;exact⟨aa,⟨_,_,_,i,.inr (.inl rfl)⟩,A.2.1 _ f.symm⟩
   · exact⟨S,⟨_,_,_,m,.inl rfl⟩,A.1⟩
 · rw[cell_of_row _ a 3 _ _ _ E]at p;cases p;have a8:some g=some M:=F;cases a8;exact a9
 · rw[cell_of_row _ a 4 _ _ _ E]at p;cases p;exact A.2.2 _ F
 · have:=A4 W (I.set w2 (J a 3) (.slice (some (J g 0)) (s.N.length+1) cap)) (λk y f=>by
    have af:k=a:=f;subst af;obtain⟨_,D,i⟩:=A9 W k y;rw[P]at i;simp only[zQ,xW]at i;exact absurd i.2.1 (by decide))
   simpa using this
theorem N3a(Y : LOk L)(h : Pst w B a c L b d s)(t : Nd)(p : Option Addr)(r q : Nat)(R : NdV w b t [U t.kind, U t.a, U t.b, U t.c, .slice p r q, .string ⟨t.text.toArray⟩, U t.n, U t.ty, U t.at'])(hf : s.N.length + 1 <= s.i + 1)(hB : B <= w.heap.size)(a5 : ∀ g, w.heap.size <= g -> b g) :
    Calls prog 94 #[pV a,.agg #[U t.kind,U t.a,U t.b,U t.c,.slice p r q,.string ⟨t.text.toArray⟩,U t.n,U t.ty,U t.at']] w λe V=>e= .returned (U (s.N.length:Int))/\Kept B b w V/\PstL V B a c L b d ⟨s.i,s.N++[t],s.T⟩:=by
  obtain⟨a4,Z,a3,S,n,nv,yv,nx,yx,k,l,T,N,P⟩:=h
  obtain⟨i,j,rfl⟩:=B9 l
  have hs:=Y.short
  have H:=(ltG k)
  have F:w.cell? (J a 3)=some (.slice i s.N.length j):=cr k rfl
  have X:∀o,w.frozen? (J a o)=false:=λo=>frozen_of_row w a o _ _ k
  have z:b a/\(∀g,Value.ownBlock (.slice i s.N.length j)=some g->b g)/\(∀g,yv.ownBlock=some g->b g):=⟨n.1,λg f=>n.2.1 _ g F f,λg f=>n.2.2 _ g (cr k rfl) f⟩
  have C:=O (λ(u a9:lZ) (g v:Nat)=>PstL.pushN (w1:=u) (w2:=a9) (g:=g) (cap:=v) a4 Z a3.2 hf S k l T N P R z)
  have W:=O (λ(g:Nat) (f:Value.ownBlock (.slice i s.N.length j)=some g\/g=w.heap.size+2)=>show b g from by rcases f with f|f;exact z.2.1 g f;exact a5 g (by omega))
  clear n z
  have K:Value.ownBlock (.slice i s.N.length j)≠some a:=by
    intro A
    obtain⟨_,aa,y⟩:=A9 l a A
    rw[k]at y
    simp only[zQ,xW]at y
    exact absurd y.2.1 (by decide)
  have ac:Value.ownBlock (.slice i s.N.length j)≠some w.heap.size:=by
    intro A
    have:=(l.lt _ A).2
    omega
  have E:=O l
  obtain⟨i0,hi,a6,a7,a8⟩:=info_parts Tryz.infoNd
  clear R S k l T N P
  go_enter func94,ntmps94
  go_wp2_with fail
  go_region_law ((refine step_append_lies _ (by rfl) _ _ _ (by rfl) B 87 i0 _ 9 96 underlying37 hi a6 a7 a8 rfl (by omega) (.slice i s.N.length j) s.N.length nx (by rfl) (((E.o.alloc _).alloc _).drew) (J (w.heap.size + 1) 0) 1 1 [U t.kind, U t.a, U t.b, U t.c, .slice p r q, .string ⟨t.text.toArray⟩, U t.n, U t.ty, U t.at'] (by rfl) (by rfl) (World.news_of_block (cs := #[U t.kind, U t.a, U t.b, U t.c, .slice p r q, .string ⟨t.text.toArray⟩, U t.n, U t.ty, U t.at']) (t := 87) (fr := (0, 0)) (K7a w _ _)) (by simp [Value.oneCell']) (by omega) (by simp only [maxLen]; omega) (by omega) (by simp; omega) (w.heap.size + 2) (by simp) ?_
                  intro G v u M m a2 ab
                  have z4:u.cell? (J a 3)=some (.slice i s.N.length j):=by rw[m.cell_far _ (by simp;omega) (Ne.symm K)];exact I5 (by simp;omega) (I5 H F)
                  have y4:u.frozen? (J a 3)=false:=by rw[m.frozen_far _ (by simp;omega) (Ne.symm K)];exact X8 (by simp;omega) (X8 H (X 3))))
  all_goals
    have D:=O (C.o _ _ G v (W.o G a2) (((I.alloc No w _).trans (I.alloc No _ _) (λ_ _ x=>x)).trans (I.drewN No _ 1) (λ_ _ x=>x)) m M)
    clear m M C E
    go_wp2
    go_ret
    exact⟨M7 (by omega),D.o.1,D.o.2⟩
theorem T6(p:LOk L)(h:Pst w B a c L b d s)(t:Nd)(f:Option Addr)(j i:Nat)(r:NdV w b t [U t.kind,U t.a,U t.b,U t.c,.slice f j i,.string ⟨t.text.toArray⟩,U t.n,U t.ty,U t.at'])(u:s.N.length+1<=s.i)(o:B<=w.heap.size)(q:∀g,w.heap.size<=g->b g):
 Calls prog 94 #[pV a,.agg #[U t.kind,U t.a,U t.b,U t.c,.slice f j i,.string ⟨t.text.toArray⟩,U t.n,U t.ty,U t.at']] w λe k=>e= .returned (U (s.N.length:Int))/\Kept B b w k/\Pst k B a c L b d ⟨s.i,s.N++[t],s.T⟩:=
 (N3a p h t f j i r (by omega) o q).mono λe k ⟨l,m,n⟩=>⟨l,m,n.pst (by simp;omega)⟩
end
def Y6(w:lZ)(B g:Nat)(h:Value)(L:List Tk)(c:Nat->Prop)(d:Nat)(s:St)(i:Sp->Option (Out Int))(e:Ending)(f:lZ):Prop:=
 Kept B c w f/\∃o,Ev L i o/\match o with
  | .ok a x=>e= .returned (U x)/\Pst f B g h L c d a/\F6 s a/\0<=x/\x<a.N.length
  | .fail b p=>e=gu b p/\b≠0
def ConN(B b:Nat)(c:Value)(L:List Tk)(K:Nat)(e:Nat->St->Sp->Option (Out Int))(m:Nat):Prop:=
 ∀(w:lZ) (a:Nat->Prop) (d:Nat) (s:St),L.length - s.i<=m->(∀g,w.heap.size<=g->a g)->B<=w.heap.size->Pst w B b c L a d s->
  Calls prog K #[pV b] w (Y6 w B b c L a d s (e d s))
theorem Ev.vb{a b:Type}{L:List Tk}{c:Sp->Option (Out a)}{k:Sp->St->a->Option (Out b)}{F:Sp->Option (Out b)}(V:∀o,Ev L (λr=>A3 (c r) (k r)) o->Ev L F o){s:St}{x:a}(h:Ev L c (.ok s x)):∀o,Ev L (λr=>k r s x) o->Ev L F o:=λo d=>V o (Ev.bind h d)
theorem Ev.vf{a b:Type}{L:List Tk}{c:Sp->Option (Out a)}{k:Sp->St->a->Option (Out b)}{F:Sp->Option (Out b)}(V:∀o,Ev L (λr=>A3 (c r) (k r)) o->Ev L F o){e p:Int}(h:Ev L c (.fail e p)):Ev L F (.fail e p):=V _ (Ev.bad h)
theorem ConN.con{B b:Nat}{c:Value}{L:List Tk}{K:Nat}{f:Nat->St->Sp->Option (Out Int)}{m:Nat}(h:ConN B b c L K f m):Con B b c L K f m:=λw q d s g i j l=>(h w q d s g i j l).mono λe u ⟨k,o,n,a⟩=>⟨k,o,n,by
 cases o with
 |ok t x=>exact⟨a.1,a.2.1,a.2.2.1⟩
 |fail r p=>exact a⟩
section
variable{w:lZ}{B a:Nat}{b:Value}{L:List Tk}{ok:Nat->Prop}{d:Nat}{s:St}
theorem D5{f:Sp->Option (Out Int)}{e:lZ}{c p:Int}(i:Kept B ok w e)(h:Ev L f (.fail c p))(g:c≠0):Y6 w B a b L ok d s f (gu c p) e:=⟨i,_,h,rfl,g⟩
theorem F9{f:Sp->Option (Out Int)}{e:lZ}{c:St}{x:Int}(i:Kept B ok w e)(g:Ev L f (.ok c x))(j:Pst e B a b L ok d c)(h:F6 s c)(k:0<=x/\x<c.N.length):Y6 w B a b L ok d s f (.returned (U x)) e:=⟨i,_,g,rfl,j,h,k⟩
theorem D8b(o:LOk L)(h:Pst w B a b L ok d s):
 Calls prog 92 #[pV a] w λe u=>e= .returned (.bool (I8a L s.i))/\I No w u:=by
 have H:=V8 o h;have m:=λf (i:Pst f B a b L ok d s)=>I0a o (i.alloc (.cells (T0a O0) 9)) f.heap.size 10 O0 (A5a _ _ _) (by decide);have n:=O (λf (c:I No w f)=>h.still c);have D:=Y9;unfold I8a;generalize isM L s.i O0=v at *;generalize tk L s.i=r at *;obtain⟨g,t,E⟩:=r;simp only[tkv]at H⊢;generalize (⟨t.toArray⟩:ByteArray)=y at *;clear h;go_enter func92,ntmps92;go_wp2_with fail
 refine H.mono ?_;clear H;rintro e f ⟨rfl,c⟩;have q:=O (n.o f c);have j:=O c;clear c n;by_cases i:g=1
 · subst i;go_wp2_with fail
   go_ret;exact⟨F8 (by simp),j.o⟩
 · have z:(g==1)=false:=by simp[i]
   by_cases k:g=3
   · subst k;go_wp2_with fail
     go_ret;exact⟨F8 (by simp),j.o⟩
   · have A:(g==3)=false:=by simp[k]
     by_cases l:g=4
     · subst l;go_wp2_with fail
       go_ret;exact⟨F8 (by simp),j.o⟩
     · have C:(g==4)=false:=by simp[l]
       go_wp2_with fail
       refine(m _ q.o).mono ?_;clear m;rintro e F ⟨rfl,c⟩;have p:=O (j.o.trans ((I.alloc No f _).trans c (λ_ _ x=>x)) (λ_ _ x=>x));clear c;go_wp2_with fail
       go_ret;exact⟨F8 (by simp[i,k,l]),p.o⟩
theorem I1a(f:Nat)(cf:∀(x:Array Value) (W:lZ),(callFunc f x).run prog W= .ok (.enter f x) W)(M:LOk L)(m:Nat)(p:Nat->St->Sp->Option (Out Int))(z:ConN B a b L f p m)(j:Bool)(R:L.length - s.i<=m)(S:∀g,w.heap.size<=g->ok g)(K:B<=w.heap.size)(h:Pst w B a b L ok d s):
 Calls prog 60 #[pV a,.bool j,.func (.func f) #[pV a] #[]] w (Y6 w B a b L ok d s (λr=>insideQ L j d s (λd s=>p d s r))):=by
 obtain⟨g,c,nv,yv,-,-,-,-,a3,-,X,Y,-,-,fz,-⟩:=h.cell;have i:=λy=>Z6 M h y;have u:=O h;clear h;cases j
 · go_enter func60,ntmps60;go_wp2_with fail
   refine(i 1).mono ?_;rintro e F ⟨rfl,k⟩;exact⟨rfl,D5 (C7 k) (M9b (e:=1) (i:=s.i) (λr=>by simp[insideQ])) (by decide)⟩
 · by_cases l:20<=d
   · have N:(20:Int)<=(d:Int):=by omega
     go_enter func60,ntmps60;go_wp2_with fail
     refine(i 8).mono ?_;rintro e F ⟨rfl,k⟩;exact⟨rfl,D5 (C7 k) (M9b (e:=8) (i:=s.i) (λr=>by simp[insideQ,l])) (by decide)⟩
   · have N:¬(20:Int)<=(d:Int):=by omega
     have G:=O l;clear l;go_enter func60,ntmps60;go_wp2_with fail
     refine(z _ ok (d+1) s R (by simpa using S) (by simpa using K) (by simpa using u.o.deeper (d+1))).mono ?_;rintro e F ⟨D,o,A,E⟩;have t:=O ((u.o.keptSet 2 _).trans D);have q:=O (A.eq (ψ:=λr=>insideQ L true d s (λd s=>p d s r)) (λr=>by simp[insideQ,G.o]));cases o with
     |fail y a6=>
      obtain⟨rfl,P⟩:=E;exact⟨rfl,D5 t.o q.o P⟩
     |ok s' a7=>
      obtain⟨rfl,n,C,T⟩:=E;have v:=O n;have H:=O C;obtain⟨g',V,a5,a8,-,-,-,-,a4,-,-,Z,-,-,a2,-⟩:=n.cell;clear n C A D i z;go_wp2_with fail
      go_ret;exact F9 (t.o.trans (v.o.keptSet _ _)) q.o (v.o.deeper d) H.o T
theorem C6b(v:LOk L)(m:Nat)(y:ConN B a b L 195 (λd s r=>r.comp d s) m):ConN B a b L 168 (λd s r=>r.expr d s) m:=by
 intro w ok d s M P G h;have n:=λj (f:I No w j) (c:Bool)=>I1a (w:=j) (ok:=ok) 195 (λ_ _=>by go_simp) v m _ y c M (λg i=>P g (kQ f.size i)) (kQ G f.size) (h.still f);have t:=D8b v h;clear y;have l:=O (λc (H:c=I8a L s.i) o (N:Ev L (λr=>insideQ L c d s (λd s=>r.comp d s)) o)=>(Ev.step (φ:=λr=>r.expr d s) (N.eq (λr=>by rw[H];rfl))));generalize I8a L s.i=c at *;go_enter func168,ntmps168;go_wp2_with fail
 refine t.mono ?_;clear t;rintro e j ⟨rfl,f⟩;have k:=O f;clear f;go_wp2_with fail
 refine(n j k.o c).mono ?_;clear n;rintro e V ⟨A,o,z,D⟩;have q:=O ((C7 k.o).trans A);have u:=O (l.o c rfl o z);clear A z l;cases o with
 |fail S p=>
  obtain⟨rfl,K⟩:=D;exact⟨rfl,D5 q.o u.o K⟩
 |ok T x=>
  obtain⟨rfl,C,i,R⟩:=D;have F:=O C;have E:=O i;clear C i;go_wp2_with fail
  go_ret;exact F9 q.o u.o F.o E.o R
theorem X4b(q:LOk L)(h:Pst w B a b L ok d s)(t:Nd)(y:Int)(c:Option Addr)(i f:Nat)(m:NdV w ok t [U t.kind,U t.a,U t.b,U t.c,.slice c i f,.string ⟨t.text.toArray⟩,U t.n,U t.ty,U t.at'])(z:t.ty= -1)(r:s.N.length+1<=s.i+1)(A:B<=w.heap.size)(v:∀g,w.heap.size<=g->ok g):
 Calls prog 54 #[pV a,.agg #[U t.kind,U t.a,U t.b,U t.c,.slice c i f,.string ⟨t.text.toArray⟩,U t.n,U y,U t.at']] w λe n=>e= .returned (U (s.N.length:Int))/\Kept B ok w n/\PstL n B a b L ok d ⟨s.i,s.N++[t],s.T⟩:=by
 have j:=N3a q (h.alloc (.cells #[U t.kind,U t.a,U t.b,U t.c,.slice c i f,.string ⟨t.text.toArray⟩,U t.n,U (-1),U t.at'] 87)) t c i f (NdV.chg (I.alloc No _ _) (λ_ _ _ x _=>x) (λ_ x _=>x) _ _ m) r (by simp;omega) (λg u=>v g (by simp at u;omega));rw[z]at j;clear h m;go_enter func54,ntmps54;go_wp2_with fail
 refine j.mono ?_;clear j;rintro e C ⟨rfl,k,l⟩;have o:=O (((Kept.refl B ok w).alloc _).trans k);have p:=O l;clear k l;go_wp2_with fail
 go_ret;exact⟨rfl,o.o,p.o⟩
theorem O8(o:LOk L)(h:Pst w B a b L ok d s)(t:Nd)(y:Int)(c:Option Addr)(i f:Nat)(q:NdV w ok t [U t.kind,U t.a,U t.b,U t.c,.slice c i f,.string ⟨t.text.toArray⟩,U t.n,U t.ty,U t.at'])(r:t.ty= -1)(u:s.N.length+1<=s.i)(n:B<=w.heap.size)(p:∀g,w.heap.size<=g->ok g):
 Calls prog 54 #[pV a,.agg #[U t.kind,U t.a,U t.b,U t.c,.slice c i f,.string ⟨t.text.toArray⟩,U t.n,U y,U t.at']] w λe j=>e= .returned (U (s.N.length:Int))/\Kept B ok w j/\Pst j B a b L ok d ⟨s.i,s.N++[t],s.T⟩:=
 (X4b o h t y c i f q r (by omega) n p).mono λe j ⟨k,l,m⟩=>⟨k,l,m.pst (by simp;omega)⟩
def StrsB(w:lZ)(c:Nat)(e:List bZ):Prop:=w.heap[c]? =some (.cells (T0a e) 9 (0,0))
theorem StrsB.strs{c:Nat}{e:List bZ}(h:StrsB w c e):Strs w c e:=
 ⟨(ltG h),λj f=>by rw[cell_of_row w c j _ _ _ h];simp[T0a,f]⟩
theorem StrsB.kept{ok:Nat->Prop}{i:lZ}{c:Nat}{g:List bZ}(h:StrsB w c g)(j:Kept B ok w i):StrsB i c g:=by
 unfold StrsB at h⊢;rw[j.block c (ltG h) (λx=> ?_)]
 · exact h
 · obtain⟨k,e,l,f,r⟩:=x.2.1;rw[h]at f;simp only[zQ,xW]at f;obtain⟨_,rfl,_⟩:=f;rcases r with r|r|r<;>exact absurd r (by decide)
theorem B6b{i:Nat}{e:List bZ}(h:isM L i e=true):(tk L i).kind≠6:=by
 intro c;simp[isM,c]at h
theorem G7b(l:Nat)(cf:∀(H:Array Value) (W:lZ),(callFunc l H).run prog W= .ok (.enter l H) W)(u:LOk L)(a2:Nat)(m:Nat->St->Sp->Option (Out Int))(hU:∀m',m'<a2->ConN B a b L l m m')(left:Nat)(hl:left<s.N.length)(S:(tk L s.i).kind≠6)(hm:L.length - s.i<=a2)(X:∀g,w.heap.size<=g->ok g)(M:B<=w.heap.size)(h:Pst w B a b L ok d s):
 Calls prog 208 #[pV a,U (left:Int),.func (.func l) #[pV a] #[]] w (Y6 w B a b L ok d s (λr=>twoQ L s (left:Int) (λs=>m d s r))):=by
 have hi:=h.at';have hs:=u.short;have ab:=h.few;have p:=J4a u h S;have a9:=B6a;have q:Hid (∀o,Ev L (λr=>A3 (m d s.nx r) λk x=>addN k ⟨12,(left:Int),x,0,[],(tk L s.i).text,0,-1,atN k (left:Int)⟩) o->Ev L (λr=>twoQ L s (left:Int) (λs=>m d s r)) o):=λo ho=>ho;clear h S;generalize tk L s.i=a7 at *;obtain⟨kd,z,pl⟩:=a7;simp only[tkv]at p q;go_enter func208,ntmps208;go_wp2_with fail
 refine p.mono ?_;clear p;rintro e a8 ⟨rfl,f,c⟩;have G:=O f;have ae:=c.at';have F:=hU (L.length - s.nx.i) (by simp only[St.nx];omega) a8 ok d s.nx (vQ _) (λg j=>X g (kQ f.size j)) (kQ M f.size) c;clear f c;go_wp2_with fail
 refine F.mono ?_;clear F;rintro e A ⟨f,o,R,Y⟩;have t:=O (G.o.trans f);have n:=O R;clear f R G;cases o with
 |fail er aj=>
  obtain⟨rfl,he⟩:=Y;exact⟨rfl,D5 t.o (q.o _ (Ev.bad n.o)) he⟩
 |ok i x=>
  obtain⟨rfl,c,j,hx⟩:=Y;have T:left<i.N.length:=by have:=j.2.2.2;simp only[St.nx]at this;omega
  have a3:=O c;have D:=O j;obtain⟨nv,yv,nx,yx,v,y,hy,Z,a6⟩:=c.blk;obtain⟨na,nc,rfl⟩:=B9 y;obtain⟨g,rfl,_,ad,ac,a5,P⟩:=F5 y (by omega);obtain⟨nd,V,N⟩:=Rws.at (λ_ _ h=>NdV.len h) left T Z;have aa:=c.few;have af:=c.at';have ag:=(ltG v);have c3:A.cell? (J a 3)=some (.slice (some (J g 0)) i.N.length nc):=cr v rfl;have c8:A.cell? (J g (left * 9+8))=some (U (i.N[left].at')):=by
   obtain⟨ai,rfl,_⟩:=V;exact P _ _ ((N 8 (by omega)).trans rfl)
  have K:atN i (left:Int)=i.N[left].at':=by simp[atN,List.getD,T]
  generalize i.N[left].at'=pa at *;unfold maxLen at a5;clear c j v y hy Z a6 P V N;have E:=λC (h3:Pst C B a (b) L ok d i) (hz:w.heap.size<=C.heap.size)=>O8 u h3 ⟨12,(left:Int),x,0,[],z,0,-1,pa⟩ 0 none 0 0 ⟨_,rfl,kW _ _ _ _,by simp[Value.ownBlock]⟩ rfl (by have:=D.o;simp only[F6,St.nx]at this;omega) (kQ M hz) (λg j=>X g (kQ hz j));have EV:=O (q.o _ (Ev.bind n.o (k:=λ_ k x=>addN k ⟨12,(left:Int),x,0,[],z,0,-1,atN k (left:Int)⟩) (Ev.pure.eq (λ_=>by rw[K];rfl))));have ah:=t.o.size;have GX:=O (show F6 s ⟨i.i,i.N++[⟨12,(left:Int),x,0,[],z,0,-1,pa⟩],i.T⟩ by
   have h2:=D.o;simp only[F6,St.nx,qQ,jQ,xQ]at h2⊢
   omega)
  clear K n;go_wp2_with fail
  refine(E A a3.o (by omega)).mono ?_;clear E;rintro e C ⟨rfl,f,c⟩;have K3:=O (t.o.trans f);have a4:=O c;clear f c;go_wp2_with fail
  go_ret;exact F9 K3.o EV.o a4.o GX.o (by simp;omega)
theorem H7b(y:Nat)(cf:∀(a5:Array Value) (a4:lZ),(callFunc y a5).run prog a4= .ok (.enter y a5) a4)(P:LOk L)(m:Nat)(c:Bool)(i:Nat->St->Sp->Option (Out Int))(hφ:∀d s r,i d s r=(if c then r.prod d else r.oper d) s)(hU:∀D,D<=m->ConN B a b L y i D)(A:Nat)(a8:StrsB w A (I4 c))(n:Nat)(hn:n=(I4 c).length)(hm:L.length - s.i<=m)(a7:∀g,w.heap.size<=g->ok g)(hB:B<=w.heap.size)(h:Pst w B a b L ok d s):
 Calls prog 210 #[pV a,.func (.func y) #[pV a] #[],.slice (some (J A 0)) n n] w (Y6 w B a b L ok d s (λr=>A3 (i d s r) λs x=>r.row c d s x)):=by
 have hi:=h.at';have hs:=P.short;have Y:=hU m (vQ _) w ok d s hm a7 hB h;clear h;go_enter func210,ntmps210;go_wp2_with fail
 refine Y.mono ?_;clear Y;rintro a6 ag ⟨t,o,q,v⟩;have G:=O t;have S1:=O (a8.kept t);have E:=O q;clear t q;cases o with
 |fail er ab=>
  obtain⟨rfl,R⟩:=v;exact⟨rfl,D5 G.o (Ev.bad E.o) R⟩
 |ok s1 x=>
  obtain⟨rfl,j,f,hx⟩:=v;have a2:=O j;have V:=O f;clear j f;obtain⟨kx,rfl⟩:=Int.eq_ofNat_of_zero_le hx.1;have V1:=O (λo u=>Ev.bind (k:=λr s x=>r.row c d s x) E.o u (o:=o));clear E a8;subst hn;go_wp2_with fail
  go_loopw [7] (λad wr=>∃(k:Nat) (e:St),ad=U (k:Int)/\k<e.N.length/\Hid (Kept B ok w wr)/\Hid (StrsB wr A (I4 c))/\Hid (F6 s e)/\Hid (Pst wr B a b L ok d e)/\
   Hid (∀o,Ev L (λr=>r.row c d e (k:Int)) o->Ev L (λr=>A3 (i d s r) λs x=>r.row c d s x) o)) (λ_ wr=>L.length - nxt wr a)
  case atStart=>exact⟨kx,s1,rfl,by omega,G.o,S1.o,V.o,a2.o,V1.o⟩
  case round=>
   clear V1 a2 V S1 G hx;obtain⟨k,e,rfl,t,KR,M,F,p,z⟩:=hrel;have X:=I0a P p.o A (I4 c).length (I4 c) M.o.strs (by cases c<;>decide);have ae:=p.o.at';have hj:s.i<e.i:=F.o.1;have aa:=p.o.nxt;generalize hq:isM L e.i (I4 c)=ac at *;have K:=O hq;clear hq;go_wp2_with fail
   refine X.mono ?_;clear X;rintro a6 ah ⟨rfl,C⟩;have l:=O (KR.o.trans (C7 C));have H:=O (p.o.still C);have S2:=O (M.o.kept (C7 (B:=B) (ok:=ok) C));clear C KR p M;cases ac
   · have EV:=O (z.o _ (Ev.step (Ev.pure.eq (o:= .ok e (k:Int)) (λr=>by show (if isM L e.i (I4 c) then _ else _)=_;rw[K.o];rfl))));clear z;go_wp2_with fail
     go_ret;exact F9 l.o EV.o H.o F.o (by omega)
   · have Z:=G7b y cf P m i (λD h=>hU D (by omega)) k t (B6b K.o) (by omega) (λg f=>a7 g (kQ l.o.size f)) (kQ hB l.o.size) H.o;have N:=O (λo (u:Ev L (λr=>A3 (twoQ L e (k:Int) (λs=>i d s r)) λs a9=>r.row c d s a9) o)=>z.o o (Ev.step (u.eq (λr=>by
      show (if isM L e.i (I4 c) then A3 (twoQ L e (k:Int) (if c then r.prod d else r.oper d)) _ else _)=_;rw[K.o,show (λs=>i d s r)=(if c then r.prod d else r.oper d) from funext λs=>hφ d s r]
      rfl))))
     clear z H;go_wp2_with fail
     refine Z.mono ?_;clear Z;rintro a6 ai ⟨S,o,q,v⟩;have K3:=O (l.o.trans S);have S3:=O (S2.o.kept S);have T:=O q;clear S q l S2;cases o with
     |fail er ab=>
      obtain⟨rfl,R⟩:=v;exact⟨rfl,D5 K3.o (N.o _ (Ev.bad T.o)) R⟩
     |ok s3 a9=>
      obtain⟨rfl,j,f,hy⟩:=v;obtain⟨ky,rfl⟩:=Int.eq_ofNat_of_zero_le hy.1;have a3:=O j;have W:=O f;have V3:=O (λo u=>N.o o (Ev.bind (k:=λr s x=>r.row c d s x) T.o u));have af:=j.at';clear j f N;go_wp2_with fail
      go_roundw
      case rel=>
       have h1:=F.o;have h2:=W.o;simp only[F6]at h1 h2;exact⟨ky,s3,rfl,by omega,K3.o,S3.o,⟨by omega,by omega,by omega,by omega⟩,a3.o,V3.o⟩
      case measure=>
       have h2:=W.o.1;have h3:=a3.o.nxt;rw[h3,aa];omega
theorem R7b(A:LOk L)(m:Nat)(l:∀v,v<=m->ConN B a b L 216 (λd s r=>r.oper d s) v):ConN B a b L 211 (λd s r=>r.prod d s) m:=by
 intro w ok d s D F K h;have i:=H7b 216 (λ_ _=>by go_simp) (w:=w.alloc (.cells (T0a (I4 false)) 9)) A m false (λd s r=>r.oper d s) (λ_ _ _=>rfl) l w.heap.size (qY w _) 1 rfl D (λg c=>F g (by simp at c;omega)) (by simp;omega) (h.alloc _);have j:Hid (∀o,Ev L (λr=>A3 (r.oper d s) λs x=>r.row false d s x) o->Ev L (λr=>r.prod d s) o):=λo E=>Ev.step (E.eq λr=>rfl);clear h l;go_enter func211,ntmps211;go_wp2_with fail
 refine i.mono ?_;clear i;rintro e N ⟨q,o,n,u⟩;have k:=O (((Kept.refl B ok w).alloc _).trans q);have f:=O (j.o o n);clear q n j;cases o with
 |fail H p=>
  obtain⟨rfl,C⟩:=u;exact⟨rfl,D5 k.o f.o C⟩
 |ok M x=>
  obtain⟨rfl,t,c,G⟩:=u;have z:=O t;have y:=O c;clear t c;go_wp2_with fail
  go_ret;exact F9 k.o f.o z.o y.o G
theorem N7d(A:LOk L)(m:Nat)(l:∀v,v<=m->ConN B a b L 211 (λd s r=>r.prod d s) v):ConN B a b L 207 (λd s r=>r.sum d s) m:=by
 intro w ok d s D F K h;have i:=H7b 211 (λ_ _=>by go_simp) (w:=w.alloc (.cells (T0a (I4 true)) 9)) A m true (λd s r=>r.prod d s) (λ_ _ _=>rfl) l w.heap.size (qY w _) 2 rfl D (λg c=>F g (by simp at c;omega)) (by simp;omega) (h.alloc _);have j:Hid (∀o,Ev L (λr=>A3 (r.prod d s) λs x=>r.row true d s x) o->Ev L (λr=>r.sum d s) o):=λo E=>Ev.step (E.eq λr=>rfl);clear h l;go_enter func207,ntmps207;go_wp2_with fail
 refine i.mono ?_;clear i;rintro e N ⟨q,o,n,u⟩;have k:=O (((Kept.refl B ok w).alloc _).trans q);have f:=O (j.o o n);clear q n j;cases o with
 |fail H p=>
  obtain⟨rfl,C⟩:=u;exact⟨rfl,D5 k.o f.o C⟩
 |ok M x=>
  obtain⟨rfl,t,c,G⟩:=u;have z:=O t;have y:=O c;clear t c;go_wp2_with fail
  go_ret;exact F9 k.o f.o z.o y.o G
theorem D1b(u:LOk L)(m:Nat)(M:∀k,k<=m->ConN B a b L 207 (λd s r=>r.sum d s) k):ConN B a b L 195 (λd s r=>r.comp d s) m:=by
 intro w ok d s hm R K h;have hi:=h.at';have hs:=u.short;have E:=M m (vQ _) w ok d s hm R K h;have n:Hid (∀o,Ev L (λr=>A3 (r.sum d s) λs x=>if isM L s.i [[61,61],[60]] then twoQ L s x (r.sum d) else some (.ok s x)) o->Ev L (λr=>r.comp d s) o):=λo z=>Ev.step (z.eq λr=>rfl);clear h;go_enter func195,ntmps195;go_wp2_with fail
 refine E.mono ?_;clear E;rintro e X ⟨N,o,i,j⟩;have p:=O N;have l:=O i;clear N i;cases o with
 |fail er a4=>
  obtain⟨rfl,y⟩:=j;exact⟨rfl,D5 p.o (n.o _ (Ev.bad l.o)) y⟩
 |ok W x=>
  obtain⟨rfl,f,c,T⟩:=j;obtain⟨V,rfl⟩:=Int.eq_ofNat_of_zero_le T.1;have D:=I0a u (f.alloc (.cells (T0a [[61,61],[60]]) 9)) X.heap.size 2 [[61,61],[60]] (A5a _ _ _) (by decide);have H:=O f;have C:=O c;have a6:=f.at';have hj:=c.1;have t:=O (λo z=>n.o o (Ev.bind l.o z));clear f c n l;generalize S:isM L W.i [[61,61],[60]]=a5 at *;have Q1:=O S;clear S;go_wp2_with fail
  refine D.mono ?_;clear D;rintro e a7 ⟨rfl,v⟩;have g:=O (p.o.trans (((Kept.refl B ok X).alloc _).trans (C7 v)));have q:=O ((H.o.alloc _).still v);clear v H p;cases a5
  · have Y:=O (t.o _ (Ev.pure.eq (o:= .ok W (V:Int)) (λr=>by simp)));go_wp2_with fail
    go_ret;exact F9 g.o Y.o q.o C.o T
  · have F:=G7b 207 (λ_ _=>by go_simp) u m (λd s r=>r.sum d s) (λk h=>M k (by omega)) V (by omega) (B6b Q1.o) (by omega) (λa3 c=>R a3 (kQ g.o.size c)) (kQ K g.o.size) q.o;clear q;go_wp2_with fail
    refine F.mono ?_;clear F;rintro e a8 ⟨P,o,i,j⟩;have G:=O (g.o.trans P);have A:=O (t.o _ (i.eq (λr=>rY trivial)));clear P i g t;cases o with
    |fail er a4=>
     obtain⟨rfl,y⟩:=j;exact⟨rfl,D5 G.o A.o y⟩
    |ok s3 a9=>
     obtain⟨rfl,f,c,hy⟩:=j;have a2:=O f;have Z:=O (show F6 s s3 by
      have h1:=C.o;have h2:=c;simp only[F6]at h1 h2⊢
      omega)
     clear f c;go_wp2_with fail
     go_ret;exact F9 G.o A.o a2.o Z.o hy
def Y1d(w:lZ)(B a:Nat)(b:Value)(L:List Tk)(ok:Nat->Prop)(d:Nat)(s:St)(h:Sp->Option (Out Int))(e:Ending)(g:lZ):Prop:=
 Kept B ok w g/\∃o,Ev L h o/\match o with
  | .ok c x=>e= .returned (U x)/\Pst g B a b L ok d c/\J9 s c/\0<=x/\x<c.N.length
  | .fail f p=>e=gu f p/\f≠0
def J3e(B a:Nat)(b:Value)(L:List Tk)(m:Nat):Prop:=
 ∀(w:lZ) (ok:Nat->Prop) (d:Nat) (s:St) (k:Nat),k<s.N.length->L.length - s.i<=m->(∀g,w.heap.size<=g->ok g)->B<=w.heap.size->Pst w B a b L ok d s->
  Calls prog 221 #[pV a,U (k:Int)] w (Y1d w B a b L ok d s (λr=>r.tail d s (k:Int)))
theorem O1b(t:LOk L)(m:Nat)(R:∀F,F<m->ConN B a b L 168 (λd s r=>r.expr d s) F):
 ConN B a b L 228 (λd s r=>A3 (needQ L s [40]) λs _=>A3 (r.expr d s) λs x=>A3 (needQ L s [41]) λs _=>some (.ok s x)) m:=by
 intro w ok d s hm T P h;have Z:=h.at';have hs:=t.short;have y:=J0 t h [40];clear h;go_enter func228,ntmps228;go_wp2_with fail
 refine y.mono ?_;clear y;rintro e X ⟨i,v⟩;have j:=O i;clear i;rcases v with ⟨c,rfl,f⟩|⟨c,rfl⟩
 · have p:=O (λo u=>Ev.bind (k:=λr s (_:Unit)=>A3 (r.expr d s) λs x=>A3 (needQ L s [41]) λs _=>some (Out.ok s x)) (Q7 c) u (o:=o));have a2:=f.at';have A:=R (L.length - s.nx.i) (by simp only[St.nx];omega) X ok d s.nx (vQ _) (λg k=>T g (kQ j.o.size k)) (kQ P j.o.size) f;clear f c;go_wp2_with fail
   refine A.mono ?_;clear A;rintro e a4 ⟨i,o,D,E⟩;have n:=O (j.o.trans i);have l:=O D;clear i D j;cases o with
   |fail Y a3=>
    obtain⟨rfl,S⟩:=E;exact⟨rfl,D5 n.o (p.o _ (Ev.bad l.o)) S⟩
   |ok W x=>
    obtain⟨rfl,f,k,V⟩:=E;have z:=J0 t f [41];have H:=O k;have q:=O (λo u=>p.o o (Ev.bind l.o u));clear f k p l;go_wp2_with fail
    refine z.mono ?_;clear z;rintro e a5 ⟨i,v⟩;have C:=O (n.o.trans i);clear i n;rcases v with ⟨c,rfl,f⟩|⟨c,rfl⟩
    · have G:=O (q.o _ (Ev.bind (Q7 c) Ev.pure));have M:=O f;have K:=O (show F6 s W.nx by
       have N:=H.o;simp only[F6,St.nx]at N⊢
       omega)
      clear f c q;go_wp2_with fail
      go_ret;exact F9 C.o G.o M.o K.o V
    · exact⟨rfl,D5 C.o (q.o _ (Ev.bad (U0 c))) (by decide)⟩
 · exact⟨rfl,D5 j.o (Ev.bad (U0 c)) (by decide)⟩
theorem F6a(z:LOk L)(h:Pst w B a b L ok d s)(R:∀g,w.heap.size<=g->ok g)(M:B<=w.heap.size):
 Calls prog 167 #[pV a] w λe E=>Kept B ok w E/\∃o,Ev L (λr=>typeIfQ L r d s) o/\match o with
  | .ok D x=>e= .returned (U x)/\Pst E B a b L ok d D/\J9 s D
  | .fail l p=>e=gu l p/\l≠0:=by
 have t:=G8 z h [58];have v:Hid (∀o,Ev L (λr=>if isM L s.i [[58]] then r.typ d s.nx else some (.ok s (-1))) o->Ev L (λr=>typeIfQ L r d s) o):=λo P=>P;clear h;generalize isM L s.i [[58]]=q at *;go_enter func167,ntmps167;go_wp2_with fail
 refine t.mono ?_;clear t;rintro e m ⟨rfl,c,f⟩;have k:=O c;cases q
 · have i:Pst m B a b L ok d s:=by simpa using f
   have G:=O i;clear i f c;go_wp2_with fail
   go_ret;exact⟨k.o,.ok s (-1),v.o _ (Ev.pure.eq (λr=>by simp)),rfl,G.o,⟨vQ _,by omega,by omega,by omega⟩⟩
 · have i:Pst m B a b L ok d s.nx:=by simpa using f
   have u:=K3b z (L.length - s.nx.i) m ok d s.nx (vQ _) (λg j=>R g (kQ c.size j)) (kQ M c.size) i;clear i f c;go_wp2_with fail
   refine u.mono ?_;clear u;rintro e T ⟨c,o,A,C⟩;have y:=O (k.o.trans c);have n:=O (v.o o (A.eq (λr=>by simp)));clear c A k;cases o with
   |fail l p=>
    obtain⟨rfl,N⟩:=C;exact⟨rfl,y.o,_,n.o,rfl,N⟩
   |ok S x=>
    obtain⟨rfl,f,j⟩:=C;have H:=O f;have F:=O (show J9 s S by
     have K:=j;simp only[F6,J9,St.nx]at K⊢
     omega)
    clear f j;go_wp2_with fail
    go_ret;exact⟨y.o,_,n.o,rfl,H.o,F.o⟩
theorem B0a{ok:Nat->Prop}{w i:lZ}{q:Nat}{g:Array Value}{e:TypeId}(j:Kept B ok w i)(h:w.heap[q]? =some (.cells g e (0,0)))(c:e≠84/\e≠87/\e≠76):i.heap[q]? =some (.cells g e (0,0)):=by
 rw[j.block q (ltG h) (λx=> ?_)]
 · exact h
 · obtain⟨k,l,m,f,r⟩:=x.2.1;rw[h]at f;simp only[zQ,xW]at f;obtain⟨_,rfl,_⟩:=f;rcases r with r|r|r
   · exact c.1 r
   · exact c.2.1 r
   · exact c.2.2 r
theorem S2b(z:LOk L)(m:Nat)(hO:∀D,D<m->ConN B a b L 216 (λd s r=>r.oper d s) D)(hS:ConN B a b L 222 (λd s r=>r.simple d s) m)(hT:∀D,D<m->J3e B a b L D):
 ConN B a b L 216 (λd s r=>r.oper d s) m:=by
 intro w ok d s hm M K h;have hi:=h.at';have hs:=z.short;have af:=h.few;have HI:=I0a z (h.alloc (.cells (T0a [[33],[45],[116,121,112,101,111,102]]) 9)) w.heap.size 3 [[33],[45],[116,121,112,101,111,102]] (A5a _ _ _) (by decide);have a5:=O (λ(hq:isM L s.i [[33],[45],[116,121,112,101,111,102]]=true)=>B6b hq);have A:Hid (∀o,Ev L (λr=>if isM L s.i [[33],[45],[116,121,112,101,111,102]] then A3 (insideQ L (I8a L (s.i+1)) d s.nx r.oper) λE x=>addN E ⟨13,x,0,0,[],(tk L s.i).text,0,-1,(tk L s.i).at'⟩
  else A3 (r.simple d s) λs x=>r.tail d s x) o->Ev L (λr=>r.oper d s) o):=λo V=>Ev.step (V.eq λr=>rfl)
 have HP:=O h;clear h;have ad:=B6a;have ae:=K5b;have P:=O (λY (S:Pst Y B a b L ok d s)=>J4a z S);generalize isM L s.i [[33],[45],[116,121,112,101,111,102]]=ab at *;generalize tk L s.i=ac at *;obtain⟨W,t,q⟩:=ac;simp only[tkv]at P A a5;go_enter func216,ntmps216;go_wp2_with fail
 refine HI.mono ?_;clear HI;rintro e Y ⟨rfl,j⟩;have G:=O ((HP.o.alloc _).still j);have y:=O (((Kept.refl B ok w).alloc _).trans (C7 j));clear j HP;cases ab
 · have k:=hS Y ok d s hm (λg c=>M g (kQ y.o.size c)) (kQ K y.o.size) G.o;clear G;go_wp2_with fail
   refine k.mono ?_;clear k;rintro e v ⟨f,o,n,p⟩;have l:=O (y.o.trans f);have N:=O n;clear f n y;cases o with
   |fail er a7=>
    obtain⟨rfl,C⟩:=p;exact⟨rfl,D5 l.o (A.o _ ((Ev.bad N.o).eq (λr=>by simp;rfl))) C⟩
   |ok s2 x=>
    obtain⟨rfl,i,c,hx⟩:=p;obtain⟨kx,rfl⟩:=Int.eq_ofNat_of_zero_le hx.1;have a9:=i.at';have hj:=c.1;have k:=hT (L.length - s2.i) (by omega) v ok d s2 kx (by omega) (vQ _) (λg c=>M g (kQ l.o.size c)) (kQ K l.o.size) i;have G2:=O c;clear i c;go_wp2_with fail
    refine k.mono ?_;clear k;rintro e Z ⟨f,o,n,p⟩;have u:=O (l.o.trans f);have E3:=O (A.o o ((Ev.bind (k:=λr s x=>r.tail d s x) N.o n).eq (λr=>by simp)));clear f n l N;cases o with
    |fail er a7=>
     obtain⟨rfl,C⟩:=p;exact⟨rfl,D5 u.o E3.o C⟩
    |ok s3 a3=>
     obtain⟨rfl,i,c,hy⟩:=p;have H:=O i;have G3:=O (show F6 s s3 by
      have S:=G2.o;have T:=c;simp only[F6,J9]at S T⊢
      omega)
     clear i c;go_wp2_with fail
     go_ret;exact F9 u.o E3.o H.o G3.o hy
 · have V1:=O (λo (V:Ev L (λr=>A3 (insideQ L (I8a L (s.i+1)) d s.nx r.oper) λE x=>addN E ⟨13,x,0,0,[],t,0,-1,(q:Int)⟩) o)=>A.o o (V.eq (λr=>by simp)));clear A;go_wp2_with fail
   refine(P.o _ G.o (a5.o trivial)).mono ?_;clear P;rintro e v ⟨rfl,f,i⟩;have l:=O ((y.o.trans f).alloc (.cells #[U W,.string ⟨t.toArray⟩,U (q:Int)] 116));have R:=O (i.alloc (.cells #[U W,.string ⟨t.toArray⟩,U (q:Int)] 116));have Q2:=O (qY v (.cells #[U W,.string ⟨t.toArray⟩,U (q:Int)] 116));have a9:=i.at';have a4:=D8b z R.o;clear f i G y;generalize a6:I8a L s.nx.i=bg at *;have B2:=O a6;clear a6;go_wp2_with fail
   refine a4.mono ?_;clear a4;rintro e Z ⟨rfl,j⟩;have u:=O (l.o.trans (C7 j));have H:=O (R.o.still j);have Q3:=O (B0a (C7 (B:=B) (ok:=ok) j) Q2.o (by decide));have aa:v.heap.size<Z.heap.size:=by have:=j.size;simp at this;omega
   have k:=I1a (w:=Z) (ok:=ok) 216 (λ_ _=>by go_simp) z (L.length - s.nx.i) (λd s r=>r.oper d s) (hO _ (by simp only[St.nx];omega)) bg (vQ _) (λg c=>M g (kQ u.o.size c)) (kQ K u.o.size) H.o;clear j R l Q2 H;go_wp2_with fail
   refine k.mono ?_;clear k;rintro e a2 ⟨f,o,n,p⟩;have F:=O (u.o.trans f);have Q4:=O (B0a f Q3.o (by decide));have ag:v.heap.size<a2.heap.size:=yQ aa f.size;have E4:=O (n.eq (ψ:=λr=>insideQ L (I8a L (s.i+1)) d s.nx r.oper) (λr=>by rw[show I8a L (s.i+1)=bg from B2.o]));clear f n u Q3;cases o with
   |fail er a7=>
    obtain⟨rfl,C⟩:=p;exact⟨rfl,D5 F.o (V1.o _ (Ev.bad E4.o)) C⟩
   |ok X a3=>
    obtain⟨rfl,i,c,hy⟩:=p;have HA:=O8 z i ⟨13,a3,0,0,[],t,0,-1,(q:Int)⟩ 0 none 0 0 ⟨_,rfl,kW _ _ _ _,by simp[Value.ownBlock]⟩ rfl (by have:=c;simp only[F6,St.nx]at this;omega) (kQ K F.o.size) (λg c=>M g (kQ F.o.size c));have EV:=O (V1.o _ (Ev.bind E4.o (k:=λ_ E x=>addN E ⟨13,x,0,0,[],t,0,-1,(q:Int)⟩) Ev.pure));have GX:=O (show F6 s ⟨X.i,X.N++[⟨13,a3,0,0,[],t,0,-1,(q:Int)⟩],X.T⟩ by
     have T:=c;simp only[F6,St.nx,qQ,jQ,xQ]at T⊢
     omega)
    have x1:a2.cell? (J v.heap.size 1)=some (.string ⟨t.toArray⟩):=cr Q4.o rfl;have x2:a2.cell? (J v.heap.size 2)=some (U (q:Int)):=cr Q4.o rfl;clear i c;go_wp2_with fail
    refine HA.mono ?_;clear HA;rintro e ah ⟨rfl,f,i⟩;have K5:=O (F.o.trans f);have a8:=O i;clear f i;go_wp2_with fail
    go_ret;exact F9 K5.o EV.o a8.o GX.o (by simp;omega)
theorem Pst.free{S:Nat->Prop}{r:lZ}{ok':Nat->Prop}(h:Pst w B a b L ok d s)(i:I S w r)(l:∀k,S k->¬ok k/\b.ownBlock≠some k)(j:∀g,ok g->g<w.heap.size->ok' g):Pst r B a b L ok' d s:=by
 obtain⟨E,F,G,H,f,A,C,P,R,n,u,y,K,M⟩:=h;have t:=(ltG n);have o:w.cell? (J a 3)=some A:=cr n rfl;have p:w.cell? (J a 4)=some C:=cr n rfl;have q:r.heap[a]? =w.heap[a]? :=i.block a t (λx=>(l a x).1 f.1);have z:∀g,ok g->g<w.heap.size->S g->(∃D e,w.heap[g]? =some (.cells D e (0,0))/\(e=131\/e=3))->False:=λg c _ N _=>(l g N).1 c;refine⟨E,F,G,A4 H i λg c x=>(l g x).2 c,⟨j _ f.1 t,λv g m c=> ?_,λv g m c=> ?_⟩,A,C,P,R,q.trans n,A4 u i λg c x=>(l g x).1 (f.2.1 _ g o c),A4 y i λg c x=>(l g x).1 (f.2.2 _ g p c),K.imp (NdV.chg i z j),M.imp (TyV.chg i z j)⟩
 · rw[World.cell?_of_block (a:=(J a 3)) q,o]at m;cases m;exact j g (f.2.1 _ g o c) (u.lt g c).2
 · rw[World.cell?_of_block (a:=(J a 4)) q,p]at m;cases m;exact j g (f.2.2 _ g p c) (y.lt g c).2
theorem J3{ok:Nat->Prop}{c e:lZ}{q:Nat}{o:Obj}(f:Kept B ok c e)(h:c.heap[q]? =some o)(g:¬ok q):e.heap[q]? =some o:=(f.block q (ltG h) (λx=>g x.2.2)).trans h
theorem Pst.nodeAt(h:Pst w B a b L ok d s){k:Nat}(f:k<s.N.length):∃g c,w.cell? (J a 3)=some (.slice (some (J g 0)) s.N.length c)/\s.N.length<=c/\c<=maxLen/\g<w.heap.size/\a<w.heap.size/\w.cell? (J g (k * 9+8))=some (U (atN s (k:Int))):=by
 obtain⟨A,D,C,E,e,i,v,r,u⟩:=h.blk;obtain⟨y,t,rfl⟩:=B9 i;obtain⟨g,rfl,_,o,n,p,m⟩:=F5 i (by omega);obtain⟨z,q,l⟩:=Rws.at (λ_ _ h=>NdV.len h) k f r;refine⟨g,t,cr e rfl,n,p,o,(ltG e), ?_⟩;obtain⟨x,rfl,_⟩:=q;have j:atN s (k:Int)=s.N[k].at':=by simp[atN,List.getD,f]
 rw[j];exact m _ _ ((l 8 (by omega)).trans rfl)
theorem U3d{hd:Int}{o:Out Int}(h:Ev L (λr=>if isM L s.i [[40]] then A3 (r.list .expr [41] d s.nx [] []) λc l=>A3 (addN c ⟨7,hd,0,0,l,[],0,-1,atN s hd⟩) λs x=>r.tail d s x
 else if isM L s.i [[46]] then
  if (tk L (s.i+1)).kind=1 then A3 (addN s.nx.nx ⟨8,hd,0,0,[],(tk L (s.i+1)).text,0,-1,atN s hd⟩) λs x=>r.tail d s x else fltQ L (s.i+1) 1
 else if isM L s.i [[91]] then A3 (r.expr d s.nx) λc x=>A3 (needQ L c [93]) λc _=>A3 (addN c ⟨9,hd,x,0,[],[],0,-1,atN s hd⟩) λs x=>r.tail d s x
 else if isM L s.i [[97,115]] then A3 (r.typ d s.nx) λc t=>A3 (addN c ⟨14,hd,0,0,[],[],0,t,atN s hd⟩) λs x=>r.tail d s x
 else some (.ok s hd)) o):Ev L (λr=>r.tail d s hd) o:=Ev.step h
theorem E2a{f:Sp->Option (Out Int)}{e:lZ}{c p:Int}(i:Kept B ok w e)(h:Ev L f (.fail c p))(g:c≠0):Y1d w B a b L ok d s f (gu c p) e:=⟨i,_,h,rfl,g⟩
theorem K0b(E:LOk L)(bs:Nat)(hE:∀m',m'<bs->ConN B a b L 168 (λd s r=>r.expr d s) m'):J3e B a b L bs:=by
 intro w ok d s k D hm ad hB ap;have hs:=E.short;have H0:=O ap;have bb:=O hE;have bv:=ap.few;clear ap hE;go_enter func221,ntmps221;go_wp2_with fail
 go_loopw [1] (λc6 wr=>∃(i:Nat) (f:St),c6=U (i:Int)/\i<f.N.length/\Hid (Kept B ok w wr)/\Hid (J9 s f)/\Hid (Pst wr B a b L ok d f)/\Hid (∀o,Ev L (λr=>r.tail d f (i:Int)) o->Ev L (λr=>r.tail d s (k:Int)) o)) (λ_ wr=>L.length - nxt wr a)
 case atStart=>exact⟨k,s,rfl,D,Kept.refl _ _ _,⟨vQ _,by omega,by omega,by omega⟩,H0.o,λ_ x=>x⟩
 case round=>
  clear H0 bv D;obtain⟨i,f,rfl,bx,KR,GR,PR,VR⟩:=hrel;obtain⟨g,nc,c3,c9,bu,n,cd,c8⟩:=PR.o.nodeAt bx;unfold maxLen at bu;have hi:=PR.o.at';have ca:=PR.o.few;have al:=PR.o.nxt;have bw:=GR.o;simp only[J9]at bw;have cj:w.heap.size<=wr.heap.size:=KR.o.size;have X:=O (λo F=>VR.o o (U3d (s:=f) (hd:=(i:Int)) F));clear VR;generalize c5:atN f (i:Int)=j at *;clear c5;have bn:I No wr (wr.alloc (.cells #[U 0,U (i:Int),U 0,U 0,sN,.string ⟨#[]⟩,U 0,U (-1),U j] 87)):=I.alloc _ _ _;have bf:=O (PR.o.chg (ok':=λg=>ok g/\g≠wr.heap.size) bn (λ_ _ _ _ x=>x.elim) (λg n hl=>⟨n,by omega⟩));have Q1:Hid ((wr.alloc (.cells #[U 0,U (i:Int),U 0,U 0,sN,.string ⟨#[]⟩,U 0,U (-1),U j] 87)).heap[wr.heap.size]? =some (.cells #[U 0,U (i:Int),U 0,U 0,sN,.string ⟨#[]⟩,U 0,U (-1),U j] 87 (0,0))):=qY wr _;have K1:=O (KR.o.alloc (.cells #[U 0,U (i:Int),U 0,U 0,sN,.string ⟨#[]⟩,U 0,U (-1),U j] 87));have am:b.ownBlock≠some wr.heap.size:=PR.o.tokLt (vQ _);have bd:=O (G8 E bf.o [40]);have c7:=O PR.o;clear KR PR bn bf;generalize bo:isM L f.i [[40]]=q1 at *;generalize bp:isM L f.i [[46]]=q2 at *;generalize bq:isM L f.i [[91]]=q3 at *;generalize br:isM L f.i [[97,115]]=q4 at *;have W1:=O (⟨bo,bp,bq,br⟩:_/\_/\_/\_);clear bo bp bq br;go_wp2_with fail
  refine bd.o.mono ?_;rintro e ag ⟨rfl,y,T⟩;have u:=O (K1.o.trans (y.mono λ_ x=>x.1));have v:=O (J3 y Q1.o (λx=>x.2 rfl));have ch:wr.heap.size<ag.heap.size:=(ltG v.o);have q:=O T;clear y T bd K1 Q1;cases q1
  case true=>
   have C:Hid (Pst ag B a b L (λg=>ok g/\g≠wr.heap.size) d f.nx):=q.o;have aq:=C.o.at';clear q;have bc:=O (O6a (w:=ag) (ok:=(λg=>ok g/\g≠wr.heap.size)) 168 (λ_ _=>by go_simp) (pt:= .expr) (φ:=λd s r=>r.expr d s) (λ_ _ _=>rfl) E (L.length - f.nx.i) (λm' cc=>(bb.o m' (by simp only[St.nx]at *;omega)).con) [41] (vQ _) (λg n=>⟨ad g (by omega),by omega⟩) (by omega) C.o);clear C;go_wp2_with fail
   refine bc.o.mono ?_;rintro e c ⟨t,o,ac,H⟩;have A:=O (u.o.trans (t.mono λ_ x=>x.1));have h:=O (J3 t v.o (λx=>x.2 rfl));have K:=O ac;have aw:ag.heap.size<=c.heap.size:=t.size;clear t ac bc u v;cases o with
   |fail er bt=>
    obtain⟨rfl,he⟩:=H;exact⟨rfl,E2a A.o (X.o _ ((Ev.bad (k:=λr f l=>A3 (addN f (Nd.mk 7 (i:Int) 0 0 l [] 0 (-1) j)) λs x=>r.tail d s x) K.o).eq (λr=>by simp))) he⟩
   |ok m l=>
    obtain⟨la,lc,rfl,au,cb,G,ae⟩:=H;have h3:=ae;simp only[F6,St.nx]at h3;have EV:=O (λo (F:Ev L (λr=>r.tail d ⟨m.i,m.N++[(Nd.mk 7 (i:Int) 0 0 l [] 0 (-1) j)],m.T⟩ (m.N.length:Int)) o)=>X.o o ((Ev.bind K.o (k:=λr f l=>A3 (addN f (Nd.mk 7 (i:Int) 0 0 l [] 0 (-1) j)) λs x=>r.tail d s x) (F.eq (λr=>rfl))).eq (λr=>by simp)));have z:I (λk=>k=wr.heap.size) c ((c.setCell (J wr.heap.size 0) (U 7)).setCell (J wr.heap.size 4) (.slice la l.length lc)):=((I.set c (J wr.heap.size 0) (U 7)).trans (I.set _ (J wr.heap.size 4) (.slice la l.length lc)) (λ_ _ x=>x));have R:=O (G.free (ok':=ok) z (λk D=>⟨λx=>x.2 D,by rw[show k=wr.heap.size from D];exact am⟩) (λg n _=>n.1));have O5:=O (A4 au z (λg n x=>by
     have x':g=wr.heap.size:=x;have:=(A9 au g n).1
     omega))
    have p:=O (A.o.trans' z (λaf hi x=>by have x':af=wr.heap.size:=x;omega));have ax:c.cell? (J wr.heap.size 0)=some (U 0):=cr h.o rfl;have ay:c.cell? (J wr.heap.size 1)=some (U (i:Int)):=cr h.o rfl;have az:c.cell? (J wr.heap.size 2)=some (U 0):=cr h.o rfl;have b0:c.cell? (J wr.heap.size 3)=some (U 0):=cr h.o rfl;have b1:c.cell? (J wr.heap.size 4)=some (sN):=cr h.o rfl;have b2:c.cell? (J wr.heap.size 5)=some (.string ⟨#[]⟩):=cr h.o rfl;have b3:c.cell? (J wr.heap.size 6)=some (U 0):=cr h.o rfl;have b4:c.cell? (J wr.heap.size 7)=some (U (-1)):=cr h.o rfl;have b5:c.cell? (J wr.heap.size 8)=some (U j):=cr h.o rfl;have b8:=frozen_of_row c wr.heap.size 0 _ _ h.o;have cm:=frozen_of_row c wr.heap.size 4 _ _ h.o;have b9:=(ltG h.o);clear G ae au z K h A;have M:=O (T6 E R.o (Nd.mk 7 (i:Int) 0 0 l [] 0 (-1) j) la l.length lc ⟨_,rfl,C9 O5.o (wQ _),λg n=>ad g (by have:=(A9 O5.o g n).1;omega)⟩ (by omega) (by have:=p.o.size;omega) (λg n=>ad g (by have:=p.o.size;omega)));clear R;go_wp2_with fail
    refine M.o.mono ?_;rintro e b7 ⟨rfl,S,V⟩;have K6:=O (p.o.trans S);have P:=O V;clear S V M p;go_wp2;go_roundw
    case rel=>exact⟨m.N.length,⟨m.i,m.N++[(Nd.mk 7 (i:Int) 0 0 l [] 0 (-1) j)],m.T⟩,rfl,by simp,K6.o,(show J9 s _ from by simp only[J9,qQ,jQ,xQ];omega),P.o,EV.o⟩
    case measure=>
     have h4:=P.o.nxt;rw[h4,al];simp only;omega
  case false=>
   have bh:Hid (Pst ag B a b L (λg=>ok g/\g≠wr.heap.size) d f):=q.o;clear q;have N:=G8 E bh.o [46];rw[W1.o.2.1]at N;have Z:=O N;clear N bh;go_wp2_with fail
   refine Z.o.mono ?_;rintro e aj ⟨rfl,y,T⟩;have ce:ag.heap.size<=aj.heap.size:=y.size;have aa:=O (u.o.trans (y.mono λ_ x=>x.1));have ab:=O (J3 y v.o (λx=>x.2 rfl));clear u v;have u:=O aa.o;have v:=O ab.o;have q:=O T;clear y T Z aa ab;cases q2
   case true=>
    have C:Hid (Pst aj B a b L (λg=>ok g/\g≠wr.heap.size) d f.nx):=q.o;have aq:=C.o.at';clear q;have an:=O (T7a E C.o);have bm:tk L f.nx.i=tk L (f.i+1):=rfl;rw[bm]at an;clear C bm;have ao:=O (λo (F:Ev L (λr=>if (tk L (f.i+1)).kind=1 then A3 (addN f.nx.nx (Nd.mk 8 (i:Int) 0 0 [] (tk L (f.i+1)).text 0 (-1) j)) λs x=>r.tail d s x else fltQ L (f.i+1) 1) o)=>X.o o (F.eq (λr=>by simp)));clear X;go_wp2_with fail
    refine an.o.mono ?_;rintro e c ⟨t,H⟩;have A:=O (u.o.trans (t.mono λ_ x=>x.1));have h:=O (J3 t v.o (λx=>x.2 rfl));have aw:aj.heap.size<=c.heap.size:=t.size;clear t an u v;rcases H with ⟨ar,rfl,G⟩|⟨ar,rfl⟩
    · have ba:=O (λo (F:Ev L (λr=>r.tail d ⟨f.nx.nx.i,f.nx.nx.N++[Nd.mk 8 (i:Int) 0 0 [] (tk L (f.i+1)).text 0 (-1) j],f.nx.nx.T⟩ (f.nx.nx.N.length:Int)) o)=>ao.o o (F.eq (λr=>by rw[rY ar];rfl)));generalize (tk L (f.i+1)).text=tx at *;have EV:=O ba.o;clear ba ao;have c4:=G.at';simp only[St.nx]at c4;have z:I (λk=>k=wr.heap.size) c ((c.setCell (J wr.heap.size 0) (U 8)).setCell (J wr.heap.size 5) (.string ⟨tx.toArray⟩)):=((I.set c (J wr.heap.size 0) (U 8)).trans (I.set _ (J wr.heap.size 5) (.string ⟨tx.toArray⟩)) (λ_ _ x=>x));have R:=O (G.free (ok':=ok) z (λk D=>⟨λx=>x.2 D,by rw[show k=wr.heap.size from D];exact am⟩) (λg n _=>n.1));have p:=O (A.o.trans' z (λaf hi x=>by have x':af=wr.heap.size:=x;omega));have ax:c.cell? (J wr.heap.size 0)=some (U 0):=cr h.o rfl;have ay:c.cell? (J wr.heap.size 1)=some (U (i:Int)):=cr h.o rfl;have az:c.cell? (J wr.heap.size 2)=some (U 0):=cr h.o rfl;have b0:c.cell? (J wr.heap.size 3)=some (U 0):=cr h.o rfl;have b1:c.cell? (J wr.heap.size 4)=some (sN):=cr h.o rfl;have b2:c.cell? (J wr.heap.size 5)=some (.string ⟨#[]⟩):=cr h.o rfl;have b3:c.cell? (J wr.heap.size 6)=some (U 0):=cr h.o rfl;have b4:c.cell? (J wr.heap.size 7)=some (U (-1)):=cr h.o rfl;have b5:c.cell? (J wr.heap.size 8)=some (U j):=cr h.o rfl;have b8:=frozen_of_row c wr.heap.size 0 _ _ h.o;have cn:=frozen_of_row c wr.heap.size 5 _ _ h.o;have b9:=(ltG h.o);clear G z h A;have M:=O (T6 E R.o (Nd.mk 8 (i:Int) 0 0 [] tx 0 (-1) j) none 0 0 ⟨_,rfl,kW _ _ _ _,by simp[Value.ownBlock]⟩ (by simp only[St.nx];omega) (by have:=p.o.size;omega) (λg n=>ad g (by have:=p.o.size;omega)));clear R;go_wp2_with fail
      refine M.o.mono ?_;rintro e b7 ⟨rfl,S,V⟩;have K6:=O (p.o.trans S);have P:=O V;clear S V M p;go_wp2;go_roundw
      case rel=>exact⟨f.nx.nx.N.length,⟨f.nx.nx.i,f.nx.nx.N++[(Nd.mk 8 (i:Int) 0 0 [] tx 0 (-1) j)],f.nx.nx.T⟩,rfl,by simp,K6.o,(show J9 s _ from by simp only[J9,St.nx,qQ,jQ,xQ];omega),P.o,EV.o⟩
      case measure=>
       have h4:=P.o.nxt;rw[h4,al];simp only[St.nx];omega
    · exact⟨rfl,E2a A.o (ao.o _ (Ev.pure.eq (λr=>by rw[yY ar];rfl))) (by decide)⟩
   case false=>
    have bi:Hid (Pst aj B a b L (λg=>ok g/\g≠wr.heap.size) d f):=q.o;clear q;have N:=G8 E bi.o [91];rw[W1.o.2.2.1]at N;have Z:=O N;clear N bi;go_wp2_with fail
    refine Z.o.mono ?_;rintro e ah ⟨rfl,y,T⟩;have cf:aj.heap.size<=ah.heap.size:=y.size;have aa:=O (u.o.trans (y.mono λ_ x=>x.1));have ab:=O (J3 y v.o (λx=>x.2 rfl));clear u v;have u:=O aa.o;have v:=O ab.o;have q:=O T;clear y T Z aa ab;cases q3
    case true=>
     have C:Hid (Pst ah B a b L (λg=>ok g/\g≠wr.heap.size) d f.nx):=q.o;have aq:=C.o.at';clear q;have ai:=O (bb.o (L.length - f.nx.i) (by simp only[St.nx]at *;omega) ah (λg=>ok g/\g≠wr.heap.size) d f.nx (vQ _) (λg n=>⟨ad g (by omega),by omega⟩) (by omega) C.o);clear C;go_wp2_with fail
     refine ai.o.mono ?_;rintro e c ⟨t,o,ac,H⟩;have A:=O (u.o.trans (t.mono λ_ x=>x.1));have h:=O (J3 t v.o (λx=>x.2 rfl));have K:=O ac;have aw:ah.heap.size<=c.heap.size:=t.size;clear t ac ai u v;cases o with
     |fail er bt=>
      obtain⟨rfl,he⟩:=H;exact⟨rfl,E2a A.o (X.o _ ((Ev.bad (k:=λr f x=>A3 (needQ L f [93]) λf _=>A3 (addN f (Nd.mk 9 (i:Int) x 0 [] [] 0 (-1) j)) λs x=>r.tail d s x) K.o).eq (λr=>by simp))) he⟩
     |ok m x=>
      obtain⟨rfl,G,ae,ck⟩:=H;have h3:=ae;simp only[F6,St.nx]at h3;have VN:=O (λo (F:Ev L (λr=>(λr f x=>A3 (needQ L f [93]) λf _=>A3 (addN f (Nd.mk 9 (i:Int) x 0 [] [] 0 (-1) j)) λs x=>r.tail d s x) r m x) o)=>X.o o ((Ev.bind K.o (k:=λr f x=>A3 (needQ L f [93]) λf _=>A3 (addN f (Nd.mk 9 (i:Int) x 0 [] [] 0 (-1) j)) λs x=>r.tail d s x) F).eq (λr=>by simp)));clear X K;have z:I (λk=>k=wr.heap.size) c ((c.setCell (J wr.heap.size 0) (U 9)).setCell (J wr.heap.size 2) (U x)):=((I.set c (J wr.heap.size 0) (U 9)).trans (I.set _ (J wr.heap.size 2) (U x)) (λ_ _ x=>x));have bg:=O (G.free (ok':=(λg=>ok g/\g≠wr.heap.size)) z (λk D=>⟨λx=>x.2 D,by rw[show k=wr.heap.size from D];exact am⟩) (λg n _=>n));have be:=O (A.o.trans' z (λaf hi x=>by have x':af=wr.heap.size:=x;omega));have bk:Hid (((c.setCell (J wr.heap.size 0) (U 9)).setCell (J wr.heap.size 2) (U x)).heap[wr.heap.size]? =some (.cells #[U 9,U (i:Int),U x,U 0,sN,.string ⟨#[]⟩,U 0,U (-1),U j] 87 (0,0))):=by
       show _=_;have h1:=heap_setCell_same c wr.heap.size 0 _ _ (U 9) h.o;rw[heap_setCell_same _ wr.heap.size 2 _ _ (U x) h1];rfl
      have ax:c.cell? (J wr.heap.size 0)=some (U 0):=cr h.o rfl;have ay:c.cell? (J wr.heap.size 1)=some (U (i:Int)):=cr h.o rfl;have az:c.cell? (J wr.heap.size 2)=some (U 0):=cr h.o rfl;have b0:c.cell? (J wr.heap.size 3)=some (U 0):=cr h.o rfl;have b1:c.cell? (J wr.heap.size 4)=some (sN):=cr h.o rfl;have b2:c.cell? (J wr.heap.size 5)=some (.string ⟨#[]⟩):=cr h.o rfl;have b3:c.cell? (J wr.heap.size 6)=some (U 0):=cr h.o rfl;have b4:c.cell? (J wr.heap.size 7)=some (U (-1)):=cr h.o rfl;have b5:c.cell? (J wr.heap.size 8)=some (U j):=cr h.o rfl;have b8:=frozen_of_row c wr.heap.size 0 _ _ h.o;have cl:=frozen_of_row c wr.heap.size 2 _ _ h.o;have b9:=(ltG h.o);have HN:=O (J0 E bg.o [93]);clear G z h A bg;go_wp2_with fail
      refine HN.o.mono ?_;rintro e Y ⟨k4,H⟩;have p:=O (be.o.trans (k4.mono λ_ x=>x.1));have W:=O (J3 k4 bk.o (λx=>x.2 rfl));have ci:c.heap.size<=Y.heap.size:=by have:=k4.size;simpa using this
      clear k4 be bk HN;rcases H with ⟨hq,rfl,av⟩|⟨hq,rfl⟩
      · have bz:=av.at';have R:=O (av.mono (ok':=ok) (λg n _=>n.1));have EV:=O (λo (F:Ev L (λr=>r.tail d ⟨m.nx.i,m.nx.N++[(Nd.mk 9 (i:Int) x 0 [] [] 0 (-1) j)],m.nx.T⟩ (m.nx.N.length:Int)) o)=>VN.o o (F.eq (λr=>by simp only[needQ,hq,if_true];rfl)));clear VN av;simp only[St.nx]at bz;have a0:Y.cell? (J wr.heap.size 0)=some (U 9):=cr W.o rfl;have a1:Y.cell? (J wr.heap.size 1)=some (U (i:Int)):=cr W.o rfl;have a2:Y.cell? (J wr.heap.size 2)=some (U x):=cr W.o rfl;have a3:Y.cell? (J wr.heap.size 3)=some (U 0):=cr W.o rfl;have a4:Y.cell? (J wr.heap.size 4)=some (sN):=cr W.o rfl;have a5:Y.cell? (J wr.heap.size 5)=some (.string ⟨#[]⟩):=cr W.o rfl;have a6:Y.cell? (J wr.heap.size 6)=some (U 0):=cr W.o rfl;have a7:Y.cell? (J wr.heap.size 7)=some (U (-1)):=cr W.o rfl;have a8:Y.cell? (J wr.heap.size 8)=some (U j):=cr W.o rfl;have a9:=(ltG W.o);have M:=O (T6 E R.o (Nd.mk 9 (i:Int) x 0 [] [] 0 (-1) j) none 0 0 ⟨_,rfl,kW _ _ _ _,by simp[Value.ownBlock]⟩ (by simp only[St.nx];omega) (by have:=p.o.size;omega) (λg n=>ad g (by have:=p.o.size;omega)));clear R;go_wp2_with fail
        refine M.o.mono ?_;rintro e b7 ⟨rfl,S,V⟩;have K6:=O (p.o.trans S);have P:=O V;clear S V M p;go_wp2;go_roundw
        case rel=>exact⟨m.nx.N.length,⟨m.nx.i,m.nx.N++[(Nd.mk 9 (i:Int) x 0 [] [] 0 (-1) j)],m.nx.T⟩,rfl,by simp,K6.o,(show J9 s _ from by simp only[J9,St.nx,qQ,jQ,xQ];omega),P.o,EV.o⟩
        case measure=>
         have h4:=P.o.nxt;rw[h4,al];simp only[St.nx];omega
      · exact⟨rfl,E2a p.o (VN.o _ (Ev.pure.eq (λr=>by simp only[needQ,hq];rfl))) (by decide)⟩
    case false=>
     have bj:Hid (Pst ah B a b L (λg=>ok g/\g≠wr.heap.size) d f):=q.o;clear q;have N:=G8 E bj.o [97,115];rw[W1.o.2.2.2]at N;have Z:=O N;clear N bj;go_wp2_with fail
     refine Z.o.mono ?_;rintro e ak ⟨rfl,y,T⟩;have cg:ah.heap.size<=ak.heap.size:=y.size;have aa:=O (u.o.trans (y.mono λ_ x=>x.1));have ab:=O (J3 y v.o (λx=>x.2 rfl));clear u v;have u:=O aa.o;have v:=O ab.o;have q:=O T;clear y T Z aa ab;cases q4
     case true=>
      have C:Hid (Pst ak B a b L (λg=>ok g/\g≠wr.heap.size) d f.nx):=q.o;have aq:=C.o.at';clear q;have ai:=O (K3b (B:=B) (pb:=a) (tv:=b) E (L.length - f.nx.i) ak (λg=>ok g/\g≠wr.heap.size) d f.nx (vQ _) (λg n=>⟨ad g (by omega),by omega⟩) (by omega) C.o);clear C;go_wp2_with fail
      refine ai.o.mono ?_;rintro e c ⟨t,o,ac,H⟩;have A:=O (u.o.trans (t.mono λ_ x=>x.1));have h:=O (J3 t v.o (λx=>x.2 rfl));have K:=O ac;have aw:ak.heap.size<=c.heap.size:=t.size;clear t ac ai u v;cases o with
      |fail er bt=>
       obtain⟨rfl,he⟩:=H;exact⟨rfl,E2a A.o (X.o _ ((Ev.bad (k:=λr f b6=>A3 (addN f (Nd.mk 14 (i:Int) 0 0 [] [] 0 b6 j)) λs x=>r.tail d s x) K.o).eq (λr=>by simp))) he⟩
      |ok m x=>
       obtain⟨rfl,G,ae⟩:=H;have h3:=ae;simp only[F6,St.nx]at h3;have EV:=O (λo (F:Ev L (λr=>r.tail d ⟨m.i,m.N++[(Nd.mk 14 (i:Int) 0 0 [] [] 0 x j)],m.T⟩ (m.N.length:Int)) o)=>X.o o ((Ev.bind K.o (k:=λr f b6=>A3 (addN f (Nd.mk 14 (i:Int) 0 0 [] [] 0 b6 j)) λs x=>r.tail d s x) (F.eq (λr=>rfl))).eq (λr=>by simp)));have z:I (λk=>k=wr.heap.size) c ((c.setCell (J wr.heap.size 0) (U 14)).setCell (J wr.heap.size 7) (U x)):=((I.set c (J wr.heap.size 0) (U 14)).trans (I.set _ (J wr.heap.size 7) (U x)) (λ_ _ x=>x));have R:=O (G.free (ok':=ok) z (λk D=>⟨λx=>x.2 D,by rw[show k=wr.heap.size from D];exact am⟩) (λg n _=>n.1));have p:=O (A.o.trans' z (λaf hi x=>by have x':af=wr.heap.size:=x;omega));have ax:c.cell? (J wr.heap.size 0)=some (U 0):=cr h.o rfl;have ay:c.cell? (J wr.heap.size 1)=some (U (i:Int)):=cr h.o rfl;have az:c.cell? (J wr.heap.size 2)=some (U 0):=cr h.o rfl;have b0:c.cell? (J wr.heap.size 3)=some (U 0):=cr h.o rfl;have b1:c.cell? (J wr.heap.size 4)=some (sN):=cr h.o rfl;have b2:c.cell? (J wr.heap.size 5)=some (.string ⟨#[]⟩):=cr h.o rfl;have b3:c.cell? (J wr.heap.size 6)=some (U 0):=cr h.o rfl;have b4:c.cell? (J wr.heap.size 7)=some (U (-1)):=cr h.o rfl;have b5:c.cell? (J wr.heap.size 8)=some (U j):=cr h.o rfl;have b8:=frozen_of_row c wr.heap.size 0 _ _ h.o;have co:=frozen_of_row c wr.heap.size 7 _ _ h.o;have b9:=(ltG h.o);clear G ae z K h A;have M:=O (T6 E R.o (Nd.mk 14 (i:Int) 0 0 [] [] 0 x j) none 0 0 ⟨_,rfl,kW _ _ _ _,by simp[Value.ownBlock]⟩ (by omega) (by have:=p.o.size;omega) (λg n=>ad g (by have:=p.o.size;omega)));clear R;go_wp2_with fail
       refine M.o.mono ?_;rintro e b7 ⟨rfl,S,V⟩;have K6:=O (p.o.trans S);have P:=O V;clear S V M p;go_wp2;go_roundw
       case rel=>exact⟨m.N.length,⟨m.i,m.N++[(Nd.mk 14 (i:Int) 0 0 [] [] 0 x j)],m.T⟩,rfl,by simp,K6.o,(show J9 s _ from by simp only[J9,qQ,jQ,xQ];omega),P.o,EV.o⟩
       case measure=>
        have h4:=P.o.nxt;rw[h4,al];simp only;omega
     case false=>
      have PE:Hid (Pst ak B a b L (λg=>ok g/\g≠wr.heap.size) d f):=q.o;have PF:=O (PE.o.mono (ok':=ok) (λg n _=>n.1));have EE:=O (X.o (.ok f (i:Int)) (Ev.pure.eq (λr=>by simp)));have GE:=O GR.o;clear q PE;go_wp2_with fail
      go_ret;exact⟨u.o,_,EE.o,rfl,PF.o,GE.o,by omega,by omega⟩
end
def W1b(L:List Tk)(d:Nat)(s:St)(r:Sp):Option (Out Int):=A3 (needQ L s [40]) λs _=>A3 (r.expr d s) λs x=>A3 (needQ L s [41]) λs _=>some (.ok s x)
theorem S8b{b c d:Type}(x:Option (Out b))(f:St->b->Option (Out c))(g:St->c->Option (Out d)):A3 (A3 x f) g=A3 x λs a=>A3 (f s a) g:=by
 rcases x with _|⟨s,a⟩|⟨e,p⟩<;>rfl
theorem W0b(L:List Tk)(d:Nat)(s:St)(r:Sp){a:Type}(k:St->Int->Option (Out a)):A3 (W1b L d s r) k=A3 (needQ L s [40]) λs _=>A3 (r.expr d s) λs x=>A3 (needQ L s [41]) λs _=>k s x:=by
 unfold W1b;simp only[S8b];rfl
section
variable{B a:Nat}{b:Value}{L:List Tk}
def Y2d(w:lZ)(B a:Nat)(b:Value)(L:List Tk)(g:Nat->Prop)(d:Nat)(s:St)(i:Sp->Option (Out Int))(e:Ending)(h:lZ):Prop:=
 Kept B g w h/\∃o,Ev L i o/\match o with
  | .ok c x=>e= .returned (U x)/\Pst h B a b L g d c/\(s.i<c.i/\c.N.length+s.i+2<=s.N.length+c.i/\c.T.length+s.i<=s.T.length+c.i/\s.N.length<=c.N.length)/\0<=x/\x<c.N.length
  | .fail f p=>e=gu f p/\f≠0
theorem O1a{w f:lZ}{e:Nat->Prop}{d:Nat}{s:St}{g:Sp->Option (Out Int)}{c p:Int}(j:Kept B e w f)(i:Ev L g (.fail c p))(h:c≠0):Y2d w B a b L e d s g (gu c p) f:=⟨j,_,i,rfl,h⟩
theorem N1a(v:LOk L)(m:Nat)(M:∀D,D<=m->ConN B a b L 168 (λd s r=>r.expr d s) D)(w:lZ)(l:Nat->Prop)(d:Nat)(s:St)(hm:L.length - s.i<=m)(S:∀g,w.heap.size<=g->l g)(H:B<=w.heap.size)(h:Pst w B a b L l d s):
 Calls prog 169 #[pV a] w (Y2d w B a b L l d s (λr=>A3 (needQ L s [40]) λn (_:Unit)=>A3 (r.expr d n) λp x=>A3 (needQ L p [41]) λq (_:Unit)=>some (Out.ok q x))):=by
 have Z:=h.at';have hs:=v.short;have Y:=h.few;have K:=O (Kept.refl B l w);generalize z:(λ(r:Sp)=>A3 (needQ L s [40]) λn (_:Unit)=>A3 (r.expr d n) λp x=>A3 (needQ L p [41]) λq (_:Unit)=>some (Out.ok q x))=F;have V:Hid (∀o,Ev L (λr=>A3 (needQ L s [40]) λn (_:Unit)=>A3 (r.expr d n) λp x=>A3 (needQ L p [41]) λq (_:Unit)=>some (Out.ok q x)) o->Ev L F o):=by
  rw[<-z];exact λ_ x=>x
 have P:=O h;clear h z;go_enter func169,ntmps169;have i:=O (J0 v P.o [40]);clear P;go_wp2_with fail
 refine i.o.mono ?_;rintro e W ⟨j,y⟩;replace K:=O (K.o.trans j);clear j i;rcases y with ⟨f,rfl,c⟩|⟨f,rfl⟩
 case inr=>exact⟨rfl,O1a K.o (Ev.vf V.o (U0 f)) (by decide)⟩
 replace V:=O (Ev.vb V.o (Q7 f));clear f;have P:=O c;have a2:=c.at';clear c;have i:=O (M (L.length - ((s).nx).i) (by simp only[St.nx];omega) W l d ((s).nx) (vQ _) (λg t=>S g (kQ K.o.size t)) (kQ H K.o.size) P.o);clear P;go_wp2_with fail
 refine i.o.mono ?_;rintro e a6 ⟨j,o,A,C⟩;replace K:=O (K.o.trans j);have u:=O A;clear j A i;cases o with
 |fail X a5=>
  obtain⟨rfl,N⟩:=C;exact⟨rfl,O1a K.o (Ev.vf V.o u.o) N⟩
 |ok k x=>
  obtain⟨rfl,c,t,T⟩:=C;have R:_/\_/\_/\_:=t;simp only[St.nx]at R;replace V:=O (Ev.vb V.o u.o);clear u;have P:=O c;have a3:=c.at';clear c t;have i:=O (J0 v P.o [41]);clear P;go_wp2_with fail
  refine i.o.mono ?_;rintro e a7 ⟨j,y⟩;replace K:=O (K.o.trans j);clear j i;rcases y with ⟨f,rfl,c⟩|⟨f,rfl⟩
  case inr=>exact⟨rfl,O1a K.o (Ev.vf V.o (U0 f)) (by decide)⟩
  replace V:=O (Ev.vb V.o (Q7 f));clear f;have P:=O c;have a4:=c.at';clear c;have E:=O (V.o _ Ev.pure);have G:Hid (s.i<((k).nx).i/\((k).nx).N.length+s.i+2<=s.N.length+((k).nx).i/\((k).nx).T.length+s.i<=s.T.length+((k).nx).i/\s.N.length<=((k).nx).N.length):=(show _/\_/\_/\_ from by simp only[St.nx];omega);clear V;go_wp2_with fail
  go_ret;exact⟨K.o,_,E.o,rfl,P.o,G.o,T⟩
theorem S0d(y:LOk L)(m:Nat)(hE:∀T,T<=m->ConN B a b L 168 (λd s r=>r.expr d s) T)(n:Int)(w:lZ)(E:Nat->Prop)(d:Nat)(s:St)(hm:L.length - s.i<=m)(H:∀g,w.heap.size<=g->E g)(F:B<=w.heap.size)(h:Pst w B a b L E d s):
 Calls prog 126 #[pV a,U n] w (Y6 w B a b L E d s (λr=>if (tk L (s).i).kind=1 then A3 (typeIfQ L r d (s).nx) λq l=>A3 (needQ L q [61]) λt (_:Unit)=>A3 (r.expr d t) λu x=>A3 (needQ L u [59]) λv (_:Unit)=>addN v (Nd.mk 17 x 0 0 [] (tk L (s).i).text 0 l n) else fltQ L (s).i 1)):=by
 have a8:=h.at';have hs:=y.short;have a7:=h.few;have K:=O (Kept.refl B E w);generalize R:(λ(r:Sp)=>if (tk L (s).i).kind=1 then A3 (typeIfQ L r d (s).nx) λq l=>A3 (needQ L q [61]) λt (_:Unit)=>A3 (r.expr d t) λu x=>A3 (needQ L u [59]) λv (_:Unit)=>addN v (Nd.mk 17 x 0 0 [] (tk L (s).i).text 0 l n) else fltQ L (s).i 1)=Z;have V:Hid (∀o,Ev L (λr=>if (tk L (s).i).kind=1 then A3 (typeIfQ L r d (s).nx) λq l=>A3 (needQ L q [61]) λt (_:Unit)=>A3 (r.expr d t) λu x=>A3 (needQ L u [59]) λv (_:Unit)=>addN v (Nd.mk 17 x 0 0 [] (tk L (s).i).text 0 l n) else fltQ L (s).i 1) o->Ev L Z o):=by
  rw[<-R];exact λ_ x=>x
 have P:=O h;clear h R;go_enter func126,ntmps126;have f:=O (T7a y P.o);clear P;go_wp2_with fail
 refine f.o.mono ?_;rintro e af ⟨j,D⟩;replace K:=O (K.o.trans j);clear j f;rcases D with ⟨i,rfl,c⟩|⟨i,rfl⟩
 case inr=>exact⟨rfl,D5 K.o (V.o _ (Ev.pure.eq (λr=>by rw[yY i];rfl))) (by decide)⟩
 replace V:=O (λo (ho:Ev L (λr=>A3 (typeIfQ L r d (s).nx) λq l=>A3 (needQ L q [61]) λt (_:Unit)=>A3 (r.expr d t) λu x=>A3 (needQ L u [59]) λv (_:Unit)=>addN v (Nd.mk 17 x 0 0 [] (tk L (s).i).text 0 l n)) o)=>V.o o (ho.eq (λr=>by rw[rY i])));clear i;generalize (tk L (s).i).text=M at *;have P:=O c;have a9:=c.at';clear c;have f:=O (F6a y P.o (λg k=>H g (kQ K.o.size k)) (kQ F K.o.size));clear P;go_wp2_with fail
 refine f.o.mono ?_;rintro e ag ⟨j,o,A,C⟩;replace K:=O (K.o.trans j);have p:=O A;clear j A f;cases o with
 |fail er a5=>
  obtain⟨rfl,G⟩:=C;exact⟨rfl,D5 K.o (Ev.vf V.o p.o) G⟩
 |ok X l=>
  obtain⟨rfl,c,k⟩:=C;have a2:_/\_/\_/\_:=k;simp only[St.nx]at a2;replace V:=O (Ev.vb V.o p.o);clear p;have P:=O c;have aa:=c.at';clear c k;have f:=O (J0 y P.o [61]);clear P;go_wp2_with fail
  refine f.o.mono ?_;rintro e a6 ⟨j,D⟩;replace K:=O (K.o.trans j);clear j f;rcases D with ⟨i,rfl,c⟩|⟨i,rfl⟩
  case inr=>exact⟨rfl,D5 K.o (Ev.vf V.o (U0 i)) (by decide)⟩
  replace V:=O (Ev.vb V.o (Q7 i));clear i;have P:=O c;have ab:=c.at';clear c;have f:=O (hE (L.length - ((X).nx).i) (by simp only[St.nx];omega) a6 E d ((X).nx) (vQ _) (λg k=>H g (kQ K.o.size k)) (kQ F K.o.size) P.o);clear P;go_wp2_with fail
  refine f.o.mono ?_;rintro e ah ⟨j,o,A,C⟩;replace K:=O (K.o.trans j);have p:=O A;clear j A f;cases o with
  |fail er a5=>
   obtain⟨rfl,G⟩:=C;exact⟨rfl,D5 K.o (Ev.vf V.o p.o) G⟩
  |ok z x=>
   obtain⟨rfl,c,k,ae⟩:=C;have a3:_/\_/\_/\_:=k;simp only[St.nx]at a3;replace V:=O (Ev.vb V.o p.o);clear p;have P:=O c;have ac:=c.at';clear c k;have f:=O (J0 y P.o [59]);clear P;go_wp2_with fail
   refine f.o.mono ?_;rintro e ai ⟨j,D⟩;replace K:=O (K.o.trans j);clear j f;rcases D with ⟨i,rfl,c⟩|⟨i,rfl⟩
   case inr=>exact⟨rfl,D5 K.o (Ev.vf V.o (U0 i)) (by decide)⟩
   replace V:=O (Ev.vb V.o (Q7 i));clear i;have P:=O c;have ad:=c.at';clear c;have N:=O (T6 y P.o (Nd.mk 17 x 0 0 [] M 0 l n) none 0 0 ⟨_,rfl,kW _ _ _ _,by simp[Value.ownBlock]⟩ (by simp only[St.nx];omega) (kQ F K.o.size) (λg k=>H g (kQ K.o.size k)));have Y:=O (V.o _ Ev.pure);have GX:=O (show F6 s ⟨((z).nx).i,((z).nx).N++[(Nd.mk 17 x 0 0 [] M 0 l n)],((z).nx).T⟩ by
    simp only[F6,St.nx,qQ,jQ,xQ]
    omega)
   have a4:(0:Int)<=(((z).nx).N.length:Int)/\(((z).nx).N.length:Int)<((((z).nx).N++[(Nd.mk 17 x 0 0 [] M 0 l n)]).length:Int):=by simp;omega
   clear P V;go_wp2_with fail
   refine N.o.mono ?_;rintro e aj ⟨rfl,S,W⟩;have K9:=O (K.o.trans S);have P9:=O W;clear S W N;go_wp2_with fail
   go_ret;exact F9 K9.o Y.o P9.o GX.o a4
theorem F2a(y:LOk L)(m:Nat)(X:∀H,H<=m->ConN B a b L 168 (λd s r=>r.expr d s) H)(i c:Int)(w:lZ)(p:Nat->Prop)(d:Nat)(s:St)(hm:L.length - s.i<=m)(E:∀g,w.heap.size<=g->p g)(A:B<=w.heap.size)(h:Pst w B a b L p d s):
 Calls prog 127 #[pV a,U i,U c] w (Y6 w B a b L p d s (λr=>A3 (r.expr d s) λq x=>A3 (needQ L q [59]) λt (_:Unit)=>addN t (Nd.mk i x 0 0 [] [] 0 (-1) c))):=by
 have a5:=h.at';have hs:=y.short;have a3:=h.few;have K:=O (Kept.refl B p w);generalize C:(λ(r:Sp)=>A3 (r.expr d s) λq x=>A3 (needQ L q [59]) λt (_:Unit)=>addN t (Nd.mk i x 0 0 [] [] 0 (-1) c))=R;have V:Hid (∀o,Ev L (λr=>A3 (r.expr d s) λq x=>A3 (needQ L q [59]) λt (_:Unit)=>addN t (Nd.mk i x 0 0 [] [] 0 (-1) c)) o->Ev L R o):=by
  rw[<-C];exact λ_ x=>x
 have P:=O h;clear h C;go_enter func127,ntmps127;have l:=O (X (L.length - (s).i) (by omega) w p d (s) (vQ _) (λg j=>E g (kQ K.o.size j)) (kQ A K.o.size) P.o);clear P;go_wp2_with fail
 refine l.o.mono ?_;rintro e aa ⟨n,o,D,F⟩;replace K:=O (K.o.trans n);have v:=O D;clear n D l;cases o with
 |fail er a9=>
  obtain⟨rfl,Y⟩:=F;exact⟨rfl,D5 K.o (Ev.vf V.o v.o) Y⟩
 |ok k x=>
  obtain⟨rfl,f,j,a8⟩:=F;have a4:_/\_/\_/\_:=j;skip
  replace V:=O (Ev.vb V.o v.o);clear v;have P:=O f;have a6:=f.at';clear f j;have l:=O (J0 y P.o [59]);clear P;go_wp2_with fail
  refine l.o.mono ?_;rintro e ab ⟨n,Z⟩;replace K:=O (K.o.trans n);clear n l;rcases Z with ⟨u,rfl,f⟩|⟨u,rfl⟩
  case inr=>exact⟨rfl,D5 K.o (Ev.vf V.o (U0 u)) (by decide)⟩
  replace V:=O (Ev.vb V.o (Q7 u));clear u;have P:=O f;have a7:=f.at';clear f;have z:=O (O8 y P.o (Nd.mk i x 0 0 [] [] 0 (-1) c) 0 none 0 0 ⟨_,rfl,kW _ _ _ _,by simp[Value.ownBlock]⟩ rfl (by simp only[St.nx];omega) (kQ A K.o.size) (λg j=>E g (kQ K.o.size j)));have N:=O (V.o _ Ev.pure);have S:=O (show F6 s ⟨((k).nx).i,((k).nx).N++[(Nd.mk i x 0 0 [] [] 0 (-1) c)],((k).nx).T⟩ by
   simp only[F6,St.nx,qQ,jQ,xQ]
   omega)
  have a2:(0:Int)<=(((k).nx).N.length:Int)/\(((k).nx).N.length:Int)<((((k).nx).N++[(Nd.mk i x 0 0 [] [] 0 (-1) c)]).length:Int):=by simp;omega
  clear P V;go_wp2_with fail
  refine z.o.mono ?_;rintro e ac ⟨rfl,G,M⟩;have T:=O (K.o.trans G);have W:=O M;clear G M z;go_wp2_with fail
  go_ret;exact F9 T.o N.o W.o S.o a2
theorem C8d(C:LOk L)(m:Nat)(Z:∀k,k<=m->ConN B a b L 168 (λd s r=>r.expr d s) k)(hK:∀k,k<=m->ConN B a b L 170 (λd s r=>r.block d s) k)(i:Int)(w:lZ)(l:Nat->Prop)(d:Nat)(s:St)(hm:L.length - s.i<=m)(E:∀g,w.heap.size<=g->l g)(A:B<=w.heap.size)(h:Pst w B a b L l d s):
 Calls prog 129 #[pV a,U i] w (Y6 w B a b L l d s (λr=>A3 (W1b L d s r) λv x=>A3 (r.block d v) λz y=>addN z (Nd.mk 23 x y 0 [] [] 0 (-1) i))):=by
 have a8:=h.at';have hs:=C.short;have a5:=h.few;have K:=O (Kept.refl B l w);generalize G:(λ(r:Sp)=>A3 (W1b L d s r) λv x=>A3 (r.block d v) λz y=>addN z (Nd.mk 23 x y 0 [] [] 0 (-1) i))=S;have V:Hid (∀o,Ev L (λr=>A3 (W1b L d s r) λv x=>A3 (r.block d v) λz y=>addN z (Nd.mk 23 x y 0 [] [] 0 (-1) i)) o->Ev L S o):=by
  rw[<-G];exact λ_ x=>x
 have P:=O h;clear h G;go_enter func129,ntmps129;have p:=O (N1a C (L.length - (s).i) (λk ab=>Z k (by omega)) w l d (s) (vQ _) (λg c=>E g (kQ K.o.size c)) (kQ A K.o.size) P.o);clear P;go_wp2_with fail
 refine p.o.mono ?_;rintro e a4 ⟨t,o,q,u⟩;replace K:=O (K.o.trans t);have f:=O q;clear t q p;cases o with
 |fail Y a3=>
  obtain⟨rfl,D⟩:=u;exact⟨rfl,D5 K.o (Ev.vf V.o f.o) D⟩
 |ok N x=>
  obtain⟨rfl,j,c,ac⟩:=u;have a6:_/\_/\_/\_:=c;skip
  replace V:=O (Ev.vb V.o f.o);clear f;have P:=O j;have a9:=j.at';clear j c;have p:=O (hK (L.length - (N).i) (by omega) a4 l d (N) (vQ _) (λg c=>E g (kQ K.o.size c)) (kQ A K.o.size) P.o);clear P;go_wp2_with fail
  refine p.o.mono ?_;rintro e ae ⟨t,o,q,u⟩;replace K:=O (K.o.trans t);have f:=O q;clear t q p;cases o with
  |fail Y a3=>
   obtain⟨rfl,D⟩:=u;exact⟨rfl,D5 K.o (Ev.vf V.o f.o) D⟩
  |ok n y=>
   obtain⟨rfl,j,c,ad⟩:=u;have a7:_/\_/\_/\_:=c;skip
   replace V:=O (Ev.vb V.o f.o);clear f;have P:=O j;have aa:=j.at';clear j c;have F:=O (O8 C P.o (Nd.mk 23 x y 0 [] [] 0 (-1) i) 0 none 0 0 ⟨_,rfl,kW _ _ _ _,by simp[Value.ownBlock]⟩ rfl (by omega) (kQ A K.o.size) (λg c=>E g (kQ K.o.size c)));have R:=O (V.o _ Ev.pure);have T:=O (show F6 s ⟨(n).i,(n).N++[(Nd.mk 23 x y 0 [] [] 0 (-1) i)],(n).T⟩ by
    simp only[F6,qQ,jQ,xQ]
    omega)
   have a2:(0:Int)<=((n).N.length:Int)/\((n).N.length:Int)<(((n).N++[(Nd.mk 23 x y 0 [] [] 0 (-1) i)]).length:Int):=by simp;omega
   clear P V;go_wp2_with fail
   refine F.o.mono ?_;rintro e af ⟨rfl,H,M⟩;have W:=O (K.o.trans H);have X:=O M;clear H M F;go_wp2_with fail
   go_ret;exact F9 W.o R.o X.o T.o a2
theorem E9c(E:LOk L)(m:Nat)(hE:∀v,v<=m->ConN B a b L 168 (λd s r=>r.expr d s) v)(hK:∀v,v<=m->ConN B a b L 170 (λd s r=>r.block d s) v)(p:Int)(w:lZ)(q:Nat->Prop)(d:Nat)(s:St)(hm:L.length - s.i<=m)(G:∀g,w.heap.size<=g->q g)(D:B<=w.heap.size)(h:Pst w B a b L q d s):
 Calls prog 128 #[pV a,U p] w (Y6 w B a b L q d s (λr=>A3 (W1b L d s r) λN x=>A3 (r.block d N) λn y=>A3 (if isM L (n).i [[101,108,115,101]] then r.block d (n).nx else some (.ok (n) (-1))) λR z=>addN R (Nd.mk 22 x y z [] [] 0 (-1) p))):=by
 have ac:=h.at';have hs:=E.short;have a9:=h.few;have K:=O (Kept.refl B q w);generalize a2:(λ(r:Sp)=>A3 (W1b L d s r) λN x=>A3 (r.block d N) λn y=>A3 (if isM L (n).i [[101,108,115,101]] then r.block d (n).nx else some (.ok (n) (-1))) λR z=>addN R (Nd.mk 22 x y z [] [] 0 (-1) p))=FF;have V:Hid (∀o,Ev L (λr=>A3 (W1b L d s r) λN x=>A3 (r.block d N) λn y=>A3 (if isM L (n).i [[101,108,115,101]] then r.block d (n).nx else some (.ok (n) (-1))) λR z=>addN R (Nd.mk 22 x y z [] [] 0 (-1) p)) o->Ev L FF o):=by
  rw[<-a2];exact λ_ x=>x
 have P:=O h;clear h a2;go_enter func128,ntmps128;have j:=O (N1a E (L.length - (s).i) (λv ag=>hE v (by omega)) w q d (s) (vQ _) (λg c=>G g (kQ K.o.size c)) (kQ D K.o.size) P.o);clear P;go_wp2_with fail
 refine j.o.mono ?_;rintro e a7 ⟨l,o,t,u⟩;replace K:=O (K.o.trans l);have k:=O t;clear l t j;cases o with
 |fail er a3=>
  obtain⟨rfl,F⟩:=u;exact⟨rfl,D5 K.o (Ev.vf V.o k.o) F⟩
 |ok s1 x=>
  obtain⟨rfl,f,c,ah⟩:=u;have aa:_/\_/\_/\_:=c;skip
  replace V:=O (Ev.vb V.o k.o);clear k;have P:=O f;have ad:=f.at';clear f c;have j:=O (hK (L.length - (s1).i) (by omega) a7 q d (s1) (vQ _) (λg c=>G g (kQ K.o.size c)) (kQ D K.o.size) P.o);clear P;go_wp2_with fail
  refine j.o.mono ?_;rintro e ak ⟨l,o,t,u⟩;replace K:=O (K.o.trans l);have k:=O t;clear l t j;cases o with
  |fail er a3=>
   obtain⟨rfl,F⟩:=u;exact⟨rfl,D5 K.o (Ev.vf V.o k.o) F⟩
  |ok i y=>
   obtain⟨rfl,f,c,ai⟩:=u;have ab:_/\_/\_/\_:=c;skip
   replace V:=O (Ev.vb V.o k.o);clear k;have P:=O f;have ae:=f.at';clear f c;have j:=G8 E P.o [101,108,115,101];generalize hq:isM L (i).i [[101,108,115,101]]=a6 at j;have HQ:=O hq;have H2:=O j;clear P hq j;go_wp2_with fail
   refine H2.o.mono ?_;rintro e Z ⟨rfl,l,f⟩;replace K:=O (K.o.trans l);clear l H2;cases a6
   case false=>
    have P:Hid (Pst Z B a b L q d (i)):=f;replace V:=O (Ev.vb V.o (Ev.pure.eq (λr=>by rw[HQ.o];rfl)));clear f;have C:=O (O8 E P.o (Nd.mk 22 x y (-1) [] [] 0 (-1) p) 0 none 0 0 ⟨_,rfl,kW _ _ _ _,by simp[Value.ownBlock]⟩ rfl (by omega) (kQ D K.o.size) (λg c=>G g (kQ K.o.size c)));have S:=O (V.o _ Ev.pure);have T:=O (show F6 s ⟨(i).i,(i).N++[(Nd.mk 22 x y (-1) [] [] 0 (-1) p)],(i).T⟩ by
     simp only[F6,qQ,jQ,xQ]
     omega)
    have Y:(0:Int)<=((i).N.length:Int)/\((i).N.length:Int)<(((i).N++[(Nd.mk 22 x y (-1) [] [] 0 (-1) p)]).length:Int):=by simp;omega
    clear P V;go_wp2_with fail
    refine C.o.mono ?_;rintro e a8 ⟨rfl,H,M⟩;have W:=O (K.o.trans H);have X:=O M;clear H M C;go_wp2_with fail
    go_ret;exact F9 W.o S.o X.o T.o Y
   case true=>
    have P:Hid (Pst Z B a b L q d (i).nx):=f;have a5:=f.at';simp only[St.nx]at a5;clear f;have j:=O (hK (L.length - (i).nx.i) (by simp only[St.nx];omega) Z q d (i).nx (vQ _) (λg c=>G g (kQ K.o.size c)) (kQ D K.o.size) P.o);clear P;go_wp2_with fail
    refine j.o.mono ?_;rintro e al ⟨l,o,t,u⟩;replace K:=O (K.o.trans l);have k:=O (t.eq (ψ:=λr=>if isM L (i).i [[101,108,115,101]] then r.block d (i).nx else some (.ok (i) (-1))) (λr=>by rw[HQ.o];rfl));clear l t j;cases o with
    |fail er a3=>
     obtain⟨rfl,F⟩:=u;exact⟨rfl,D5 K.o (Ev.vf V.o k.o) F⟩
    |ok A z=>
     obtain⟨rfl,f,c,aj⟩:=u;have a4:_/\_/\_/\_:=c;simp only[St.nx]at a4;replace V:=O (Ev.vb V.o k.o);clear k;have P:=O f;have af:=f.at';clear f c;have C:=O (O8 E P.o (Nd.mk 22 x y z [] [] 0 (-1) p) 0 none 0 0 ⟨_,rfl,kW _ _ _ _,by simp[Value.ownBlock]⟩ rfl (by omega) (kQ D K.o.size) (λg c=>G g (kQ K.o.size c)));have S:=O (V.o _ Ev.pure);have T:=O (show F6 s ⟨(A).i,(A).N++[(Nd.mk 22 x y z [] [] 0 (-1) p)],(A).T⟩ by
      simp only[F6,qQ,jQ,xQ]
      omega)
     have Y:(0:Int)<=((A).N.length:Int)/\((A).N.length:Int)<(((A).N++[(Nd.mk 22 x y z [] [] 0 (-1) p)]).length:Int):=by simp;omega
     clear P V;go_wp2_with fail
     refine C.o.mono ?_;rintro e a8 ⟨rfl,H,M⟩;have W:=O (K.o.trans H);have X:=O M;clear H M C;go_wp2_with fail
     go_ret;exact F9 W.o S.o X.o T.o Y
theorem F6b{d:Nat}{s:St}{c:uZ}(e:isM L s.i [[125]]=true):Ev L (λr=>r.blockL d s c) (.ok s.nx c):=
 Ev.step (Ev.pure.eq λr=>by show (if isM L s.i [[125]] then _ else _)=_;rw[e];rfl)
theorem C7b{d:Nat}{s:St}{c:uZ}{o:Out uZ}(e:isM L s.i [[125]]=false)(h:Ev L (λr=>A3 (r.stmt d s) λs x=>r.blockL d s (c++[x])) o):Ev L (λr=>r.blockL d s c) o:=
 Ev.step (h.eq λr=>by show (if isM L s.i [[125]] then _ else _)=_;rw[e];rfl)
theorem S3c(D:LOk L)(af:Nat)(hS:∀m',m'<af->ConN B a b L 53 (λd s r=>r.stmt d s) m'):ConN B a b L 170 (λd s r=>r.block d s) af:=by
 intro w q d s hm Y hB h;have hi:=h.at';have hs:=D.short;have av:=h.few;have HA:=O (U9a D h);have a4:Hid (∀R,I No w R->Pst R B a b L q d s):=λR ha=>h.still ha;have V:Hid (∀o,Ev L (λr=>A3 (needQ L s [123]) λs1 _=>A3 (r.blockL d s1 []) λt l=>addN t (Nd.mk 26 0 0 0 l [] 0 (-1) ((tk L s.i).at':Int))) o->Ev L (λr=>r.block d s) o):=λo X=>Ev.step (X.eq (λr=>rfl));obtain⟨i0,aj,al,am,an⟩:=info_parts Tryz.infoInt;clear h;generalize ((tk L s.i).at':Int)=C at *;go_enter func170,ntmps170;go_wp2_with fail
 refine HA.o.mono ?_;rintro e aq ⟨rfl,T⟩;have K1:=O (C7 (B:=B) (ok:=q) T);have H1:=O (J0 D (a4.o aq T) [123]);clear T HA a4;go_wp2_with fail
 refine H1.o.mono ?_;rintro e b3 ⟨k,hr⟩;have N:=O (K1.o.trans k);clear k H1 K1;rcases hr with ⟨H,rfl,m⟩|⟨H,rfl⟩
 case inr=>exact⟨rfl,D5 N.o (V.o _ (Ev.bad (U0 H))) (by decide)⟩
 have V2:=O (Ev.vb V.o (Q7 H));have a6:=O m;clear H m V;go_wp2_with fail
 go_loopw [4] (λap wr=>∃(f:uZ) (i:St) (n:Option Addr) (c:Nat),ap= .slice n f.length c/\f.length<=i.i/\Hid (Kept B q w wr)/\Hid (J9 s.nx i)/\Hid (wr.ownsRow w.heap.size 3 1 (.slice n f.length c) f.length (C8 f))/\
  Hid (Pst wr B a b L (λg=>q g/\some g≠Value.ownBlock (.slice n f.length c)) d i)/\Hid (∀o,Ev L (λr=>A3 (r.blockL d i f) λt l=>addN t (Nd.mk 26 0 0 0 l [] 0 (-1) C)) o->Ev L (λr=>r.block d s) o)) (λ_ wr=>L.length - nxt wr a)
 case atStart=>exact⟨[],s.nx,none,0,rfl,by simp,N.o,⟨vQ _,by omega,by omega,by omega⟩,kW _ _ _ _,a6.o.mono (λg j _=>⟨j,by simp[Value.ownBlock]⟩),V2.o⟩
 case round=>
  clear N a6 V2;obtain⟨f,i,n,c,rfl,au,KR,GR,OR,z,A⟩:=hrel;have HT:=G8 D z.o [125];have ay:=z.o.at';have ak:=z.o.nxt;have aw:=z.o.few;have ai:=GR.o;simp only[J9,St.nx]at ai;generalize hq:isM L i.i [[125]]=ao at *;have P:=O hq;clear hq;go_wp2_with fail
  refine HT.mono ?_;clear HT;rintro e Z ⟨rfl,k,m⟩;have p:=O (KR.o.trans (k.mono λ_ h=>h.1));have u:=O (G0 OR.o k (by decide));have G:=O m;clear k m OR z KR;cases ao
  · have v:Hid (Pst Z B a b L (λg=>q g/\some g≠Value.ownBlock (.slice n f.length c)) d i):=G.o;clear G;have HM:=O (hS (L.length - i.i) (by omega) Z _ d i (vQ _) (λg j=>⟨Y g (kQ p.o.size j),λhx=>by have:=(u.o.lt g hx.symm).2;omega⟩) (kQ hB p.o.size) v.o);clear v;go_wp2_with fail
    refine HM.o.mono ?_;rintro e ar ⟨k,o,aa,ab⟩;have E:=O (p.o.trans (k.mono λ_ h=>h.1));have F:=O (G0 u.o k (by decide));have E4:=O aa;clear k aa p u HM;cases o with
    |fail er b1=>
     obtain⟨rfl,he⟩:=ab;exact⟨rfl,D5 E.o (A.o _ (Ev.bad (C7b P.o (Ev.bad (k:=λr s x=>r.blockL d s (f++[x])) E4.o)))) he⟩
    |ok M y=>
     obtain⟨rfl,m,j,_⟩:=ab;have a7:=O m;have ax:_/\_/\_/\_:=j;have b0:=m.at';clear m j;have VN:=O (λo (X:Ev L (λr=>A3 (r.blockL d M (f++[y])) λt l=>addN t (Nd.mk 26 0 0 0 l [] 0 (-1) C)) o)=>A.o o (by
      obtain⟨ag,h1⟩:=E4.o;obtain⟨ah,h2⟩:=X;refine⟨ag+ah+1,λa9 hf=> ?_⟩;obtain⟨g,rfl⟩:∃g,a9=g+1:=⟨a9 - 1,by omega⟩;have a1:(sp' L g).stmt d i=some (.ok M y):=h1 g (by omega);have a2:=h2 g (by omega);have a3:=h2 (g+1) (by omega);show A3 (if isM L i.i [[125]] then some (.ok i.nx f) else A3 ((sp' L g).stmt d i) λs x=>(sp' L g).blockL d s (f++[x])) _=some o;rw[P.o,yY (by decide),a1];exact a2))
     clear A;have ae:=O (F.o.alloc (.cells #[U y] 3));go_wp2_with (at_builtin;refine wpList_append_own_at _ rfl _ _ 43 rfl w.heap.size 3 i0 (U 0) 1 8 underlying43 aj al am an rfl (by decide) _ _ _ rfl ae.o (J ar.heap.size 0) 1 1 [U y] rfl rfl ?c1 ?c2 ?c3 ?c4 ?c5 ?_)
     case c1=>exact cell_one_new _ _ _
     case c2=>intro b2 hu;simp at hu;rcases hu with rfl;rfl
     case c3=>simp only[maxLen];omega
     case c4=>omega
     case c5=>have:=E.o.size;simp;omega
     intro v' b4 K W _ S;obtain⟨a8,c2,ac⟩:=B9 K;rw[ac]at K S⊢;have PG:=O ((a7.o.alloc (.cells #[U y] 3)).grown (v:= .slice n f.length c) (v':= .slice a8 (f.length+1) c2) (F.o.alloc _) (.inl rfl) W (by simpa using S));have KG:=O ((E.o.alloc (.cells #[U y] 3)).grown (F.o.alloc _) W);have OG:=O K;clear K W S ae a7 F E ac;go_wp2_with fail
     go_roundw
     case rel=>
      refine⟨f++[y],M,a8,c2,by simp,by simp;omega,KG.o,(show J9 s.nx M from by simp only[J9,St.nx];omega), ?_, ?_,VN.o⟩
      · have:=OG.o;show World.ownsRow _ _ _ _ _ _ _;rw[T7];simpa using this
      · have:=PG.o;show Pst _ _ _ _ _ _ _ _;simpa using this
     case measure=>
      have h3:=PG.o.nxt;rw[h3,ak];omega
  · have v:Hid (Pst Z B a b L (λg=>q g/\some g≠Value.ownBlock (.slice n f.length c)) d i.nx):=G.o;have PY:=O (v.o.mono (ok':=q) (λg j _=>j.1));have az:=v.o.at';clear G v;have a5:=O (O8 D PY.o (Nd.mk 26 0 0 0 f [] 0 (-1) C) 0 n f.length c ⟨_,rfl,C9 u.o (wQ _),λg j=>Y g (A9 u.o g j).1⟩ rfl (by simp only[St.nx];omega) (kQ hB p.o.size) (λg j=>Y g (kQ p.o.size j)));have EV:=O (A.o _ (Ev.bind (k:=λ_ t l=>addN t (Nd.mk 26 0 0 0 l [] 0 (-1) C)) (F6b P.o) Ev.pure));have GX:=O (show F6 s ⟨i.nx.i,i.nx.N++[Nd.mk 26 0 0 0 f [] 0 (-1) C],i.nx.T⟩ by
     simp only[F6,St.nx,qQ,jQ,xQ]
     omega)
    clear PY A u;go_wp2_with fail
    refine a5.o.mono ?_;rintro e b5 ⟨rfl,k9,p9⟩;have K9:=O (p.o.trans k9);have P9:=O p9;clear k9 p9 a5;go_wp2_with fail
    go_ret;exact F9 K9.o EV.o P9.o GX.o (by simp only[St.nx,qQ,jQ,xQ];omega)
end
section
variable{w:lZ}{B a:Nat}{c:Value}{L:List Tk}{b:Nat->Prop}{d:Nat}{s:St}
theorem Q6b(k:Int)(w:lZ):Calls prog 196 #[U k] w λe i=>e= .returned (U (M7a k))/\i=w:=by
 by_cases f:k=5
 · subst f;go_enter func196,ntmps196;go_wp2;go_ret;exact⟨rfl,rfl⟩
 · by_cases g:k=8
   · subst g;go_enter func196,ntmps196;go_wp2;go_ret;exact⟨rfl,rfl⟩
   · by_cases h:k=9
     · subst h;go_enter func196,ntmps196;go_wp2;go_ret;exact⟨rfl,rfl⟩
     · have e:M7a k=0:=by simp[M7a,f,g,h]
       have j:(k==5)=false:=by simp[f]
       have l:(k==8)=false:=by simp[g]
       have m:(k==9)=false:=by simp[h]
       rw[e];go_enter func196,ntmps196;go_wp2;go_ret;exact⟨rfl,rfl⟩
theorem Pst.cut(h:Pst w B a c L b d s){k g f:Nat}(hk:k<s.N.length)(Z:w.cell? (J a 3)=some (.slice (some (J g 0)) s.N.length f)):
 Pst (w.setCell (J a 3) (.slice (some (J g 0)) k f)) B a c L b d ⟨s.i,s.N.take k,s.T⟩/\Kept B b w (w.setCell (J a 3) (.slice (some (J g 0)) k f)):=by
 have a7:=h.keptSet 3 (.slice (some (J g 0)) k f);obtain⟨X,Y,G,F,r,R,D,C,yx,l,K,N,a8,a9⟩:=h;have q:w.cell? (J a 3)=some R:=cr l rfl;have V:w.cell? (J a 4)=some D:=cr l rfl;have W:R= .slice (some (J g 0)) s.N.length f:=by rw[Z]at q;exact(bY q).symm
 subst W;have m:=I.set w (J a 3) (.slice (some (J g 0)) k f);have z:∀{E:Nat} {e:TypeId} {S:Nat} {v:Value} {n:Nat} {T:List Value},w.ownsRow E e S v n T->e≠84->∀g,v.ownBlock=some g->¬g=a:=by
  intro E e S v n T ho u g hg A;subst A;obtain⟨_,j,i⟩:=A9 ho g hg;rw[l]at i;simp only[zQ,xW]at i;exact u i.2.1.symm
 have P:∀g,b g->g<w.heap.size->g=a->(∃j e,w.heap[g]? =some (.cells j e (0,0))/\(e=131\/e=3))->False:=by
  rintro g _ _ rfl ⟨j,e,i,u⟩;rw[l]at i;simp only[zQ,xW]at i;rcases u with rfl|rfl
  · exact absurd i.2.1 (by decide)
  · exact absurd i.2.1 (by decide)
 have t:(w.setCell (J a 3) (.slice (some (J g 0)) k f)).heap[a]? =some (.cells #[c,U (s.i:Int),U (d:Int),.slice (some (J g 0)) k f,D] 84 (0,0)):=by rw[heap_setCell_same w a 3 _ _ _ l];rfl
 have hcut:w.ownsRow B 87 9 (.slice (some (J g 0)) k f) k (C.take (k * 9)):=by
  rcases K.2 with ⟨A,_⟩|⟨p,ac,j,M,a2,a6,ad,a3,a4,aa⟩
  · cases A
  · simp only[Value.slice.injEq,zQ,Addr.mk.injEq,and_true,true_and]at M;obtain⟨rfl,rfl⟩:=M;refine⟨?_,.inr ⟨g,f,j,rfl,a2,a6,by omega,a3,a4, ?_⟩⟩
    · rw[List.length_take,K.1];omega
    · rw[<-aa,List.take_take];congr 1
      omega
 have H:(s.N.take k).length=k:=by rw[List.length_take];omega
 have a5:(w.setCell (J a 3) (.slice (some (J g 0)) k f)).ownsRow B 87 9 (.slice (some (J g 0)) k f) (s.N.take k).length (C.take (k * 9)):=by
  rw[H];exact A4 hcut m (z hcut (by decide))
 refine⟨⟨X,Y,⟨by show (s.N.take k).length<=s.i;rw[H];have:=G.1;omega,G.2⟩,A4 F m (z F (by decide)), ?_,.slice (some (J g 0)) k f,D,C.take (k * 9),yx,t,a5,A4 N m (z N (by decide)),(Rws.take (λ_ _ h=>NdV.len h) k a8).imp (NdV.chg m P (λ_ x _=>x)),a9.imp (TyV.chg m P (λ_ x _=>x))⟩,a7⟩;refine⟨r.1,λab p o y=> ?_,λab p o y=> ?_⟩
 · rw[cell_of_row _ a 3 _ _ _ t]at o;cases o;exact r.2.1 _ p q y
 · rw[cell_of_row _ a 4 _ _ _ t]at o;cases o;exact r.2.2 _ p V y
theorem Pst.nodeCells(h:Pst w B a c L b d s){k:Nat}(t:k<s.N.length):∃g l i j,w.cell? (J a 3)=some (.slice (some (J g 0)) s.N.length l)/\s.N.length<=l/\l<=maxLen/\g<w.heap.size/\a<w.heap.size/\w.frozen? (J a 3)=false/\
 w.cell? (J g (k * 9))=some (U s.N[k].kind)/\w.cell? (J g (k * 9+1))=some (U s.N[k].a)/\w.cell? (J g (k * 9+2))=some (U s.N[k].b)/\w.cell? (J g (k * 9+3))=some (U s.N[k].c)/\w.cell? (J g (k * 9+4))=some (.slice i s.N[k].list.length j)/\
 w.cell? (J g (k * 9+5))=some (.string ⟨s.N[k].text.toArray⟩)/\w.cell? (J g (k * 9+6))=some (U s.N[k].n)/\w.cell? (J g (k * 9+7))=some (U s.N[k].ty)/\w.cell? (J g (k * 9+8))=some (U s.N[k].at')/\
 w.ownsRow 0 3 1 (.slice i s.N[k].list.length j) s.N[k].list.length (C8 s.N[k].list)/\(∀g,Value.ownBlock (.slice i s.N[k].list.length j)=some g->b g):=by
 obtain⟨F,H,G,K,m,o,A,x,z⟩:=h.blk;obtain⟨D,y,rfl⟩:=B9 o;obtain⟨g,rfl,_,q,p,r,f⟩:=F5 o (by omega);obtain⟨E,u,e⟩:=Rws.at (λ_ _ h=>NdV.len h) k t x;obtain⟨C,rfl,n,v⟩:=u;obtain⟨i,j,rfl⟩:=B9 n;exact⟨g,y,i,j,cr m rfl,p,r,q,(ltG m),frozen_of_row w a 3 _ _ m,f _ _ ((e 0 (by omega)).trans rfl),f _ _ ((e 1 (by omega)).trans rfl),f _ _ ((e 2 (by omega)).trans rfl),f _ _ ((e 3 (by omega)).trans rfl),f _ _ ((e 4 (by omega)).trans rfl),f _ _ ((e 5 (by omega)).trans rfl),f _ _ ((e 6 (by omega)).trans rfl),f _ _ ((e 7 (by omega)).trans rfl),f _ _ ((e 8 (by omega)).trans rfl),n,v⟩
theorem E1b(w:lZ)(e f:Obj){n:Nat}(g:w.heap.size=n):((w.alloc e).alloc f).heap[n]? =some e:=by
 subst g;rw[heap_alloc_old _ _ (by simp)];exact qY _ _
theorem F3c(w:lZ)(f e:Obj){n:Nat}(g:w.heap.size=n):((w.alloc f).alloc e).heap[n+1]? =some e:=by
 subst g;have h:=qY (w.alloc f) e;simpa using h
theorem I.put{S:Nat->Prop}{g f:lZ}{q o:Nat}{v:Value}(h:I S g f)(i:S q):I S g (f.setCell (J q o) v):=
 h.trans (I.mono (I.set f (J q o) v) λ_ _ x=>by have e:_=q:=x;rw[e];exact i) (λ_ _ x=>x)
def Y0d(w:lZ)(B a:Nat)(c:Value)(L:List Tk)(b:Nat->Prop)(d:Nat)(s:St)(k:Nat)(n:Nd)(m:Sp->Option (Out Int))(e:Ending)(j:lZ):Prop:=
 Kept B b w j/\∃o,Ev L m o/\match o with
  | .ok f v=>(∃h i,e= .returned (.agg #[U (F7a n v).kind,U (F7a n v).a,U (F7a n v).b,U (F7a n v).c,.slice h n.list.length i,.string ⟨n.text.toArray⟩,U n.n,U n.ty,U n.at'])/\j.ownsRow 0 3 1 (.slice h n.list.length i) n.list.length (C8 n.list)/\∀g,Value.ownBlock (.slice h n.list.length i)=some g->b g)/\Pst j B a c L b d f/\s.i+1<f.i/\f.N.length+s.i+1<=s.N.length+f.i/\f.T.length+s.i+1<=s.T.length+f.i/\k<=f.N.length
  | .fail l p=>e=gu l p/\l≠0
theorem L1b{w m o:lZ}{b j:Nat->Prop}{d k:Nat}{s l:St}{n:Nd}{x:Int}{f:Option Addr}{h:Nat}{e:Ending}{p:Sp->Option (Out Int)}(z:Kept B b w m)(C:Ev L p (.ok l x))(K:Pst m B a c L j d l)(D:F6 ⟨s.i+1,s.N.take k,s.T⟩ l)
 (E:w.ownsRow 0 3 1 (.slice f n.list.length h) n.list.length (C8 n.list)) (F:∀g,Value.ownBlock (.slice f n.list.length h)=some g->b g) (T:(s.N.take k).length=k) (M:∀g,j g->b g) (G:¬j w.heap.size) (H:¬j (w.heap.size+1)) (N:c.ownBlock≠some w.heap.size) (P:c.ownBlock≠some (w.heap.size+1))
 (t:I (λi=>i=w.heap.size\/i=w.heap.size+1) m o) (A:e= .returned (.agg #[U (F7a n x).kind,U (F7a n x).a,U (F7a n x).b,U (F7a n x).c,.slice f n.list.length h,.string ⟨n.text.toArray⟩,U n.n,U n.ty,U n.at'])):Y0d w B a c L b d s k n p e o:=by
 have r:Kept B b w o:=z.trans' t (λi R x=>by omega);have S:(s.N.take k).length<=s.N.length:=by rw[List.length_take];omega
 obtain⟨q,u,v,y⟩:=D;simp only at q u v y;refine⟨r,_,C,⟨f,h,A,G0 E r (by decide),F⟩,K.free t ?_ (λg x _=>M g x),q,by omega,by omega,by omega⟩;rintro i (rfl|rfl)
 · exact⟨G,N⟩
 · exact⟨H,P⟩
theorem O2d(hL:LOk L)(ao:Nat)(hE:∀m',m'<ao->ConN B a c L 168 (λd s r=>r.expr d s) m')(w:lZ)(b:Nat->Prop)(d:Nat)(s:St)(k:Nat)(hk:k<s.N.length)(hq:isM L s.i [[61]]=true)(hm:L.length - s.i<=ao)(av:∀g,w.heap.size<=g->b g)(hB:B<=w.heap.size)(h:Pst w B a c L b d s):
 Calls prog 171 #[pV a,U (k:Int)] w (Y0d w B a c L b d s k s.N[k] (λr=>if M7a s.N[k].kind=0 then fltQ L s.i 1 else r.expr d ⟨s.i+1,s.N.take k,s.T⟩)):=by
 have hi:=h.at';have hs:=hL.short;have az:=h.few;obtain⟨g,ai,m,n,H,ay,ar,E,bb,aq,n0,n1,n2,n3,n4,n5,n6,n7,n8,hl,ad⟩:=h.nodeCells hk;unfold maxLen at ar;generalize am:(λ(r:Sp)=>if M7a s.N[k].kind=0 then fltQ L s.i 1 else r.expr d ⟨s.i+1,s.N.take k,s.T⟩)=FF;have V:Hid (∀o,Ev L (λr=>if M7a s.N[k].kind=0 then fltQ L s.i 1 else r.expr d ⟨s.i+1,s.N.take k,s.T⟩) o->Ev L FF o):=by
  rw[<-am];exact λ_ x=>x
 clear am;have hcut:=h.cut hk H;have ae:(s.N.take k).length=k:=by rw[List.length_take];omega
 have H0:=O h;have HK:=O (λx ap=>Q6b x ap);generalize s.N[k]=nd at *;obtain⟨l,z,A,C,q,u,t,v,p⟩:=nd;simp only at n0 n1 n2 n3 n4 n5 n6 n7 n8 hl ad V⊢;have HL:=O hl;have aa:=O ad;clear h hl ad;have af:c.ownBlock≠some w.heap.size:=H0.o.tokLt (vQ _);have ag:c.ownBlock≠some (w.heap.size+1):=H0.o.tokLt (by omega);by_cases Z:M7a l=0
 · have G:=O (HK.o l ((w.alloc (.cells #[U 0,U 0,U 0,U 0,sN,.string ⟨#[]⟩,U 0,U 0,U 0] 87)).alloc (ndC l z A C (.slice m q.length n) u t v p)));rw[Z]at G;have ac:I No w ((w.alloc (.cells #[U 0,U 0,U 0,U 0,sN,.string ⟨#[]⟩,U 0,U 0,U 0] 87)).alloc (ndC l z A C (.slice m q.length n) u t v p)):=(I.alloc No _ _).trans (I.alloc No _ _) (λ_ _ x=>x);have HF:=O (Z6 hL (H0.o.still ac) 1);have X:=O (C7 (B:=B) (ok:=b) ac);have F:=O (V.o (.fail 1 ((tk L s.i).at':Int)) (Ev.pure.eq (λr=>by rw[rY Z];rfl)));clear ac V hcut;go_enter func171,ntmps171;go_wp2_with fail
   refine G.o.mono ?_;rintro e ax ⟨rfl,rfl⟩;go_wp2_with fail
   refine HF.o.mono ?_;rintro e T ⟨rfl,hc⟩;exact⟨rfl,X.o.trans (C7 hc),_,F.o,rfl,by decide⟩
 · have G:=O (HK.o l ((w.alloc (.cells #[U 0,U 0,U 0,U 0,sN,.string ⟨#[]⟩,U 0,U 0,U 0] 87)).alloc (ndC l z A C (.slice m q.length n) u t v p)));have hz:(w.setCell (J a 3) (.slice (some (J g 0)) k ai)).heap.size=w.heap.size:=by simp
   let D:Nat->Prop:=λg=>b g/\g≠w.heap.size/\g≠w.heap.size+1
   have ah:Pst (((w.setCell (J a 3) (.slice (some (J g 0)) k ai)).alloc (.cells #[U 0,U 0,U 0,U 0,sN,.string ⟨#[]⟩,U 0,U 0,U 0] 87)).alloc (ndC l z A C (.slice m q.length n) u t v p)) B a c L D d ⟨s.i,s.N.take k,s.T⟩:=
    ((hcut.1.mono (λg E b9=>⟨E,by omega,by omega⟩)).alloc _).alloc _
   have HN:=O (J0 hL ah [61]);have X:=O ((hcut.2.alloc (.cells #[U 0,U 0,U 0,U 0,sN,.string ⟨#[]⟩,U 0,U 0,U 0] 87)).alloc (ndC l z A C (.slice m q.length n) u t v p));have N:¬D w.heap.size:=λx=>x.2.1 rfl;have P:¬D (w.heap.size+1):=λx=>x.2.2 rfl;have aw:∀g,w.heap.size+2<=g->D g:=λg E=>⟨av g (by omega),by omega,by omega⟩;have S:∀g,D g->b g:=λg x=>x.1;have ba:∀g,b g->g<w.heap.size->D g:=λg x bg=>⟨x,by omega,by omega⟩;clear_value D
   clear ah hcut;have W:=O Z;clear Z;generalize y:M7a l=kk at G;go_enter func171,ntmps171;go_wp2_with fail
   refine G.o.mono ?_;rintro e ax ⟨rfl,rfl⟩;have fk:(kk==0)=false:=by simpa[<-y]using W.o
   go_wp2_with fail
   refine HN.o.mono ?_;rintro e T ⟨K,a9⟩;have i:T.heap[w.heap.size]? =some (.cells #[U 0,U 0,U 0,U 0,sN,.string ⟨#[]⟩,U 0,U 0,U 0] 87 (0,0)):=J3 K (E1b _ _ _ hz) N;have j:T.heap[w.heap.size+1]? =some (.cells #[U l,U z,U A,U C,.slice m q.length n,.string ⟨u.toArray⟩,U t,U v,U p] 87 (0,0)):=J3 K (F3c _ _ _ hz) P;have bd:w.heap.size+2<=T.heap.size:=by have:=K.size;simpa using this
   have K2:=O (X.o.trans (K.mono S));clear HN K X G;rcases a9 with ⟨_,rfl,R⟩|⟨hx,_⟩;rotate_left
   · rw[hq]at hx;cases hx
   have H1:=O (hE (L.length - (s.i+1)) (by omega) T D d ⟨s.i+1,s.N.take k,s.T⟩ (vQ _) (λg E=>aw g (by omega)) (by omega) R);clear R;go_wp2_with fail
   refine H1.o.mono ?_;rintro e f ⟨M,o,an,a9⟩;have i:=J3 M i N;have j:=J3 M j P;have Y:=O (K2.o.trans (M.mono S));have F:=O (V.o o (an.eq (λr=>by rw[yY W.o])));have be:=M.size;clear M an V H1 K2;cases o with
   |fail er bf=>
    obtain⟨rfl,he⟩:=a9;exact⟨rfl,Y.o,_,F.o,rfl,he⟩
   |ok s3 x=>
    obtain⟨rfl,R,E,bc⟩:=a9;have ab:=O R;have G3:=O E;clear R E;have a0:f.cell? (J w.heap.size 0)=some (U 0):=cr i rfl;have a1:f.cell? (J w.heap.size 1)=some (U 0):=cr i rfl;have a2:f.cell? (J w.heap.size 2)=some (U 0):=cr i rfl;have a3:f.cell? (J w.heap.size 3)=some (U 0):=cr i rfl;have a4:f.cell? (J w.heap.size 4)=some (sN):=cr i rfl;have a5:f.cell? (J w.heap.size 5)=some (.string ⟨#[]⟩):=cr i rfl;have a6:f.cell? (J w.heap.size 6)=some (U 0):=cr i rfl;have a7:f.cell? (J w.heap.size 7)=some (U 0):=cr i rfl;have a8:f.cell? (J w.heap.size 8)=some (U 0):=cr i rfl;have b0:f.cell? (J (w.heap.size+1) 0)=some (U l):=cr j rfl;have b1:f.cell? (J (w.heap.size+1) 1)=some (U z):=cr j rfl;have b2:f.cell? (J (w.heap.size+1) 2)=some (U A):=cr j rfl;have b3:f.cell? (J (w.heap.size+1) 3)=some (U C):=cr j rfl;have b4:f.cell? (J (w.heap.size+1) 4)=some (.slice m q.length n):=cr j rfl;have b5:f.cell? (J (w.heap.size+1) 5)=some (.string ⟨u.toArray⟩):=cr j rfl;have b6:f.cell? (J (w.heap.size+1) 6)=some (U t):=cr j rfl;have b7:f.cell? (J (w.heap.size+1) 7)=some (U v):=cr j rfl;have b8:f.cell? (J (w.heap.size+1) 8)=some (U p):=cr j rfl;have z0:=frozen_of_row f w.heap.size 0 _ _ i;have y0:=frozen_of_row f (w.heap.size+1) 0 _ _ j;have z1:=frozen_of_row f w.heap.size 1 _ _ i;have y1:=frozen_of_row f (w.heap.size+1) 1 _ _ j;have z2:=frozen_of_row f w.heap.size 2 _ _ i;have y2:=frozen_of_row f (w.heap.size+1) 2 _ _ j;have z3:=frozen_of_row f w.heap.size 3 _ _ i;have y3:=frozen_of_row f (w.heap.size+1) 3 _ _ j;have z4:=frozen_of_row f w.heap.size 4 _ _ i;have y4:=frozen_of_row f (w.heap.size+1) 4 _ _ j;have z5:=frozen_of_row f w.heap.size 5 _ _ i;have y5:=frozen_of_row f (w.heap.size+1) 5 _ _ j;have z6:=frozen_of_row f w.heap.size 6 _ _ i;have y6:=frozen_of_row f (w.heap.size+1) 6 _ _ j;have z7:=frozen_of_row f w.heap.size 7 _ _ i;have y7:=frozen_of_row f (w.heap.size+1) 7 _ _ j;have z8:=frozen_of_row f w.heap.size 8 _ _ i;have y8:=frozen_of_row f (w.heap.size+1) 8 _ _ j;have lA:w.heap.size<f.heap.size:=by omega
    have lb:w.heap.size+1<f.heap.size:=by omega
    have au:l=5/\kk=18\/l=8/\kk=19\/l=9/\kk=20:=by
     have al:=W.o;unfold M7a at y al;split at y<;>rename_i aj
     · exact .inl ⟨aj,y.symm⟩
     split at y<;>rename_i ak
     · exact .inr (.inl ⟨ak,y.symm⟩)
     split at y<;>rename_i H
     · exact .inr (.inr ⟨H,y.symm⟩)
     · simp[aj,ak,H]at al
    clear y W fk i j n0 n1 n2 n3 n4 n5 n6 n7 n8 H aq;rcases au with ⟨rfl,rfl⟩|⟨rfl,rfl⟩|⟨rfl,rfl⟩
    · go_wp2_with fail
      refine bodyPost_ret (v:= .agg #[U 18,U x,U A,U C,.slice m q.length n,.string ⟨u.toArray⟩,U t,U v,U p]) (by simp[results,results171,go_sem,a0,a1,a2,a3,a4,a5,a6,a7,a8]) rfl ?_;refine L1b Y.o F.o ab.o G3.o HL.o aa.o ae S N P af ag ?_ rfl;iterate 11 refine I.put ?_ (by simp)
      exact I.refl _ _
    · go_wp2_with fail
      refine bodyPost_ret (v:= .agg #[U 19,U z,U x,U C,.slice m q.length n,.string ⟨u.toArray⟩,U t,U v,U p]) (by simp[results,results171,go_sem,a0,a1,a2,a3,a4,a5,a6,a7,a8]) rfl ?_;refine L1b Y.o F.o ab.o G3.o HL.o aa.o ae S N P af ag ?_ rfl;iterate 11 refine I.put ?_ (by simp)
      exact I.refl _ _
    · go_wp2_with fail
      refine bodyPost_ret (v:= .agg #[U 20,U z,U A,U x,.slice m q.length n,.string ⟨u.toArray⟩,U t,U v,U p]) (by simp[results,results171,go_sem,a0,a1,a2,a3,a4,a5,a6,a7,a8]) rfl ?_;refine L1b Y.o F.o ab.o G3.o HL.o aa.o ae S N P af ag ?_ rfl;iterate 11 refine I.put ?_ (by simp)
      exact I.refl _ _
end
section
variable{B a:Nat}{b:Value}{L:List Tk}
def J2d(L:List Tk)(d:Nat)(s:St)(r:Sp):Option (Out Int):=A3 (r.expr d s) λc x=>
 if isM L c.i [[61]] then
  if M7a (c.N.getD x.toNat nd0).kind=0 then fltQ L c.i 1
  else A3 (r.expr d ⟨c.i+1,c.N.take x.toNat,c.T⟩) λe v=>A3 (needQ L e [59]) λf _=>addN f (F7a (c.N.getD x.toNat nd0) v)
 else A3 (needQ L c [59]) λe _=>addN e ⟨25,x,0,0,[],[],0,-1,atN c x⟩
theorem N6c(n:Nd)(v:Int):∃f d e c,F7a n v=⟨f,d,e,c,n.list,n.text,n.n,-1,n.at'⟩:=by
 unfold F7a;split
 · exact⟨_,_,_,_,rfl⟩
 split<;>exact⟨_,_,_,_,rfl⟩
theorem I1e{w:lZ}{q:Nat}{m l k j i g f d c v0 v1 v2 v3 v4 v5 v6 v7 v8:Value}{e:TypeId}(h:w.heap[q]? =some (.cells #[m,l,k,j,i,g,f,d,c] e (0,0))):
 (((((((((w.setCell (J q 0) v0).setCell (J q 1) v1).setCell (J q 2) v2).setCell (J q 3) v3).setCell (J q 4) v4).setCell (J q 5) v5).setCell (J q 6) v6).setCell (J q 7) v7).setCell (J q 8) v8).heap[q]? =some (.cells #[v0,v1,v2,v3,v4,v5,v6,v7,v8] e (0,0)):=by
 have n:(w.setCell (J q 0) v0).heap[q]? =some (.cells #[v0,l,k,j,i,g,f,d,c] e (0,0)):=by rw[heap_setCell_same w q 0 _ _ v0 h];rfl
 generalize w.setCell (J q 0) v0=u0 at *;have o:(u0.setCell (J q 1) v1).heap[q]? =some (.cells #[v0,v1,k,j,i,g,f,d,c] e (0,0)):=by rw[heap_setCell_same u0 q 1 _ _ v1 n];rfl
 generalize u0.setCell (J q 1) v1=u1 at *;have p:(u1.setCell (J q 2) v2).heap[q]? =some (.cells #[v0,v1,v2,j,i,g,f,d,c] e (0,0)):=by rw[heap_setCell_same u1 q 2 _ _ v2 o];rfl
 generalize u1.setCell (J q 2) v2=u2 at *;have r:(u2.setCell (J q 3) v3).heap[q]? =some (.cells #[v0,v1,v2,v3,i,g,f,d,c] e (0,0)):=by rw[heap_setCell_same u2 q 3 _ _ v3 p];rfl
 generalize u2.setCell (J q 3) v3=u3 at *;have s:(u3.setCell (J q 4) v4).heap[q]? =some (.cells #[v0,v1,v2,v3,v4,g,f,d,c] e (0,0)):=by rw[heap_setCell_same u3 q 4 _ _ v4 r];rfl
 generalize u3.setCell (J q 4) v4=u4 at *;have t:(u4.setCell (J q 5) v5).heap[q]? =some (.cells #[v0,v1,v2,v3,v4,v5,f,d,c] e (0,0)):=by rw[heap_setCell_same u4 q 5 _ _ v5 s];rfl
 generalize u4.setCell (J q 5) v5=u5 at *;have u:(u5.setCell (J q 6) v6).heap[q]? =some (.cells #[v0,v1,v2,v3,v4,v5,v6,d,c] e (0,0)):=by rw[heap_setCell_same u5 q 6 _ _ v6 t];rfl
 generalize u5.setCell (J q 6) v6=u6 at *;have v:(u6.setCell (J q 7) v7).heap[q]? =some (.cells #[v0,v1,v2,v3,v4,v5,v6,v7,c] e (0,0)):=by rw[heap_setCell_same u6 q 7 _ _ v7 u];rfl
 generalize u6.setCell (J q 7) v7=u7 at *;have x:(u7.setCell (J q 8) v8).heap[q]? =some (.cells #[v0,v1,v2,v3,v4,v5,v6,v7,v8] e (0,0)):=by rw[heap_setCell_same u7 q 8 _ _ v8 v];rfl
 exact x
theorem getD_at{k:Nat}{N:List Nd}(c:k<N.length):N.getD ((k:Int)).toNat nd0=N[k]:=by simp[c]
theorem V8b(K:LOk L)(hX:∀(d:Nat) (s s':St) (x:Int),Ev L (λr=>r.expr d s) (.ok s' x)->(s.N.length:Int)<=x)(ag:Nat)(hE:∀m',m'<=ag->ConN B a b L 168 (λd s r=>r.expr d s) m')(w:lZ)(M:Nat->Prop)(d:Nat)(s:St)(hm:L.length - s.i<=ag)(ab:∀g,w.heap.size<=g->M g)(hB:B<=w.heap.size)(a9:Pst w B a b L M d s):
 Calls prog 130 #[pV a] w (Y6 w B a b L M d s (J2d L d s)):=by
 have hi:=a9.at';have hs:=K.short;have ay:=a9.few;have HM:=O (hE ag (vQ _) w M d s hm ab hB a9);have P:Hid (∀o,Ev L (J2d L d s) o->Ev L (J2d L d s) o):=λo t=>t;generalize ae:J2d L d s=FF at P⊢;rw[<-ae]at P;have P:Hid (∀o,Ev L (J2d L d s) o->Ev L FF o):=by rw[ae];exact λ_ x=>x
 clear ae;clear a9;go_enter func130,ntmps130;go_wp2_with fail
 refine HM.o.mono ?_;clear HM;rintro e c ⟨hk,o,a3,a7⟩;have Z:=O hk;have E1:=O a3;clear hk a3;cases o with
 |fail er ap=>
  obtain⟨rfl,he⟩:=a7;exact⟨rfl,D5 Z.o (P.o _ (Ev.bad E1.o)) he⟩
 |ok j x=>
  obtain⟨rfl,l,p,hx⟩:=a7;obtain⟨k,rfl⟩:=Int.eq_ofNat_of_zero_le hx.1;have aa:k<j.N.length:=by have:=hx.2;omega
  have ba:=l.at';have az:=l.few;obtain⟨g,av,la,lc,c3,aw,am,b9,bf,al,n0,n1,n2,n3,n4,n5,n6,n7,n8,hl,a5⟩:=l.nodeCells aa;unfold maxLen at am;clear n0 n1 n2 n3 n4 n5 n6 n7 hl a5;have bc:=hX _ _ _ _ E1.o;have V1:=O (λo t=>P.o o (Ev.bind E1.o t));clear P E1;have ac:=O l;have G1:=O p;clear l p;generalize ai:j.N[k].at'=q at *;have AT:=O ai;clear ai;let N:Nat->Prop:=λg=>M g/\g≠c.heap.size
  have ak:(c.alloc (.cells #[U 25,U (k:Int),U 0,U 0,sN,.string ⟨#[]⟩,U 0,U 0,U q] 87)).heap.size=c.heap.size+1:=by simp
  have ad:Hid (Pst ((c.alloc (.cells #[U 25,U (k:Int),U 0,U 0,sN,.string ⟨#[]⟩,U 0,U 0,U q] 87)).alloc (.cells (T0a [[61]]) 9)) B a b L N d j):=((ac.o.mono (λg p bd=>⟨p,by omega⟩)).alloc _).alloc _;have ar:b.ownBlock≠some c.heap.size:=ac.o.tokLt (vQ _);have a6:¬N c.heap.size:=λx=>x.2 rfl;have T:∀g,N g->M g:=λg x=>x.1;have an:∀g,c.heap.size+1<=g->N g:=λg p=>⟨ab g (by have:=Z.o.size;omega),by omega⟩;have HI:=O (I0a K ad.o (c.heap.size+1) 1 [[61]] (by rw[<-ak];exact A5a _ _ _) (by decide));clear_value N
  generalize hq:isM L j.i [[61]]=aq at *;have Q1:=O hq;clear hq;go_wp2_with fail
  refine HI.o.mono ?_;rintro e ah ⟨rfl,hc⟩;have h:ah.heap[c.heap.size]? =some (.cells #[U 25,U (k:Int),U 0,U 0,sN,.string ⟨#[]⟩,U 0,U 0,U q] 87 (0,0)):=(hc.block c.heap.size (by simp;omega) (λx=>x)).trans (E1b _ _ _ rfl);have bh:c.heap.size+2<=ah.heap.size:=by have:=hc.size;simpa using this
  have K2:=O (Z.o.trans ((((Kept.refl B M c).alloc (.cells #[U 25,U (k:Int),U 0,U 0,sN,.string ⟨#[]⟩,U 0,U 0,U q] 87)).alloc _).trans (C7 hc)));have a8:=O (ad.o.still hc);have bg:=Z.o.size;clear hc HI ac ad Z c3 al n8 ak;cases aq
  · have S:=O (λo (t:Ev L (λr=>A3 (needQ L j [59]) λG (_:Unit)=>addN G ⟨25,(k:Int),0,0,[],[],0,-1,q⟩) o)=>V1.o o (t.eq (λr=>by rw[yY (by simp),<-AT.o];simp[atN,aa])));clear V1 AT;have Y:=O (J0 K a8.o [59]);clear a8;go_wp2_with fail
    refine Y.o.mono ?_;rintro e f ⟨z,hr⟩;have h:=J3 z h a6;have R:=O (K2.o.trans (z.mono T));have ao:=z.size;clear z K2 Y;rcases hr with ⟨A,rfl,l⟩|⟨A,rfl⟩
    case inr=>exact⟨rfl,D5 R.o (S.o _ (Ev.bad (U0 A))) (by decide)⟩
    have EV:=O (S.o _ (Ev.bind (k:=λr G (_:Unit)=>addN G ⟨25,(k:Int),0,0,[],[],0,-1,q⟩) (Q7 A) Ev.pure));clear S A;have b0:f.cell? (J c.heap.size 0)=some (U 25):=cr h rfl;have b1:f.cell? (J c.heap.size 1)=some (U (k:Int)):=cr h rfl;have b2:f.cell? (J c.heap.size 2)=some (U 0):=cr h rfl;have b3:f.cell? (J c.heap.size 3)=some (U 0):=cr h rfl;have b4:f.cell? (J c.heap.size 4)=some (sN):=cr h rfl;have b5:f.cell? (J c.heap.size 5)=some (.string ⟨#[]⟩):=cr h rfl;have b6:f.cell? (J c.heap.size 6)=some (U 0):=cr h rfl;have b7:f.cell? (J c.heap.size 7)=some (U 0):=cr h rfl;have b8:f.cell? (J c.heap.size 8)=some (U q):=cr h rfl;have X:=O (O8 K (l.mono (λg x _=>T g x)) (Nd.mk 25 (k:Int) 0 0 [] [] 0 (-1) q) 0 none 0 0 ⟨_,rfl,kW _ _ _ _,by simp[Value.ownBlock]⟩ rfl (by simp only[St.nx];omega) (by omega) (λg p=>ab g (by omega)));have GX:=O (show F6 s ⟨j.nx.i,j.nx.N++[Nd.mk 25 (k:Int) 0 0 [] [] 0 (-1) q],j.nx.T⟩ by
     have:=G1.o;simp only[F6,St.nx,qQ,jQ,xQ]at this⊢
     omega)
    have af:(0:Int)<=(j.nx.N.length:Int)/\(j.nx.N.length:Int)<((j.nx.N++[Nd.mk 25 (k:Int) 0 0 [] [] 0 (-1) q]).length:Int):=by simp;omega
    clear l;go_wp2_with fail
    refine X.o.mono ?_;rintro e au ⟨rfl,k9,p9⟩;have K9:=O (R.o.trans k9);have P9:=O p9;clear k9 p9 X;go_wp2_with fail
    go_ret;exact F9 K9.o EV.o P9.o GX.o af
  · have S:=O (λo (t:Ev L (λr=>A3 (if M7a j.N[k].kind=0 then fltQ L j.i 1 else r.expr d ⟨j.i+1,j.N.take k,j.T⟩) λG v=>A3 (needQ L G [59]) λm (_:Unit)=>addN m (F7a j.N[k] v)) o)=>V1.o o (t.eq (λr=>by rw[rY rfl,getD_at aa,tQ];split<;>rfl)));clear V1 AT;have HS:=O (O2d K (L.length - j.i) (λm' be=>hE m' (by have:=G1.o.1;omega)) ah N d j k aa Q1.o (vQ _) (λg p=>an g (by omega)) (by omega) a8.o);clear a8;generalize j.N[k]=n at *;generalize hφ:(λ(r:Sp)=>if M7a n.kind=0 then fltQ L j.i 1 else r.expr d ⟨j.i+1,j.N.take k,j.T⟩)=φ at HS;have V3:=O (λo (t:Ev L (λr=>A3 (φ r) λG v=>A3 (needQ L G [59]) λm (_:Unit)=>addN m (F7a n v)) o)=>S.o o (t.eq (λr=>by rw[<-hφ])));clear S hφ;go_wp2_with fail
    refine HS.o.mono ?_;rintro e f ⟨z,o,a3,a7⟩;have h:=J3 z h a6;have R:=O (K2.o.trans (z.mono T));have E3:=O a3;have ao:=z.size;clear z K2 HS a3;cases o with
    |fail er ap=>
     obtain⟨rfl,he⟩:=a7;exact⟨rfl,D5 R.o (V3.o _ (Ev.bad E3.o)) he⟩
    |ok m v=>
     obtain⟨⟨V,W,rfl,hl,a5⟩,l,g1,g2,g3,g4⟩:=a7;obtain⟨C,D,E,F,hN⟩:=N6c n v;rw[hN];have V4:=O (λo (t:Ev L (λr=>A3 (needQ L m [59]) λs4 (_:Unit)=>addN s4 ⟨C,D,E,F,n.list,n.text,n.n,-1,n.at'⟩) o)=>V3.o o (Ev.bind (k:=λr G v=>A3 (needQ L G [59]) λm (_:Unit)=>addN m (F7a n v)) E3.o (t.eq (λr=>by rw[hN]))));clear V3 E3 hN;have b0:f.cell? (J c.heap.size 0)=some (U 25):=cr h rfl;have b1:f.cell? (J c.heap.size 1)=some (U (k:Int)):=cr h rfl;have b2:f.cell? (J c.heap.size 2)=some (U 0):=cr h rfl;have b3:f.cell? (J c.heap.size 3)=some (U 0):=cr h rfl;have b4:f.cell? (J c.heap.size 4)=some (sN):=cr h rfl;have b5:f.cell? (J c.heap.size 5)=some (.string ⟨#[]⟩):=cr h rfl;have b6:f.cell? (J c.heap.size 6)=some (U 0):=cr h rfl;have b7:f.cell? (J c.heap.size 7)=some (U 0):=cr h rfl;have b8:f.cell? (J c.heap.size 8)=some (U q):=cr h rfl;have z0:=frozen_of_row f c.heap.size 0 _ _ h;have z1:=frozen_of_row f c.heap.size 1 _ _ h;have z2:=frozen_of_row f c.heap.size 2 _ _ h;have z3:=frozen_of_row f c.heap.size 3 _ _ h;have z4:=frozen_of_row f c.heap.size 4 _ _ h;have z5:=frozen_of_row f c.heap.size 5 _ _ h;have z6:=frozen_of_row f c.heap.size 6 _ _ h;have z7:=frozen_of_row f c.heap.size 7 _ _ h;have z8:=frozen_of_row f c.heap.size 8 _ _ h;have lA:c.heap.size<f.heap.size:=by omega
     have HB:=O h;have Y:Hid (∀u,I (λi=>i=c.heap.size) f u->Pst u B a b L N d m):=λu ha=>l.free ha (by rintro i rfl;exact⟨a6,ar⟩) (λg x _=>x);have HL:Hid (∀u,I (λi=>i=c.heap.size) f u->u.ownsRow 0 3 1 (.slice V n.list.length W) n.list.length (C8 n.list)):=λu ha=>A4 hl ha (by rintro g p rfl;exact a6 (a5 _ p));have HO:=O a5;have bb:=l.at';have ax:=l.few;clear l hl a5 h;go_wp2_with fail
     have a2:I (λi=>i=c.heap.size) f (((((((((f.setCell (J c.heap.size 0) (U C)).setCell (J c.heap.size 1) (U D)).setCell (J c.heap.size 2) (U E)).setCell (J c.heap.size 3) (U F)).setCell (J c.heap.size 4) (.slice V n.list.length W)).setCell (J c.heap.size 5) (.string ⟨n.text.toArray⟩)).setCell (J c.heap.size 6) (U n.n)).setCell (J c.heap.size 7) (U n.ty)).setCell (J c.heap.size 8) (U n.at')):=by
      iterate 9 refine I.put ?_ rfl
      exact I.refl _ _
     have aj:=I1e (v0:=U C) (v1:=U D) (v2:=U E) (v3:=U F) (v4:= .slice V n.list.length W) (v5:= .string ⟨n.text.toArray⟩) (v6:=U n.n) (v7:=U n.ty) (v8:=U n.at') HB.o;generalize (((((((((f.setCell (J c.heap.size 0) (U C)).setCell (J c.heap.size 1) (U D)).setCell (J c.heap.size 2) (U E)).setCell (J c.heap.size 3) (U F)).setCell (J c.heap.size 4) (.slice V n.list.length W)).setCell (J c.heap.size 5) (.string ⟨n.text.toArray⟩)).setCell (J c.heap.size 6) (U n.n)).setCell (J c.heap.size 7) (U n.ty)).setCell (J c.heap.size 8) (U n.at'))=u at *;have H4:=O (J0 K (Y.o u a2) [59]);have O4:=O (HL.o u a2);have K4:=O (R.o.trans' a2 (λi hi x=>by omega));have bj:=a2.size;clear Y HL a2 R HB b0 b1 b2 b3 b4 b5 b6 b7 b8 z0 z1 z2 z3 z4 z5 z6 z7 z8;refine H4.o.mono ?_;rintro e H ⟨a4,hr⟩;have y:=J3 a4 aj a6;have K5:=O (K4.o.trans (a4.mono T));have O5:=O (G0 O4.o a4 (by decide));have bi:=a4.size;clear a4 K4 H4 O4 aj;rcases hr with ⟨A,rfl,l⟩|⟨A,rfl⟩
     case inr=>exact⟨rfl,D5 K5.o (V4.o _ (Ev.bad (U0 A))) (by decide)⟩
     have EV:=O (V4.o _ (Ev.bind (k:=λr s4 (_:Unit)=>addN s4 (Nd.mk C D E F n.list n.text n.n (-1) n.at')) (Q7 A) Ev.pure));clear V4 A;have e0:H.cell? (J c.heap.size 0)=some (U C):=cr y rfl;have e1:H.cell? (J c.heap.size 1)=some (U D):=cr y rfl;have e2:H.cell? (J c.heap.size 2)=some (U E):=cr y rfl;have e3:H.cell? (J c.heap.size 3)=some (U F):=cr y rfl;have e4:H.cell? (J c.heap.size 4)=some (.slice V n.list.length W):=cr y rfl;have e5:H.cell? (J c.heap.size 5)=some (.string ⟨n.text.toArray⟩):=cr y rfl;have e6:H.cell? (J c.heap.size 6)=some (U n.n):=cr y rfl;have e7:H.cell? (J c.heap.size 7)=some (U n.ty):=cr y rfl;have e8:H.cell? (J c.heap.size 8)=some (U n.at'):=cr y rfl;have X:=O (O8 K (l.mono (λg x _=>T g x)) (Nd.mk C D E F n.list n.text n.n (-1) n.at') n.ty V n.list.length W ⟨_,rfl,O5.o,λg p=>T g (HO.o g p)⟩ rfl (by simp only[St.nx];omega) (by omega) (λg p=>ab g (by omega)));have GX:=O (show F6 s ⟨m.nx.i,m.nx.N++[(Nd.mk C D E F n.list n.text n.n (-1) n.at')],m.nx.T⟩ by
      have:=G1.o;simp only[F6,St.nx,qQ,jQ,xQ]at this⊢
      omega)
     have af:(0:Int)<=(m.nx.N.length:Int)/\(m.nx.N.length:Int)<((m.nx.N++[(Nd.mk C D E F n.list n.text n.n (-1) n.at')]).length:Int):=by simp;omega
     clear l y;go_wp2_with fail
     refine X.o.mono ?_;rintro e au ⟨rfl,k9,p9⟩;have K9:=O (K5.o.trans k9);have P9:=O p9;clear k9 p9 X;go_wp2_with fail
     go_ret;exact F9 K9.o EV.o P9.o GX.o af
end
theorem D3{w a b:lZ}(h:I No w a)(k:I No a b):I No w b:=h.trans k (λ_ _ x=>x)
theorem A8{w b:lZ}(d:I No w b){a:Addr}{v:Value}(h:w.cell? a=some v):b.cell? a=some v:=by
 have e:=World.block_lt_of_cell? w a h;have c:=d.block a.block e (λx=>x);unfold World.cell? at *;rw[c];exact h
