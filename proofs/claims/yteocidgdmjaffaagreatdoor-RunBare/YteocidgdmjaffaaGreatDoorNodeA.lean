/-
  A part of the proof.
-/
import Derived.Test.YteocidgdmjaffaaGreatDoorParseA
set_option maxHeartbeats 0
set_option linter.all false
set_option maxRecDepth 100000
namespace Go.Proofs.YteocidgdmjaffaaGreatDoor
open Go.Proofs.Tryz
open Go.RowKit
def Tryz.oh:(prog.info? 85).map (λi=>(i.zero,i.size,i.bytes))=some (some (.agg #[U 0,U 0,U 0,U 0,sN,.string ⟨#[]⟩,U 0,U 0,U 0]),9,96):=by kernel_rfl
section
variable{w:E}{B a:Nat}{c:Value}{L:List Tk}{b:Nat->Prop}{d:Nat}{s:St}
def cU.pd{w w1 w2:E}{B a}{c}{L}{b}{d:Nat}{s:St}{l}{F G}{h}{i g cap}{t}{a2}(T:B<=a)(a5:s.i<L.length)(a8:s.T.length<=s.i)(hf:s.N.length+1<=s.i+1)
 (Z:w.ownsRow 0 130 3 c L.length (rows L)) (p:w.heap[a]?=some (.cells #[c,U s.i,U d,.slice h s.N.length i,l] 103 (0,0)))
 (q:w.ownsRow B 85 9 (.slice h s.N.length i) s.N.length F) (hy:w.ownsRow B 81 4 l s.T.length G) (ab:dS (fH w b) s.N F) (ac:dS (dM w b) s.T G) (ht:fH w b t [U t.x,U t.a,U t.b,U t.c,a2,.string ⟨t.text.toArray⟩,U t.n,U t.ty,U t.at']) (A:b a/\(∀g,Value.ownBlock (.slice h s.N.length i)=some g->b g)/\(∀g,l.ownBlock=some g->b g)) (ai:b g)
 (o:I No w w1) (R:w1.grownBy w2 (Value.ownBlock (.slice h s.N.length i))) (ho:w2.ownsRow B 85 9 (.slice (some (J g 0)) (s.N.length+1) cap) (s.N.length+1) (F++[U t.x,U t.a,U t.b,U t.c,a2,.string ⟨t.text.toArray⟩,U t.n,U t.ty,U t.at'])):
 Kept B b w (w2.setCell (J a 3) (.slice (some (J g 0)) (s.N.length+1) cap))/\cU (w2.setCell (J a 3) (.slice (some (J g 0)) (s.N.length+1) cap)) B a c L b d ⟨s.i,s.N++[t],s.T⟩:=by
 have V:=(aI p);have P:=o.block a V (λx=>x);have ae:=A3 q o (λ_ _ x=>x);have aa:some a≠Value.ownBlock (.slice h s.N.length i):=by
  intro f;obtain⟨_,n,m⟩:=A9 ae a f.symm;rw[P,p]at m;simp only[zQ,xW]at m;exact absurd m.2.1 (by decide)
 have a6:w2.heap[a]?=some (.cells #[c,U s.i,U d,.slice h s.N.length i,l] 103 (0,0)):=by rw[R.block a (yQ V o.size) aa,P,p]
 have a7:=(o.mono λ_ _ x=>x.elim).trans (I.grown R) (λ_ _ x=>x);have j:I (λk=>some k=Value.ownBlock (.slice h s.N.length i)\/k=a) w (w2.setCell (J a 3) (.slice (some (J g 0)) (s.N.length+1) cap)):=(a7.mono λ_ _ x=>.inl x).trans (I.set _ _ _) (λ_ _ x=>.inr x);have W:∀{H:Nat} {e:TypeId} {a4:Nat} {v:Value} {a3:Nat} {xs:List Value},w.ownsRow H e a4 v a3 xs->e≠103->e≠85->∀k,v.ownBlock=some k->¬(some k=Value.ownBlock (.slice h s.N.length i)\/k=a):=by
  intro H e a4 v a3 xs hw he ag k z f;obtain⟨_,n,m⟩:=A9 hw k z;obtain f|rfl:=f
  .obtain⟨_,M,y⟩:=A9 q k f.symm;grind
  .grind
 have D:∀k,b k->k<w.heap.size->(some k=Value.ownBlock (.slice h s.N.length i)\/k=a)->(∃n e,w.heap[k]?=some (.cells n e (0,0))/\(e=137\/e=3))->False:=by
  rintro k _ _ f ⟨n,e,m,he⟩;obtain f|rfl:=f
  .obtain⟨_,M,y⟩:=A9 q k f.symm;grind
  .grind
 have u:(w2.setCell (J a 3) (.slice (some (J g 0)) (s.N.length+1) cap)).heap[a]?=some (.cells #[c,U s.i,U d,.slice (some (J g 0)) (s.N.length+1) cap,l] 103 (0,0)):=by rw[heap_setCell_same w2 a 3 _ _ _ a6];rfl
 refine⟨j.mono λk z f=>?_,T,a5,⟨by grind,a8⟩,A3 Z j (W Z (by decide) (by decide)),⟨A.1,λaf N r S=>?_,λaf N r S=>?_⟩,_,l,_,G,u,?_,A3 hy j (W hy (by decide) (by decide)),(ab.imp (fH.P j D (λ_ x _=>x))).snoc (fH.P j D (λ_ x _=>x) _ _ ht),ac.imp (dM.P j D (λ_ x _=>x))⟩
 .obtain f|rfl:=f
  .obtain⟨a9,M,y⟩:=A9 q k f.symm;exact⟨a9,⟨_,_,_,y,.inr (.inl rfl)⟩,A.2.1 _ f.symm⟩
  .exact⟨T,⟨_,_,_,p,.inl rfl⟩,A.1⟩
 .rw[cell_of_row _ a 3 _ _ _ u]at r;cases r;have ah:some g=some N:=S;grind
 .rw[cell_of_row _ a 4 _ _ _ u]at r;grind
 .have:=A3 ho (I.set w2 (J a 3) (.slice (some (J g 0)) (s.N.length+1) cap)) (λk z f=>by
   have aj:=f;grind[A9]);grind
def UR(hL:cK L)(a2:aF w B a c L b d s)(t)(m)(o n)(R:fH w b t [U t.x,U t.a,U t.b,U t.c,.slice m o n,.string ⟨t.text.toArray⟩,U t.n,U t.ty,U t.at'])(hf:s.N.length+1<=s.i+1)(hB:B<=w.heap.size)(ah:∀ g,w.heap.size<=g->b g):
 Calls prog 115 #[pV a,.agg #[U t.x,U t.a,U t.b,U t.c,.slice m o n,.string ⟨t.text.toArray⟩,U t.n,U t.ty,U t.at']] w λe V=>e=.returned (U s.N.length)/\Kept B b w V/\cU V B a c L b d ⟨s.i,s.N++[t],s.T⟩:=by
 obtain⟨a6,a3,a5,S,u,nv,yv,nx,yx,i,j,T,N,P⟩:=a2;obtain⟨f,h,rfl⟩:=B8 j;have hs:=hL.je;have G:=(aI i);have D:w.cell? (J a 3)=some (.slice f s.N.length h):=cr i rfl;have Z:=λab=>frozen_of_row w a ab _ _ i;have a7:b a/\(∀g,Value.ownBlock (.slice f s.N.length h)=some g->b g)/\(∀g,yv.ownBlock=some g->b g):=⟨u.1,λg k=>u.2.1 _ g D k,λg k=>u.2.2 _ g (cr i rfl) k⟩;have y:=O (λp ac g q=>cU.pd (w1:=p) (w2:=ac) (g:=g) (cap:=q) a6 a3 a5.2 hf S i j T N P R a7);have W:=O (λg (k:Value.ownBlock (.slice f s.N.length h)=some g\/g=w.heap.size+2)=>show b g from by grind);have H:Value.ownBlock (.slice f s.N.length h)≠some a:=by
  intro v;obtain⟨_,ae,r⟩:=A9 j a v;rw[i]at r;simp only[zQ,xW]at r;exact absurd r.2.1 (by decide)
 have ag:Value.ownBlock (.slice f s.N.length h)≠some w.heap.size:=by
  intro v;have:=(j.lt _ v).2;omega
 have A:=O j;obtain⟨i0,hi,a8,a9,aa⟩:=info_parts Tryz.oh;clear R S i j T N P;go_in;go_wp2_with fail
 go_region_law ((refine step_append_lies _ (by rfl) _ _ _ (by rfl) B 85 i0 _ 9 96 underlying49 hi a8 a9 aa rfl (by omega) (.slice f s.N.length h) s.N.length nx (by rfl) (((A.u.alloc _).alloc _).drew) (J (w.heap.size+1) 0) 1 1 [U t.x,U t.a,U t.b,U t.c,.slice m o n,.string ⟨t.text.toArray⟩,U t.n,U t.ty,U t.at'] (by rfl) (by rfl) (World.news_of_block (cs:=#[U t.x,U t.a,U t.b,U t.c,.slice m o n,.string ⟨t.text.toArray⟩,U t.n,U t.ty,U t.at']) (t:=85) (fr:=(0,0)) (JP w _ _)) (by simp [Value.oneCell']) (by omega) (by grind[maxLen]) (by omega) (by simp;omega) (w.heap.size+2) (by simp) ?_;intro F q p M l a4 af;have z4:p.cell? (J a 3)=some (.slice f s.N.length h):=by rw[l.cell_far _ (by simp;omega) (Ne.symm H)];exact I4 (by simp;omega) (I4 G D)
                 have y4:p.frozen? (J a 3)=false:=by rw[l.frozen_far _ (by simp;omega) (Ne.symm H)];exact S6 (by simp;omega) (S6 G (Z 3))));all_goals
  have z:=O (y.u _ _ F q (W.u F a4) (((I.alloc No w _).trans (I.alloc No _ _) (λ_ _ x=>x)).trans (I.drewN No _ 1) (λ_ _ x=>x)) l M);clear l M y A;go_wp2;go_ret;exact⟨J5 (by omega),z.u.1,z.u.2⟩
def Q6(p:cK L)(h:aF w B a c L b d s)(t)(f)(j i)(r:fH w b t [U t.x,U t.a,U t.b,U t.c,.slice f j i,.string ⟨t.text.toArray⟩,U t.n,U t.ty,U t.at'])(u:s.N.length+1<=s.i)(o:B<=w.heap.size)(q:∀g,w.heap.size<=g->b g):
 Calls prog 115 #[pV a,.agg #[U t.x,U t.a,U t.b,U t.c,.slice f j i,.string ⟨t.text.toArray⟩,U t.n,U t.ty,U t.at']] w λe k=>e=.returned (U s.N.length)/\Kept B b w k/\aF k B a c L b d ⟨s.i,s.N++[t],s.T⟩:=
 (UR p h t f j i r (by omega) o q).mono λe k ⟨l,m,n⟩=>⟨l,m,n.ny (by grind)⟩
end
theorem B6{w a b}(h:I No w a)(k:I No a b):I No w b:=h.trans k (λ_ _ x=>x)
def A4{w b}(c:I No w b){a}{v}(h:w.cell? a=some v):b.cell? a=some v:=by
 have d:=World.block_lt_of_cell? w a h;have e:=c.block a.block d (λx=>x);grind[World.cell?]
def U9(w:E)(B g:Nat)(h:Value)(L:List Tk)(c:Nat->Prop)(d:Nat)(s:St)(i:Sp->Option (Out Int))(e:Ending)(f:E):Prop:=
 Kept B c w f/\∃o,Ev L i o/\match o with
  |.ok a x=>e=.returned (U x)/\aF f B g h L c d a/\D9 s a/\0<=x/\x<a.N.length
  |.fail b p=>e=gu b p/\b≠0
def bD(B b:Nat)(c:Value)(L:List Tk)(e:Nat)(f:Nat->St->Sp->Option (Out Int))(m:Nat):Prop:=
 ∀(w) (a) (d) (s),L.length-s.i<=m->(∀g,w.heap.size<=g->a g)->B<=w.heap.size->aF w B b c L a d s->
  Calls prog e #[pV b] w (U9 w B b c L a d s (f d s))
def Ev.vb{a b}{L}{c}{k:Sp->St->a->Option (Out b)}{F}(V:∀o,Ev L (λr=>A8 (c r) (k r)) o->Ev L F o){s}{x}(h:Ev L c (.ok s x)):∀o,Ev L (λr=>k r s x) o->Ev L F o:=λo d=>V o (Ev.bind h d)
def Ev.vf{a b}{L}{c}{k:Sp->St->a->Option (Out b)}{F}(V:∀o,Ev L (λr=>A8 (c r) (k r)) o->Ev L F o){e p}(h:Ev L c (.fail e p)):Ev L F (.fail e p):=V _ (Ev.bad h)
def bD.rh{B b}{c}{L}{a}{f}{m}(h:bD B b c L a f m):jK B b c L a f m:=λw p d s g i j l=>(h w p d s g i j l).mono λe r ⟨k,o,n,q⟩=>⟨k,o,n,by
 grind⟩
section
variable{w:E}{B a:Nat}{b:Value}{L:List Tk}{ok:Nat->Prop}{d:Nat}{s:St}
def D3{f}{e}{c p}(i:Kept B ok w e)(h:Ev L f (.fail c p))(g:c≠0):U9 w B a b L ok d s f (gu c p) e:=⟨i,_,h,rfl,g⟩
def F6{f}{e}{c}{x:Int}(i:Kept B ok w e)(g:Ev L f (.ok c x))(j:aF e B a b L ok d c)(h:D9 s c)(k:0<=x/\x<c.N.length):U9 w B a b L ok d s f (.returned (U x)) e:=⟨i,_,g,rfl,j,h,k⟩
def LY(m:cK L)(h:aF w B a b L ok d s):
 Calls prog 112 #[pV a] w λe u=>e=.returned (.bool (jR L s.i))/\I No w u:=by
 have H:=T8 m h;have o:=λc (j:aF c B a b L ok d s)=>pM m (j.alloc (.cells (mT yM) 9)) c.heap.size 10 yM (X8 _ _ _) (by decide);have q:=O (λc (f:I No w c)=>h.y f);have F:=W5;unfold jR;generalize aJ L s.i yM=v at*;generalize tk L s.i=r at*;obtain⟨g,t,G⟩:=r;simp only[iC]at H⊢;generalize (⟨t.toArray⟩:ByteArray)=y at*;go_in;go_wp2_with fail;refine H.mono ?_;rintro e c ⟨rfl,f⟩;have p:=O (q.u c f);have i:=O f;by_cases j:g=1
 .subst j;go_wp2;go_ret;exact⟨E7 (by simp),i.u⟩
 .have z:(g==1)=false:=by simp[j]
  by_cases k:g=3
  .subst k;go_wp2;go_ret;exact⟨E7 (by simp),i.u⟩
  .have A:(g==3)=false:=by simp[k]
   by_cases l:g=4
   .subst l;go_wp2;go_ret;exact⟨E7 (by simp),i.u⟩
   .have D:(g==4)=false:=by simp[l]
    go_wp2_with fail;refine(o _ p.u).mono ?_;rintro e M ⟨rfl,f⟩;have n:=O (i.u.trans ((I.alloc No c _).trans f (λ_ _ x=>x)) (λ_ _ x=>x));go_wp2;go_ret;exact⟨E7 (by grind),n.u⟩
def KU(f:Nat)(cf:∀(v) (W:E),(callFunc f v).run prog W=.ok (.enter f v) W)(F:cK L)(m)(k)(G:bD B a b L f k m)(i)(S:L.length-s.i<=m)(a7:∀g,w.heap.size<=g->ok g)(hB:B<=w.heap.size)(h:aF w B a b L ok d s):
 Calls prog 113 #[pV a,.bool i,.func (.func f) #[pV a] #[]] w (U9 w B a b L ok d s (λr=>aQ L i d s (λd s=>k d s r))):=by
 obtain⟨g,c,nv,yv,-,-,-,-,a5,-,Z,a2,-,-,fz,-⟩:=h.cell;have n:=λx=>Y9 F h x;have t:=O h;cases i
 .go_in;go_wp2_with fail;refine(n 1).mono ?_;rintro e A ⟨rfl,j⟩;exact⟨rfl,D3 (C9 j) (BC (λr=>by rfl)) (by decide)⟩
 .by_cases hd:20<=d
  .have H:20<=d:=by omega
   go_in;go_wp2_with fail;refine(n 8).mono ?_;rintro e A ⟨rfl,j⟩;exact⟨rfl,D3 (C9 j) (BC (λr=>by grind[aQ])) (by decide)⟩
  .have H:¬20<=d:=by omega
   go_in;go_wp2;refine(G _ ok (d+1) s S (by simp_all) (by simp_all) (by simpa using t.u.km (d+1))).mono ?_;rintro e A ⟨R,o,N,z⟩;have q:=O ((t.u.jk 2 _).trans R);have l:=O (N.eq (ψ:=λr=>aQ L true d s (λd s=>k d s r)) (λr=>by grind[aQ]));cases o with
   |fail x p=>
    obtain⟨rfl,M⟩:=z;exact⟨rfl,D3 q.u l.u M⟩
   |ok s' a9=>
    obtain⟨rfl,y,P,T⟩:=z;have u:=O y;have D:=O P;obtain⟨g',V,a8,aa,-,-,-,-,a6,-,-,a3,-,-,a4,-⟩:=y.cell;go_wp2;go_ret;exact F6 (q.u.trans (u.u.jk _ _)) l.u (u.u.km d) D.u T
def Bg(q:cK L)(m)(D:bD B a b L 224 (λd s r=>r.comp d s) m):bD B a b L 195 (λd s r=>r.expr d s) m:=by
 intro w ok d s N R A h;have x:=λj f c=>KU (w:=j) 224 (λ_ _=>by go_simp) q m _ D c N (λg i=>R g (kQ f.size i)) (kQ A f.size) (h.y f);have z:=LY q h;have u:=O (λc (F:c=jR L s.i) o (P:Ev L (λr=>aQ L c d s (λd s=>r.comp d s)) o)=>(Ev.step (φ:=λr=>r.expr d s) (P.eq (λr=>by rw[F];rfl))));generalize jR L s.i=c at*;go_in;go_wp2_with fail;refine z.mono ?_;rintro e j ⟨rfl,f⟩;have k:=O f;go_wp2_with fail;refine(x j k.u c).mono ?_;rintro e Z ⟨M,o,H,t⟩;have l:=O ((C9 k.u).trans M);have n:=O (u.u c rfl o H);cases o with
 |fail V p=>
  obtain⟨rfl,G⟩:=t;exact⟨rfl,D3 l.u n.u G⟩
 |ok W a2=>
  obtain⟨rfl,S,i,T⟩:=t;have y:=O S;have v:=O i;go_wp2;go_ret;exact F6 l.u n.u y.u v.u T
def OK(n:cK L)(h:aF w B a b L ok d s)(t)(y)(c)(i f)(v:fH w ok t [U t.x,U t.a,U t.b,U t.c,.slice c i f,.string ⟨t.text.toArray⟩,U t.n,U t.ty,U t.at'])(z:t.ty=-1)(o:s.N.length+1<=s.i+1)(A:B<=w.heap.size)(r:∀g,w.heap.size<=g->ok g):
 Calls prog 69 #[pV a,.agg #[U t.x,U t.a,U t.b,U t.c,.slice c i f,.string ⟨t.text.toArray⟩,U t.n,U y,U t.at']] w λe k=>e=.returned (U s.N.length)/\Kept B ok w k/\cU k B a b L ok d ⟨s.i,s.N++[t],s.T⟩:=by
 have j:=UR n (h.alloc (.cells #[U t.x,U t.a,U t.b,U t.c,.slice c i f,.string ⟨t.text.toArray⟩,U t.n,U (-1),U t.at'] 85)) t c i f (fH.P (I.alloc No _ _) (λ_ _ _ x _=>x) (λ_ x _=>x) _ _ v) o (by simp;omega) (λg p=>r g (by simp at p;omega));rw[z]at j;go_in;go_wp2_with fail;refine j.mono ?_;rintro e D ⟨rfl,q,u⟩;have l:=O (((Kept.refl B ok w).alloc _).trans q);have m:=O u;go_wp2;go_ret;exact⟨rfl,l.u,m.u⟩
def L9(o:cK L)(h:aF w B a b L ok d s)(t)(y)(c)(i f)(q:fH w ok t [U t.x,U t.a,U t.b,U t.c,.slice c i f,.string ⟨t.text.toArray⟩,U t.n,U t.ty,U t.at'])(r:t.ty=-1)(u:s.N.length+1<=s.i)(n:B<=w.heap.size)(p:∀g,w.heap.size<=g->ok g):
 Calls prog 69 #[pV a,.agg #[U t.x,U t.a,U t.b,U t.c,.slice c i f,.string ⟨t.text.toArray⟩,U t.n,U y,U t.at']] w λe j=>e=.returned (U s.N.length)/\Kept B ok w j/\aF j B a b L ok d ⟨s.i,s.N++[t],s.T⟩:=
 (OK o h t y c i f q r (by omega) n p).mono λe j ⟨k,l,m⟩=>⟨k,l,m.ny (by grind)⟩
def gL(w:E)(c:Nat)(e:List Y):Prop:=w.heap[c]?=some (.cells (mT e) 9 (0,0))
theorem gL.strs{c}{e}(h:gL w c e):Strs w c e:=
 ⟨(aI h),λj f=>by rw[cell_of_row w c j _ _ _ h];grind[mT]⟩
def gL.kept{ok}{g}{c}{f}(h:gL w c f)(i:Kept B ok w g):gL g c f:=by
 unfold gL at h⊢;rw[i.block c (aI h) (λx=>?_)]
 .omega
 .obtain⟨j,e,k,l,r⟩:=x.2.1;grind
def DZ{i}{c}(h:aJ L i c=true):(tk L i).x≠6:=by
 grind[aJ]
def YU(l:Nat)(cf:∀(N) (W:E),(callFunc l N).run prog W=.ok (.enter l N) W)(S:cK L)(a7)(m)(hU:∀m',m'<a7->bD B a b L l m m')(left)(hl:left<s.N.length)(ab:(tk L s.i).x≠6)(hm:L.length-s.i<=a7)(a4:∀g,w.heap.size<=g->ok g)(R:B<=w.heap.size)(h:aF w B a b L ok d s):
 Calls prog 242 #[pV a,U left,.func (.func l) #[pV a] #[]] w (U9 w B a b L ok d s (λr=>gN L s left (λs=>m d s r))):=by
 have ah:=h.fq;have H:=xV S h ab;have af:=tJ;have q:Hid (∀o,Ev L (λr=>A8 (m d s.nx r) λk x=>aD k ⟨12,left,x,0,[],(tk L s.i).text,0,-1,gD k left⟩) o->Ev L (λr=>gN L s left (λs=>m d s r)) o):=λo ho=>ho;generalize tk L s.i=ad at*;obtain⟨kd,y,pl⟩:=ad;simp only[iC]at H q;go_in;go_wp2_with fail;refine H.mono ?_;rintro e ae ⟨rfl,i,c⟩;have M:=O i;have ak:=c.at';have G:=hU (L.length-s.nx.i) (by grind[St.nx]) ae ok d s.nx (vQ _) (λg j=>a4 g (kQ i.size j)) (kQ R i.size) c;go_wp2;refine G.mono ?_;clear G;rintro e z ⟨i,o,Z,a5⟩;have t:=O (M.u.trans i);have n:=O Z;clear i Z M;cases o with
 |fail er p=>
  obtain⟨rfl,he⟩:=a5;exact⟨rfl,D3 t.u (q.u _ (Ev.bad n.u)) he⟩
 |ok f x=>
  obtain⟨rfl,c,j,hx⟩:=a5;have a2:left<f.N.length:=by have:=j.2.2.2;simp only[St.nx]at this;omega
  have a8:=O c;have D:=O j;obtain⟨nv,yv,nx,yx,u,v,hy,a6,ac⟩:=c.eo;obtain⟨na,nc,rfl⟩:=B8 v;obtain⟨g,rfl,_,aj,ai,aa,V⟩:=D4 v (by omega);obtain⟨nd,a3,T⟩:=dS.at (λ_ _ h=>fH.len h) left a2 a6;have ag:=c.fq;have al:=c.at';have am:=(aI u);have c3:z.cell? (J a 3)=some (.slice (some (J g 0)) f.N.length nc):=cr u rfl;have c8:z.cell? (J g (left*9+8))=some (U (f.N[left].at')):=by
   obtain⟨ao,rfl,_⟩:=a3;exact V _ _ ((T 8 (by omega)).trans rfl)
  have P:gD f (left:Int)=f.N[left].at':=by simp[gD,List.getD,a2]
  generalize f.N[left].at'=pa at*;unfold maxLen at aa;clear c j u v hy a6 ac V a3 T;have F:=λA (h3:aF A B a (b) L ok d f) (hz:w.heap.size<=A.heap.size)=>L9 S h3 ⟨12,(left:Int),x,0,[],y,0,-1,pa⟩ 0 none 0 0 ⟨_,rfl,kW _ _ _ _,by simp[Value.ownBlock]⟩ rfl (by have:=D.u;grind[D9,St.nx]) (kQ R hz) (λg j=>a4 g (kQ hz j));have EV:=O (q.u _ (Ev.bind n.u (k:=λ_ k x=>aD k ⟨12,(left:Int),x,0,[],y,0,-1,gD k (left:Int)⟩) (Ev.pure.eq (λ_=>by rw[P];rfl))));have an:=t.u.size;have GX:=O (show D9 s ⟨f.i,f.N++[⟨12,(left:Int),x,0,[],y,0,-1,pa⟩],f.T⟩ by
   have h2:=D.u;grind[D9,St.nx,qQ,jQ,xQ]);clear P n;go_wp2_with fail;refine(F z a8.u (by omega)).mono ?_;clear F;rintro e A ⟨rfl,i,c⟩;have K3:=O (t.u.trans i);have a9:=O c;clear i c;go_wp2_with fail;go_ret;exact F6 K3.u EV.u a9.u GX.u (by grind)
def YD(t:Nat)(cf:∀(Z) (W:E),(callFunc t Z).run prog W=.ok (.enter t Z) W)(hL:cK L)(m)(c)(h)(hφ:∀d s r,h d s r=(if c then r.prod d else r.oper d) s)(hU:∀z,z<=m->bD B a b L t h z)(v)(a7:gL w v (J9 c))(n)(hn:n=(J9 c).length)(hm:L.length-s.i<=m)(a4:∀g,w.heap.size<=g->ok g)(hB:B<=w.heap.size)(a2:aF w B a b L ok d s):
 Calls prog 256 #[pV a,.func (.func t) #[pV a] #[],.slice (some (J v 0)) n n] w (U9 w B a b L ok d s (λr=>A8 (h d s r) λs x=>r.row c d s x)):=by
 have HM:=hU m (vQ _) w ok d s hm a4 hB a2;go_in;go_wp2;refine HM.mono ?_;rintro e ad ⟨y,o,N,q⟩;have K1:=O y;have S1:=O (a7.kept y);have P:=O N;cases o with
 |fail er p=>
  obtain⟨rfl,M⟩:=q;exact⟨rfl,D3 K1.u (Ev.bad P.u) M⟩
 |ok s1 x=>
  obtain⟨rfl,l,i,hx⟩:=q;have aa:=O l;have G1:=O i;obtain⟨kx,rfl⟩:=Int.eq_ofNat_of_zero_le hx.1;have V1:=O (λo j=>Ev.bind (k:=λr s x=>r.row c d s x) P.u j (o:=o));subst hn;go_wp2;go_loopw [7] (λa9 wr=>∃(k:Nat) (f:St),a9=U k/\k<f.N.length/\Hid (Kept B ok w wr)/\Hid (gL wr v (J9 c))/\Hid (D9 s f)/\Hid (aF wr B a b L ok d f)/\
   Hid (∀o,Ev L (λr=>r.row c d f k) o->Ev L (λr=>A8 (h d s r) λs x=>r.row c d s x) o)) (λ_ wr=>L.length-oO wr a);case atStart=>grind
  case round=>
   obtain⟨k,f,rfl,y,KR,T,A,D,V⟩:=hrel;have HI:=pM hL D.u v (J9 c).length (J9 c) T.u.strs (by cases c<;>decide);have hj:=A.u.1;have ac:=D.u.jq;generalize hq:aJ L f.i (J9 c)=a8 at*;have F:=O hq;go_wp2_with fail;refine HI.mono ?_;rintro e ae ⟨rfl,H⟩;have u:=O (KR.u.trans (C9 H));have S:=O (D.u.y H);have S2:=O (T.u.kept (C9 (B:=B) (ok:=ok) H));cases a8
   .have EV:=O (V.u _ (Ev.step (Ev.pure.eq (λr=>by show (if aJ L f.i (J9 c) then _ else _)=_;rw[F.u];rfl))));go_wp2;go_ret;exact F6 u.u EV.u S.u A.u (by omega)
   .have HT:=YU t cf hL m h (λz a2=>hU z (by omega)) k y (DZ F.u) (by omega) (λg i=>a4 g (kQ u.u.size i)) (kQ hB u.u.size) S.u;have G:=O (λo (j:Ev L (λr=>A8 (gN L f (k:Int) (λs=>h d s r)) λs a5=>r.row c d s a5) o)=>V.u o (Ev.step (j.eq (λr=>by
     show (if aJ L f.i (J9 c) then A8 (gN L f (k:Int) (if c then r.prod d else r.oper d)) _ else _)=_;rw[F.u,show (λs=>h d s r)=(if c then r.prod d else r.oper d) from funext λs=>hφ d s r];rfl))));go_wp2_with fail;refine HT.mono ?_;rintro e af ⟨a3,o,N,q⟩;have K3:=O (u.u.trans a3);have S3:=O (S2.u.kept a3);have R:=O N;cases o with
    |fail er p=>
     obtain⟨rfl,M⟩:=q;exact⟨rfl,D3 K3.u (G.u _ (Ev.bad R.u)) M⟩
    |ok s3 a5=>
     obtain⟨rfl,l,i,hy⟩:=q;obtain⟨ky,rfl⟩:=Int.eq_ofNat_of_zero_le hy.1;have a6:=O l;have G3:=O i;have V3:=O (λo j=>G.u o (Ev.bind (k:=λr s x=>r.row c d s x) R.u j));have ab:=l.at';clear l i G;go_wp2_with fail;go_roundw;case rel=>
      have h1:=A.u;grind[D9]
     case measure=>
      have h2:=G3.u.1;have h3:=a6.u.jq;omega
def Nh(u:cK L)(m)(v:∀k,k<=m->bD B a b L 270 (λd s r=>r.oper d s) k):bD B a b L 257 (λd s r=>r.prod d s) m:=by
 intro w ok d s D G P h;have n:=YD 270 (λ_ _=>by go_simp) u m false (λd s r=>r.oper d s) (λ_ _ _=>rfl) v w.heap.size (yY w _) 1 rfl D (λg c=>G g (by simp at c;omega)) (by simp;omega) (h.alloc _);have q:Hid (∀o,Ev L (λr=>A8 (r.oper d s) λs x=>r.row false d s x) o->Ev L (λr=>r.prod d s) o):=λo F=>Ev.step (F.eq λr=>rfl);go_in;go_wp2_with fail;refine n.mono ?_;rintro e S ⟨A,o,z,j⟩;have i:=O (((Kept.refl B ok w).alloc _).trans A);have f:=O (q.u o z);cases o with
 |fail N p=>
  obtain⟨rfl,y⟩:=j;exact⟨rfl,D3 i.u f.u y⟩
 |ok R x=>
  obtain⟨rfl,H,c,M⟩:=j;have t:=O H;have l:=O c;go_wp2;go_ret;exact F6 i.u f.u t.u l.u M
def Xj(u:cK L)(m)(v:∀k,k<=m->bD B a b L 257 (λd s r=>r.prod d s) k):bD B a b L 241 (λd s r=>r.sum d s) m:=by
 intro w ok d s D G P h;have n:=YD 257 (λ_ _=>by go_simp) u m true (λd s r=>r.prod d s) (λ_ _ _=>rfl) v w.heap.size (yY w _) 2 rfl D (λg c=>G g (by simp at c;omega)) (by simp;omega) (h.alloc _);have q:Hid (∀o,Ev L (λr=>A8 (r.prod d s) λs x=>r.row true d s x) o->Ev L (λr=>r.sum d s) o):=λo F=>Ev.step (F.eq λr=>rfl);go_in;go_wp2_with fail;refine n.mono ?_;rintro e S ⟨A,o,z,j⟩;have i:=O (((Kept.refl B ok w).alloc _).trans A);have f:=O (q.u o z);cases o with
 |fail N p=>
  obtain⟨rfl,y⟩:=j;exact⟨rfl,D3 i.u f.u y⟩
 |ok R x=>
  obtain⟨rfl,H,c,M⟩:=j;have t:=O H;have l:=O c;go_wp2;go_ret;exact F6 i.u f.u t.u l.u M
def A0b(F:cK L)(m)(G:∀j,j<=m->bD B a b L 241 (λd s r=>r.sum d s) j):bD B a b L 224 (λd s r=>r.comp d s) m:=by
 intro w ok d s hm M D h;have HM:=G m (vQ _) w ok d s hm M D h;have u:Hid (∀o,Ev L (λr=>A8 (r.sum d s) λs x=>if aJ L s.i [[61,61],[60]] then gN L s x (r.sum d) else some (.ok s x)) o->Ev L (λr=>r.comp d s) o):=λo n=>Ev.step (n.eq λr=>rfl);go_in;go_wp2_with fail;refine HM.mono ?_;rintro e S ⟨hk,o,l,f⟩;have v:=O hk;have q:=O l;cases o with
 |fail er p=>
  obtain⟨rfl,k⟩:=f;exact⟨rfl,D3 v.u (u.u _ (Ev.bad q.u)) k⟩
 |ok R x=>
  obtain⟨rfl,i,c,N⟩:=f;obtain⟨P,rfl⟩:=Int.eq_ofNat_of_zero_le N.1;have Z:=pM F (i.alloc (.cells (mT [[61,61],[60]]) 9)) S.heap.size 2 [[61,61],[60]] (X8 _ _ _) (by decide);have a2:=O i;have V:=O c;have hj:=c.1;have A:=O (λo n=>u.u o (Ev.bind q.u n));generalize hq:aJ L R.i [[61,61],[60]]=a6 at*;have Q1:=O hq;go_wp2_with fail;refine Z.mono ?_;rintro e a7 ⟨rfl,H⟩;have g:=O (v.u.trans (((Kept.refl B ok S).alloc _).trans (C9 H)));have z:=O ((a2.u.alloc _).y H);cases a6
  .have T:=O (A.u _ (Ev.pure.eq (o:=.ok R (P:Int)) (λr=>by simp)));go_wp2;go_ret;exact F6 g.u T.u z.u V.u N
  .have HT:=YU 241 (λ_ _=>by go_simp) F m (λd s r=>r.sum d s) (λj h=>G j (by omega)) P (by omega) (DZ Q1.u) (by omega) (λa4 c=>M a4 (kQ g.u.size c)) (kQ D g.u.size) z.u;go_wp2_with fail;refine HT.mono ?_;rintro e a8 ⟨a5,o,l,f⟩;have y:=O (g.u.trans a5);have t:=O (A.u _ (l.eq (λr=>wY trivial)));cases o with
   |fail er p=>
    obtain⟨rfl,k⟩:=f;exact⟨rfl,D3 y.u t.u k⟩
   |ok s3 a9=>
    obtain⟨rfl,i,c,hy⟩:=f;have a3:=O i;have W:=O (show D9 s s3 by
     grind[D9]);go_wp2;go_ret;exact F6 y.u t.u a3.u W.u hy
def OM(w:E)(B a:Nat)(b:Value)(L:List Tk)(ok:Nat->Prop)(d:Nat)(s:St)(h:Sp->Option (Out Int))(e:Ending)(g:E):Prop:=
 Kept B ok w g/\∃o,Ev L h o/\match o with
  |.ok c x=>e=.returned (U x)/\aF g B a b L ok d c/\J1 s c/\0<=x/\x<c.N.length
  |.fail f p=>e=gu f p/\f≠0
def SA(B a:Nat)(b:Value)(L:List Tk)(m:Nat):Prop:=
 ∀(w) (ok) (d) (s) (k:Nat),k<s.N.length->L.length-s.i<=m->(∀g,w.heap.size<=g->ok g)->B<=w.heap.size->aF w B a b L ok d s->
  Calls prog 277 #[pV a,U k] w (OM w B a b L ok d s (λr=>r.tail d s k))
def Uc(z:cK L)(m)(S:∀D,D<m->bD B a b L 195 (λd s r=>r.expr d s) D):
 bD B a b L 292 (λd s r=>A8 (aB L s [40]) λs _=>A8 (r.expr d s) λs x=>A8 (aB L s [41]) λs _=>some (.ok s x)) m:=by
 intro w ok d s hm W R h;have H:=I2 z h [40];go_in;go_wp2_with fail;refine H.mono ?_;rintro e a2 ⟨i,n⟩;have j:=O i;obtain⟨c,rfl,f⟩|⟨c,rfl⟩:=n
 .have v:=O (λo l=>Ev.bind (k:=λr s (_:Unit)=>A8 (r.expr d s) λs x=>A8 (aB L s [41]) λs _=>some (Out.ok s x)) (M6 c) l (o:=o));have a3:=f.at';have N:=S (L.length-s.nx.i) (by grind[St.nx]) a2 ok d s.nx (vQ _) (λg k=>W g (kQ j.u.size k)) (kQ R j.u.size) f;go_wp2_with fail;refine N.mono ?_;rintro e a4 ⟨i,o,V,A⟩;have t:=O (j.u.trans i);have q:=O V;cases o with
  |fail er p=>
   obtain⟨rfl,T⟩:=A;exact⟨rfl,D3 t.u (v.u _ (Ev.bad q.u)) T⟩
  |ok s2 x=>
   obtain⟨rfl,f,k,Z⟩:=A;have M:=I2 z f [41];have G2:=O k;have y:=O (λo l=>v.u o (Ev.bind q.u l));go_wp2_with fail;refine M.mono ?_;rintro e a5 ⟨i,n⟩;have u:=O (t.u.trans i);obtain⟨c,rfl,f⟩|⟨c,rfl⟩:=n
   .have F:=O (y.u _ (Ev.bind (M6 c) Ev.pure));have P:=O f;have G:=O (show D9 s s2.nx by
     grind[D9,St.nx]);go_wp2;go_ret;exact F6 u.u F.u P.u G.u Z
   .exact⟨rfl,D3 u.u (y.u _ (Ev.bad (S5 c))) (by decide)⟩
 .exact⟨rfl,D3 j.u (Ev.bad (S5 c)) (by decide)⟩
def LF(u:cK L)(h:aF w B a b L ok d s)(T:∀g,w.heap.size<=g->ok g)(N:B<=w.heap.size):
 Calls prog 193 #[pV a] w λe A=>Kept B ok w A/\∃o,Ev L (λr=>aY L r d s) o/\match o with
  |.ok z x=>e=.returned (U x)/\aF A B a b L ok d z/\J1 s z
  |.fail j p=>e=gu j p/\j≠0:=by
 have F:=F9 u h [58];have m:Hid (∀o,Ev L (λr=>if aJ L s.i [[58]] then r.typ d s.nx else some (.ok s (-1))) o->Ev L (λr=>aY L r d s) o):=λo S=>S;generalize aJ L s.i [[58]]=q at*;go_in;go_wp2_with fail;refine F.mono ?_;rintro e k ⟨rfl,c,f⟩;have n:=O c;cases q
 .have i:aF k B a b L ok d s:=by simpa using f
  have H:=O i;go_wp2;go_ret;exact⟨n.u,.ok s (-1),m.u _ (Ev.pure.eq (λr=>by simp)),rfl,H.u,⟨vQ _,by omega,by omega,by omega⟩⟩
 .have i:aF k B a b L ok d s.nx:=by simpa using f
  have G:=XT u (L.length-s.nx.i) k ok d s.nx (vQ _) (λg v=>T g (kQ c.size v)) (kQ N c.size) i;go_wp2_with fail;refine G.mono ?_;rintro e W ⟨c,o,R,y⟩;have t:=O (n.u.trans c);have l:=O (m.u o (R.eq (λr=>by simp)));cases o with
  |fail j p=>
   obtain⟨rfl,P⟩:=y;exact⟨rfl,t.u,_,l.u,rfl,P⟩
  |ok V x=>
   obtain⟨rfl,f,v⟩:=y;have M:=O f;have D:=O (show J1 s V by
    grind[D9,J1,St.nx]);go_wp2;go_ret;exact⟨t.u,_,l.u,rfl,M.u,D.u⟩
theorem X9{ok}{w f}{q:Nat}{c}{e}(g:Kept B ok w f)(h:w.heap[q]?=some (.cells c e (0,0)))(l:e≠103/\e≠85/\e≠81):f.heap[q]?=some (.cells c e (0,0)):=by
 rw[g.block q (aI h) (λx=>?_)]
 .omega
 .obtain⟨i,j,k,m,r⟩:=x.2.1;grind
def Mu(D:cK L)(m)(hO:∀G,G<m->bD B a b L 270 (λd s r=>r.oper d s) G)(hS:bD B a b L 278 (λd s r=>r.simple d s) m)(hT:∀G,G<m->SA B a b L G):
 bD B a b L 270 (λd s r=>r.oper d s) m:=by
 intro w ok d s hm R P h;have ae:=h.fq;have HI:=pM D (h.alloc (.cells (mT [[33],[45],[116,121,112,101,111,102]]) 9)) w.heap.size 3 [[33],[45],[116,121,112,101,111,102]] (X8 _ _ _) (by decide);have a6:=O (λ(hq:aJ L s.i [[33],[45],[116,121,112,101,111,102]]=true)=>DZ hq);have z:Hid (∀o,Ev L (λr=>if aJ L s.i [[33],[45],[116,121,112,101,111,102]] then A8 (aQ L (jR L (s.i+1)) d s.nx r.oper) λH x=>aD H ⟨13,x,0,0,[],(tk L s.i).text,0,-1,(tk L s.i).at'⟩
  else A8 (r.simple d s) λs x=>r.tail d s x) o->Ev L (λr=>r.oper d s) o):=λo Z=>Ev.step (Z.eq λr=>rfl);have HP:=O h;have T:=O (λa2 (h1:aF a2 B a b L ok d s)=>xV D h1);generalize aJ L s.i [[33],[45],[116,121,112,101,111,102]]=ac at*;generalize tk L s.i=ad at*;obtain⟨kd,q,n⟩:=ad;simp only[iC]at T z a6;go_in;go_wp2_with fail;refine HI.mono ?_;rintro e a2 ⟨rfl,k⟩;have V:=O ((HP.u.alloc _).y k);have A:=O (((Kept.refl B ok w).alloc _).trans (C9 k));cases ac
 .have t:=hS a2 ok d s hm (λg c=>R g (kQ A.u.size c)) (kQ P A.u.size) V.u;go_wp2_with fail;refine t.mono ?_;rintro e y ⟨f,o,v,l⟩;have j:=O (A.u.trans f);have S:=O v;cases o with
  |fail er p=>
   obtain⟨rfl,F⟩:=l;exact⟨rfl,D3 j.u (z.u _ ((Ev.bad S.u).eq (λr=>by simp;rfl))) F⟩
  |ok s2 x=>
   obtain⟨rfl,i,c,hx⟩:=l;obtain⟨kx,rfl⟩:=Int.eq_ofNat_of_zero_le hx.1;have aa:=i.at';have hj:=c.1;have t:=hT (L.length-s2.i) (by omega) y ok d s2 kx (by omega) (vQ _) (λg c=>R g (kQ j.u.size c)) (kQ P j.u.size) i;have G2:=O c;go_wp2_with fail;refine t.mono ?_;clear t;rintro e a3 ⟨f,o,v,l⟩;have u:=O (j.u.trans f);have E3:=O (z.u o ((Ev.bind (k:=λr s x=>r.tail d s x) S.u v).eq (λr=>by simp)));clear f v j S;cases o with
   |fail er p=>
    obtain⟨rfl,F⟩:=l;exact⟨rfl,D3 u.u E3.u F⟩
   |ok s3 a4=>
    obtain⟨rfl,i,c,hy⟩:=l;have N:=O i;have G3:=O (show D9 s s3 by
     have h1:=G2.u;grind[D9,J1]);clear i c;go_wp2_with fail;go_ret;exact F6 u.u E3.u N.u G3.u hy
 .have V1:=O (λo (Z:Ev L (λr=>A8 (aQ L (jR L (s.i+1)) d s.nx r.oper) λH x=>aD H ⟨13,x,0,0,[],q,0,-1,(n:Int)⟩) o)=>z.u o (Z.eq (λr=>by simp)));clear z;go_wp2_with fail;refine(T.u _ V.u (a6.u trivial)).mono ?_;clear T;rintro e y ⟨rfl,f,i⟩;have j:=O ((A.u.trans f).alloc (.cells #[U kd,.string ⟨q.toArray⟩,U (n:Int)] 130));have W:=O (i.alloc (.cells #[U kd,.string ⟨q.toArray⟩,U (n:Int)] 130));have Q2:=O (yY y (.cells #[U kd,.string ⟨q.toArray⟩,U (n:Int)] 130));have aa:=i.at';have a5:=LY D W.u;clear f i V A;generalize a7:jR L s.nx.i=bg at*;have B2:=O a7;clear a7;go_wp2_with fail;refine a5.mono ?_;clear a5;rintro e a3 ⟨rfl,k⟩;have u:=O (j.u.trans (C9 k));have N:=O (W.u.y k);have Q3:=O (X9 (C9 (B:=B) (ok:=ok) k) Q2.u (by decide));have ab:y.heap.size<a3.heap.size:=by have:=k.size;simp at this;omega
  have t:=KU (w:=a3) (ok:=ok) 270 (λ_ _=>by go_simp) D (L.length-s.nx.i) (λd s r=>r.oper d s) (hO _ (by grind[St.nx])) bg (vQ _) (λg c=>R g (kQ u.u.size c)) (kQ P u.u.size) N.u;clear k W j Q2 N;go_wp2_with fail;refine t.mono ?_;clear t;rintro e a8 ⟨f,o,v,l⟩;have M:=O (u.u.trans f);have Q4:=O (X9 f Q3.u (by decide));have af:=yQ ab f.size;have E4:=O (v.eq (ψ:=λr=>aQ L (jR L (s.i+1)) d s.nx r.oper) (λr=>by rw[show jR L (s.i+1)=bg from B2.u]));clear f v u Q3;cases o with
  |fail er p=>
   obtain⟨rfl,F⟩:=l;exact⟨rfl,D3 M.u (V1.u _ (Ev.bad E4.u)) F⟩
  |ok s4 a4=>
   obtain⟨rfl,i,c,hy⟩:=l;have HA:=L9 D i ⟨13,a4,0,0,[],q,0,-1,(n:Int)⟩ 0 none 0 0 ⟨_,rfl,kW _ _ _ _,by simp[Value.ownBlock]⟩ rfl (by grind[D9,St.nx]) (kQ P M.u.size) (λg c=>R g (kQ M.u.size c));have EV:=O (V1.u _ (Ev.bind E4.u (k:=λ_ H x=>aD H ⟨13,x,0,0,[],q,0,-1,(n:Int)⟩) Ev.pure));have GX:=O (show D9 s ⟨s4.i,s4.N++[⟨13,a4,0,0,[],q,0,-1,(n:Int)⟩],s4.T⟩ by
    have h2:=c;grind[D9,St.nx]);have x1:a8.cell? (J y.heap.size 1)=some (.string ⟨q.toArray⟩):=cr Q4.u rfl;have x2:a8.cell? (J y.heap.size 2)=some (U (n:Int)):=cr Q4.u rfl;clear i c;go_wp2_with fail;refine HA.mono ?_;clear HA;rintro e ag ⟨rfl,f,i⟩;have K5:=O (M.u.trans f);have a9:=O i;clear f i;go_wp2_with fail;go_ret;exact F6 K5.u EV.u a9.u GX.u (by grind)
theorem aF.free{S}{A}{ok'}(h:aF w B a b L ok d s)(i:I S w A)(l:∀k,S k->¬ok k/\b.ownBlock≠some k)(j:∀g,ok g->g<w.heap.size->ok' g):aF A B a b L ok' d s:=by
 obtain⟨G,H,M,N,f,z,D,V,W,n,t,u,P,R⟩:=h;have r:=(aI n);have o:w.cell? (J a 3)=some z:=cr n rfl;have p:w.cell? (J a 4)=some D:=cr n rfl;have q:=i.block a r (λx=>(l a x).1 f.1);have y:∀g,ok g->g<w.heap.size->S g->(∃F e,w.heap[g]?=some (.cells F e (0,0))/\(e=137\/e=3))->False:=λg c _ T _=>(l g T).1 c;refine⟨G,H,M,A3 N i λg c x=>(l g x).2 c,⟨j _ f.1 r,λv g m c=>?_,λv g m c=>?_⟩,z,D,V,W,q.trans n,A3 t i λg c x=>(l g x).1 (f.2.1 _ g o c),A3 u i λg c x=>(l g x).1 (f.2.2 _ g p c),P.imp (fH.P i y j),R.imp (dM.P i y j)⟩
 .rw[World.cell?_of_block q,o]at m;cases m;exact j g (f.2.1 _ g o c) (t.lt g c).2
 .rw[World.cell?_of_block q,p]at m;cases m;exact j g (f.2.2 _ g p c) (u.lt g c).2
def I7{ok}{c e}{q}{o}(f:Kept B ok c e)(h:c.heap[q]?=some o)(g:¬ok q):e.heap[q]?=some o:=(f.block q (aI h) (λx=>g x.2.2)).trans h
def aF.nodeAt(h:aF w B a b L ok d s){k}(f:k<s.N.length):∃g c,w.cell? (J a 3)=some (.slice (some (J g 0)) s.N.length c)/\s.N.length<=c/\c<=maxLen/\g<w.heap.size/\a<w.heap.size/\w.cell? (J g (k*9+8))=some (U (gD s k)):=by
 obtain⟨A,F,D,G,e,i,v,o,u⟩:=h.eo;obtain⟨y,p,rfl⟩:=B8 i;obtain⟨g,rfl,_,l,j,m,t⟩:=D4 i (by omega);obtain⟨z,n,r⟩:=dS.at (λ_ _ h=>fH.len h) k f o;refine⟨g,p,cr e rfl,j,m,l,(aI e),?_⟩;obtain⟨x,rfl,_⟩:=n;have q:gD s (k:Int)=s.N[k].at':=by simp[gD,List.getD,f]
 simp_all
def My{hd}{o:Out Int}(h:Ev L (λr=>if aJ L s.i [[40]] then A8 (r.M .expr [41] d s.nx [] []) λc l=>A8 (aD c ⟨7,hd,0,0,l,[],0,-1,gD s hd⟩) λs x=>r.tail d s x
 else if aJ L s.i [[46]] then
  if (tk L (s.i+1)).x=1 then A8 (aD s.nx.nx ⟨8,hd,0,0,[],(tk L (s.i+1)).text,0,-1,gD s hd⟩) λs x=>r.tail d s x else bC L (s.i+1) 1
 else if aJ L s.i [[91]] then A8 (r.expr d s.nx) λc x=>A8 (aB L c [93]) λc _=>A8 (aD c ⟨9,hd,x,0,[],[],0,-1,gD s hd⟩) λs x=>r.tail d s x
 else if aJ L s.i [[97,115]] then A8 (r.typ d s.nx) λc t=>A8 (aD c ⟨14,hd,0,0,[],[],0,t,gD s hd⟩) λs x=>r.tail d s x
 else some (.ok s hd)) o):Ev L (λr=>r.tail d s hd) o:=Ev.step h
def yP{f}{e}{c p}(i:Kept B ok w e)(h:Ev L f (.fail c p))(g:c≠0):OM w B a b L ok d s f (gu c p) e:=⟨i,_,h,rfl,g⟩
def Zf(G:cK L)(bu)(hE:∀m',m'<bu->bD B a b L 195 (λd s r=>r.expr d s) m'):SA B a b L bu:=by
 intro w ok d s k hk hm ag hB bo;have H0:=O bo;have ba:=O hE;have bx:=bo.fq;go_in;go_wp2;go_loopw [1] (λc9 wr=>∃(i:Nat) (f:St),c9=U i/\i<f.N.length/\Hid (Kept B ok w wr)/\Hid (J1 s f)/\Hid (aF wr B a b L ok d f)/\Hid (∀o,Ev L (λr=>r.tail d f (i:Int)) o->Ev L (λr=>r.tail d s (k:Int)) o)) (λ_ wr=>L.length-oO wr a);case atStart=>exact⟨k,s,rfl,hk,Kept.refl _ _ _,⟨vQ _,by omega,by omega,by omega⟩,H0.u,λ_ x=>x⟩
 case round=>
  clear H0 bx hk;obtain⟨i,f,rfl,c4,KR,GR,PR,VR⟩:=hrel;obtain⟨g,nc,c3,cb,bw,l,cg,c8⟩:=PR.u.nodeAt c4;unfold maxLen at bw;have hi:=PR.u.at';have cc:=PR.u.fq;have cf:=PR.u.jq;have bz:=GR.u;simp only[J1]at bz;have cn:=KR.u.size;have VT:=O (λo F=>VR.u o (My (s:=f) (hd:=(i:Int)) F));clear VR;generalize c7:gD f (i:Int)=j at*;clear c7;have bp:I No wr (wr.alloc (.cells #[U 0,U (i:Int),U 0,U 0,sN,.string ⟨#[]⟩,U 0,U (-1),U j] 85)):=I.alloc _ _ _;have be:=O (PR.u.P (ok':=λg=>ok g/\g≠wr.heap.size) bp (λ_ _ _ _ x=>x.elim) (λg l hl=>⟨l,by omega⟩));have Q1:Hid ((wr.alloc (.cells #[U 0,U (i:Int),U 0,U 0,sN,.string ⟨#[]⟩,U 0,U (-1),U j] 85)).heap[wr.heap.size]?=some (.cells #[U 0,U (i:Int),U 0,U 0,sN,.string ⟨#[]⟩,U 0,U (-1),U j] 85 (0,0))):=yY wr _;have K1:=O (KR.u.alloc (.cells #[U 0,U (i:Int),U 0,U 0,sN,.string ⟨#[]⟩,U 0,U (-1),U j] 85));have ck:=PR.u.j5 (vQ _);have bc:=O (F9 G be.u [40]);have ca:=O PR.u;clear KR PR bp be;generalize bq:aJ L f.i [[40]]=q1 at*;generalize br:aJ L f.i [[46]]=q2 at*;generalize bs:aJ L f.i [[91]]=q3 at*;generalize bt:aJ L f.i [[97,115]]=q4 at*;have W1:=O (⟨bq,br,bs,bt⟩:_/\_/\_/\_);clear bq br bs bt;go_wp2_with fail;refine bc.u.mono ?_;rintro e b3 ⟨rfl,y,V⟩;have t:=O (K1.u.trans (y.mono λ_ x=>x.1));have v:=O (I7 y Q1.u (λx=>x.2 rfl));have cl:=(aI v.u);have m:=O V;clear y V bc K1 Q1;cases q1;case true=>
   have D:Hid (aF b3 B a b L (λg=>ok g/\g≠wr.heap.size) d f.nx):=m.u;have al:=D.u.at';clear m;have bb:=O (IA (w:=b3) (ok:=(λg=>ok g/\g≠wr.heap.size)) 195 (λ_ _=>by rfl) (pt:=.expr) (φ:=λd s r=>r.expr d s) (λ_ _ _=>rfl) G (L.length-f.nx.i) (λm' ce=>(ba.u m' (by simp only[St.nx]at*;omega)).rh) [41] (vQ _) (λg l=>⟨ag g (by omega),by omega⟩) (by omega) D.u);clear D;go_wp2_with fail;refine bb.u.mono ?_;rintro e c ⟨n,o,af,M⟩;have A:=O (t.u.trans (n.mono λ_ x=>x.1));have h:=O (I7 n v.u (λx=>x.2 rfl));have N:=O af;have ap:=n.size;clear n af bb t v;cases o with
   |fail er p=>
    obtain⟨rfl,he⟩:=M;exact⟨rfl,yP A.u (VT.u _ ((Ev.bad (k:=λr f ab=>A8 (aD f (C.mk 7 (i:Int) 0 0 ab [] 0 (-1) j)) λs x=>r.tail d s x) N.u).eq (λr=>by simp))) he⟩
   |ok q ab=>
    obtain⟨la,lc,rfl,an,cd,H,ah⟩:=M;have h3:=ah;simp only[D9,St.nx]at h3;have EV:=O (λo (F:Ev L (λr=>r.tail d ⟨q.i,q.N++[(C.mk 7 (i:Int) 0 0 ab [] 0 (-1) j)],q.T⟩ (q.N.length:Int)) o)=>VT.u o ((Ev.bind N.u (k:=λr f ab=>A8 (aD f (C.mk 7 (i:Int) 0 0 ab [] 0 (-1) j)) λs x=>r.tail d s x) (F.eq (λr=>rfl))).eq (λr=>by simp)));have z:I (λk=>k=wr.heap.size) c ((c.setCell (J wr.heap.size 0) (U 7)).setCell (J wr.heap.size 4) (.slice la ab.length lc)):=((I.set c (J wr.heap.size 0) (U 7)).trans (I.set _ (J wr.heap.size 4) (.slice la ab.length lc)) (λ_ _ x=>x));have S:=O (H.free (ok':=ok) z (λk hk=>⟨λx=>x.2 hk,by simp_all⟩) (λg l _=>l.1));have O5:=O (A3 an z (λg l x=>by
     have x':=x;have:=(A9 an g l).1;omega));have u:=O (A.u.trans' z (λaq hi x=>by omega));have ar:c.cell? (J wr.heap.size 0)=some (U 0):=cr h.u rfl;have au:c.cell? (J wr.heap.size 1)=some (U (i:Int)):=cr h.u rfl;have av:c.cell? (J wr.heap.size 2)=some (U 0):=cr h.u rfl;have aw:c.cell? (J wr.heap.size 3)=some (U 0):=cr h.u rfl;have ax:c.cell? (J wr.heap.size 4)=some (sN):=cr h.u rfl;have ay:c.cell? (J wr.heap.size 5)=some (.string ⟨#[]⟩):=cr h.u rfl;have az:c.cell? (J wr.heap.size 6)=some (U 0):=cr h.u rfl;have b0:c.cell? (J wr.heap.size 7)=some (U (-1)):=cr h.u rfl;have b1:c.cell? (J wr.heap.size 8)=some (U j):=cr h.u rfl;have b7:=frozen_of_row c wr.heap.size 0 _ _ h.u;have cs:=frozen_of_row c wr.heap.size 4 _ _ h.u;have b8:=(aI h.u);clear H ah an z N h A;have P:=O (Q6 G S.u (C.mk 7 (i:Int) 0 0 ab [] 0 (-1) j) la ab.length lc ⟨_,rfl,C8 O5.u (wQ _),λg l=>ag g (by have:=(A9 O5.u g l).1;omega)⟩ (by omega) (by have:=u.u.size;omega) (λg l=>ag g (by have:=u.u.size;omega)));clear S;go_wp2_with fail;refine P.u.mono ?_;rintro e b6 ⟨rfl,T,W⟩;have K6:=O (u.u.trans T);have P6:=O W;clear T W P u;go_wp2;go_roundw;case rel=>grind[J1]
    case measure=>
     have h4:=P6.u.jq;grind
  case false=>
   have bh:Hid (aF b3 B a b L (λg=>ok g/\g≠wr.heap.size) d f):=m.u;clear m;have R:=F9 G bh.u [46];rw[W1.u.2.1]at R;have ac:=O R;clear R bh;go_wp2_with fail;refine ac.u.mono ?_;rintro e bv ⟨rfl,y,V⟩;have ch:=y.size;have ad:=O (t.u.trans (y.mono λ_ x=>x.1));have ae:=O (I7 y v.u (λx=>x.2 rfl));clear t v;have t:=O ad.u;have v:=O ae.u;have m:=O V;clear y V ac ad ae;cases q2;case true=>
    have D:Hid (aF bv B a b L (λg=>ok g/\g≠wr.heap.size) d f.nx):=m.u;have al:=D.u.at';clear m;have aj:=O (GJ G D.u);have bn:tk L f.nx.i=tk L (f.i+1):=rfl;rw[bn]at aj;clear D bn;have ak:=O (λo (F:Ev L (λr=>if (tk L (f.i+1)).x=1 then A8 (aD f.nx.nx (C.mk 8 (i:Int) 0 0 [] (tk L (f.i+1)).text 0 (-1) j)) λs x=>r.tail d s x else bC L (f.i+1) 1) o)=>VT.u o (F.eq (λr=>by simp)));clear VT;go_wp2_with fail;refine aj.u.mono ?_;rintro e c ⟨n,M⟩;have A:=O (t.u.trans (n.mono λ_ x=>x.1));have h:=O (I7 n v.u (λx=>x.2 rfl));have ap:=n.size;clear n aj t v;obtain⟨am,rfl,H⟩|⟨am,rfl⟩:=M
    .have b9:=O (λo (F:Ev L (λr=>r.tail d ⟨f.nx.nx.i,f.nx.nx.N++[C.mk 8 (i:Int) 0 0 [] (tk L (f.i+1)).text 0 (-1) j],f.nx.nx.T⟩ (f.nx.nx.N.length:Int)) o)=>ak.u o (F.eq (λr=>by rw[wY am];rfl)));generalize (tk L (f.i+1)).text=tx at*;have EV:=O b9.u;clear b9 ak;have c6:=H.at';simp only[St.nx]at c6;have z:I (λk=>k=wr.heap.size) c ((c.setCell (J wr.heap.size 0) (U 8)).setCell (J wr.heap.size 5) (.string ⟨tx.toArray⟩)):=((I.set c (J wr.heap.size 0) (U 8)).trans (I.set _ (J wr.heap.size 5) (.string ⟨tx.toArray⟩)) (λ_ _ x=>x));have S:=O (H.free (ok':=ok) z (λk hk=>⟨λx=>x.2 hk,by simp_all⟩) (λg l _=>l.1));have u:=O (A.u.trans' z (λaq hi x=>by omega));have ar:c.cell? (J wr.heap.size 0)=some (U 0):=cr h.u rfl;have au:c.cell? (J wr.heap.size 1)=some (U (i:Int)):=cr h.u rfl;have av:c.cell? (J wr.heap.size 2)=some (U 0):=cr h.u rfl;have aw:c.cell? (J wr.heap.size 3)=some (U 0):=cr h.u rfl;have ax:c.cell? (J wr.heap.size 4)=some (sN):=cr h.u rfl;have ay:c.cell? (J wr.heap.size 5)=some (.string ⟨#[]⟩):=cr h.u rfl;have az:c.cell? (J wr.heap.size 6)=some (U 0):=cr h.u rfl;have b0:c.cell? (J wr.heap.size 7)=some (U (-1)):=cr h.u rfl;have b1:c.cell? (J wr.heap.size 8)=some (U j):=cr h.u rfl;have b7:=frozen_of_row c wr.heap.size 0 _ _ h.u;have ct:=frozen_of_row c wr.heap.size 5 _ _ h.u;have b8:=(aI h.u);clear H z h A;have P:=O (Q6 G S.u (C.mk 8 (i:Int) 0 0 [] tx 0 (-1) j) none 0 0 ⟨_,rfl,kW _ _ _ _,by simp[Value.ownBlock]⟩ (by simp only[St.nx];omega) (by have:=u.u.size;omega) (λg l=>ag g (by have:=u.u.size;omega)));clear S;go_wp2_with fail;refine P.u.mono ?_;rintro e b6 ⟨rfl,T,W⟩;have K6:=O (u.u.trans T);have P6:=O W;clear T W P u;go_wp2;go_roundw;case rel=>exact⟨f.nx.nx.N.length,⟨f.nx.nx.i,f.nx.nx.N++[(C.mk 8 (i:Int) 0 0 [] tx 0 (-1) j)],f.nx.nx.T⟩,rfl,by simp,K6.u,(show J1 s _ from by grind[J1,St.nx,qQ,jQ,xQ]),P6.u,EV.u⟩
     case measure=>
      have h4:=P6.u.jq;grind[St.nx]
    .exact⟨rfl,yP A.u (ak.u _ (Ev.pure.eq (λr=>by rw[zY am];rfl))) (by decide)⟩
   case false=>
    have bi:Hid (aF bv B a b L (λg=>ok g/\g≠wr.heap.size) d f):=m.u;clear m;have R:=F9 G bi.u [91];rw[W1.u.2.2.1]at R;have ac:=O R;clear R bi;go_wp2_with fail;refine ac.u.mono ?_;rintro e b4 ⟨rfl,y,V⟩;have ci:=y.size;have ad:=O (t.u.trans (y.mono λ_ x=>x.1));have ae:=O (I7 y v.u (λx=>x.2 rfl));clear t v;have t:=O ad.u;have v:=O ae.u;have m:=O V;clear y V ac ad ae;cases q3;case true=>
     have D:Hid (aF b4 B a b L (λg=>ok g/\g≠wr.heap.size) d f.nx):=m.u;have al:=D.u.at';clear m;have ai:=O (ba.u (L.length-f.nx.i) (by simp only[St.nx]at*;omega) b4 (λg=>ok g/\g≠wr.heap.size) d f.nx (vQ _) (λg l=>⟨ag g (by omega),by omega⟩) (by omega) D.u);clear D;go_wp2_with fail;refine ai.u.mono ?_;rintro e c ⟨n,o,af,M⟩;have A:=O (t.u.trans (n.mono λ_ x=>x.1));have h:=O (I7 n v.u (λx=>x.2 rfl));have N:=O af;have ap:=n.size;clear n af ai t v;cases o with
     |fail er p=>
      obtain⟨rfl,he⟩:=M;exact⟨rfl,yP A.u (VT.u _ ((Ev.bad (k:=λr f x=>A8 (aB L f [93]) λf _=>A8 (aD f (C.mk 9 (i:Int) x 0 [] [] 0 (-1) j)) λs x=>r.tail d s x) N.u).eq (λr=>by simp))) he⟩
     |ok q x=>
      obtain⟨rfl,H,ah,cp⟩:=M;have h3:=ah;simp only[D9,St.nx]at h3;have VN:=O (λo (F:Ev L (λr=>(λr f x=>A8 (aB L f [93]) λf _=>A8 (aD f (C.mk 9 (i:Int) x 0 [] [] 0 (-1) j)) λs x=>r.tail d s x) r q x) o)=>VT.u o ((Ev.bind N.u (k:=λr f x=>A8 (aB L f [93]) λf _=>A8 (aD f (C.mk 9 (i:Int) x 0 [] [] 0 (-1) j)) λs x=>r.tail d s x) F).eq (λr=>by simp)));clear VT N;have z:I (λk=>k=wr.heap.size) c ((c.setCell (J wr.heap.size 0) (U 9)).setCell (J wr.heap.size 2) (U x)):=((I.set c (J wr.heap.size 0) (U 9)).trans (I.set _ (J wr.heap.size 2) (U x)) (λ_ _ x=>x));have bg:=O (H.free (ok':=(λg=>ok g/\g≠wr.heap.size)) z (λk hk=>⟨λx=>x.2 hk,by simp_all⟩) (λg l _=>l));have bd:=O (A.u.trans' z (λaq hi x=>by omega));have bm:Hid (((c.setCell (J wr.heap.size 0) (U 9)).setCell (J wr.heap.size 2) (U x)).heap[wr.heap.size]?=some (.cells #[U 9,U (i:Int),U x,U 0,sN,.string ⟨#[]⟩,U 0,U (-1),U j] 85 (0,0))):=by
       show _=_;have h1:=heap_setCell_same c wr.heap.size 0 _ _ (U 9) h.u;rw[heap_setCell_same _ wr.heap.size 2 _ _ (U x) h1];rfl
      have ar:c.cell? (J wr.heap.size 0)=some (U 0):=cr h.u rfl;have au:c.cell? (J wr.heap.size 1)=some (U (i:Int)):=cr h.u rfl;have av:c.cell? (J wr.heap.size 2)=some (U 0):=cr h.u rfl;have aw:c.cell? (J wr.heap.size 3)=some (U 0):=cr h.u rfl;have ax:c.cell? (J wr.heap.size 4)=some (sN):=cr h.u rfl;have ay:c.cell? (J wr.heap.size 5)=some (.string ⟨#[]⟩):=cr h.u rfl;have az:c.cell? (J wr.heap.size 6)=some (U 0):=cr h.u rfl;have b0:c.cell? (J wr.heap.size 7)=some (U (-1)):=cr h.u rfl;have b1:c.cell? (J wr.heap.size 8)=some (U j):=cr h.u rfl;have b7:=frozen_of_row c wr.heap.size 0 _ _ h.u;have cq:=frozen_of_row c wr.heap.size 2 _ _ h.u;have b8:=(aI h.u);have HN:=O (I2 G bg.u [93]);clear H z h A bg;go_wp2_with fail;refine HN.u.mono ?_;rintro e aa ⟨k4,M⟩;have u:=O (bd.u.trans (k4.mono λ_ x=>x.1));have Z:=O (I7 k4 bm.u (λx=>x.2 rfl));have cm:c.heap.size<=aa.heap.size:=by have:=k4.size;simpa using this
      clear k4 bd bm HN;obtain⟨hq,rfl,ao⟩|⟨hq,rfl⟩:=M
      .have c5:=ao.at';have S:=O (ao.mono (ok':=ok) (λg l _=>l.1));have EV:=O (λo (F:Ev L (λr=>r.tail d ⟨q.nx.i,q.nx.N++[(C.mk 9 (i:Int) x 0 [] [] 0 (-1) j)],q.nx.T⟩ (q.nx.N.length:Int)) o)=>VN.u o (F.eq (λr=>by simp only[aB,hq,if_true];rfl)));clear VN ao;simp only[St.nx]at c5;have a0:aa.cell? (J wr.heap.size 0)=some (U 9):=cr Z.u rfl;have a1:aa.cell? (J wr.heap.size 1)=some (U (i:Int)):=cr Z.u rfl;have a2:aa.cell? (J wr.heap.size 2)=some (U x):=cr Z.u rfl;have a3:aa.cell? (J wr.heap.size 3)=some (U 0):=cr Z.u rfl;have a4:aa.cell? (J wr.heap.size 4)=some (sN):=cr Z.u rfl;have a5:aa.cell? (J wr.heap.size 5)=some (.string ⟨#[]⟩):=cr Z.u rfl;have a6:aa.cell? (J wr.heap.size 6)=some (U 0):=cr Z.u rfl;have a7:aa.cell? (J wr.heap.size 7)=some (U (-1)):=cr Z.u rfl;have a8:aa.cell? (J wr.heap.size 8)=some (U j):=cr Z.u rfl;have a9:=(aI Z.u);have P:=O (Q6 G S.u (C.mk 9 (i:Int) x 0 [] [] 0 (-1) j) none 0 0 ⟨_,rfl,kW _ _ _ _,by simp[Value.ownBlock]⟩ (by simp only[St.nx];omega) (by omega) (λg l=>ag g (by omega)));clear S;go_wp2_with fail;refine P.u.mono ?_;rintro e b6 ⟨rfl,T,W⟩;have K6:=O (u.u.trans T);have P6:=O W;clear T W P u;go_wp2;go_roundw;case rel=>exact⟨q.nx.N.length,⟨q.nx.i,q.nx.N++[(C.mk 9 (i:Int) x 0 [] [] 0 (-1) j)],q.nx.T⟩,rfl,by simp,K6.u,(show J1 s _ from by grind[J1,St.nx,qQ,jQ,xQ]),P6.u,EV.u⟩
       case measure=>
        have h4:=P6.u.jq;grind[St.nx]
      .exact⟨rfl,yP u.u (VN.u _ (Ev.pure.eq (λr=>by simp only[aB,hq];rfl))) (by decide)⟩
    case false=>
     have bj:Hid (aF b4 B a b L (λg=>ok g/\g≠wr.heap.size) d f):=m.u;clear m;have R:=F9 G bj.u [97,115];rw[W1.u.2.2.2]at R;have ac:=O R;clear R bj;go_wp2_with fail;refine ac.u.mono ?_;rintro e b5 ⟨rfl,y,V⟩;have cj:=y.size;have ad:=O (t.u.trans (y.mono λ_ x=>x.1));have ae:=O (I7 y v.u (λx=>x.2 rfl));clear t v;have t:=O ad.u;have v:=O ae.u;have m:=O V;clear y V ac ad ae;cases q4;case true=>
      have D:Hid (aF b5 B a b L (λg=>ok g/\g≠wr.heap.size) d f.nx):=m.u;have al:=D.u.at';clear m;have ai:=O (XT (B:=B) (pb:=a) (tv:=b) G (L.length-f.nx.i) b5 (λg=>ok g/\g≠wr.heap.size) d f.nx (vQ _) (λg l=>⟨ag g (by omega),by omega⟩) (by omega) D.u);clear D;go_wp2_with fail;refine ai.u.mono ?_;rintro e c ⟨n,o,af,M⟩;have A:=O (t.u.trans (n.mono λ_ x=>x.1));have h:=O (I7 n v.u (λx=>x.2 rfl));have N:=O af;have ap:=n.size;clear n af ai t v;cases o with
      |fail er p=>
       obtain⟨rfl,he⟩:=M;exact⟨rfl,yP A.u (VT.u _ ((Ev.bad (k:=λr f b2=>A8 (aD f (C.mk 14 (i:Int) 0 0 [] [] 0 b2 j)) λs x=>r.tail d s x) N.u).eq (λr=>by simp))) he⟩
      |ok q x=>
       obtain⟨rfl,H,ah⟩:=M;have h3:=ah;simp only[D9,St.nx]at h3;have EV:=O (λo (F:Ev L (λr=>r.tail d ⟨q.i,q.N++[(C.mk 14 (i:Int) 0 0 [] [] 0 x j)],q.T⟩ (q.N.length:Int)) o)=>VT.u o ((Ev.bind N.u (k:=λr f b2=>A8 (aD f (C.mk 14 (i:Int) 0 0 [] [] 0 b2 j)) λs x=>r.tail d s x) (F.eq (λr=>rfl))).eq (λr=>by simp)));have z:I (λk=>k=wr.heap.size) c ((c.setCell (J wr.heap.size 0) (U 14)).setCell (J wr.heap.size 7) (U x)):=((I.set c (J wr.heap.size 0) (U 14)).trans (I.set _ (J wr.heap.size 7) (U x)) (λ_ _ x=>x));have S:=O (H.free (ok':=ok) z (λk hk=>⟨λx=>x.2 hk,by simp_all⟩) (λg l _=>l.1));have u:=O (A.u.trans' z (λaq hi x=>by omega));have ar:c.cell? (J wr.heap.size 0)=some (U 0):=cr h.u rfl;have au:c.cell? (J wr.heap.size 1)=some (U (i:Int)):=cr h.u rfl;have av:c.cell? (J wr.heap.size 2)=some (U 0):=cr h.u rfl;have aw:c.cell? (J wr.heap.size 3)=some (U 0):=cr h.u rfl;have ax:c.cell? (J wr.heap.size 4)=some (sN):=cr h.u rfl;have ay:c.cell? (J wr.heap.size 5)=some (.string ⟨#[]⟩):=cr h.u rfl;have az:c.cell? (J wr.heap.size 6)=some (U 0):=cr h.u rfl;have b0:c.cell? (J wr.heap.size 7)=some (U (-1)):=cr h.u rfl;have b1:c.cell? (J wr.heap.size 8)=some (U j):=cr h.u rfl;have b7:=frozen_of_row c wr.heap.size 0 _ _ h.u;have cu:=frozen_of_row c wr.heap.size 7 _ _ h.u;have b8:=(aI h.u);clear H ah z N h A;have P:=O (Q6 G S.u (C.mk 14 (i:Int) 0 0 [] [] 0 x j) none 0 0 ⟨_,rfl,kW _ _ _ _,by simp[Value.ownBlock]⟩ (by omega) (by have:=u.u.size;omega) (λg l=>ag g (by have:=u.u.size;omega)));clear S;go_wp2_with fail;refine P.u.mono ?_;rintro e b6 ⟨rfl,T,W⟩;have K6:=O (u.u.trans T);have P6:=O W;clear T W P u;go_wp2;go_roundw;case rel=>grind[J1]
       case measure=>
        have h4:=P6.u.jq;grind
     case false=>
      have bf:Hid (aF b5 B a b L (λg=>ok g/\g≠wr.heap.size) d f):=m.u;have PF:=O (bf.u.mono (ok':=ok) (λg l _=>l.1));have EE:=O (VT.u (.ok f (i:Int)) (Ev.pure.eq (λr=>by simp)));have GE:=O GR.u;clear m bf;go_wp2_with fail;go_ret;exact⟨t.u,_,EE.u,rfl,PF.u,GE.u,by omega,by omega⟩
end
def qF(L:List Tk)(d:Nat)(s:St)(r:Sp):Option (Out Int):=A8 (aB L s [40]) λs _=>A8 (r.expr d s) λs x=>A8 (aB L s [41]) λs _=>some (.ok s x)
theorem Lw{b c d}(x)(f:St->b->Option (Out c))(g:St->c->Option (Out d)):A8 (A8 x f) g=A8 x λs a=>A8 (f s a) g:=by
 obtain _|⟨s,a⟩|⟨e,p⟩:=x<;>rfl
theorem QA(L:List Tk)(d)(s)(r){a}(k:St->Int->Option (Out a)):A8 (qF L d s r) k=A8 (aB L s [40]) λs _=>A8 (r.expr d s) λs x=>A8 (aB L s [41]) λs _=>k s x:=by
 unfold qF;simp only[Lw];rfl
section
variable{B a:Nat}{b:Value}{L:List Tk}
def OJ(w:E)(B a:Nat)(b:Value)(L:List Tk)(g:Nat->Prop)(d:Nat)(s:St)(i:Sp->Option (Out Int))(e:Ending)(h:E):Prop:=
 Kept B g w h/\∃o,Ev L i o/\match o with
  |.ok c x=>e=.returned (U x)/\aF h B a b L g d c/\(s.i<c.i/\c.N.length+s.i+2<=s.N.length+c.i/\c.T.length+s.i<=s.T.length+c.i/\s.N.length<=c.N.length)/\0<=x/\x<c.N.length
  |.fail f p=>e=gu f p/\f≠0
def IE{w f}{e}{d}{s}{g}{c p}(j:Kept B e w f)(i:Ev L g (.fail c p))(h:c≠0):OJ w B a b L e d s g (gu c p) f:=⟨j,_,i,rfl,h⟩
def UT(A:cK L)(m)(R:∀F,F<=m->bD B a b L 195 (λd s r=>r.expr d s) F)(w:E)(n:Nat->Prop)(d)(s:St)(hm:L.length-s.i<=m)(a2:∀g,w.heap.size<=g->n g)(N:B<=w.heap.size)(h:aF w B a b L n d s):
 Calls prog 196 #[pV a] w (OJ w B a b L n d s (λr=>A8 (aB L s [40]) λq _=>A8 (r.expr d q) λt x=>A8 (aB L t [41]) λu _=>some (Out.ok u x))):=by
 have c:=O (Kept.refl B n w);generalize S:(λ(r:Sp)=>A8 (aB L s [40]) λq _=>A8 (r.expr d q) λt x=>A8 (aB L t [41]) λu _=>some (Out.ok u x))=H;have V:Hid (∀o,Ev L (λr=>A8 (aB L s [40]) λq _=>A8 (r.expr d q) λt x=>A8 (aB L t [41]) λu _=>some (Out.ok u x)) o->Ev L H o):=by
  rw[<-S];exact λ_ x=>x
 have P:=O h;go_in;have j:=O (I2 A P.u [40]);go_wp2_with fail;refine j.u.mono ?_;rintro e a4 ⟨k,y⟩;replace c:=O (c.u.trans k);obtain⟨f,rfl,l⟩|⟨f,rfl⟩:=y;case inr=>exact⟨rfl,IE c.u (Ev.vf V.u (S5 f)) (by decide)⟩
 replace V:=O (Ev.vb V.u (M6 f));have P:=O l;have j:=O (R (L.length-((s).nx).i) (by grind[St.nx]) a4 n d ((s).nx) (vQ _) (λg v=>a2 g (kQ c.u.size v)) (kQ N c.u.size) P.u);go_wp2_with fail;refine j.u.mono ?_;rintro e a5 ⟨k,o,W,D⟩;replace c:=O (c.u.trans k);have z:=O W;cases o with
 |fail er p=>
  obtain⟨rfl,T⟩:=D;exact⟨rfl,IE c.u (Ev.vf V.u z.u) T⟩
 |ok i x=>
  obtain⟨rfl,l,v,a3⟩:=D;have Z:_/\_/\_/\_:=v;simp only[St.nx]at Z;replace V:=O (Ev.vb V.u z.u);have P:=O l;have j:=O (I2 A P.u [41]);go_wp2_with fail;refine j.u.mono ?_;rintro e a6 ⟨k,y⟩;replace c:=O (c.u.trans k);obtain⟨f,rfl,l⟩|⟨f,rfl⟩:=y;case inr=>exact⟨rfl,IE c.u (Ev.vf V.u (S5 f)) (by decide)⟩
  replace V:=O (Ev.vb V.u (M6 f));have P:=O l;have G:=O (V.u _ Ev.pure);have M:Hid (s.i<((i).nx).i/\((i).nx).N.length+s.i+2<=s.N.length+((i).nx).i/\((i).nx).T.length+s.i<=s.T.length+((i).nx).i/\s.N.length<=((i).nx).N.length):=(show _/\_/\_/\_ from by grind[St.nx]);go_wp2;go_ret;exact⟨c.u,_,G.u,rfl,P.u,M.u,a3⟩
def Rt(D:cK L)(m)(hE:∀m',m'<=m->bD B a b L 195 (λd s r=>r.expr d s) m')(q)(w:E)(H:Nat->Prop)(d)(s:St)(hm:L.length-s.i<=m)(S:∀g,w.heap.size<=g->H g)(N:B<=w.heap.size)(h:aF w B a b L H d s):
 Calls prog 159 #[pV a,U q] w (U9 w B a b L H d s (λr=>if (tk L (s).i).x=1 then A8 (aY L r d (s).nx) λt l=>A8 (aB L t [61]) λu _=>A8 (r.expr d u) λv x=>A8 (aB L v [59]) λy _=>aD y (C.mk 17 x 0 0 [] (tk L (s).i).text 0 l q) else bC L (s).i 1)):=by
 have a7:=h.fq;have c:=O (Kept.refl B H w);generalize a2:(λr=>if (tk L (s).i).x=1 then A8 (aY L r d (s).nx) λt l=>A8 (aB L t [61]) λu _=>A8 (r.expr d u) λv x=>A8 (aB L v [59]) λy _=>aD y (C.mk 17 x 0 0 [] (tk L (s).i).text 0 l q) else bC L (s).i 1)=FF;have V:Hid (∀o,Ev L (λr=>if (tk L (s).i).x=1 then A8 (aY L r d (s).nx) λt l=>A8 (aB L t [61]) λu _=>A8 (r.expr d u) λv x=>A8 (aB L v [59]) λy _=>aD y (C.mk 17 x 0 0 [] (tk L (s).i).text 0 l q) else bC L (s).i 1) o->Ev L FF o):=by
  rw[<-a2];exact λ_ x=>x
 have P:=O h;go_in;have j:=O (GJ D P.u);go_wp2_with fail;refine j.u.mono ?_;rintro e ac ⟨k,G⟩;replace c:=O (c.u.trans k);obtain⟨i,rfl,f⟩|⟨i,rfl⟩:=G;case inr=>exact⟨rfl,D3 c.u (V.u _ (Ev.pure.eq (λr=>by rw[zY i];rfl))) (by decide)⟩
 replace V:=O (λo (ho:Ev L (λr=>A8 (aY L r d (s).nx) λt l=>A8 (aB L t [61]) λu (_:Unit)=>A8 (r.expr d u) λv x=>A8 (aB L v [59]) λy (_:Unit)=>aD y (C.mk 17 x 0 0 [] (tk L (s).i).text 0 l q)) o)=>V.u o (ho.eq (λr=>by grind)));generalize (tk L (s).i).text=T at*;have P:=O f;have j:=O (LF D P.u (λg n=>S g (kQ c.u.size n)) (kQ N c.u.size));go_wp2_with fail;refine j.u.mono ?_;rintro e ad ⟨k,o,M,F⟩;replace c:=O (c.u.trans k);have z:=O M;cases o with
 |fail er p=>
  obtain⟨rfl,R⟩:=F;exact⟨rfl,D3 c.u (Ev.vf V.u z.u) R⟩
 |ok s2 l=>
  obtain⟨rfl,f,n⟩:=F;have a3:_/\_/\_/\_:=n;simp only[St.nx]at a3;replace V:=O (Ev.vb V.u z.u);have P:=O f;have j:=O (I2 D P.u [61]);go_wp2_with fail;refine j.u.mono ?_;rintro e a6 ⟨k,G⟩;replace c:=O (c.u.trans k);obtain⟨i,rfl,f⟩|⟨i,rfl⟩:=G;case inr=>exact⟨rfl,D3 c.u (Ev.vf V.u (S5 i)) (by decide)⟩
  replace V:=O (Ev.vb V.u (M6 i));clear i;have P:=O f;have a8:=f.at';clear f;have j:=O (hE (L.length-((s2).nx).i) (by grind[St.nx]) a6 H d ((s2).nx) (vQ _) (λg n=>S g (kQ c.u.size n)) (kQ N c.u.size) P.u);clear P;go_wp2_with fail;refine j.u.mono ?_;rintro e ae ⟨k,o,M,F⟩;replace c:=O (c.u.trans k);have z:=O M;clear k M j;cases o with
  |fail er p=>
   obtain⟨rfl,R⟩:=F;exact⟨rfl,D3 c.u (Ev.vf V.u z.u) R⟩
  |ok A x=>
   obtain⟨rfl,f,n,ab⟩:=F;have a4:_/\_/\_/\_:=n;simp only[St.nx]at a4;replace V:=O (Ev.vb V.u z.u);clear z;have P:=O f;have a9:=f.at';clear f n;have j:=O (I2 D P.u [59]);clear P;go_wp2_with fail;refine j.u.mono ?_;rintro e af ⟨k,G⟩;replace c:=O (c.u.trans k);clear k j;obtain⟨i,rfl,f⟩|⟨i,rfl⟩:=G;case inr=>exact⟨rfl,D3 c.u (Ev.vf V.u (S5 i)) (by decide)⟩
   replace V:=O (Ev.vb V.u (M6 i));clear i;have P:=O f;have aa:=f.at';clear f;have W:=O (Q6 D P.u (C.mk 17 x 0 0 [] T 0 l q) none 0 0 ⟨_,rfl,kW _ _ _ _,by simp[Value.ownBlock]⟩ (by grind[St.nx]) (kQ N c.u.size) (λg n=>S g (kQ c.u.size n)));have EV:=O (V.u _ Ev.pure);have GX:=O (show D9 s ⟨((A).nx).i,((A).nx).N++[(C.mk 17 x 0 0 [] T 0 l q)],((A).nx).T⟩ by
    grind[D9,St.nx,qQ,jQ,xQ]);have a5:(0:Int)<=(((A).nx).N.length:Int)/\(((A).nx).N.length:Int)<((((A).nx).N++[(C.mk 17 x 0 0 [] T 0 l q)]).length:Int):=by simp;omega
   clear P V;go_wp2_with fail;refine W.u.mono ?_;rintro e ag ⟨rfl,Z,p9⟩;have K9:=O (c.u.trans Z);have P9:=O p9;clear Z p9 W;go_wp2_with fail;go_ret;exact F6 K9.u EV.u P9.u GX.u a5
def ZA(D:cK L)(m)(Z:∀H,H<=m->bD B a b L 195 (λd s r=>r.expr d s) H)(i f)(w:E)(l:Nat->Prop)(d)(s:St)(hm:L.length-s.i<=m)(F:∀g,w.heap.size<=g->l g)(A:B<=w.heap.size)(h:aF w B a b L l d s):
 Calls prog 160 #[pV a,U i,U f] w (U9 w B a b L l d s (λr=>A8 (r.expr d s) λn x=>A8 (aB L n [59]) λq _=>aD q (C.mk i x 0 0 [] [] 0 (-1) f))):=by
 have a5:=h.fq;have c:=O (Kept.refl B l w);generalize a2:(λ(r:Sp)=>A8 (r.expr d s) λn x=>A8 (aB L n [59]) λq _=>aD q (C.mk i x 0 0 [] [] 0 (-1) f))=N;have V:Hid (∀o,Ev L (λr=>A8 (r.expr d s) λn x=>A8 (aB L n [59]) λq _=>aD q (C.mk i x 0 0 [] [] 0 (-1) f)) o->Ev L N o):=by
  rw[<-a2];exact λ_ x=>x
 have P:=O h;go_in;have t:=O (Z (L.length-(s).i) (by omega) w l d (s) (vQ _) (λg k=>F g (kQ c.u.size k)) (kQ A c.u.size) P.u);go_wp2_with fail;refine t.u.mono ?_;rintro e a8 ⟨v,o,a3,G⟩;replace c:=O (c.u.trans v);have z:=O a3;cases o with
 |fail er p=>
  obtain⟨rfl,he⟩:=G;exact⟨rfl,D3 c.u (Ev.vf V.u z.u) he⟩
 |ok j x=>
  obtain⟨rfl,y,k,a7⟩:=G;have a6:_/\_/\_/\_:=k;skip;replace V:=O (Ev.vb V.u z.u);have P:=O y;have t:=O (I2 D P.u [59]);go_wp2_with fail;refine t.u.mono ?_;rintro e a9 ⟨v,hr⟩;replace c:=O (c.u.trans v);obtain⟨u,rfl,y⟩|⟨u,rfl⟩:=hr;case inr=>exact⟨rfl,D3 c.u (Ev.vf V.u (S5 u)) (by decide)⟩
  replace V:=O (Ev.vb V.u (M6 u));have P:=O y;have S:=O (L9 D P.u (C.mk i x 0 0 [] [] 0 (-1) f) 0 none 0 0 ⟨_,rfl,kW _ _ _ _,by simp[Value.ownBlock]⟩ rfl (by grind[St.nx]) (kQ A c.u.size) (λg k=>F g (kQ c.u.size k)));have M:=O (V.u _ Ev.pure);have R:=O (show D9 s ⟨((j).nx).i,((j).nx).N++[(C.mk i x 0 0 [] [] 0 (-1) f)],((j).nx).T⟩ by
   grind[D9,St.nx,qQ,jQ,xQ]);have a4:0<=(((j).nx).N.length:Int)/\(((j).nx).N.length:Int)<((((j).nx).N++[(C.mk i x 0 0 [] [] 0 (-1) f)]).length:Int):=by simp;omega
  go_wp2_with fail;refine S.u.mono ?_;rintro e aa ⟨rfl,k9,p9⟩;have T:=O (c.u.trans k9);have W:=O p9;go_wp2;go_ret;exact F6 T.u M.u W.u R.u a4
def Cq(M:cK L)(m)(hE:∀j,j<=m->bD B a b L 195 (λd s r=>r.expr d s) j)(hK:∀j,j<=m->bD B a b L 197 (λd s r=>r.block d s) j)(i)(w)(k)(d)(s)(hm:L.length-s.i<=m)(G:∀g,w.heap.size<=g->k g)(z:B<=w.heap.size)(h:aF w B a b L k d s):
 Calls prog 162 #[pV a,U i] w (U9 w B a b L k d s (λr=>A8 (qF L d s r) λt x=>A8 (r.block d t) λu y=>aD u (C.mk 23 x y 0 [] [] 0 (-1) i))):=by
 have a5:=h.fq;have c:=O (Kept.refl B k w);generalize a2:(λr=>A8 (qF L d s r) λt x=>A8 (r.block d t) λu y=>aD u (C.mk 23 x y 0 [] [] 0 (-1) i))=S;have V:Hid (∀o,Ev L (λr=>A8 (qF L d s r) λt x=>A8 (r.block d t) λu y=>aD u (C.mk 23 x y 0 [] [] 0 (-1) i)) o->Ev L S o):=by
  rw[<-a2];exact λ_ x=>x
 have P:=O h;go_in;have v:=O (UT M (L.length-(s).i) (λj a8=>hE j (by omega)) w k d (s) (vQ _) (λg f=>G g (kQ c.u.size f)) (kQ z c.u.size) P.u);go_wp2_with fail;refine v.u.mono ?_;rintro e a4 ⟨F,o,D,q⟩;replace c:=O (c.u.trans F);have n:=O D;cases o with
 |fail er p=>
  obtain⟨rfl,A⟩:=q;exact⟨rfl,D3 c.u (Ev.vf V.u n.u) A⟩
 |ok N x=>
  obtain⟨rfl,H,f,a9⟩:=q;have a6:=f;skip;replace V:=O (Ev.vb V.u n.u);have P:=O H;have v:=O (hK (L.length-(N).i) (by omega) a4 k d (N) (vQ _) (λg f=>G g (kQ c.u.size f)) (kQ z c.u.size) P.u);go_wp2_with fail;refine v.u.mono ?_;rintro e ab ⟨F,o,D,q⟩;replace c:=O (c.u.trans F);have n:=O D;cases o with
  |fail er p=>
   obtain⟨rfl,A⟩:=q;exact⟨rfl,D3 c.u (Ev.vf V.u n.u) A⟩
  |ok l y=>
   obtain⟨rfl,H,f,aa⟩:=q;have a7:_/\_/\_/\_:=f;skip;replace V:=O (Ev.vb V.u n.u);have P:=O H;have W:=O (L9 M P.u (C.mk 23 x y 0 [] [] 0 (-1) i) 0 none 0 0 ⟨_,rfl,kW _ _ _ _,by simp[Value.ownBlock]⟩ rfl (by omega) (kQ z c.u.size) (λg f=>G g (kQ c.u.size f)));have R:=O (V.u _ Ev.pure);have T:=O (show D9 s ⟨(l).i,(l).N++[(C.mk 23 x y 0 [] [] 0 (-1) i)],(l).T⟩ by
    grind[D9,qQ,jQ,xQ]);have a3:0<=((l).N.length:Int)/\((l).N.length:Int)<(((l).N++[(C.mk 23 x y 0 [] [] 0 (-1) i)]).length:Int):=by simp;omega
   go_wp2_with fail;refine W.u.mono ?_;rintro e ac ⟨rfl,k9,p9⟩;have Z:=O (c.u.trans k9);have P9:=O p9;go_wp2;go_ret;exact F6 Z.u R.u P9.u T.u a3
def vz(T:cK L)(a3)(hE:∀v,v<=a3->bD B a b L 195 (λd s r=>r.expr d s) v)(hK:∀v,v<=a3->bD B a b L 197 (λd s r=>r.block d s) v)(m)(w)(q)(d)(s)(hm:L.length-s.i<=a3)(H:∀g,w.heap.size<=g->q g)(F:B<=w.heap.size)(a5:aF w B a b L q d s):
 Calls prog 161 #[pV a,U m] w (U9 w B a b L q d s (λr=>A8 (qF L d s r) λR x=>A8 (r.block d R) λk y=>A8 (if aJ L (k).i [[101,108,115,101]] then r.block d (k).nx else some (.ok (k) (-1))) λS z=>aD S (C.mk 22 x y z [] [] 0 (-1) m))):=by
 have ac:=a5.fq;have c:=O (Kept.refl B q w);generalize a6:(λr=>A8 (qF L d s r) λR x=>A8 (r.block d R) λk y=>A8 (if aJ L (k).i [[101,108,115,101]] then r.block d (k).nx else some (.ok (k) (-1))) λS z=>aD S (C.mk 22 x y z [] [] 0 (-1) m))=FF;have V:Hid (∀o,Ev L (λr=>A8 (qF L d s r) λR x=>A8 (r.block d R) λk y=>A8 (if aJ L (k).i [[101,108,115,101]] then r.block d (k).nx else some (.ok (k) (-1))) λS z=>aD S (C.mk 22 x y z [] [] 0 (-1) m)) o->Ev L FF o):=by
  rw[<-a6];exact λ_ x=>x
 have P:=O a5;go_in;have j:=O (UT T (L.length-(s).i) (λv ah=>hE v (by omega)) w q d (s) (vQ _) (λg f=>H g (kQ c.u.size f)) (kQ F c.u.size) P.u);go_wp2_with fail;refine j.u.mono ?_;rintro e aa ⟨n,o,u,t⟩;replace c:=O (c.u.trans n);have l:=O u;cases o with
 |fail er p=>
  obtain⟨rfl,G⟩:=t;exact⟨rfl,D3 c.u (Ev.vf V.u l.u) G⟩
 |ok s1 x=>
  obtain⟨rfl,h,f,ai⟩:=t;have ad:=f;skip;replace V:=O (Ev.vb V.u l.u);have P:=O h;clear h f;have j:=O (hK (L.length-(s1).i) (by omega) aa q d (s1) (vQ _) (λg f=>H g (kQ c.u.size f)) (kQ F c.u.size) P.u);clear P;go_wp2_with fail;refine j.u.mono ?_;rintro e al ⟨n,o,u,t⟩;replace c:=O (c.u.trans n);have l:=O u;clear n u j;cases o with
  |fail er p=>
   obtain⟨rfl,G⟩:=t;exact⟨rfl,D3 c.u (Ev.vf V.u l.u) G⟩
  |ok i y=>
   obtain⟨rfl,h,f,aj⟩:=t;have ae:_/\_/\_/\_:=f;skip;replace V:=O (Ev.vb V.u l.u);clear l;have P:=O h;have af:=h.at';clear h f;have j:=F9 T P.u [101,108,115,101];generalize hq:aJ L (i).i [[101,108,115,101]]=a9 at j;have HQ:=O hq;have H2:=O j;clear P hq j;go_wp2_with fail;refine H2.u.mono ?_;rintro e a4 ⟨rfl,n,h⟩;replace c:=O (c.u.trans n);clear n H2;cases a9;case false=>
    have P:Hid (aF a4 B a b L q d (i)):=h;replace V:=O (Ev.vb V.u (Ev.pure.eq (λr=>by rw[HQ.u];rfl)));clear h;have D:=O (L9 T P.u (C.mk 22 x y (-1) [] [] 0 (-1) m) 0 none 0 0 ⟨_,rfl,kW _ _ _ _,by simp[Value.ownBlock]⟩ rfl (by omega) (kQ F c.u.size) (λg f=>H g (kQ c.u.size f)));have W:=O (V.u _ Ev.pure);have Z:=O (show D9 s ⟨(i).i,(i).N++[(C.mk 22 x y (-1) [] [] 0 (-1) m)],(i).T⟩ by
     grind[D9,qQ,jQ,xQ]);have a2:(0:Int)<=((i).N.length:Int)/\((i).N.length:Int)<(((i).N++[(C.mk 22 x y (-1) [] [] 0 (-1) m)]).length:Int):=by simp;omega
    clear P V;go_wp2_with fail;refine D.u.mono ?_;rintro e ab ⟨rfl,M,N⟩;have K9:=O (c.u.trans M);have P9:=O N;clear M N D;go_wp2_with fail;go_ret;exact F6 K9.u W.u P9.u Z.u a2
   case true=>
    have P:Hid (aF a4 B a b L q d (i).nx):=h;have a8:=h.at';simp only[St.nx]at a8;clear h;have j:=O (hK (L.length-(i).nx.i) (by grind[St.nx]) a4 q d (i).nx (vQ _) (λg f=>H g (kQ c.u.size f)) (kQ F c.u.size) P.u);clear P;go_wp2_with fail;refine j.u.mono ?_;rintro e am ⟨n,o,u,t⟩;replace c:=O (c.u.trans n);have l:=O (u.eq (ψ:=λr=>if aJ L (i).i [[101,108,115,101]] then r.block d (i).nx else some (.ok (i) (-1))) (λr=>by rw[HQ.u];rfl));clear n u j;cases o with
    |fail er p=>
     obtain⟨rfl,G⟩:=t;exact⟨rfl,D3 c.u (Ev.vf V.u l.u) G⟩
    |ok A z=>
     obtain⟨rfl,h,f,ak⟩:=t;have a7:_/\_/\_/\_:=f;simp only[St.nx]at a7;replace V:=O (Ev.vb V.u l.u);clear l;have P:=O h;have ag:=h.at';clear h f;have D:=O (L9 T P.u (C.mk 22 x y z [] [] 0 (-1) m) 0 none 0 0 ⟨_,rfl,kW _ _ _ _,by simp[Value.ownBlock]⟩ rfl (by omega) (kQ F c.u.size) (λg f=>H g (kQ c.u.size f)));have W:=O (V.u _ Ev.pure);have Z:=O (show D9 s ⟨(A).i,(A).N++[(C.mk 22 x y z [] [] 0 (-1) m)],(A).T⟩ by
      grind[D9,qQ,jQ,xQ]);have a2:(0:Int)<=((A).N.length:Int)/\((A).N.length:Int)<(((A).N++[(C.mk 22 x y z [] [] 0 (-1) m)]).length:Int):=by simp;omega
     clear P V;go_wp2_with fail;refine D.u.mono ?_;rintro e ab ⟨rfl,M,N⟩;have K9:=O (c.u.trans M);have P9:=O N;clear M N D;go_wp2_with fail;go_ret;exact F6 K9.u W.u P9.u Z.u a2
def xp{d}{s}{c}(e:aJ L s.i [[125]]=true):Ev L (λr=>r.fx d s c) (.ok s.nx c):=
 Ev.step (Ev.pure.eq λr=>by show (if aJ L s.i [[125]] then _ else _)=_;grind)
def Bb{d}{s}{c}{o}(e:aJ L s.i [[125]]=false)(h:Ev L (λr=>A8 (r.gd d s) λs x=>r.fx d s (c++[x])) o):Ev L (λr=>r.fx d s c) o:=
 Ev.step (h.eq λr=>by show (if aJ L s.i [[125]] then _ else _)=_;grind)
def Ns(F:cK L)(ah)(hS:∀m',m'<ah->bD B a b L 68 (λd s r=>r.gd d s) m'):bD B a b L 197 (λd s r=>r.block d s) ah:=by
 intro w t d s hm Z hB h;have hs:=F.je;have HA:=O (tY F h);have ai:Hid (∀S,I No w S->aF S B a b L t d s):=λS ha=>h.y ha;have a8:Hid (∀o,Ev L (λr=>A8 (aB L s [123]) λs1 _=>A8 (r.fx d s1 []) λu l=>aD u (C.mk 26 0 0 0 l [] 0 (-1) ((tk L s.i).at':Int))) o->Ev L (λr=>r.block d s) o):=λo W=>Ev.step (W.eq (λr=>rfl));obtain⟨i0,an,ao,ap,aq⟩:=info_parts Tryz.fm;generalize ((tk L s.i).at':Int)=D at*;go_in;go_wp2_with fail;refine HA.u.mono ?_;rintro e av ⟨rfl,hc⟩;have K1:=O (C9 (B:=B) (ok:=t) hc);have H1:=O (I2 F (ai.u av hc) [123]);go_wp2_with fail;refine H1.u.mono ?_;rintro e b5 ⟨k,hr⟩;have K2:=O (K1.u.trans k);obtain⟨T,rfl,n⟩|⟨T,rfl⟩:=hr;case inr=>exact⟨rfl,D3 K2.u (a8.u _ (Ev.bad (S5 T))) (by decide)⟩
 have V2:=O (Ev.vb a8.u (M6 T));have aj:=O n;go_wp2;go_loopw [4] (λau wr=>∃(f:bZ) (i:St) (m:Option Addr) (c:Nat),au=.slice m f.length c/\f.length<=i.i/\Hid (Kept B t w wr)/\Hid (J1 s.nx i)/\Hid (wr.ownsRow w.heap.size 3 1 (.slice m f.length c) f.length (C7 f))/\
  Hid (aF wr B a b L (λg=>t g/\some g≠Value.ownBlock (.slice m f.length c)) d i)/\Hid (∀o,Ev L (λr=>A8 (r.fx d i f) λu l=>aD u (C.mk 26 0 0 0 l [] 0 (-1) D)) o->Ev L (λr=>r.block d s) o)) (λ_ wr=>L.length-oO wr a);case atStart=>exact⟨[],s.nx,none,0,rfl,by simp,K2.u,⟨vQ _,by omega,by omega,by omega⟩,kW _ _ _ _,aj.u.mono (λg j _=>⟨j,by simp[Value.ownBlock]⟩),V2.u⟩
 case round=>
  obtain⟨f,i,m,c,rfl,ax,KR,GR,OR,z,A⟩:=hrel;have HT:=F9 F z.u [125];have b0:=z.u.at';have b3:=z.u.jq;have ay:=z.u.fq;have am:=GR.u;simp only[J1,St.nx]at am;generalize hq:aJ L i.i [[125]]=ar at*;have R:=O hq;clear hq;go_wp2_with fail;refine HT.mono ?_;clear HT;rintro e a4 ⟨rfl,k,n⟩;have q:=O (KR.u.trans (k.mono λ_ h=>h.1));have v:=O (F8 OR.u k (by decide));have M:=O n;clear k n OR z KR;cases ar
  .have x:Hid (aF a4 B a b L (λg=>t g/\some g≠Value.ownBlock (.slice m f.length c)) d i):=M.u;clear M;have HM:=O (hS (L.length-i.i) (by omega) a4 _ d i (vQ _) (λg j=>⟨Z g (kQ q.u.size j),λhx=>by have:=(v.u.lt g hx.symm).2;omega⟩) (kQ hB q.u.size) x.u);clear x;go_wp2_with fail;refine HM.u.mono ?_;rintro e aw ⟨k,o,ac,ae⟩;have G:=O (q.u.trans (k.mono λ_ h=>h.1));have H:=O (F8 v.u k (by decide));have E4:=O ac;clear k ac q v HM;cases o with
   |fail er p=>
    obtain⟨rfl,he⟩:=ae;exact⟨rfl,D3 G.u (A.u _ (Ev.bad (Bb R.u (Ev.bad (k:=λr s a5=>r.fx d s (f++[a5])) E4.u)))) he⟩
   |ok P y=>
    obtain⟨rfl,n,j,_⟩:=ae;have a7:=O n;have az:_/\_/\_/\_:=j;have b2:=n.at';clear n j;have VN:=O (λo (W:Ev L (λr=>A8 (r.fx d P (f++[y])) λu l=>aD u (C.mk 26 0 0 0 l [] 0 (-1) D)) o)=>A.u o (by
     obtain⟨ak,h1⟩:=E4.u;obtain⟨al,h2⟩:=W;refine⟨ak+al+1,λaa hf=>?_⟩;obtain⟨g,rfl⟩:∃g,aa=g+1:=⟨aa-1,by omega⟩;have a1:(fV L g).gd d i=some (.ok P y):=h1 g (by omega);have a2:=h2 g (by omega);have a3:=h2 (g+1) (by omega);show A8 (if aJ L i.i [[125]] then some (.ok i.nx f) else A8 ((fV L g).gd d i) λs a5=>(fV L g).fx d s (f++[a5])) _=some o;rw[R.u,zY (by decide),a1];exact a2));clear A;have ag:=O (H.u.alloc (.cells #[U y] 3));go_wp2_with (at_builtin;refine wpList_append_own_at _ rfl _ _ 54 rfl w.heap.size 3 i0 (U 0) 1 8 underlying54 an ao ap aq rfl (by decide) _ _ _ rfl ag.u (J aw.heap.size 0) 1 1 [U y] rfl rfl ?c1 ?c2 ?c3 ?c4 ?c5 ?_);case c1=>grind[cell_one_new]
    case c2=>intro b4 hu;simp at hu;obtain rfl:=hu;rfl
    case c3=>grind[maxLen]
    case c4=>omega
    case c5=>have:=G.u.size;simp;omega
    intro v' b6 N V _ ab;obtain⟨a9,c2,af⟩:=B8 N;rw[af]at N ab⊢;have PG:=O ((a7.u.alloc (.cells #[U y] 3)).grown (v:=.slice m f.length c) (v':=.slice a9 (f.length+1) c2) (H.u.alloc _) (.inl rfl) V (by simp_all));have KG:=O ((G.u.alloc (.cells #[U y] 3)).grown (H.u.alloc _) V);have OG:=O N;clear N V ab ag a7 H G af;go_wp2_with fail;go_roundw;case rel=>
     refine⟨f++[y],P,a9,c2,by simp,by grind,KG.u,(show J1 s.nx P from by grind[J1,St.nx]),?_,?_,VN.u⟩<;>simp_all[World.ownsRow,Q9]
    case measure=>
     have h3:=PG.u.jq;omega
  .have x:Hid (aF a4 B a b L (λg=>t g/\some g≠Value.ownBlock (.slice m f.length c)) d i.nx):=M.u;have PY:=O (x.u.mono (ok':=t) (λg j _=>j.1));have b1:=x.u.at';clear M x;have a6:=O (L9 F PY.u (C.mk 26 0 0 0 f [] 0 (-1) D) 0 m f.length c ⟨_,rfl,C8 v.u (wQ _),λg j=>Z g (A9 v.u g j).1⟩ rfl (by grind[St.nx]) (kQ hB q.u.size) (λg j=>Z g (kQ q.u.size j)));have EV:=O (A.u _ (Ev.bind (k:=λ_ u l=>aD u (C.mk 26 0 0 0 l [] 0 (-1) D)) (xp R.u) Ev.pure));have GX:=O (show D9 s ⟨i.nx.i,i.nx.N++[C.mk 26 0 0 0 f [] 0 (-1) D],i.nx.T⟩ by
    grind[D9,St.nx,qQ,jQ,xQ]);clear PY A v;go_wp2_with fail;refine a6.u.mono ?_;rintro e b7 ⟨rfl,k9,p9⟩;have K9:=O (q.u.trans k9);have P9:=O p9;clear k9 p9 a6;go_wp2_with fail;go_ret;exact F6 K9.u EV.u P9.u GX.u (by grind)
end
section
variable{w:E}{B a:Nat}{c:Value}{L:List Tk}{b:Nat->Prop}{d:Nat}{s:St}
def Pp(k)(w:E):Calls prog 225 #[U k] w λe i=>e=.returned (U (jT k))/\i=w:=by
 by_cases f:k=5
 .subst f;go_in;go_wp2;go_ret;exact⟨rfl,rfl⟩
 .by_cases g:k=8
  .subst g;go_in;go_wp2;go_ret;exact⟨rfl,rfl⟩
  .by_cases h:k=9
   .subst h;go_in;go_wp2;go_ret;exact⟨rfl,rfl⟩
   .have e:jT k=0:=by simp[jT,f,g,h]
    rw[e];go_in;go_wp2;go_ret;exact⟨rfl,rfl⟩
def aF.cut(h:aF w B a c L b d s){k g f}(hk:k<s.N.length)(h3:w.cell? (J a 3)=some (.slice (some (J g 0)) s.N.length f)):
 aF (w.setCell (J a 3) (.slice (some (J g 0)) k f)) B a c L b d ⟨s.i,s.N.take k,s.T⟩/\Kept B b w (w.setCell (J a 3) (.slice (some (J g 0)) k f)):=by
 have a7:=h.jk 3 (.slice (some (J g 0)) k f);obtain⟨W,Z,hf,D,F,R,z,y,yx,l,hn,N,a8,a9⟩:=h;have p:w.cell? (J a 3)=some R:=cr l rfl;have c4:w.cell? (J a 4)=some z:=cr l rfl;have V:R=.slice (some (J g 0)) s.N.length f:=by rw[h3]at p;exact(vZ p).symm
 subst V;have m:=I.set w (J a 3) (.slice (some (J g 0)) k f);have u:∀{A:Nat} {e:TypeId} {S:Nat} {v:Value} {n:Nat} {T:List Value},w.ownsRow A e S v n T->e≠103->∀g,v.ownBlock=some g->¬g=a:=by
  intro A e S v n T ho t g hg M;subst M;obtain⟨_,j,i⟩:=A9 ho g hg;rw[l]at i;simp only[zQ,xW]at i;exact t i.2.1.symm
 have P:∀g,b g->g<w.heap.size->g=a->(∃j e,w.heap[g]?=some (.cells j e (0,0))/\(e=137\/e=3))->False:=by
  rintro g _ _ rfl ⟨j,e,i,t⟩;rw[l]at i;simp at i;obtain rfl|rfl:=t
  .grind
  .grind
 have r:(w.setCell (J a 3) (.slice (some (J g 0)) k f)).heap[a]?=some (.cells #[c,U s.i,U d,.slice (some (J g 0)) k f,z] 103 (0,0)):=by rw[heap_setCell_same w a 3 _ _ _ l];rfl
 have hcut:w.ownsRow B 85 9 (.slice (some (J g 0)) k f) k (y.take (k*9)):=by
  obtain⟨M,_⟩|⟨q,ab,j,H,a2,a6,ac,a3,a4,ad⟩:=hn.2
  .omega
  .simp at H;obtain⟨rfl,rfl⟩:=H;refine⟨?_,.inr ⟨g,f,j,rfl,a2,a6,by omega,a3,a4,?_⟩⟩<;>grind
 have hl:(s.N.take k).length=k:=by rw[List.length_take];omega
 have a5:(w.setCell (J a 3) (.slice (some (J g 0)) k f)).ownsRow B 85 9 (.slice (some (J g 0)) k f) (s.N.take k).length (y.take (k*9)):=by
  rw[hl];exact A3 hcut m (u hcut (by decide))
 refine⟨⟨W,Z,⟨by grind,hf.2⟩,A3 D m (u D (by decide)),?_,.slice (some (J g 0)) k f,z,y.take (k*9),yx,r,a5,A3 N m (u N (by decide)),(dS.take (λ_ _ h=>fH.len h) k a8).imp (fH.P m P (λ_ x _=>x)),a9.imp (dM.P m P (λ_ x _=>x))⟩,a7⟩;refine⟨F.1,λaa q o G=>?_,λaa q o G=>?_⟩
 .rw[cell_of_row _ a 3 _ _ _ r]at o;cases o;exact F.2.1 _ q p G
 .rw[cell_of_row _ a 4 _ _ _ r]at o;grind
def aF.kq(h:aF w B a c L b d s){k}(t):∃g l i j,w.cell? (J a 3)=some (.slice (some (J g 0)) s.N.length l)/\s.N.length<=l/\l<=maxLen/\g<w.heap.size/\a<w.heap.size/\w.frozen? (J a 3)=false/\
 w.cell? (J g (k*9))=some (U s.N[k].x)/\w.cell? (J g (k*9+1))=some (U s.N[k].a)/\w.cell? (J g (k*9+2))=some (U s.N[k].b)/\w.cell? (J g (k*9+3))=some (U s.N[k].c)/\w.cell? (J g (k*9+4))=some (.slice i s.N[k].M.length j)/\
 w.cell? (J g (k*9+5))=some (.string ⟨s.N[k].text.toArray⟩)/\w.cell? (J g (k*9+6))=some (U s.N[k].n)/\w.cell? (J g (k*9+7))=some (U s.N[k].ty)/\w.cell? (J g (k*9+8))=some (U s.N[k].at')/\
 w.ownsRow 0 3 1 (.slice i s.N[k].M.length j) s.N[k].M.length (C7 s.N[k].M)/\(∀g,Value.ownBlock (.slice i s.N[k].M.length j)=some g->b g):=by
 obtain⟨H,N,M,P,m,o,A,x,z⟩:=h.eo;obtain⟨F,y,rfl⟩:=B8 o;obtain⟨g,rfl,_,q,p,r,f⟩:=D4 o (by omega);obtain⟨G,u,e⟩:=dS.at (λ_ _ h=>fH.len h) k t x;obtain⟨D,rfl,n,v⟩:=u;obtain⟨i,j,rfl⟩:=B8 n;exact⟨g,y,i,j,cr m rfl,p,r,q,(aI m),frozen_of_row w a 3 _ _ m,f _ _ ((e 0 (by omega)).trans rfl),f _ _ ((e 1 (by omega)).trans rfl),f _ _ ((e 2 (by omega)).trans rfl),f _ _ ((e 3 (by omega)).trans rfl),f _ _ ((e 4 (by omega)).trans rfl),f _ _ ((e 5 (by omega)).trans rfl),f _ _ ((e 6 (by omega)).trans rfl),f _ _ ((e 7 (by omega)).trans rfl),f _ _ ((e 8 (by omega)).trans rfl),n,v⟩
def ZG(w:E)(e f){n}(g:w.heap.size=n):((w.alloc e).alloc f).heap[n]?=some e:=by
 grind[heap_alloc_old,yY]
def ux(w:E)(f e){n}(g:w.heap.size=n):((w.alloc f).alloc e).heap[n+1]?=some e:=by
 subst g;have h:=yY (w.alloc f) e;simp_all
theorem I.put{S}{f e}{q o}{v}(h:I S f e)(g:S q):I S f (e.setCell (J q o) v):=
 h.trans (I.mono (I.set e (J q o) v) λ_ _ x=>by grind) (λ_ _ x=>x)
def OP(w:E)(B a:Nat)(c:Value)(L:List Tk)(b:Nat->Prop)(d:Nat)(s:St)(k:Nat)(n:C)(m:Sp->Option (Out Int))(e:Ending)(j:E):Prop:=
 Kept B b w j/\∃o,Ev L m o/\match o with
  |.ok f v=>(∃h i,e=.returned (.agg #[U (iS n v).x,U (iS n v).a,U (iS n v).b,U (iS n v).c,.slice h n.M.length i,.string ⟨n.text.toArray⟩,U n.n,U n.ty,U n.at'])/\j.ownsRow 0 3 1 (.slice h n.M.length i) n.M.length (C7 n.M)/\∀g,Value.ownBlock (.slice h n.M.length i)=some g->b g)/\aF j B a c L b d f/\s.i+1<f.i/\f.N.length+s.i+1<=s.N.length+f.i/\f.T.length+s.i+1<=s.T.length+f.i/\k<=f.N.length
  |.fail l p=>e=gu l p/\l≠0
def JU{w m t}{b j}{d k}{s l}{n}{x}{f}{h}{e}{o}(z:Kept B b w m)(D:Ev L o (.ok l x))(M:aF m B a c L j d l)(F:D9 ⟨s.i+1,s.N.take k,s.T⟩ l)
 (G:w.ownsRow 0 3 1 (.slice f n.M.length h) n.M.length (C7 n.M)) (H:∀g,Value.ownBlock (.slice f n.M.length h)=some g->b g) (V:(s.N.take k).length=k) (N:∀g,j g->b g) (S:¬j w.heap.size) (T:¬j (w.heap.size+1)) (W:c.ownBlock≠some w.heap.size) (Z:c.ownBlock≠some (w.heap.size+1))
 (r:I (λi=>i=w.heap.size\/i=w.heap.size+1) m t) (A:e=.returned (.agg #[U (iS n x).x,U (iS n x).a,U (iS n x).b,U (iS n x).c,.slice f n.M.length h,.string ⟨n.text.toArray⟩,U n.n,U n.ty,U n.at'])):OP w B a c L b d s k n o e t:=by
 have q:=z.trans' r (λi P x=>by omega);have R:(s.N.take k).length<=s.N.length:=by rw[List.length_take];omega
 obtain⟨p,u,v,y⟩:=F;simp only at p u v y;refine⟨q,_,D,⟨f,h,A,F8 G q (by decide),H⟩,M.free r ?_ (λg x _=>N g x),p,by omega,by omega,by omega⟩;grind
def Wy(hL:cK L)(ao)(hE:∀m',m'<ao->bD B a c L 195 (λd s r=>r.expr d s) m')(w)(b)(d)(s)(k:Nat)(hk)(hq:aJ L s.i [[61]]=true)(hm:L.length-s.i<=ao)(ax:∀g,w.heap.size<=g->b g)(hB:B<=w.heap.size)(aa:aF w B a c L b d s):
 Calls prog 198 #[pV a,U k] w (OP w B a c L b d s k s.N[k] (λr=>if jT s.N[k].x=0 then bC L s.i 1 else r.expr d ⟨s.i+1,s.N.take k,s.T⟩)):=by
 have hi:=aa.at';obtain⟨g,al,j,l,c3,bb,av,D,be,ar,n0,n1,n2,n3,n4,n5,n6,n7,n8,hl,an⟩:=aa.kq hk;unfold maxLen at av;generalize au:(λ(r:Sp)=>if jT s.N[k].x=0 then bC L s.i 1 else r.expr d ⟨s.i+1,s.N.take k,s.T⟩)=FF;have V:Hid (∀o,Ev L (λr=>if jT s.N[k].x=0 then bC L s.i 1 else r.expr d ⟨s.i+1,s.N.take k,s.T⟩) o->Ev L FF o):=by
  rw[<-au];exact λ_ x=>x
 have hcut:=aa.cut hk c3;have ag:(s.N.take k).length=k:=by rw[List.length_take];omega
 have H0:=O aa;have HK:=O (λx ap=>Pp x ap);generalize s.N[k]=nd at*;obtain⟨i,v,y,z,n,t,q,u,m⟩:=nd;simp only at n0 n1 n2 n3 n4 n5 n6 n7 n8 hl an V⊢;have HL:=O hl;have ad:=O an;have ah:=H0.u.j5 (vQ _);have ai:c.ownBlock≠some (w.heap.size+1):=H0.u.j5 (by omega);by_cases ab:jT i=0
 .have G:=O (HK.u i ((w.alloc (.cells #[U 0,U 0,U 0,U 0,sN,.string ⟨#[]⟩,U 0,U 0,U 0] 85)).alloc (aL i v y z (.slice j n.length l) t q u m)));rw[ab]at G;have af:I No w ((w.alloc (.cells #[U 0,U 0,U 0,U 0,sN,.string ⟨#[]⟩,U 0,U 0,U 0] 85)).alloc (aL i v y z (.slice j n.length l) t q u m)):=(I.alloc No _ _).trans (I.alloc No _ _) (λ_ _ x=>x);have HF:=O (Y9 hL (H0.u.y af) 1);have W:=O (C9 (B:=B) (ok:=b) af);have F:=O (V.u (.fail 1 ((tk L s.i).at':Int)) (Ev.pure.eq (λr=>by rw[wY ab];rfl)));clear af V hcut;go_in;go_wp2_with fail;refine G.u.mono ?_;rintro a9 az ⟨rfl,rfl⟩;go_wp2_with fail;refine HF.u.mono ?_;rintro a9 aj ⟨rfl,hc⟩;exact⟨rfl,W.u.trans (C9 hc),_,F.u,rfl,by decide⟩
 .have G:=O (HK.u i ((w.alloc (.cells #[U 0,U 0,U 0,U 0,sN,.string ⟨#[]⟩,U 0,U 0,U 0] 85)).alloc (aL i v y z (.slice j n.length l) t q u m)));have hz:(w.setCell (J a 3) (.slice (some (J g 0)) k al)).heap.size=w.heap.size:=by simp
  let A:Nat->Prop:=λg=>b g/\g≠w.heap.size/\g≠w.heap.size+1;have ak:aF (((w.setCell (J a 3) (.slice (some (J g 0)) k al)).alloc (.cells #[U 0,U 0,U 0,U 0,sN,.string ⟨#[]⟩,U 0,U 0,U 0] 85)).alloc (aL i v y z (.slice j n.length l) t q u m)) B a c L A d ⟨s.i,s.N.take k,s.T⟩:=
   ((hcut.1.mono (λg D bc=>⟨D,by omega,by omega⟩)).alloc _).alloc _;have HN:=O (I2 hL ak [61]);have W:=O ((hcut.2.alloc (.cells #[U 0,U 0,U 0,U 0,sN,.string ⟨#[]⟩,U 0,U 0,U 0] 85)).alloc (aL i v y z (.slice j n.length l) t q u m));have P:¬A w.heap.size:=λx=>x.2.1 rfl;have R:¬A (w.heap.size+1):=λx=>x.2.2 rfl;have ay:∀g,w.heap.size+2<=g->A g:=λg D=>⟨ax g (by omega),by omega,by omega⟩;have T:∀g,A g->b g:=λg x=>x.1;have bd:∀g,b g->g<w.heap.size->A g:=λg x bi=>⟨x,by omega,by omega⟩;clear_value A;clear ak hcut;have FK:=O ab;clear ab;generalize H:jT i=kk at G;go_in;go_wp2_with fail;refine G.u.mono ?_;rintro a9 az ⟨rfl,rfl⟩;have fk:(kk==0)=false:=by simpa[<-H]using FK.u
  go_wp2_with fail;refine HN.u.mono ?_;rintro a9 aj ⟨M,ac⟩;have f:=I7 M (ZG _ _ _ hz) P;have h:=I7 M (ux _ _ _ hz) R;have bg:w.heap.size+2<=aj.heap.size:=by have:=M.size;simpa using this
  have K2:=O (W.u.trans (M.mono T));clear HN M W G;obtain⟨_,rfl,S⟩|⟨hx,_⟩:=ac;rotate_left
  .rw[hq]at hx;cases hx
  have H1:=O (hE (L.length-(s.i+1)) (by omega) aj A d ⟨s.i+1,s.N.take k,s.T⟩ (vQ _) (λg D=>ay g (by omega)) (by omega) S);clear S;go_wp2_with fail;refine H1.u.mono ?_;rintro a9 e ⟨N,o,am,ac⟩;have f:=I7 N f P;have h:=I7 N h R;have Z:=O (K2.u.trans (N.mono T));have F:=O (V.u o (am.eq (λr=>by grind)));have bh:=N.size;clear N am V H1 K2;cases o with
  |fail er p=>
   obtain⟨rfl,he⟩:=ac;exact⟨rfl,Z.u,_,F.u,rfl,he⟩
  |ok s3 x=>
   obtain⟨rfl,S,D,bf⟩:=ac;have ae:=O S;have G3:=O D;clear S D;have a0:e.cell? (J w.heap.size 0)=some (U 0):=cr f rfl;have a1:e.cell? (J w.heap.size 1)=some (U 0):=cr f rfl;have a2:e.cell? (J w.heap.size 2)=some (U 0):=cr f rfl;have a3:e.cell? (J w.heap.size 3)=some (U 0):=cr f rfl;have a4:e.cell? (J w.heap.size 4)=some (sN):=cr f rfl;have a5:e.cell? (J w.heap.size 5)=some (.string ⟨#[]⟩):=cr f rfl;have a6:e.cell? (J w.heap.size 6)=some (U 0):=cr f rfl;have a7:e.cell? (J w.heap.size 7)=some (U 0):=cr f rfl;have a8:e.cell? (J w.heap.size 8)=some (U 0):=cr f rfl;have b0:e.cell? (J (w.heap.size+1) 0)=some (U i):=cr h rfl;have b1:e.cell? (J (w.heap.size+1) 1)=some (U v):=cr h rfl;have b2:e.cell? (J (w.heap.size+1) 2)=some (U y):=cr h rfl;have b3:e.cell? (J (w.heap.size+1) 3)=some (U z):=cr h rfl;have b4:e.cell? (J (w.heap.size+1) 4)=some (.slice j n.length l):=cr h rfl;have b5:e.cell? (J (w.heap.size+1) 5)=some (.string ⟨t.toArray⟩):=cr h rfl;have b6:e.cell? (J (w.heap.size+1) 6)=some (U q):=cr h rfl;have b7:e.cell? (J (w.heap.size+1) 7)=some (U u):=cr h rfl;have b8:e.cell? (J (w.heap.size+1) 8)=some (U m):=cr h rfl;have z0:=frozen_of_row e w.heap.size 0 _ _ f;have y0:=frozen_of_row e (w.heap.size+1) 0 _ _ h;have z1:=frozen_of_row e w.heap.size 1 _ _ f;have y1:=frozen_of_row e (w.heap.size+1) 1 _ _ h;have z2:=frozen_of_row e w.heap.size 2 _ _ f;have y2:=frozen_of_row e (w.heap.size+1) 2 _ _ h;have z3:=frozen_of_row e w.heap.size 3 _ _ f;have y3:=frozen_of_row e (w.heap.size+1) 3 _ _ h;have z4:=frozen_of_row e w.heap.size 4 _ _ f;have y4:=frozen_of_row e (w.heap.size+1) 4 _ _ h;have z5:=frozen_of_row e w.heap.size 5 _ _ f;have y5:=frozen_of_row e (w.heap.size+1) 5 _ _ h;have z6:=frozen_of_row e w.heap.size 6 _ _ f;have y6:=frozen_of_row e (w.heap.size+1) 6 _ _ h;have z7:=frozen_of_row e w.heap.size 7 _ _ f;have y7:=frozen_of_row e (w.heap.size+1) 7 _ _ h;have z8:=frozen_of_row e w.heap.size 8 _ _ f;have y8:=frozen_of_row e (w.heap.size+1) 8 _ _ h;have lA:w.heap.size<e.heap.size:=by omega
   have lb:w.heap.size+1<e.heap.size:=by omega
   have aw:i=5/\kk=18\/i=8/\kk=19\/i=9/\kk=20:=by
    have aq:=FK.u;unfold jT at H aq;split at H<;>rename_i b9
    .omega
    split at H<;>rename_i ba
    .omega
    split at H<;>rename_i c3
    .omega
    .grind
   clear H FK fk f h n0 n1 n2 n3 n4 n5 n6 n7 n8 c3 ar;obtain⟨rfl,rfl⟩|⟨rfl,rfl⟩|⟨rfl,rfl⟩:=aw
   .go_wp2_with fail;refine bodyPost_ret (v:=.agg #[U 18,U x,U y,U z,.slice j n.length l,.string ⟨t.toArray⟩,U q,U u,U m]) (by simp[results,results198,go_sem,a0,a1,a2,a3,a4,a5,a6,a7,a8]) rfl ?_;refine JU Z.u F.u ae.u G3.u HL.u ad.u ag T P R ah ai ?_ rfl;iterate 11 refine I.put ?_ (by simp)
    grind[I.refl]
   .go_wp2_with fail;refine bodyPost_ret (v:=.agg #[U 19,U v,U x,U z,.slice j n.length l,.string ⟨t.toArray⟩,U q,U u,U m]) (by simp[results,results198,go_sem,a0,a1,a2,a3,a4,a5,a6,a7,a8]) rfl ?_;refine JU Z.u F.u ae.u G3.u HL.u ad.u ag T P R ah ai ?_ rfl;iterate 11 refine I.put ?_ (by simp)
    grind[I.refl]
   .go_wp2_with fail;refine bodyPost_ret (v:=.agg #[U 20,U v,U y,U x,.slice j n.length l,.string ⟨t.toArray⟩,U q,U u,U m]) (by simp[results,results198,go_sem,a0,a1,a2,a3,a4,a5,a6,a7,a8]) rfl ?_;refine JU Z.u F.u ae.u G3.u HL.u ad.u ag T P R ah ai ?_ rfl;iterate 11 refine I.put ?_ (by simp)
    grind[I.refl]
end
section
variable{B a:Nat}{b:Value}{L:List Tk}
def yG(L:List Tk)(d:Nat)(s:St)(r:Sp):Option (Out Int):=A8 (r.expr d s) λc x=>
 if aJ L c.i [[61]] then
  if jT (c.N.getD x.toNat iM).x=0 then bC L c.i 1
  else A8 (r.expr d ⟨c.i+1,c.N.take x.toNat,c.T⟩) λe v=>A8 (aB L e [59]) λf _=>aD f (iS (c.N.getD x.toNat iM) v)
 else A8 (aB L c [59]) λe _=>aD e ⟨25,x,0,0,[],[],0,-1,gD c x⟩
def Vn(n)(v):∃f d e c,iS n v=⟨f,d,e,c,n.M,n.text,n.n,-1,n.at'⟩:=by
 unfold iS;split
 .simp
 split<;>exact⟨_,_,_,_,rfl⟩
def Ot{w:E}{q}{m l k j i g f d c v0 v1 v2 v3 v4 v5 v6 v7 v8}{e}(h:w.heap[q]?=some (.cells #[m,l,k,j,i,g,f,d,c] e (0,0))):
 (((((((((w.setCell (J q 0) v0).setCell (J q 1) v1).setCell (J q 2) v2).setCell (J q 3) v3).setCell (J q 4) v4).setCell (J q 5) v5).setCell (J q 6) v6).setCell (J q 7) v7).setCell (J q 8) v8).heap[q]?=some (.cells #[v0,v1,v2,v3,v4,v5,v6,v7,v8] e (0,0)):=by
 have n:(w.setCell (J q 0) v0).heap[q]?=some (.cells #[v0,l,k,j,i,g,f,d,c] e (0,0)):=by rw[heap_setCell_same w q 0 _ _ v0 h];rfl
 generalize w.setCell (J q 0) v0=u0 at*;have o:(u0.setCell (J q 1) v1).heap[q]?=some (.cells #[v0,v1,k,j,i,g,f,d,c] e (0,0)):=by rw[heap_setCell_same u0 q 1 _ _ v1 n];rfl
 generalize u0.setCell (J q 1) v1=u1 at*;have p:(u1.setCell (J q 2) v2).heap[q]?=some (.cells #[v0,v1,v2,j,i,g,f,d,c] e (0,0)):=by rw[heap_setCell_same u1 q 2 _ _ v2 o];rfl
 generalize u1.setCell (J q 2) v2=u2 at*;have r:(u2.setCell (J q 3) v3).heap[q]?=some (.cells #[v0,v1,v2,v3,i,g,f,d,c] e (0,0)):=by rw[heap_setCell_same u2 q 3 _ _ v3 p];rfl
 generalize u2.setCell (J q 3) v3=u3 at*;have s:(u3.setCell (J q 4) v4).heap[q]?=some (.cells #[v0,v1,v2,v3,v4,g,f,d,c] e (0,0)):=by rw[heap_setCell_same u3 q 4 _ _ v4 r];rfl
 generalize u3.setCell (J q 4) v4=u4 at*;have t:(u4.setCell (J q 5) v5).heap[q]?=some (.cells #[v0,v1,v2,v3,v4,v5,f,d,c] e (0,0)):=by rw[heap_setCell_same u4 q 5 _ _ v5 s];rfl
 generalize u4.setCell (J q 5) v5=u5 at*;have u:(u5.setCell (J q 6) v6).heap[q]?=some (.cells #[v0,v1,v2,v3,v4,v5,v6,d,c] e (0,0)):=by rw[heap_setCell_same u5 q 6 _ _ v6 t];rfl
 generalize u5.setCell (J q 6) v6=u6 at*;have v:(u6.setCell (J q 7) v7).heap[q]?=some (.cells #[v0,v1,v2,v3,v4,v5,v6,v7,c] e (0,0)):=by rw[heap_setCell_same u6 q 7 _ _ v7 u];rfl
 generalize u6.setCell (J q 7) v7=u7 at*;have x:(u7.setCell (J q 8) v8).heap[q]?=some (.cells #[v0,v1,v2,v3,v4,v5,v6,v7,v8] e (0,0)):=by rw[heap_setCell_same u7 q 8 _ _ v8 v];rfl
 omega
theorem getD_at{k}{N:List C}(c:k<N.length):N.getD ((k:Int)).toNat iM=N[k]:=by grind
def Jk(P:cK L)(hX:∀(d) (s s') (x),Ev L (λr=>r.expr d s) (.ok s' x)->s.N.length<=x)(aj)(hE:∀m',m'<=aj->bD B a b L 195 (λd s r=>r.expr d s) m')(a4)(R)(d)(s)(hm:L.length-s.i<=aj)(ac:∀g,a4.heap.size<=g->R g)(hB:B<=a4.heap.size)(aa:aF a4 B a b L R d s):
 Calls prog 163 #[pV a] a4 (U9 a4 B a b L R d s (yG L d s)):=by
 have hi:=aa.at';have hs:=P.je;have az:=aa.fq;have HM:=O (hE aj (vQ _) a4 R d s hm ac hB aa);have T:Hid (∀o,Ev L (yG L d s) o->Ev L (yG L d s) o):=λo q=>q;generalize af:yG L d s=FF at T⊢;rw[<-af]at T;have T:Hid (∀o,Ev L (yG L d s) o->Ev L FF o):=by rw[af];exact λ_ x=>x
 clear af;clear aa;go_in;go_wp2_with fail;refine HM.u.mono ?_;clear HM;rintro e c ⟨hk,o,a6,a8⟩;have K1:=O hk;have E1:=O a6;clear hk a6;cases o with
 |fail er p=>
  obtain⟨rfl,he⟩:=a8;exact⟨rfl,D3 K1.u (T.u _ (Ev.bad E1.u)) he⟩
 |ok j x=>
  obtain⟨rfl,l,y,hx⟩:=a8;obtain⟨k,rfl⟩:=Int.eq_ofNat_of_zero_le hx.1;have ag:k<j.N.length:=by have:=hx.2;omega
  have bb:=l.at';have b9:=l.fq;obtain⟨g,aw,la,lc,c3,ax,ao,ba,bg,an,n0,n1,n2,n3,n4,n5,n6,n7,n8,hl,ab⟩:=l.kq ag;unfold maxLen at ao;clear n0 n1 n2 n3 n4 n5 n6 n7 hl ab;have bd:=hX _ _ _ _ E1.u;have V1:=O (λo q=>T.u o (Ev.bind E1.u q));clear T E1;have ad:=O l;have G1:=O y;clear l y;generalize ak:j.N[k].at'=u at*;have AT:=O ak;clear ak;let S:Nat->Prop:=λg=>R g/\g≠c.heap.size;have aq:(c.alloc (.cells #[U 25,U (k:Int),U 0,U 0,sN,.string ⟨#[]⟩,U 0,U 0,U u] 85)).heap.size=c.heap.size+1:=by simp
  have ae:Hid (aF ((c.alloc (.cells #[U 25,U (k:Int),U 0,U 0,sN,.string ⟨#[]⟩,U 0,U 0,U u] 85)).alloc (.cells (mT [[61]]) 9)) B a b L S d j):=((ad.u.mono (λg y be=>⟨y,by omega⟩)).alloc _).alloc _;have bn:=ad.u.j5 (vQ _);have ah:¬S c.heap.size:=λx=>x.2 rfl;have Z:∀g,S g->R g:=λg x=>x.1;have ap:∀g,c.heap.size+1<=g->S g:=λg y=>⟨ac g (by have:=K1.u.size;omega),by omega⟩;have HI:=O (pM P ae.u (c.heap.size+1) 1 [[61]] (by grind[X8]) (by decide));clear_value S;generalize hq:aJ L j.i [[61]]=au at*;have Q1:=O hq;clear hq;go_wp2_with fail;refine HI.u.mono ?_;rintro e am ⟨rfl,hc⟩;have h:=(hc.block c.heap.size (by simp;omega) (λx=>x)).trans (ZG _ _ _ rfl);have bi:c.heap.size+2<=am.heap.size:=by have:=hc.size;simpa using this
  have K2:=O (K1.u.trans ((((Kept.refl B R c).alloc (.cells #[U 25,U (k:Int),U 0,U 0,sN,.string ⟨#[]⟩,U 0,U 0,U u] 85)).alloc _).trans (C9 hc)));have a9:=O (ae.u.y hc);have bh:=K1.u.size;clear hc HI ad ae K1 c3 an n8 aq;cases au
  .have W:=O (λo (q:Ev L (λr=>A8 (aB L j [59]) λM (_:Unit)=>aD M ⟨25,(k:Int),0,0,[],[],0,-1,u⟩) o)=>V1.u o (q.eq (λr=>by rw[zY (by simp),<-AT.u];grind[gD])));clear V1 AT;have HN:=O (I2 P a9.u [59]);clear a9;go_wp2_with fail;refine HN.u.mono ?_;rintro e f ⟨z,hr⟩;have h:=I7 z h ah;have V:=O (K2.u.trans (z.mono Z));have ar:=z.size;clear z K2 HN;obtain⟨A,rfl,l⟩|⟨A,rfl⟩:=hr;case inr=>exact⟨rfl,D3 V.u (W.u _ (Ev.bad (S5 A))) (by decide)⟩
   have EV:=O (W.u _ (Ev.bind (k:=λr M (_:Unit)=>aD M ⟨25,(k:Int),0,0,[],[],0,-1,u⟩) (M6 A) Ev.pure));clear W A;have b0:f.cell? (J c.heap.size 0)=some (U 25):=cr h rfl;have b1:f.cell? (J c.heap.size 1)=some (U (k:Int)):=cr h rfl;have b2:f.cell? (J c.heap.size 2)=some (U 0):=cr h rfl;have b3:f.cell? (J c.heap.size 3)=some (U 0):=cr h rfl;have b4:f.cell? (J c.heap.size 4)=some (sN):=cr h rfl;have b5:f.cell? (J c.heap.size 5)=some (.string ⟨#[]⟩):=cr h rfl;have b6:f.cell? (J c.heap.size 6)=some (U 0):=cr h rfl;have b7:f.cell? (J c.heap.size 7)=some (U 0):=cr h rfl;have b8:f.cell? (J c.heap.size 8)=some (U u):=cr h rfl;have HA:=O (L9 P (l.mono (λg x _=>Z g x)) (C.mk 25 (k:Int) 0 0 [] [] 0 (-1) u) 0 none 0 0 ⟨_,rfl,kW _ _ _ _,by simp[Value.ownBlock]⟩ rfl (by grind[St.nx]) (by omega) (λg y=>ac g (by omega)));have GX:=O (show D9 s ⟨j.nx.i,j.nx.N++[C.mk 25 (k:Int) 0 0 [] [] 0 (-1) u],j.nx.T⟩ by
    have:=G1.u;grind[D9,St.nx,qQ,jQ,xQ]);have ai:(0:Int)<=(j.nx.N.length:Int)/\(j.nx.N.length:Int)<((j.nx.N++[C.mk 25 (k:Int) 0 0 [] [] 0 (-1) u]).length:Int):=by simp;omega
   clear l;go_wp2_with fail;refine HA.u.mono ?_;rintro e av ⟨rfl,k9,p9⟩;have K9:=O (V.u.trans k9);have P9:=O p9;clear k9 p9 HA;go_wp2_with fail;go_ret;exact F6 K9.u EV.u P9.u GX.u ai
  .have W:=O (λo (q:Ev L (λr=>A8 (if jT j.N[k].x=0 then bC L j.i 1 else r.expr d ⟨j.i+1,j.N.take k,j.T⟩) λM v=>A8 (aB L M [59]) λm (_:Unit)=>aD m (iS j.N[k] v)) o)=>V1.u o (q.eq (λr=>by rw[wY rfl,getD_at ag,tQ];split<;>rfl)));clear V1 AT;have HS:=O (Wy P (L.length-j.i) (λm' bf=>hE m' (by have:=G1.u.1;omega)) am S d j k ag Q1.u (vQ _) (λg y=>ap g (by omega)) (by omega) a9.u);clear a9;generalize j.N[k]=n at*;generalize hφ:(λ(r:Sp)=>if jT n.x=0 then bC L j.i 1 else r.expr d ⟨j.i+1,j.N.take k,j.T⟩)=φ at HS;have V3:=O (λo (q:Ev L (λr=>A8 (φ r) λM v=>A8 (aB L M [59]) λm (_:Unit)=>aD m (iS n v)) o)=>W.u o (q.eq (λr=>by grind)));clear W hφ;go_wp2_with fail;refine HS.u.mono ?_;rintro e f ⟨z,o,a6,a8⟩;have h:=I7 z h ah;have V:=O (K2.u.trans (z.mono Z));have E3:=O a6;have ar:=z.size;clear z K2 HS a6;cases o with
   |fail er p=>
    obtain⟨rfl,he⟩:=a8;exact⟨rfl,D3 V.u (V3.u _ (Ev.bad E3.u)) he⟩
   |ok m v=>
    obtain⟨⟨a2,a3,rfl,hl,ab⟩,l,g1,g2,g3,g4⟩:=a8;obtain⟨D,F,G,H,hN⟩:=Vn n v;rw[hN];have V4:=O (λo (q:Ev L (λr=>A8 (aB L m [59]) λs4 (_:Unit)=>aD s4 ⟨D,F,G,H,n.M,n.text,n.n,-1,n.at'⟩) o)=>V3.u o (Ev.bind (k:=λr M v=>A8 (aB L M [59]) λm (_:Unit)=>aD m (iS n v)) E3.u (q.eq (λr=>by grind))));clear V3 E3 hN;have b0:f.cell? (J c.heap.size 0)=some (U 25):=cr h rfl;have b1:f.cell? (J c.heap.size 1)=some (U (k:Int)):=cr h rfl;have b2:f.cell? (J c.heap.size 2)=some (U 0):=cr h rfl;have b3:f.cell? (J c.heap.size 3)=some (U 0):=cr h rfl;have b4:f.cell? (J c.heap.size 4)=some (sN):=cr h rfl;have b5:f.cell? (J c.heap.size 5)=some (.string ⟨#[]⟩):=cr h rfl;have b6:f.cell? (J c.heap.size 6)=some (U 0):=cr h rfl;have b7:f.cell? (J c.heap.size 7)=some (U 0):=cr h rfl;have b8:f.cell? (J c.heap.size 8)=some (U u):=cr h rfl;have z0:=frozen_of_row f c.heap.size 0 _ _ h;have z1:=frozen_of_row f c.heap.size 1 _ _ h;have z2:=frozen_of_row f c.heap.size 2 _ _ h;have z3:=frozen_of_row f c.heap.size 3 _ _ h;have z4:=frozen_of_row f c.heap.size 4 _ _ h;have z5:=frozen_of_row f c.heap.size 5 _ _ h;have z6:=frozen_of_row f c.heap.size 6 _ _ h;have z7:=frozen_of_row f c.heap.size 7 _ _ h;have z8:=frozen_of_row f c.heap.size 8 _ _ h;have lA:c.heap.size<f.heap.size:=by omega
    have HB:=O h;have HN:Hid (∀t,I (λi=>i=c.heap.size) f t->aF t B a b L S d m):=λt ha=>l.free ha (by grind) (λg x _=>x);have HL:Hid (∀t,I (λi=>i=c.heap.size) f t->t.ownsRow 0 3 1 (.slice a2 n.M.length a3) n.M.length (C7 n.M)):=λt ha=>A3 hl ha (by grind);have HO:=O ab;have bc:=l.at';have ay:=l.fq;clear l hl ab h;go_wp2_with fail;have a5:I (λi=>i=c.heap.size) f (((((((((f.setCell (J c.heap.size 0) (U D)).setCell (J c.heap.size 1) (U F)).setCell (J c.heap.size 2) (U G)).setCell (J c.heap.size 3) (U H)).setCell (J c.heap.size 4) (.slice a2 n.M.length a3)).setCell (J c.heap.size 5) (.string ⟨n.text.toArray⟩)).setCell (J c.heap.size 6) (U n.n)).setCell (J c.heap.size 7) (U n.ty)).setCell (J c.heap.size 8) (U n.at')):=by
     iterate 9 refine I.put ?_ rfl
     exact I.refl _ _
    have al:=Ot (v0:=U D) (v1:=U F) (v2:=U G) (v3:=U H) (v4:=.slice a2 n.M.length a3) (v5:=.string ⟨n.text.toArray⟩) (v6:=U n.n) (v7:=U n.ty) (v8:=U n.at') HB.u;generalize (((((((((f.setCell (J c.heap.size 0) (U D)).setCell (J c.heap.size 1) (U F)).setCell (J c.heap.size 2) (U G)).setCell (J c.heap.size 3) (U H)).setCell (J c.heap.size 4) (.slice a2 n.M.length a3)).setCell (J c.heap.size 5) (.string ⟨n.text.toArray⟩)).setCell (J c.heap.size 6) (U n.n)).setCell (J c.heap.size 7) (U n.ty)).setCell (J c.heap.size 8) (U n.at'))=t at*;have H4:=O (I2 P (HN.u t a5) [59]);have O4:=O (HL.u t a5);have K4:=O (V.u.trans' a5 (λi hi x=>by omega));have bm:=a5.size;clear HN HL a5 V HB b0 b1 b2 b3 b4 b5 b6 b7 b8 z0 z1 z2 z3 z4 z5 z6 z7 z8;refine H4.u.mono ?_;rintro e N ⟨a7,hr⟩;have w:=I7 a7 al ah;have K5:=O (K4.u.trans (a7.mono Z));have O5:=O (F8 O4.u a7 (by decide));have bj:=a7.size;clear a7 K4 H4 O4 al;obtain⟨A,rfl,l⟩|⟨A,rfl⟩:=hr;case inr=>exact⟨rfl,D3 K5.u (V4.u _ (Ev.bad (S5 A))) (by decide)⟩
    have EV:=O (V4.u _ (Ev.bind (k:=λr s4 (_:Unit)=>aD s4 (C.mk D F G H n.M n.text n.n (-1) n.at')) (M6 A) Ev.pure));clear V4 A;have e0:N.cell? (J c.heap.size 0)=some (U D):=cr w rfl;have e1:N.cell? (J c.heap.size 1)=some (U F):=cr w rfl;have e2:N.cell? (J c.heap.size 2)=some (U G):=cr w rfl;have e3:N.cell? (J c.heap.size 3)=some (U H):=cr w rfl;have e4:N.cell? (J c.heap.size 4)=some (.slice a2 n.M.length a3):=cr w rfl;have e5:N.cell? (J c.heap.size 5)=some (.string ⟨n.text.toArray⟩):=cr w rfl;have e6:N.cell? (J c.heap.size 6)=some (U n.n):=cr w rfl;have e7:N.cell? (J c.heap.size 7)=some (U n.ty):=cr w rfl;have e8:N.cell? (J c.heap.size 8)=some (U n.at'):=cr w rfl;have HA:=O (L9 P (l.mono (λg x _=>Z g x)) (C.mk D F G H n.M n.text n.n (-1) n.at') n.ty a2 n.M.length a3 ⟨_,rfl,O5.u,λg y=>Z g (HO.u g y)⟩ rfl (by grind[St.nx]) (by omega) (λg y=>ac g (by omega)));have GX:=O (show D9 s ⟨m.nx.i,m.nx.N++[(C.mk D F G H n.M n.text n.n (-1) n.at')],m.nx.T⟩ by
     have:=G1.u;grind[D9,St.nx,qQ,jQ,xQ]);have ai:(0:Int)<=(m.nx.N.length:Int)/\(m.nx.N.length:Int)<((m.nx.N++[(C.mk D F G H n.M n.text n.n (-1) n.at')]).length:Int):=by simp;omega
    clear l w;go_wp2_with fail;refine HA.u.mono ?_;rintro e av ⟨rfl,k9,p9⟩;have K9:=O (K5.u.trans k9);have P9:=O p9;clear k9 p9 HA;go_wp2_with fail;go_ret;exact F6 K9.u EV.u P9.u GX.u ai
end
