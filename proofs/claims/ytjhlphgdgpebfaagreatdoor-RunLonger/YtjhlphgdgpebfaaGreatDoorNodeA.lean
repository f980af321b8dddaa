/-
  A part of the proof.
-/
import Derived.Test.YtjhlphgdgpebfaaGreatDoorParseA
set_option maxHeartbeats 0
set_option linter.all false
set_option maxRecDepth 100000
namespace Go.Proofs.YtjhlphgdgpebfaaGreatDoor
open _root_.Array renaming size->V
open Bool renaming false->κ,true->τ
open Go renaming Value->χ,heap_setCell_same->ê,cell_of_row->á,Calls->μ,frozen_of_row->ã,Ending->é,maxLen->Γ,bodyPost_ret->ä,results->â
open Ending renaming returned->π
open Obj renaming cells->γ
open Go.Proofs.Tryz renaming prog->η
open Value renaming string->ζ,slice->Y,ownBlock->Δ
open World renaming ownsRow->ξ,cell?->δ,cell?_of_block->ý,setCell->ρ,alloc->σ
open Int renaming eq_ofNat_of_zero_le->î
open List renaming length->Q,toArray->ν
open Option renaming some->C
open Go.Proofs.Tryz
open Go.RowKit
def Tryz.py:(prog.info? 93).map (λi=>(i.zero,i.size,i.bytes))=C (C<|.agg #[U 0,U 0,U 0,U 0,sN,ζ ⟨#[]⟩,U 0,U 0,U 0],9,96):=Ψ
section
variable{w:E}{B a:Nat}{c:χ}{L:List Tk}{b:Nat->Prop}{d:Nat}{s:St}
def dR.rj{w w1 w2:E}{B a}{c}{L}{b}{d:Nat}{s:St}{l}{F G}{h}{i g cap}{t}{a4}(T:B<=a)(a7:s.i<Q L)(aa:Q s.T<=s.i)(hf:Q s.N+1<=s.i+1)
 (a3:ξ w 0 150 3 c (Q L)<|rows L) (p:w.heap[a]?=C (γ #[c,U s.i,U d,Y h (Q s.N) i,l] 115 (0,0)))
 (q:ξ w B 93 9 (Y h (Q s.N) i) (Q s.N) F) (hy:ξ w B 88 4 l (Q s.T) G) (ae:eN (gE w b) s.N F) (af:eN (eI w b) s.T G) (ht:gE w b t [U t.x,U t.a,U t.b,U t.c,a4,ζ ⟨ν t.text⟩,U t.n,U t.ty,U t.at']) (A:b a/\(∀g,Δ (Y h (Q s.N) i)=C g->b g)/\(∀g,Δ l=C g->b g)) (ak:b g)
 (o:I No w w1) (R:w1.grownBy w2<|Δ<|Y h (Q s.N) i) (ho:w2.ownsRow B 93 9 (Y (C<|J g 0) (Q s.N+1) cap) (Q s.N+1)<|F++[U t.x,U t.a,U t.b,U t.c,a4,ζ ⟨ν t.text⟩,U t.n,U t.ty,U t.at']):
 Kept B b w (w2.setCell (J a 3)<|Y (C<|J g 0) (Q s.N+1) cap)/\dR (w2.setCell (J a 3)<|Y (C<|J g 0) (Q s.N+1) cap) B a c L b d ⟨s.i,s.N++[t],s.T⟩:=by
 have Z:=(aG p);have P:=o.block a Z λx=>x;have ag:=A3 q o λ_ _ x=>x;have ac:C a≠Δ (Y h (Q s.N) i):=by
  intro f;obtain⟨_,n,m⟩:=A9 ag a f.symm;rw[P,p]at m;simp only[zQ,xW]at m;exact absurd m.2.1 ε
 have a8:w2.heap[a]?=C (γ #[c,U s.i,U d,Y h (Q s.N) i,l] 115 (0,0)):=by rw[R.block a (yQ Z o.size) ac,P,p]
 have a9:=(o.mono λ_ _ x=>x.elim).trans (I.grown R) λ_ _ x=>x;have j:I (λk=>C k=Δ (Y h (Q s.N) i)\/k=a) w (w2.setCell (J a 3)<|Y (C<|J g 0) (Q s.N+1) cap):=(a9.mono λ_ _ x=>.inl x).trans (I.set _ _ _) λ_ _ x=>.inr x;have a2:∀{H:Nat} {e:TypeId} {a6:Nat} {v:χ} {a5:Nat} {xs:List χ},ξ w H e a6 v a5 xs->e≠115->e≠93->∀k,Δ v=C k->¬(C k=Δ (Y h (Q s.N) i)\/k=a):=by
  intro H e a6 v a5 xs hw he ai k z f;obtain⟨_,n,m⟩:=A9 hw k z;obtain f|rfl:=f
  .obtain⟨_,M,y⟩:=A9 q k f.symm;grind
  .grind
 have D:∀k,b k->k<V w.heap->(C k=Δ (Y h (Q s.N) i)\/k=a)->(∃n e,w.heap[k]?=C (γ n e (0,0))/\(e=156\/e=3))->False:=by
  rintro k _ _ f ⟨n,e,m,he⟩;obtain f|rfl:=f
  .obtain⟨_,M,y⟩:=A9 q k f.symm;grind
  .grind
 have u:(w2.setCell (J a 3)<|Y (C<|J g 0) (Q s.N+1) cap).heap[a]?=C (γ #[c,U s.i,U d,Y (C<|J g 0) (Q s.N+1) cap,l] 115 (0,0)):=by rw[ê w2 a 3 _ _ _ a8];rfl
 refine⟨j.mono λk z f=>?_,T,a7,⟨θ,aa⟩,A3 a3 j<|a2 a3 ε ε,⟨A.1,λah N r S=>?_,λah N r S=>?_⟩,_,l,_,G,u,?_,A3 hy j<|a2 hy ε ε,(ae.imp<|gE.P j D λ_ x _=>x).snoc<|gE.P j D (λ_ x _=>x) _ _ ht,af.imp<|eI.P j D λ_ x _=>x⟩
 .obtain f|rfl:=f
  .obtain⟨ab,M,y⟩:=A9 q k f.symm;exact⟨ab,⟨_,_,_,y,.inr<|.inl K⟩,A.2.1 _ f.symm⟩
  .exact⟨T,⟨_,_,_,p,.inl K⟩,A.1⟩
 .rw[á _ a 3 _ _ _ u]at r;cases r;have aj:C g=C N:=S;grind
 .rw[á _ a 4 _ _ _ u]at r;grind
 .have:=A3 ho (I.set w2 (J a 3)<|Y (C<|J g 0) (Q s.N+1) cap) (λk z f=>by
   have al:=f;grind[A9]);grind
def Aj(hL:cY L)(a3:aH w B a c L b d s)(t)(l)(n m)(P:gE w b t [U t.x,U t.a,U t.b,U t.c,Y l n m,ζ ⟨ν t.text⟩,U t.n,U t.ty,U t.at'])(hf:Q s.N+1<=s.i+1)(hB:B<=V w.heap)(ai:∀ g,V w.heap<=g->b g):
 μ η 141 #[pV a,.agg #[U t.x,U t.a,U t.b,U t.c,Y l n m,ζ ⟨ν t.text⟩,U t.n,U t.ty,U t.at']] w λa2 T=>a2=π (U (Q s.N))/\Kept B b w T/\dR T B a c L b d ⟨s.i,s.N++[t],s.T⟩:=by
 obtain⟨a7,a4,a6,R,r,nv,yv,nx,yx,h,i,S,M,N⟩:=a3;obtain⟨e,f,rfl⟩:=B8 i;have aj:=hL.jq;have F:=(aG h);have A:δ w (J a 3)=C (Y e (Q s.N) f):=cr h K;have fz:=λac=>ã w a ac _ _ h;have a8:b a/\(∀g,Δ (Y e (Q s.N) f)=C g->b g)/\(∀g,Δ yv=C g->b g):=⟨r.1,λg j=>r.2.1 _ g A j,λg j=>r.2.2 _ g (cr h K) j⟩;have v:=O λo ae g p=>dR.rj (w1:=o) (w2:=ae) (g:=g) (cap:=p) a7 a4 a6.2 hf R h i S M N P a8;have Z:=O (λg (j:Δ (Y e s.N.length f)=C g\/g=w.heap.size+2)=>show b g from θ);have G:Δ (Y e (Q s.N) f)≠C a:=by
  intro u;obtain⟨_,af,q⟩:=A9 i a u;rw[h]at q;simp only[zQ,xW]at q;exact absurd q.2.1 ε
 have ah:Δ (Y e (Q s.N) f)≠C (V w.heap):=by
  intro u;have:=(i.lt _ u).2;omega
 have z:=O i;obtain⟨i0,hi,a9,aa,ab⟩:=info_parts Tryz.py;clear P R h i S M N;go_in;go_wp2_with fail
 go_region_law ((refine step_append_lies _ Θ _ _ _ Θ B 93 i0 _ 9 96 underlying58 hi a9 aa ab K W (Y e (Q s.N) f) (Q s.N) nx Θ (((z.u.alloc _).alloc _).drew) (J (V w.heap+1) 0) 1 1 [U t.x,U t.a,U t.b,U t.c,Y l n m,ζ ⟨ν t.text⟩,U t.n,U t.ty,U t.at'] Θ Θ (World.news_of_block (cs:=#[U t.x,U t.a,U t.b,U t.c,Y l n m,ζ ⟨ν t.text⟩,U t.n,U t.ty,U t.at']) (t:=93) (fr:=(0,0))<|QW w _ _) (by simp [Value.oneCell']) W Ä W (by simp;omega) (V w.heap+2) ι ?_;intro D p o H k a5 ag;have z4:δ o (J a 3)=C (Y e (Q s.N) f):=by rw[k.cell_far _ à<|Ne.symm G];exact I9 à<|I9 F A
                 have y4:o.frozen? (J a 3)=κ:=by rw[k.frozen_far _ à<|Ne.symm G];exact U4 à<|U4 F<|fz 3));all_goals
  have y:=O<|v.u _ _ D p (Z.u D a5) (((I.alloc No w _).trans (I.alloc No _ _) λ_ _ x=>x).trans (I.drewN No _ 1) λ_ _ x=>x) k H;clear k H v z;go_wp2;go_ret;exact⟨M9 W,y.u.1,y.u.2⟩
def U0(p:cY L)(h:aH w B a c L b d s)(t)(f)(j i)(r:gE w b t [U t.x,U t.a,U t.b,U t.c,Y f j i,ζ ⟨ν t.text⟩,U t.n,U t.ty,U t.at'])(u:Q s.N+1<=s.i)(o:B<=V w.heap)(q:∀g,V w.heap<=g->b g):
 μ η 141 #[pV a,.agg #[U t.x,U t.a,U t.b,U t.c,Y f j i,ζ ⟨ν t.text⟩,U t.n,U t.ty,U t.at']] w λe k=>e=π (U (Q s.N))/\Kept B b w k/\aH k B a c L b d ⟨s.i,s.N++[t],s.T⟩:=
 (Aj p h t f j i r W o q).mono λe k ⟨l,m,n⟩=>⟨l,m,n.ph θ⟩
end
theorem B6{w a b}(h:I No w a)(k:I No a b):I No w b:=h.trans k λ_ _ x=>x
def A4{w b}(c:I No w b){a}{v}(h:δ w a=C v):δ b a=C v:=by
 have d:=World.block_lt_of_cell? w a h;have e:=c.block a.block d λx=>x;grind[δ]
def Z3(w:E)(B g:Nat)(h:χ)(L:List Tk)(c:Nat->Prop)(d:Nat)(s:St)(i:Sp->Option (Out Int))(e:é)(f:E):Prop:=
 Kept B c w f/\∃o,Ev L i o/\match o with
  |.ok a x=>e=π (U x)/\aH f B g h L c d a/\F8 s a/\0<=x/\x<Q a.N
  |.fail b p=>e=gu b p/\b≠0
def bG(B b:Nat)(c:χ)(L:List Tk)(e:Nat)(f:Nat->St->Sp->Option (Out Int))(m:Nat):Prop:=
 ∀(w) (a) (d) (s),Q L-s.i<=m->(∀g,V w.heap<=g->a g)->B<=V w.heap->aH w B b c L a d s->
  μ η e #[pV b] w (Z3 w B b c L a d s<|f d s)
def Ev.vb{a b}{L}{c}{k:Sp->St->a->Option (Out b)}{F}(d:∀o,Ev L (λr=>A8 (c r)<|k r) o->Ev L F o){s}{x}(h:Ev L c<|.ok s x):∀o,Ev L (λr=>k r s x) o->Ev L F o:=λo e=>d o<|Ev.bind h e
def Ev.vf{a b}{L}{c}{k:Sp->St->a->Option (Out b)}{F}(d:∀o,Ev L (λr=>A8 (c r)<|k r) o->Ev L F o){e p}(h:Ev L c<|.fail e p):Ev L F (.fail e p):=d _<|Ev.bad h
def bG.s0{B b}{c}{L}{a}{f}{m}(h:bG B b c L a f m):lM B b c L a f m:=λw p d s g i j l=>(h w p d s g i j l).mono λe r ⟨k,o,n,q⟩=>⟨k,o,n,θ⟩
section
variable{w:E}{B a:Nat}{b:χ}{L:List Tk}{ok:Nat->Prop}{d:Nat}{s:St}
def D3{f}{e}{c p}(i:Kept B ok w e)(h:Ev L f<|.fail c p)(g:c≠0):Z3 w B a b L ok d s f (gu c p) e:=⟨i,_,h,K,g⟩
def G0{f}{e}{c}{x:Int}(i:Kept B ok w e)(g:Ev L f<|.ok c x)(j:aH e B a b L ok d c)(h:F8 s c)(k:0<=x/\x<Q c.N):Z3 w B a b L ok d s f (π<|U x) e:=⟨i,_,g,K,j,h,k⟩
def RT(m:cY L)(h:aH w B a b L ok d s):
 μ η 138 #[pV a] w λe u=>e=π (.bool<|lY L s.i)/\I No w u:=by
 have H:=W6 m h;have o:=λc (j:aH c B a b L ok d s)=>sY m (j.alloc<|γ (pZ M6) 9) (V c.heap) 10 M6 (xG _ _ _) ε;have q:=O λc (f:I No w c)=>h.y f;have F:=Z7;unfold lY;generalize aL L s.i M6=v at*;generalize tk L s.i=r at*;obtain⟨g,t,G⟩:=r;simp only[jK]at H⊢;generalize (⟨ν t⟩:ByteArray)=y at*;go_in;go_wp2_with fail;refine H.mono ?_;rintro e c ⟨rfl,f⟩;have p:=O<|q.u c f;have i:=O f;by_cases j:g=1
 .subst j;go_wp2;go_ret;exact⟨F9 ι,i.u⟩
 .have z:(g==1)=κ:=by simp[j]
  by_cases k:g=3
  .subst k;go_wp2;go_ret;exact⟨F9 ι,i.u⟩
  .have A:(g==3)=κ:=by simp[k]
   by_cases l:g=4
   .subst l;go_wp2;go_ret;exact⟨F9 ι,i.u⟩
   .have D:(g==4)=κ:=by simp[l]
    go_wp2_with fail;refine(o _ p.u).mono ?_;rintro e M ⟨rfl,f⟩;have n:=O<|i.u.trans ((I.alloc No c _).trans f λ_ _ x=>x) λ_ _ x=>x;go_wp2;go_ret;exact⟨F9 θ,n.u⟩
def RJ(f:Nat)(cf:∀(x) (v:E),(callFunc f x).run η v=.ok (.enter f x) v)(G:cY L)(m)(k)(H:bG B a b L f k m)(i)(T:Q L-s.i<=m)(a8:∀g,V w.heap<=g->ok g)(hB:B<=V w.heap)(h:aH w B a b L ok d s):
 μ η 139 #[pV a,.bool i,.func (.func f) #[pV a] #[]] w (Z3 w B a b L ok d s λr=>aS L i d s λd s=>k d s r):=by
 obtain⟨g,c,nv,yv,-,-,-,-,a6,-,a2,a3,-,-,fz,-⟩:=h.cell;have n:=λy=>vP G h y;have t:=O h;cases i
 .go_in;go_wp2_with fail;refine(n 1).mono ?_;rintro e D ⟨rfl,j⟩;exact⟨K,D3 (C9 j) (GC λr=>Θ) ε⟩
 .by_cases hd:20<=d
  .have M:20<=d:=W;go_in;go_wp2_with fail;refine(n 8).mono ?_;rintro e D ⟨rfl,j⟩;exact⟨K,D3 (C9 j) (GC λr=>by grind[aS]) ε⟩
  .have M:¬20<=d:=W;go_in;go_wp2;refine(H _ ok (d+1) s T ð ð<|by simpa using t.u.lh<|d+1).mono ?_;rintro e D ⟨S,o,P,A⟩;have q:=O<|(t.u.ju 2 _).trans S;have l:=O (P.eq (ψ:=λr=>aS L τ d s λd s=>k d s r) λr=>by grind[aS]);cases o with
   |fail y p=>
    obtain⟨rfl,N⟩:=A;exact⟨K,D3 q.u l.u N⟩
   |ok s' aa=>
    obtain⟨rfl,z,R,Z⟩:=A;have u:=O z;have F:=O R;obtain⟨g',c',a9,ab,-,-,-,-,a7,-,-,a4,-,-,a5,-⟩:=z.cell;go_wp2;go_ret;exact G0 (q.u.trans<|u.u.ju _ _) l.u (u.u.lh d) F.u Z
def Ħ(q:cY L)(m)(D:bG B a b L 235 (λd s r=>r.comp d s) m):bG B a b L 215 (λd s r=>r.expr d s) m:=by
 intro w ok d s N R A h;have x:=λj f c=>RJ (w:=j) 235 (λ_ _=>ú) q m _ D c N (λg i=>R g<|kQ f.size i) (kQ A f.size)<|h.y f;have z:=RT q h;have u:=O (λc (F:c=lY L s.i) o (P:Ev L (λr=>aS L c d s λd s=>r.comp d s) o)=>(Ev.step (φ:=λr=>r.expr d s)<|P.eq λr=>by rw[F];rfl));generalize lY L s.i=c at*;go_in;go_wp2_with fail;refine z.mono ?_;rintro e j ⟨rfl,f⟩;have k:=O f;go_wp2_with fail;refine(x j k.u c).mono ?_;rintro e a2 ⟨M,o,H,t⟩;have l:=O<|(C9 k.u).trans M;have n:=O<|u.u c K o H;cases o with
 |fail Z p=>
  obtain⟨rfl,G⟩:=t;exact⟨K,D3 l.u n.u G⟩
 |ok s' a3=>
  obtain⟨rfl,S,i,T⟩:=t;have y:=O S;have v:=O i;go_wp2;go_ret;exact G0 l.u n.u y.u v.u T
def Ip(n:cY L)(h:aH w B a b L ok d s)(t)(y)(c)(i f)(v:gE w ok t [U t.x,U t.a,U t.b,U t.c,Y c i f,ζ ⟨ν t.text⟩,U t.n,U t.ty,U t.at'])(z:t.ty=-1)(o:Q s.N+1<=s.i+1)(A:B<=V w.heap)(r:∀g,V w.heap<=g->ok g):
 μ η 95 #[pV a,.agg #[U t.x,U t.a,U t.b,U t.c,Y c i f,ζ ⟨ν t.text⟩,U t.n,U y,U t.at']] w λe k=>e=π (U (Q s.N))/\Kept B ok w k/\dR k B a b L ok d ⟨s.i,s.N++[t],s.T⟩:=by
 have j:=Aj n (h.alloc<|γ #[U t.x,U t.a,U t.b,U t.c,Y c i f,ζ ⟨ν t.text⟩,U t.n,U<|-1,U t.at'] 93) t c i f (gE.P (I.alloc No _ _) (λ_ _ _ x _=>x) (λ_ x _=>x) _ _ v) o à (λg p=>r g<|by simp at p;omega);rw[z]at j;go_in;go_wp2_with fail;refine j.mono ?_;rintro e D ⟨rfl,q,u⟩;have l:=O<|((Kept.refl B ok w).alloc _).trans q;have m:=O u;go_wp2;go_ret;exact⟨K,l.u,m.u⟩
def Q6(o:cY L)(h:aH w B a b L ok d s)(t)(y)(c)(i f)(q:gE w ok t [U t.x,U t.a,U t.b,U t.c,Y c i f,ζ ⟨ν t.text⟩,U t.n,U t.ty,U t.at'])(r:t.ty=-1)(u:Q s.N+1<=s.i)(n:B<=V w.heap)(p:∀g,V w.heap<=g->ok g):
 μ η 95 #[pV a,.agg #[U t.x,U t.a,U t.b,U t.c,Y c i f,ζ ⟨ν t.text⟩,U t.n,U y,U t.at']] w λe j=>e=π (U (Q s.N))/\Kept B ok w j/\aH j B a b L ok d ⟨s.i,s.N++[t],s.T⟩:=
 (Ip o h t y c i f q r W n p).mono λe j ⟨k,l,m⟩=>⟨k,l,m.ph θ⟩
def iJ(w:E)(c:Nat)(e:List bZ):Prop:=w.heap[c]?=C (γ (pZ e) 9 (0,0))
theorem iJ.strs{c}{e}(h:iJ w c e):Strs w c e:=
 ⟨(aG h),λj f=>by rw[á w c j _ _ _ h];grind[pZ]⟩
def iJ.kept{ok}{g}{c}{f}(h:iJ w c f)(i:Kept B ok w g):iJ g c f:=by
 unfold iJ at h⊢;rw[i.block c (aG h) λx=>?_]
 .omega
 .obtain⟨j,e,k,l,r⟩:=x.2.1;grind
def TC{i}{c}(h:aL L i c=τ):(tk L i).x≠6:=by
 grind[aL]
def Gc(l:Nat)(cf:∀(P) (N:E),(callFunc l P).run η N=.ok (.enter l P) N)(T:cY L)(a9)(m)(hU:∀m',m'<a9->bG B a b L l m m')(left)(hl:left<Q s.N)(ad:(tk L s.i).x≠6)(hm:Q L-s.i<=a9)(a6:∀g,V w.heap<=g->ok g)(S:B<=V w.heap)(h:aH w B a b L ok d s):
 μ η 245 #[pV a,U left,.func (.func l) #[pV a] #[]] w (Z3 w B a b L ok d s λr=>iN L s left λs=>m d s r):=by
 have aj:=h.fq;have H:=DL T h ad;have ah:=xB;have q:Hid (∀o,Ev L (λr=>A8 (m d s.nx r) λk x=>aE k ⟨12,left,x,0,[],(tk L s.i).text,0,-1,iC k left⟩) o->Ev L (λr=>iN L s left λs=>m d s r) o):=λo ho=>ho;generalize tk L s.i=af at*;obtain⟨kd,y,pl⟩:=af;simp only[jK]at H q;go_in;go_wp2_with fail;refine H.mono ?_;rintro e ag ⟨rfl,i,c⟩;have M:=O i;have am:=c.at';have G:=hU (Q L-s.nx.i) (by grind[St.nx]) ag ok d s.nx (vQ _) (λg j=>a6 g<|kQ i.size j) (kQ S i.size) c;go_wp2;refine G.mono ?_;clear G;rintro e z ⟨i,o,a3,a7⟩;have t:=O<|M.u.trans i;have n:=O a3;clear i a3 M;cases o with
 |fail er p=>
  obtain⟨rfl,he⟩:=a7;exact⟨K,D3 t.u (q.u _<|Ev.bad n.u) he⟩
 |ok f x=>
  obtain⟨rfl,c,j,hx⟩:=a7;have a4:left<Q f.N:=by have:=j.2.2.2;simp only[St.nx]at this;omega
  have aa:=O c;have D:=O j;obtain⟨nv,yv,nx,yx,u,v,hy,a8,ae⟩:=c.blk;obtain⟨na,nc,rfl⟩:=B8 v;obtain⟨g,rfl,_,al,ak,ac,a2⟩:=D5 v W;obtain⟨nd,a5,Z⟩:=eN.at (λ_ _ h=>gE.len h) left a4 a8;have ai:=c.fq;have an:=c.at';have ao:=(aG u);have c3:δ z (J a 3)=C (Y (C<|J g 0) (Q f.N) nc):=cr u K;have c8:δ z (J g<|left*9+8)=C (U<|f.N[left].at'):=by
   obtain⟨aq,rfl,_⟩:=a5;exact a2 _ _ ((Z 8 W).trans K)
  have R:iC f (left:Int)=f.N[left].at':=by simp[iC,List.getD,a4]
  generalize f.N[left].at'=pa at*;unfold Γ at ac;clear c j u v hy a8 ae a2 a5 Z;have F:=λA (h3:aH A B a (b) L ok d f) (hz:w.heap.size<=A.heap.size)=>Q6 T h3 ⟨12,(left:Int),x,0,[],y,0,-1,pa⟩ 0 none 0 0 ⟨_,K,kW _ _ _ _,ù⟩ K (by have:=D.u;grind[F8,St.nx]) (kQ S hz) λg j=>a6 g<|kQ hz j;have EV:=O (q.u _<|Ev.bind n.u (k:=λ_ k x=>aE k ⟨12,(left:Int),x,0,[],y,0,-1,iC k (left:Int)⟩)<|Ev.pure.eq λ_=>by rw[R];rfl);have ap:=t.u.size;have GX:=O (show F8 s ⟨f.i,f.N++[⟨12,(left:Int),x,0,[],y,0,-1,pa⟩],f.T⟩ by
   have h2:=D.u;grind[F8,St.nx,qQ,jQ,xQ]);clear R n;go_wp2_with fail;refine(F z aa.u W).mono ?_;clear F;rintro e A ⟨rfl,i,c⟩;have K3:=O<|t.u.trans i;have ab:=O c;clear i c;go_wp2_with fail;go_ret;exact G0 K3.u EV.u ab.u GX.u θ
def Eu(q:Nat)(cf:∀(a2) (Z:E),(callFunc q a2).run η Z=.ok (.enter q a2) Z)(hL:cY L)(m)(c)(f)(hφ:∀d s r,f d s r=(if c then r.prod d else r.oper d) s)(hU:∀y,y<=m->bG B a b L q f y)(u)(a9:iJ w u<|J4 c)(n)(hn:n=Q (J4 c))(hm:Q L-s.i<=m)(a6:∀g,V w.heap<=g->ok g)(hB:B<=V w.heap)(a4:aH w B a b L ok d s):
 μ η 256 #[pV a,.func (.func q) #[pV a] #[],Y (C<|J u 0) n n] w (Z3 w B a b L ok d s λr=>A8 (f d s r) λs x=>r.row c d s x):=by
 have HM:=hU m (vQ _) w ok d s hm a6 hB a4;go_in;go_wp2;refine HM.mono ?_;rintro a3 af ⟨v,o,M,l⟩;have K1:=O v;have S1:=O<|a9.kept v;have N:=O M;cases o with
 |fail er p=>
  obtain⟨rfl,H⟩:=l;exact⟨K,D3 K1.u (Ev.bad N.u) H⟩
 |ok s1 x=>
  obtain⟨rfl,j,h,hx⟩:=l;have ac:=O j;have G1:=O h;obtain⟨kx,rfl⟩:=î hx.1;have V1:=O λo i=>Ev.bind (k:=λr s x=>r.row c d s x) N.u i (o:=o);subst hn;go_wp2;go_loopw [7] (λab wr=>∃(k:Nat) (e:St),ab=U k/\k<Q e.N/\Hid (Kept B ok w wr)/\Hid (iJ wr u<|J4 c)/\Hid (F8 s e)/\Hid (aH wr B a b L ok d e)/\
   Hid (∀o,Ev L (λr=>r.row c d e k) o->Ev L (λr=>A8 (f d s r) λs x=>r.row c d s x) o)) (λ_ wr=>Q L-qI wr a);case atStart=>grind
  case round=>
   obtain⟨k,e,rfl,v,KR,S,z,A,T⟩:=hrel;have HI:=sY hL A.u u (Q (J4 c)) (J4 c) S.u.strs (by cases c<;>decide);have hj:=z.u.1;have ae:=A.u.j3;generalize hq:aL L e.i (J4 c)=aa at*;have D:=O hq;go_wp2_with fail;refine HI.mono ?_;rintro a3 ag ⟨rfl,G⟩;have t:=O<|KR.u.trans<|C9 G;have R:=O<|A.u.y G;have S2:=O<|S.u.kept<|C9 (B:=B) (ok:=ok) G;cases aa
   .have EV:=O (T.u _<|Ev.step<|Ev.pure.eq λr=>by show (if aL L e.i (J4 c) then _ else _)=_;rw[D.u];rfl);go_wp2;go_ret;exact G0 t.u EV.u R.u z.u W
   .have HT:=Gc q cf hL m f (λy a4=>hU y W) k v (TC D.u) W (λg h=>a6 g<|kQ t.u.size h) (kQ hB t.u.size) R.u;have F:=O (λo (i:Ev L (λr=>A8 (iN L e (k:Int) λs=>f d s r) λs a7=>r.row c d s a7) o)=>T.u o (Ev.step (i.eq (λr=>by
     show (if aL L e.i (J4 c) then A8 (iN L e (k:Int)<|if c then r.prod d else r.oper d) _ else _)=_;rw[D.u,show (λs=>f d s r)=(if c then r.prod d else r.oper d) from funext λs=>hφ d s r];rfl))));go_wp2_with fail;refine HT.mono ?_;rintro a3 ah ⟨a5,o,M,l⟩;have K3:=O<|t.u.trans a5;have S3:=O<|S2.u.kept a5;have P:=O M;cases o with
    |fail er p=>
     obtain⟨rfl,H⟩:=l;exact⟨K,D3 K3.u (F.u _<|Ev.bad P.u) H⟩
    |ok s3 a7=>
     obtain⟨rfl,j,h,hy⟩:=l;obtain⟨ky,rfl⟩:=î hy.1;have a8:=O j;have G3:=O h;have V3:=O λo i=>F.u o<|Ev.bind (k:=λr s x=>r.row c d s x) P.u i;have ad:=j.at';clear j h F;go_wp2_with fail;go_roundw;case rel=>
      have h1:=z.u;grind[F8]
     case measure=>
      have h2:=G3.u.1;have h3:=a8.u.j3;omega
def Pm(u:cY L)(m)(v:∀k,k<=m->bG B a b L 268 (λd s r=>r.oper d s) k):bG B a b L 257 (λd s r=>r.prod d s) m:=by
 intro w ok d s D G P h;have n:=Eu 268 (λ_ _=>ú) u m κ (λd s r=>r.oper d s) (λ_ _ _=>K) v (V w.heap) (rY w _) 1 K D (λg c=>G g<|by simp at c;omega) à<|h.alloc _;have q:Hid (∀o,Ev L (λr=>A8 (r.oper d s) λs x=>r.row κ d s x) o->Ev L (λr=>r.prod d s) o):=λo F=>Ev.step<|F.eq λr=>K;go_in;go_wp2_with fail;refine n.mono ?_;rintro e S ⟨A,o,z,j⟩;have i:=O<|((Kept.refl B ok w).alloc _).trans A;have f:=O<|q.u o z;cases o with
 |fail N p=>
  obtain⟨rfl,y⟩:=j;exact⟨K,D3 i.u f.u y⟩
 |ok R x=>
  obtain⟨rfl,H,c,M⟩:=j;have t:=O H;have l:=O c;go_wp2;go_ret;exact G0 i.u f.u t.u l.u M
def B1e(u:cY L)(m)(v:∀k,k<=m->bG B a b L 257 (λd s r=>r.prod d s) k):bG B a b L 244 (λd s r=>r.sum d s) m:=by
 intro w ok d s D G P h;have n:=Eu 257 (λ_ _=>ú) u m τ (λd s r=>r.prod d s) (λ_ _ _=>K) v (V w.heap) (rY w _) 2 K D (λg c=>G g<|by simp at c;omega) à<|h.alloc _;have q:Hid (∀o,Ev L (λr=>A8 (r.prod d s) λs x=>r.row τ d s x) o->Ev L (λr=>r.sum d s) o):=λo F=>Ev.step<|F.eq λr=>K;go_in;go_wp2_with fail;refine n.mono ?_;rintro e S ⟨A,o,z,j⟩;have i:=O<|((Kept.refl B ok w).alloc _).trans A;have f:=O<|q.u o z;cases o with
 |fail N p=>
  obtain⟨rfl,y⟩:=j;exact⟨K,D3 i.u f.u y⟩
 |ok R x=>
  obtain⟨rfl,H,c,M⟩:=j;have t:=O H;have l:=O c;go_wp2;go_ret;exact G0 i.u f.u t.u l.u M
def Ě(F:cY L)(m)(G:∀j,j<=m->bG B a b L 244 (λd s r=>r.sum d s) j):bG B a b L 235 (λd s r=>r.comp d s) m:=by
 intro w ok d s hm M D h;have HM:=G m (vQ _) w ok d s hm M D h;have u:Hid (∀o,Ev L (λr=>A8 (r.sum d s) λs x=>if aL L s.i [[61,61],[60]] then iN L s x (r.sum d) else C<|.ok s x) o->Ev L (λr=>r.comp d s) o):=λo n=>Ev.step<|n.eq λr=>K;go_in;go_wp2_with fail;refine HM.mono ?_;rintro e S ⟨hk,o,l,f⟩;have v:=O hk;have q:=O l;cases o with
 |fail er p=>
  obtain⟨rfl,k⟩:=f;exact⟨K,D3 v.u (u.u _<|Ev.bad q.u) k⟩
 |ok R x=>
  obtain⟨rfl,i,c,N⟩:=f;obtain⟨P,rfl⟩:=î N.1;have HI:=sY F (i.alloc<|γ (pZ [[61,61],[60]]) 9) (V S.heap) 2 [[61,61],[60]] (xG _ _ _) ε;have a2:=O i;have Z:=O c;have hj:=c.1;have A:=O λo n=>u.u o<|Ev.bind q.u n;generalize hq:aL L R.i [[61,61],[60]]=a6 at*;have Q1:=O hq;go_wp2_with fail;refine HI.mono ?_;rintro e a7 ⟨rfl,H⟩;have g:=O<|v.u.trans<|((Kept.refl B ok S).alloc _).trans<|C9 H;have z:=O<|(a2.u.alloc _).y H;cases a6
  .have T:=O (A.u _<|Ev.pure.eq (o:=.ok R (P:Int)) λr=>ι);go_wp2;go_ret;exact G0 g.u T.u z.u Z.u N
  .have HT:=Gc 244 (λ_ _=>ú) F m (λd s r=>r.sum d s) (λj h=>G j W) P W (TC Q1.u) W (λa4 c=>M a4<|kQ g.u.size c) (kQ D g.u.size) z.u;go_wp2_with fail;refine HT.mono ?_;rintro e a8 ⟨a5,o,l,f⟩;have y:=O<|g.u.trans a5;have t:=O<|A.u _<|l.eq λr=>yY trivial;cases o with
   |fail er p=>
    obtain⟨rfl,k⟩:=f;exact⟨K,D3 y.u t.u k⟩
   |ok s3 a9=>
    obtain⟨rfl,i,c,hy⟩:=f;have a3:=O i;have G3:=O (show F8 s s3 by
     grind[F8]);go_wp2;go_ret;exact G0 y.u t.u a3.u G3.u hy
def Bg(w:E)(B a:Nat)(b:χ)(L:List Tk)(ok:Nat->Prop)(d:Nat)(s:St)(h:Sp->Option (Out Int))(e:é)(g:E):Prop:=
 Kept B ok w g/\∃o,Ev L h o/\match o with
  |.ok c x=>e=π (U x)/\aH g B a b L ok d c/\L9 s c/\0<=x/\x<Q c.N
  |.fail f p=>e=gu f p/\f≠0
def EI(B a:Nat)(b:χ)(L:List Tk)(m:Nat):Prop:=
 ∀(w) (ok) (d) (s) (k:Nat),k<Q s.N->Q L-s.i<=m->(∀g,V w.heap<=g->ok g)->B<=V w.heap->aH w B a b L ok d s->
  μ η 275 #[pV a,U k] w (Bg w B a b L ok d s λr=>r.tail d s k)
def Uz(z:cY L)(m)(S:∀D,D<m->bG B a b L 215 (λd s r=>r.expr d s) D):
 bG B a b L 290 (λd s r=>A8 (aC L s [40]) λs _=>A8 (r.expr d s) λs x=>A8 (aC L s [41]) λs _=>C<|.ok s x) m:=by
 intro w ok d s hm a2 R h;have H:=I7 z h [40];go_in;go_wp2_with fail;refine H.mono ?_;rintro e a3 ⟨i,n⟩;have j:=O i;obtain⟨c,rfl,f⟩|⟨c,rfl⟩:=n
 .have v:=O λo l=>Ev.bind (k:=λr s (_:Unit)=>A8 (r.expr d s) λs x=>A8 (aC L s [41]) λs _=>C<|Out.ok s x) (Q8 c) l (o:=o);have a4:=f.at';have N:=S (Q L-s.nx.i) (by grind[St.nx]) a3 ok d s.nx (vQ _) (λg k=>a2 g<|kQ j.u.size k) (kQ R j.u.size) f;go_wp2_with fail;refine N.mono ?_;rintro e a5 ⟨i,o,Z,A⟩;have t:=O<|j.u.trans i;have q:=O Z;cases o with
  |fail er p=>
   obtain⟨rfl,T⟩:=A;exact⟨K,D3 t.u (v.u _<|Ev.bad q.u) T⟩
  |ok s2 x=>
   obtain⟨rfl,f,k,hx⟩:=A;have M:=I7 z f [41];have G2:=O k;have y:=O λo l=>v.u o<|Ev.bind q.u l;go_wp2_with fail;refine M.mono ?_;rintro e a6 ⟨i,n⟩;have u:=O<|t.u.trans i;obtain⟨c,rfl,f⟩|⟨c,rfl⟩:=n
   .have F:=O<|y.u _<|Ev.bind (Q8 c) Ev.pure;have P:=O f;have G:=O (show F8 s s2.nx by
     grind[F8,St.nx]);go_wp2;go_ret;exact G0 u.u F.u P.u G.u hx
   .exact⟨K,D3 u.u (y.u _<|Ev.bad<|U3 c) ε⟩
 .exact⟨K,D3 j.u (Ev.bad<|U3 c) ε⟩
def SY(u:cY L)(h:aH w B a b L ok d s)(T:∀g,V w.heap<=g->ok g)(N:B<=V w.heap):
 μ η 213 #[pV a] w λe A=>Kept B ok w A/\∃o,Ev L (λr=>bC L r d s) o/\match o with
  |.ok z x=>e=π (U x)/\aH A B a b L ok d z/\L9 s z
  |.fail j p=>e=gu j p/\j≠0:=by
 have F:=H7 u h [58];have m:Hid (∀o,Ev L (λr=>if aL L s.i [[58]] then r.typ d s.nx else C<|.ok s<|-1) o->Ev L (λr=>bC L r d s) o):=λo S=>S;generalize aL L s.i [[58]]=q at*;go_in;go_wp2_with fail;refine F.mono ?_;rintro e k ⟨rfl,c,f⟩;have n:=O c;cases q
 .have i:aH k B a b L ok d s:=by simpa using f
  have H:=O i;go_wp2;go_ret;exact⟨n.u,.ok s<|-1,m.u _<|Ev.pure.eq λr=>ι,K,H.u,⟨vQ _,W,W,W⟩⟩
 .have i:aH k B a b L ok d s.nx:=by simpa using f
  have G:=ZU u (Q L-s.nx.i) k ok d s.nx (vQ _) (λg v=>T g<|kQ c.size v) (kQ N c.size) i;go_wp2_with fail;refine G.mono ?_;rintro e a2 ⟨c,o,R,y⟩;have t:=O<|n.u.trans c;have l:=O (m.u o<|R.eq λr=>ι);cases o with
  |fail j p=>
   obtain⟨rfl,P⟩:=y;exact⟨K,t.u,_,l.u,K,P⟩
  |ok Z x=>
   obtain⟨rfl,f,v⟩:=y;have M:=O f;have D:=O (show L9 s Z by
    grind[F8,L9,St.nx]);go_wp2;go_ret;exact⟨t.u,_,l.u,K,M.u,D.u⟩
theorem zO{ok}{w f}{q:Nat}{c}{e}(g:Kept B ok w f)(h:w.heap[q]?=C (γ c e (0,0)))(l:e≠115/\e≠93/\e≠88):f.heap[q]?=C (γ c e (0,0)):=by
 rw[g.block q (aG h) λx=>?_]
 .omega
 .obtain⟨i,j,k,m,r⟩:=x.2.1;grind
def Ox(A:cY L)(m)(hO:∀F,F<m->bG B a b L 268 (λd s r=>r.oper d s) F)(hS:bG B a b L 276 (λd s r=>r.simple d s) m)(hT:∀F,F<m->EI B a b L F):
 bG B a b L 268 (λd s r=>r.oper d s) m:=by
 intro w ok d s hm P N a2;have af:=a2.fq;have HI:=sY A (a2.alloc<|γ (pZ [[33],[45],[116,121,112,101,111,102]]) 9) (V w.heap) 3 [[33],[45],[116,121,112,101,111,102]] (xG _ _ _) ε;have a7:=O λ(hq:aL L s.i [[33],[45],[116,121,112,101,111,102]]=τ)=>TC hq;have y:Hid (∀o,Ev L (λr=>if aL L s.i [[33],[45],[116,121,112,101,111,102]] then A8 (aS L (lY L<|s.i+1) d s.nx r.oper) λG x=>aE G ⟨13,x,0,0,[],(tk L s.i).text,0,-1,(tk L s.i).at'⟩
  else A8 (r.simple d s) λs x=>r.tail d s x) o->Ev L (λr=>r.oper d s) o):=λo ho=>Ev.step<|ho.eq λr=>K;have HP:=O a2;have S:=O λa3 (h1:aH a3 B a b L ok d s)=>DL A h1;generalize aL L s.i [[33],[45],[116,121,112,101,111,102]]=ad at*;generalize tk L s.i=ae at*;obtain⟨kd,n,l⟩:=ae;simp only[jK]at S y a7;go_in;go_wp2_with fail;refine HI.mono ?_;rintro e a3 ⟨rfl,j⟩;have T:=O<|(HP.u.alloc _).y j;have z:=O<|((Kept.refl B ok w).alloc _).trans<|C9 j;cases ad
 .have q:=hS a3 ok d s hm (λg c=>P g<|kQ z.u.size c) (kQ N z.u.size) T.u;go_wp2_with fail;refine q.mono ?_;rintro e v ⟨f,o,u,k⟩;have i:=O<|z.u.trans f;have R:=O u;cases o with
  |fail er p=>
   obtain⟨rfl,D⟩:=k;exact⟨K,D3 i.u (y.u _<|(Ev.bad R.u).eq λr=>by simp;rfl) D⟩
  |ok s2 x=>
   obtain⟨rfl,h,c,hx⟩:=k;obtain⟨kx,rfl⟩:=î hx.1;have ab:=h.at';have hj:=c.1;have q:=hT (Q L-s2.i) W v ok d s2 kx W (vQ _) (λg c=>P g<|kQ i.u.size c) (kQ N i.u.size) h;have G2:=O c;go_wp2_with fail;refine q.mono ?_;clear q;rintro e a4 ⟨f,o,u,k⟩;have t:=O<|i.u.trans f;have E3:=O (y.u o<|(Ev.bind (k:=λr s x=>r.tail d s x) R.u u).eq λr=>ι);clear f u i R;cases o with
   |fail er p=>
    obtain⟨rfl,D⟩:=k;exact⟨K,D3 t.u E3.u D⟩
   |ok s3 a5=>
    obtain⟨rfl,h,c,hy⟩:=k;have M:=O h;have G3:=O (show F8 s s3 by
     have h1:=G2.u;grind[F8,L9]);clear h c;go_wp2_with fail;go_ret;exact G0 t.u E3.u M.u G3.u hy
 .have V1:=O (λo (ho:Ev L (λr=>A8 (aS L (lY L<|s.i+1) d s.nx r.oper) λG x=>aE G ⟨13,x,0,0,[],n,0,-1,(l:Int)⟩) o)=>y.u o<|ho.eq λr=>ι);clear y;go_wp2_with fail;refine(S.u _ T.u<|a7.u trivial).mono ?_;clear S;rintro e v ⟨rfl,f,h⟩;have i:=O<|(z.u.trans f).alloc<|γ #[U kd,ζ ⟨ν n⟩,U (l:Int)] 150;have Z:=O<|h.alloc<|γ #[U kd,ζ ⟨ν n⟩,U (l:Int)] 150;have Q2:=O<|rY v<|γ #[U kd,ζ ⟨ν n⟩,U (l:Int)] 150;have ab:=h.at';have a6:=RT A Z.u;clear f h T z;generalize a8:lY L s.nx.i=bg at*;have B2:=O a8;clear a8;go_wp2_with fail;refine a6.mono ?_;clear a6;rintro e a4 ⟨rfl,j⟩;have t:=O<|i.u.trans<|C9 j;have M:=O<|Z.u.y j;have Q3:=O (zO (C9 (B:=B) (ok:=ok) j) Q2.u ε);have ac:V v.heap<V a4.heap:=by have:=j.size;simp at this;omega
  have q:=RJ (w:=a4) (ok:=ok) 268 (λ_ _=>ú) A (Q L-s.nx.i) (λd s r=>r.oper d s) (hO _<|by grind[St.nx]) bg (vQ _) (λg c=>P g<|kQ t.u.size c) (kQ N t.u.size) M.u;clear j Z i Q2 M;go_wp2_with fail;refine q.mono ?_;clear q;rintro e a9 ⟨f,o,u,k⟩;have H:=O<|t.u.trans f;have Q4:=O (zO f Q3.u ε);have ag:=yQ ac f.size;have E4:=O (u.eq (ψ:=λr=>aS L (lY L<|s.i+1) d s.nx r.oper) λr=>by rw[show lY L (s.i+1)=bg from B2.u]);clear f u t Q3;cases o with
  |fail er p=>
   obtain⟨rfl,D⟩:=k;exact⟨K,D3 H.u (V1.u _<|Ev.bad E4.u) D⟩
  |ok s4 a5=>
   obtain⟨rfl,h,c,hy⟩:=k;have HA:=Q6 A h ⟨13,a5,0,0,[],n,0,-1,(l:Int)⟩ 0 none 0 0 ⟨_,K,kW _ _ _ _,ù⟩ K (by grind[F8,St.nx]) (kQ N H.u.size) λg c=>P g<|kQ H.u.size c;have EV:=O<|V1.u _<|Ev.bind E4.u (k:=λ_ G x=>aE G ⟨13,x,0,0,[],n,0,-1,(l:Int)⟩) Ev.pure;have GX:=O (show F8 s ⟨s4.i,s4.N++[⟨13,a5,0,0,[],n,0,-1,(l:Int)⟩],s4.T⟩ by
    have h2:=c;grind[F8,St.nx]);have x1:δ a9 (J (V v.heap) 1)=C (ζ ⟨ν n⟩):=cr Q4.u K;have x2:δ a9 (J (V v.heap) 2)=C (U (l:Int)):=cr Q4.u K;clear h c;go_wp2_with fail;refine HA.mono ?_;clear HA;rintro e ah ⟨rfl,f,h⟩;have K5:=O<|H.u.trans f;have aa:=O h;clear f h;go_wp2_with fail;go_ret;exact G0 K5.u EV.u aa.u GX.u θ
theorem aH.free{S}{A}{ok'}(h:aH w B a b L ok d s)(i:I S w A)(l:∀k,S k->¬ok k/\Δ b≠C k)(j:∀g,ok g->g<V w.heap->ok' g):aH A B a b L ok' d s:=by
 obtain⟨G,H,M,N,f,z,D,Z,yx,n,t,u,P,R⟩:=h;have r:=(aG n);have o:δ w (J a 3)=C z:=cr n K;have p:δ w (J a 4)=C D:=cr n K;have q:=i.block a r λx=>(l a x).1 f.1;have y:∀g,ok g->g<V w.heap->S g->(∃F e,w.heap[g]?=C (γ F e (0,0))/\(e=156\/e=3))->False:=λg c _ T _=>(l g T).1 c;refine⟨G,H,M,A3 N i λg c x=>(l g x).2 c,⟨j _ f.1 r,λv g m c=>?_,λv g m c=>?_⟩,z,D,Z,yx,q.trans n,A3 t i λg c x=>(l g x).1<|f.2.1 _ g o c,A3 u i λg c x=>(l g x).1<|f.2.2 _ g p c,P.imp<|gE.P i y j,R.imp<|eI.P i y j⟩
 .rw[ý q,o]at m;cases m;exact j g (f.2.1 _ g o c) (t.lt g c).2
 .rw[ý q,p]at m;cases m;exact j g (f.2.2 _ g p c) (u.lt g c).2
def J2{ok}{c e}{q}{o}(f:Kept B ok c e)(h:c.heap[q]?=C o)(g:¬ok q):e.heap[q]?=C o:=(f.block q (aG h) λx=>g x.2.2).trans h
def aH.nodeAt(h:aH w B a b L ok d s){k}(f:k<Q s.N):∃g c,δ w (J a 3)=C (Y (C<|J g 0) (Q s.N) c)/\Q s.N<=c/\c<=Γ/\g<V w.heap/\a<V w.heap/\δ w (J g<|k*9+8)=C (U<|iC s k):=by
 obtain⟨A,F,D,G,e,i,v,o,u⟩:=h.blk;obtain⟨y,p,rfl⟩:=B8 i;obtain⟨g,rfl,_,l,j,m,t⟩:=D5 i W;obtain⟨z,n,r⟩:=eN.at (λ_ _ h=>gE.len h) k f o;refine⟨g,p,cr e K,j,m,l,(aG e),?_⟩;obtain⟨x,rfl,_⟩:=n;have q:iC s (k:Int)=s.N[k].at':=by simp[iC,List.getD,f]
 simp_all
def Ċ{hd}{o:Out Int}(h:Ev L (λr=>if aL L s.i [[40]] then A8 (r.M .expr [41] d s.nx [] []) λc l=>A8 (aE c ⟨7,hd,0,0,l,[],0,-1,iC s hd⟩) λs x=>r.tail d s x
 else if aL L s.i [[46]] then
  if (tk L<|s.i+1).x=1 then A8 (aE s.nx.nx ⟨8,hd,0,0,[],(tk L<|s.i+1).text,0,-1,iC s hd⟩) λs x=>r.tail d s x else bF L (s.i+1) 1
 else if aL L s.i [[91]] then A8 (r.expr d s.nx) λc x=>A8 (aC L c [93]) λc _=>A8 (aE c ⟨9,hd,x,0,[],[],0,-1,iC s hd⟩) λs x=>r.tail d s x
 else if aL L s.i [[97,115]] then A8 (r.typ d s.nx) λc t=>A8 (aE c ⟨14,hd,0,0,[],[],0,t,iC s hd⟩) λs x=>r.tail d s x
 else C<|.ok s hd) o):Ev L (λr=>r.tail d s hd) o:=Ev.step h
def DU{f}{e}{c p}(i:Kept B ok w e)(h:Ev L f<|.fail c p)(g:c≠0):Bg w B a b L ok d s f (gu c p) e:=⟨i,_,h,K,g⟩
def Zj(G:cY L)(bu)(hE:∀m',m'<bu->bG B a b L 215 (λd s r=>r.expr d s) m'):EI B a b L bu:=by
 intro w ok d s k hk hm ag hB bo;have H0:=O bo;have ba:=O hE;have bx:=bo.fq;go_in;go_wp2;go_loopw [1] (λc9 wr=>∃(i:Nat) (f:St),c9=U i/\i<Q f.N/\Hid (Kept B ok w wr)/\Hid (L9 s f)/\Hid (aH wr B a b L ok d f)/\Hid (∀o,Ev L (λr=>r.tail d f (i:Int)) o->Ev L (λr=>r.tail d s (k:Int)) o)) (λ_ wr=>Q L-qI wr a);case atStart=>exact⟨k,s,K,hk,Kept.refl _ _ _,⟨vQ _,W,W,W⟩,H0.u,λ_ x=>x⟩
 case round=>
  clear H0 bx hk;obtain⟨i,f,rfl,c4,KR,GR,PR,VR⟩:=hrel;obtain⟨g,nc,c3,cb,bw,l,cg,c8⟩:=PR.u.nodeAt c4;unfold Γ at bw;have hi:=PR.u.at';have cc:=PR.u.fq;have cf:=PR.u.j3;have bz:=GR.u;simp only[L9]at bz;have cn:=KR.u.size;have VT:=O λo F=>VR.u o<|Ċ (s:=f) (hd:=(i:Int)) F;clear VR;generalize c7:iC f (i:Int)=j at*;clear c7;have bp:I No wr (wr.alloc<|γ #[U 0,U (i:Int),U 0,U 0,sN,ζ ⟨#[]⟩,U 0,U<|-1,U j] 93):=I.alloc _ _ _;have be:=O (PR.u.P (ok':=λg=>ok g/\g≠wr.heap.size) bp (λ_ _ _ _ x=>x.elim) λg l hl=>⟨l,W⟩);have Q1:Hid ((wr.alloc<|γ #[U 0,U (i:Int),U 0,U 0,sN,ζ ⟨#[]⟩,U 0,U<|-1,U j] 93).heap[wr.heap.size]?=C (γ #[U 0,U (i:Int),U 0,U 0,sN,ζ ⟨#[]⟩,U 0,U<|-1,U j] 93 (0,0))):=rY wr _;have K1:=O<|KR.u.alloc<|γ #[U 0,U (i:Int),U 0,U 0,sN,ζ ⟨#[]⟩,U 0,U<|-1,U j] 93;have ck:=PR.u.kq<|vQ _;have bc:=O<|H7 G be.u [40];have ca:=O PR.u;clear KR PR bp be;generalize bq:aL L f.i [[40]]=q1 at*;generalize br:aL L f.i [[46]]=q2 at*;generalize bs:aL L f.i [[91]]=q3 at*;generalize bt:aL L f.i [[97,115]]=q4 at*;have W1:=O (⟨bq,br,bs,bt⟩:_/\_/\_/\_);clear bq br bs bt;go_wp2_with fail;refine bc.u.mono ?_;rintro e b3 ⟨rfl,y,Z⟩;have t:=O<|K1.u.trans<|y.mono λ_ x=>x.1;have v:=O<|J2 y Q1.u λx=>x.2 K;have cl:=(aG v.u);have m:=O Z;clear y Z bc K1 Q1;cases q1;case true=>
   have D:Hid (aH b3 B a b L (λg=>ok g/\g≠wr.heap.size) d f.nx):=m.u;have al:=D.u.at';clear m;have bb:=O (PJ (w:=b3) (ok:=(λg=>ok g/\g≠wr.heap.size)) 215 (λ_ _=>Θ) (pt:=.expr) (φ:=λd s r=>r.expr d s) (λ_ _ _=>K) G (Q L-f.nx.i) (λm' ce=>(ba.u m'<|by simp only[St.nx]at*;omega).s0) [41] (vQ _) (λg l=>⟨ag g W,W⟩) W D.u);clear D;go_wp2_with fail;refine bb.u.mono ?_;rintro e c ⟨n,o,af,M⟩;have A:=O<|t.u.trans<|n.mono λ_ x=>x.1;have h:=O<|J2 n v.u λx=>x.2 K;have N:=O af;have ap:=n.size;clear n af bb t v;cases o with
   |fail er p=>
    obtain⟨rfl,he⟩:=M;exact⟨K,DU A.u (VT.u _<|(Ev.bad (k:=λr f ab=>A8 (aE f<|Nd.mk 7 (i:Int) 0 0 ab [] 0 (-1) j) λs x=>r.tail d s x) N.u).eq λr=>ι) he⟩
   |ok q ab=>
    obtain⟨la,lc,rfl,an,cd,H,ah⟩:=M;have h3:=ah;simp only[F8,St.nx]at h3;have EV:=O (λo (F:Ev L (λr=>r.tail d ⟨q.i,q.N++[(Nd.mk 7 (i:Int) 0 0 ab [] 0 (-1) j)],q.T⟩ (q.N.length:Int)) o)=>VT.u o<|(Ev.bind N.u (k:=λr f ab=>A8 (aE f<|Nd.mk 7 (i:Int) 0 0 ab [] 0 (-1) j) λs x=>r.tail d s x)<|F.eq λr=>K).eq λr=>ι);have z:I (λk=>k=wr.heap.size) c (ρ (ρ c (J wr.heap.size 0)<|U 7) (J wr.heap.size 4)<|Y la (Q ab) lc):=((I.set c (J wr.heap.size 0)<|U 7).trans (I.set _ (J wr.heap.size 4)<|Y la (Q ab) lc) λ_ _ x=>x);have S:=O (H.free (ok':=ok) z (λk hk=>⟨λx=>x.2 hk,ð⟩) λg l _=>l.1);have O5:=O (A3 an z (λg l x=>by
     have x':=x;have:=(A9 an g l).1;omega));have u:=O (A.u.trans' z λaq hi x=>W);have ar:δ c (J wr.heap.size 0)=C (U 0):=cr h.u K;have au:δ c (J wr.heap.size 1)=C (U (i:Int)):=cr h.u K;have av:δ c (J wr.heap.size 2)=C (U 0):=cr h.u K;have aw:δ c (J wr.heap.size 3)=C (U 0):=cr h.u K;have ax:δ c (J wr.heap.size 4)=C (sN):=cr h.u K;have ay:δ c (J wr.heap.size 5)=C (ζ ⟨#[]⟩):=cr h.u K;have az:δ c (J wr.heap.size 6)=C (U 0):=cr h.u K;have b0:δ c (J wr.heap.size 7)=C (U<|-1):=cr h.u K;have b1:δ c (J wr.heap.size 8)=C (U j):=cr h.u K;have b7:=ã c wr.heap.size 0 _ _ h.u;have cs:=ã c wr.heap.size 4 _ _ h.u;have b8:=(aG h.u);clear H ah an z N h A;have P:=O (U0 G S.u (Nd.mk 7 (i:Int) 0 0 ab [] 0 (-1) j) la (Q ab) lc ⟨_,K,C7 O5.u<|wQ _,λg l=>ag g<|by have:=(A9 O5.u g l).1;omega⟩ W (by have:=u.u.size;omega) λg l=>ag g<|by have:=u.u.size;omega);clear S;go_wp2_with fail;refine P.u.mono ?_;rintro e b6 ⟨rfl,T,p6⟩;have K6:=O<|u.u.trans T;have P6:=O p6;clear T p6 P u;go_wp2;go_roundw;case rel=>grind[L9]
    case measure=>
     have h4:=P6.u.j3;grind
  case false=>
   have bh:Hid (aH b3 B a b L (λg=>ok g/\g≠wr.heap.size) d f):=m.u;clear m;have R:=H7 G bh.u [46];rw[W1.u.2.1]at R;have ac:=O R;clear R bh;go_wp2_with fail;refine ac.u.mono ?_;rintro e bv ⟨rfl,y,Z⟩;have ch:=y.size;have ad:=O<|t.u.trans<|y.mono λ_ x=>x.1;have ae:=O<|J2 y v.u λx=>x.2 K;clear t v;have t:=O ad.u;have v:=O ae.u;have m:=O Z;clear y Z ac ad ae;cases q2;case true=>
    have D:Hid (aH bv B a b L (λg=>ok g/\g≠wr.heap.size) d f.nx):=m.u;have al:=D.u.at';clear m;have aj:=O<|MH G D.u;have bn:tk L f.nx.i=tk L (f.i+1):=K;rw[bn]at aj;clear D bn;have ak:=O (λo (F:Ev L (λr=>if (tk L<|f.i+1).x=1 then A8 (aE f.nx.nx<|Nd.mk 8 (i:Int) 0 0 [] (tk L<|f.i+1).text 0 (-1) j) λs x=>r.tail d s x else bF L (f.i+1) 1) o)=>VT.u o<|F.eq λr=>ι);clear VT;go_wp2_with fail;refine aj.u.mono ?_;rintro e c ⟨n,M⟩;have A:=O<|t.u.trans<|n.mono λ_ x=>x.1;have h:=O<|J2 n v.u λx=>x.2 K;have ap:=n.size;clear n aj t v;obtain⟨am,rfl,H⟩|⟨am,rfl⟩:=M
    .have b9:=O (λo (F:Ev L (λr=>r.tail d ⟨f.nx.nx.i,f.nx.nx.N++[Nd.mk 8 (i:Int) 0 0 [] (tk L<|f.i+1).text 0 (-1) j],f.nx.nx.T⟩ (f.nx.nx.N.length:Int)) o)=>ak.u o<|F.eq λr=>by rw[yY am];rfl);generalize (tk L<|f.i+1).text=tx at*;have EV:=O b9.u;clear b9 ak;have c6:=H.at';simp only[St.nx]at c6;have z:I (λk=>k=wr.heap.size) c (ρ (ρ c (J wr.heap.size 0)<|U 8) (J wr.heap.size 5)<|ζ ⟨ν tx⟩):=((I.set c (J wr.heap.size 0)<|U 8).trans (I.set _ (J wr.heap.size 5)<|ζ ⟨ν tx⟩) λ_ _ x=>x);have S:=O (H.free (ok':=ok) z (λk hk=>⟨λx=>x.2 hk,ð⟩) λg l _=>l.1);have u:=O (A.u.trans' z λaq hi x=>W);have ar:δ c (J wr.heap.size 0)=C (U 0):=cr h.u K;have au:δ c (J wr.heap.size 1)=C (U (i:Int)):=cr h.u K;have av:δ c (J wr.heap.size 2)=C (U 0):=cr h.u K;have aw:δ c (J wr.heap.size 3)=C (U 0):=cr h.u K;have ax:δ c (J wr.heap.size 4)=C (sN):=cr h.u K;have ay:δ c (J wr.heap.size 5)=C (ζ ⟨#[]⟩):=cr h.u K;have az:δ c (J wr.heap.size 6)=C (U 0):=cr h.u K;have b0:δ c (J wr.heap.size 7)=C (U<|-1):=cr h.u K;have b1:δ c (J wr.heap.size 8)=C (U j):=cr h.u K;have b7:=ã c wr.heap.size 0 _ _ h.u;have ct:=ã c wr.heap.size 5 _ _ h.u;have b8:=(aG h.u);clear H z h A;have P:=O (U0 G S.u (Nd.mk 8 (i:Int) 0 0 [] tx 0 (-1) j) none 0 0 ⟨_,K,kW _ _ _ _,ù⟩ (by simp only[St.nx];omega) (by have:=u.u.size;omega) λg l=>ag g<|by have:=u.u.size;omega);clear S;go_wp2_with fail;refine P.u.mono ?_;rintro e b6 ⟨rfl,T,p6⟩;have K6:=O<|u.u.trans T;have P6:=O p6;clear T p6 P u;go_wp2;go_roundw;case rel=>exact⟨Q f.nx.nx.N,⟨f.nx.nx.i,f.nx.nx.N++[(Nd.mk 8 (i:Int) 0 0 [] tx 0 (-1) j)],f.nx.nx.T⟩,K,ι,K6.u,(show L9 s _ from by grind[L9,St.nx,qQ,jQ,xQ]),P6.u,EV.u⟩
     case measure=>
      have h4:=P6.u.j3;grind[St.nx]
    .exact⟨K,DU A.u (ak.u _<|Ev.pure.eq λr=>by rw[wY am];rfl) ε⟩
   case false=>
    have bi:Hid (aH bv B a b L (λg=>ok g/\g≠wr.heap.size) d f):=m.u;clear m;have R:=H7 G bi.u [91];rw[W1.u.2.2.1]at R;have ac:=O R;clear R bi;go_wp2_with fail;refine ac.u.mono ?_;rintro e b4 ⟨rfl,y,Z⟩;have ci:=y.size;have ad:=O<|t.u.trans<|y.mono λ_ x=>x.1;have ae:=O<|J2 y v.u λx=>x.2 K;clear t v;have t:=O ad.u;have v:=O ae.u;have m:=O Z;clear y Z ac ad ae;cases q3;case true=>
     have D:Hid (aH b4 B a b L (λg=>ok g/\g≠wr.heap.size) d f.nx):=m.u;have al:=D.u.at';clear m;have ai:=O (ba.u (Q L-f.nx.i) (by simp only[St.nx]at*;omega) b4 (λg=>ok g/\g≠wr.heap.size) d f.nx (vQ _) (λg l=>⟨ag g W,W⟩) W D.u);clear D;go_wp2_with fail;refine ai.u.mono ?_;rintro e c ⟨n,o,af,M⟩;have A:=O<|t.u.trans<|n.mono λ_ x=>x.1;have h:=O<|J2 n v.u λx=>x.2 K;have N:=O af;have ap:=n.size;clear n af ai t v;cases o with
     |fail er p=>
      obtain⟨rfl,he⟩:=M;exact⟨K,DU A.u (VT.u _<|(Ev.bad (k:=λr f x=>A8 (aC L f [93]) λf _=>A8 (aE f<|Nd.mk 9 (i:Int) x 0 [] [] 0 (-1) j) λs x=>r.tail d s x) N.u).eq λr=>ι) he⟩
     |ok q x=>
      obtain⟨rfl,H,ah,cp⟩:=M;have h3:=ah;simp only[F8,St.nx]at h3;have VN:=O (λo (F:Ev L (λr=>(λr f x=>A8 (aC L f [93]) λf _=>A8 (aE f<|Nd.mk 9 (i:Int) x 0 [] [] 0 (-1) j) λs x=>r.tail d s x) r q x) o)=>VT.u o<|(Ev.bind N.u (k:=λr f x=>A8 (aC L f [93]) λf _=>A8 (aE f<|Nd.mk 9 (i:Int) x 0 [] [] 0 (-1) j) λs x=>r.tail d s x) F).eq λr=>ι);clear VT N;have z:I (λk=>k=wr.heap.size) c (ρ (ρ c (J wr.heap.size 0)<|U 9) (J wr.heap.size 2)<|U x):=((I.set c (J wr.heap.size 0)<|U 9).trans (I.set _ (J wr.heap.size 2)<|U x) λ_ _ x=>x);have bg:=O (H.free (ok':=(λg=>ok g/\g≠wr.heap.size)) z (λk hk=>⟨λx=>x.2 hk,ð⟩) λg l _=>l);have bd:=O (A.u.trans' z λaq hi x=>W);have bm:Hid ((ρ (ρ c (J wr.heap.size 0)<|U 9) (J wr.heap.size 2)<|U x).heap[wr.heap.size]?=C (γ #[U 9,U (i:Int),U x,U 0,sN,ζ ⟨#[]⟩,U 0,U<|-1,U j] 93 (0,0))):=by
       show _=_;have h1:=ê c wr.heap.size 0 _ _ (U 9) h.u;rw[ê _ wr.heap.size 2 _ _ (U x) h1];rfl
      have ar:δ c (J wr.heap.size 0)=C (U 0):=cr h.u K;have au:δ c (J wr.heap.size 1)=C (U (i:Int)):=cr h.u K;have av:δ c (J wr.heap.size 2)=C (U 0):=cr h.u K;have aw:δ c (J wr.heap.size 3)=C (U 0):=cr h.u K;have ax:δ c (J wr.heap.size 4)=C (sN):=cr h.u K;have ay:δ c (J wr.heap.size 5)=C (ζ ⟨#[]⟩):=cr h.u K;have az:δ c (J wr.heap.size 6)=C (U 0):=cr h.u K;have b0:δ c (J wr.heap.size 7)=C (U<|-1):=cr h.u K;have b1:δ c (J wr.heap.size 8)=C (U j):=cr h.u K;have b7:=ã c wr.heap.size 0 _ _ h.u;have cq:=ã c wr.heap.size 2 _ _ h.u;have b8:=(aG h.u);have HN:=O<|I7 G bg.u [93];clear H z h A bg;go_wp2_with fail;refine HN.u.mono ?_;rintro e aa ⟨k4,M⟩;have u:=O<|bd.u.trans<|k4.mono λ_ x=>x.1;have Q4:=O<|J2 k4 bm.u λx=>x.2 K;have cm:V c.heap<=V aa.heap:=by have:=k4.size;simpa using this
      clear k4 bd bm HN;obtain⟨hq,rfl,ao⟩|⟨hq,rfl⟩:=M
      .have c5:=ao.at';have S:=O<|ao.mono (ok':=ok) λg l _=>l.1;have EV:=O (λo (F:Ev L (λr=>r.tail d ⟨q.nx.i,q.nx.N++[(Nd.mk 9 (i:Int) x 0 [] [] 0 (-1) j)],q.nx.T⟩ (q.nx.N.length:Int)) o)=>VN.u o<|F.eq λr=>by simp only[aC,hq,if_true];rfl);clear VN ao;simp only[St.nx]at c5;have a0:δ aa (J wr.heap.size 0)=C (U 9):=cr Q4.u K;have a1:δ aa (J wr.heap.size 1)=C (U (i:Int)):=cr Q4.u K;have a2:δ aa (J wr.heap.size 2)=C (U x):=cr Q4.u K;have a3:δ aa (J wr.heap.size 3)=C (U 0):=cr Q4.u K;have a4:δ aa (J wr.heap.size 4)=C (sN):=cr Q4.u K;have a5:δ aa (J wr.heap.size 5)=C (ζ ⟨#[]⟩):=cr Q4.u K;have a6:δ aa (J wr.heap.size 6)=C (U 0):=cr Q4.u K;have a7:δ aa (J wr.heap.size 7)=C (U<|-1):=cr Q4.u K;have a8:δ aa (J wr.heap.size 8)=C (U j):=cr Q4.u K;have a9:=(aG Q4.u);have P:=O (U0 G S.u (Nd.mk 9 (i:Int) x 0 [] [] 0 (-1) j) none 0 0 ⟨_,K,kW _ _ _ _,ù⟩ (by simp only[St.nx];omega) W λg l=>ag g W);clear S;go_wp2_with fail;refine P.u.mono ?_;rintro e b6 ⟨rfl,T,p6⟩;have K6:=O<|u.u.trans T;have P6:=O p6;clear T p6 P u;go_wp2;go_roundw;case rel=>exact⟨Q q.nx.N,⟨q.nx.i,q.nx.N++[(Nd.mk 9 (i:Int) x 0 [] [] 0 (-1) j)],q.nx.T⟩,K,ι,K6.u,(show L9 s _ from by grind[L9,St.nx,qQ,jQ,xQ]),P6.u,EV.u⟩
       case measure=>
        have h4:=P6.u.j3;grind[St.nx]
      .exact⟨K,DU u.u (VN.u _<|Ev.pure.eq λr=>by simp only[aC,hq];rfl) ε⟩
    case false=>
     have bj:Hid (aH b4 B a b L (λg=>ok g/\g≠wr.heap.size) d f):=m.u;clear m;have R:=H7 G bj.u [97,115];rw[W1.u.2.2.2]at R;have ac:=O R;clear R bj;go_wp2_with fail;refine ac.u.mono ?_;rintro e b5 ⟨rfl,y,Z⟩;have cj:=y.size;have ad:=O<|t.u.trans<|y.mono λ_ x=>x.1;have ae:=O<|J2 y v.u λx=>x.2 K;clear t v;have t:=O ad.u;have v:=O ae.u;have m:=O Z;clear y Z ac ad ae;cases q4;case true=>
      have D:Hid (aH b5 B a b L (λg=>ok g/\g≠wr.heap.size) d f.nx):=m.u;have al:=D.u.at';clear m;have ai:=O (ZU (B:=B) (pb:=a) (tv:=b) G (Q L-f.nx.i) b5 (λg=>ok g/\g≠wr.heap.size) d f.nx (vQ _) (λg l=>⟨ag g W,W⟩) W D.u);clear D;go_wp2_with fail;refine ai.u.mono ?_;rintro e c ⟨n,o,af,M⟩;have A:=O<|t.u.trans<|n.mono λ_ x=>x.1;have h:=O<|J2 n v.u λx=>x.2 K;have N:=O af;have ap:=n.size;clear n af ai t v;cases o with
      |fail er p=>
       obtain⟨rfl,he⟩:=M;exact⟨K,DU A.u (VT.u _<|(Ev.bad (k:=λr f b2=>A8 (aE f<|Nd.mk 14 (i:Int) 0 0 [] [] 0 b2 j) λs x=>r.tail d s x) N.u).eq λr=>ι) he⟩
      |ok q x=>
       obtain⟨rfl,H,ah⟩:=M;have h3:=ah;simp only[F8,St.nx]at h3;have EV:=O (λo (F:Ev L (λr=>r.tail d ⟨q.i,q.N++[(Nd.mk 14 (i:Int) 0 0 [] [] 0 x j)],q.T⟩ (q.N.length:Int)) o)=>VT.u o<|(Ev.bind N.u (k:=λr f b2=>A8 (aE f<|Nd.mk 14 (i:Int) 0 0 [] [] 0 b2 j) λs x=>r.tail d s x)<|F.eq λr=>K).eq λr=>ι);have z:I (λk=>k=wr.heap.size) c (ρ (ρ c (J wr.heap.size 0)<|U 14) (J wr.heap.size 7)<|U x):=((I.set c (J wr.heap.size 0)<|U 14).trans (I.set _ (J wr.heap.size 7)<|U x) λ_ _ x=>x);have S:=O (H.free (ok':=ok) z (λk hk=>⟨λx=>x.2 hk,ð⟩) λg l _=>l.1);have u:=O (A.u.trans' z λaq hi x=>W);have ar:δ c (J wr.heap.size 0)=C (U 0):=cr h.u K;have au:δ c (J wr.heap.size 1)=C (U (i:Int)):=cr h.u K;have av:δ c (J wr.heap.size 2)=C (U 0):=cr h.u K;have aw:δ c (J wr.heap.size 3)=C (U 0):=cr h.u K;have ax:δ c (J wr.heap.size 4)=C (sN):=cr h.u K;have ay:δ c (J wr.heap.size 5)=C (ζ ⟨#[]⟩):=cr h.u K;have az:δ c (J wr.heap.size 6)=C (U 0):=cr h.u K;have b0:δ c (J wr.heap.size 7)=C (U<|-1):=cr h.u K;have b1:δ c (J wr.heap.size 8)=C (U j):=cr h.u K;have b7:=ã c wr.heap.size 0 _ _ h.u;have cu:=ã c wr.heap.size 7 _ _ h.u;have b8:=(aG h.u);clear H ah z N h A;have P:=O (U0 G S.u (Nd.mk 14 (i:Int) 0 0 [] [] 0 x j) none 0 0 ⟨_,K,kW _ _ _ _,ù⟩ W (by have:=u.u.size;omega) λg l=>ag g<|by have:=u.u.size;omega);clear S;go_wp2_with fail;refine P.u.mono ?_;rintro e b6 ⟨rfl,T,p6⟩;have K6:=O<|u.u.trans T;have P6:=O p6;clear T p6 P u;go_wp2;go_roundw;case rel=>grind[L9]
       case measure=>
        have h4:=P6.u.j3;grind
     case false=>
      have bf:Hid (aH b5 B a b L (λg=>ok g/\g≠wr.heap.size) d f):=m.u;have PF:=O<|bf.u.mono (ok':=ok) λg l _=>l.1;have EE:=O (VT.u (.ok f (i:Int))<|Ev.pure.eq λr=>ι);have GE:=O GR.u;clear m bf;go_wp2_with fail;go_ret;exact⟨t.u,_,EE.u,K,PF.u,GE.u,W,W⟩
end
def vL(L:List Tk)(d:Nat)(s:St)(r:Sp):Option (Out Int):=A8 (aC L s [40]) λs _=>A8 (r.expr d s) λs x=>A8 (aC L s [41]) λs _=>C<|.ok s x
theorem Nv{b c d}(x)(f:St->b->Option (Out c))(g:St->c->Option (Out d)):A8 (A8 x f) g=A8 x λs a=>A8 (f s a) g:=by
 obtain _|⟨s,a⟩|⟨e,p⟩:=x<;>rfl
theorem Jm(L:List Tk)(d)(s)(r){a}(k:St->Int->Option (Out a)):A8 (vL L d s r) k=A8 (aC L s [40]) λs _=>A8 (r.expr d s) λs x=>A8 (aC L s [41]) λs _=>k s x:=by
 unfold vL;simp only[Nv];rfl
section
variable{B a:Nat}{b:χ}{L:List Tk}
def Bb(w:E)(B a:Nat)(b:χ)(L:List Tk)(g:Nat->Prop)(d:Nat)(s:St)(i:Sp->Option (Out Int))(e:é)(h:E):Prop:=
 Kept B g w h/\∃o,Ev L i o/\match o with
  |.ok c x=>e=π (U x)/\aH h B a b L g d c/\(s.i<c.i/\Q c.N+s.i+2<=Q s.N+c.i/\Q c.T+s.i<=Q s.T+c.i/\Q s.N<=Q c.N)/\0<=x/\x<Q c.N
  |.fail f p=>e=gu f p/\f≠0
def PN{w f}{e}{d}{s}{g}{c p}(j:Kept B e w f)(i:Ev L g<|.fail c p)(h:c≠0):Bb w B a b L e d s g (gu c p) f:=⟨j,_,i,K,h⟩
def Av(D:cY L)(m)(S:∀G,G<=m->bG B a b L 215 (λd s r=>r.expr d s) G)(w:E)(q:Nat->Prop)(d)(s:St)(hm:Q L-s.i<=m)(a4:∀g,V w.heap<=g->q g)(R:B<=V w.heap)(h:aH w B a b L q d s):
 μ η 216 #[pV a] w (Bb w B a b L q d s λr=>A8 (aC L s [40]) λt _=>A8 (r.expr d t) λu x=>A8 (aC L u [41]) λv _=>C<|Out.ok v x):=by
 have c:=O<|Kept.refl B q w;generalize T:(λ(r:Sp)=>A8 (aC L s [40]) λt _=>A8 (r.expr d t) λu x=>A8 (aC L u [41]) λv _=>C<|Out.ok v x)=M;have f:Hid (∀o,Ev L (λr=>A8 (aC L s [40]) λt _=>A8 (r.expr d t) λu x=>A8 (aC L u [41]) λv _=>C<|Out.ok v x) o->Ev L M o):=by
  rw[<-T];exact λ_ x=>x
 have P:=O h;go_in;have k:=O<|I7 D P.u [40];go_wp2_with fail;refine k.u.mono ?_;rintro e a6 ⟨l,z⟩;replace c:=O<|c.u.trans l;obtain⟨i,rfl,n⟩|⟨i,rfl⟩:=z;case inr=>exact⟨K,PN c.u (Ev.vf f.u<|U3 i) ε⟩
 replace f:=O<|Ev.vb f.u<|Q8 i;have P:=O n;have k:=O (S (Q L-((s).nx).i) (by grind[St.nx]) a6 q d ((s).nx) (vQ _) (λg y=>a4 g<|kQ c.u.size y) (kQ R c.u.size) P.u);go_wp2_with fail;refine k.u.mono ?_;rintro e a7 ⟨l,o,a2,F⟩;replace c:=O<|c.u.trans l;have A:=O a2;cases o with
 |fail er p=>
  obtain⟨rfl,Z⟩:=F;exact⟨K,PN c.u (Ev.vf f.u A.u) Z⟩
 |ok j x=>
  obtain⟨rfl,n,y,a5⟩:=F;have a3:_/\_/\_/\_:=y;simp only[St.nx]at a3;replace f:=O<|Ev.vb f.u A.u;have P:=O n;have k:=O<|I7 D P.u [41];go_wp2_with fail;refine k.u.mono ?_;rintro e a8 ⟨l,z⟩;replace c:=O<|c.u.trans l;obtain⟨i,rfl,n⟩|⟨i,rfl⟩:=z;case inr=>exact⟨K,PN c.u (Ev.vf f.u<|U3 i) ε⟩
  replace f:=O<|Ev.vb f.u<|Q8 i;have P:=O n;have H:=O<|f.u _ Ev.pure;have N:Hid (s.i<((j).nx).i/\Q ((j).nx).N+s.i+2<=Q s.N+((j).nx).i/\Q ((j).nx).T+s.i<=Q s.T+((j).nx).i/\Q s.N<=Q ((j).nx).N):=(show _/\_/\_/\_ from by grind[St.nx]);go_wp2;go_ret;exact⟨c.u,_,H.u,K,P.u,N.u,a5⟩
def Ŗ(D:cY L)(a2)(hE:∀m',m'<=a2->bG B a b L 215 (λd s r=>r.expr d s) m')(q)(w:E)(H:Nat->Prop)(d)(s:St)(hm:Q L-s.i<=a2)(S:∀g,V w.heap<=g->H g)(N:B<=V w.heap)(h:aH w B a b L H d s):
 μ η 186 #[pV a,U q] w (Z3 w B a b L H d s λr=>if (tk L (s).i).x=1 then A8 (bC L r d (s).nx) λt m=>A8 (aC L t [61]) λu _=>A8 (r.expr d u) λv x=>A8 (aC L v [59]) λy _=>aE y (Nd.mk 17 x 0 0 [] (tk L (s).i).text 0 m q) else bF L (s).i 1):=by
 have a8:=h.fq;have c:=O<|Kept.refl B H w;generalize a3:(λr=>if (tk L (s).i).x=1 then A8 (bC L r d (s).nx) λt m=>A8 (aC L t [61]) λu _=>A8 (r.expr d u) λv x=>A8 (aC L v [59]) λy _=>aE y (Nd.mk 17 x 0 0 [] (tk L (s).i).text 0 m q) else bF L (s).i 1)=FF;have f:Hid (∀o,Ev L (λr=>if (tk L (s).i).x=1 then A8 (bC L r d (s).nx) λt m=>A8 (aC L t [61]) λu _=>A8 (r.expr d u) λv x=>A8 (aC L v [59]) λy _=>aE y (Nd.mk 17 x 0 0 [] (tk L (s).i).text 0 m q) else bF L (s).i 1) o->Ev L FF o):=by
  rw[<-a3];exact λ_ x=>x
 have P:=O h;go_in;have k:=O<|MH D P.u;go_wp2_with fail;refine k.u.mono ?_;rintro e ad ⟨l,G⟩;replace c:=O<|c.u.trans l;obtain⟨j,rfl,i⟩|⟨j,rfl⟩:=G;case inr=>exact⟨K,D3 c.u (f.u _<|Ev.pure.eq λr=>by rw[wY j];rfl) ε⟩
 replace f:=O (λo (ho:Ev L (λr=>A8 (bC L r d (s).nx) λt m=>A8 (aC L t [61]) λu (_:Unit)=>A8 (r.expr d u) λv x=>A8 (aC L v [59]) λy (_:Unit)=>aE y<|Nd.mk 17 x 0 0 [] (tk L (s).i).text 0 m q) o)=>f.u o<|ho.eq λr=>θ);generalize (tk L (s).i).text=T at*;have P:=O i;have k:=O<|SY D P.u (λg n=>S g<|kQ c.u.size n)<|kQ N c.u.size;go_wp2_with fail;refine k.u.mono ?_;rintro e ae ⟨l,o,M,F⟩;replace c:=O<|c.u.trans l;have z:=O M;cases o with
 |fail er p=>
  obtain⟨rfl,R⟩:=F;exact⟨K,D3 c.u (Ev.vf f.u z.u) R⟩
 |ok s2 m=>
  obtain⟨rfl,i,n⟩:=F;have a4:_/\_/\_/\_:=n;simp only[St.nx]at a4;replace f:=O<|Ev.vb f.u z.u;have P:=O i;have k:=O<|I7 D P.u [61];go_wp2_with fail;refine k.u.mono ?_;rintro e a7 ⟨l,G⟩;replace c:=O<|c.u.trans l;obtain⟨j,rfl,i⟩|⟨j,rfl⟩:=G;case inr=>exact⟨K,D3 c.u (Ev.vf f.u<|U3 j) ε⟩
  replace f:=O<|Ev.vb f.u<|Q8 j;clear j;have P:=O i;have a9:=i.at';clear i;have k:=O (hE (Q L-((s2).nx).i) (by grind[St.nx]) a7 H d ((s2).nx) (vQ _) (λg n=>S g<|kQ c.u.size n) (kQ N c.u.size) P.u);clear P;go_wp2_with fail;refine k.u.mono ?_;rintro e af ⟨l,o,M,F⟩;replace c:=O<|c.u.trans l;have z:=O M;clear l M k;cases o with
  |fail er p=>
   obtain⟨rfl,R⟩:=F;exact⟨K,D3 c.u (Ev.vf f.u z.u) R⟩
  |ok A x=>
   obtain⟨rfl,i,n,ac⟩:=F;have a5:_/\_/\_/\_:=n;simp only[St.nx]at a5;replace f:=O<|Ev.vb f.u z.u;clear z;have P:=O i;have aa:=i.at';clear i n;have k:=O<|I7 D P.u [59];clear P;go_wp2_with fail;refine k.u.mono ?_;rintro e ag ⟨l,G⟩;replace c:=O<|c.u.trans l;clear l k;obtain⟨j,rfl,i⟩|⟨j,rfl⟩:=G;case inr=>exact⟨K,D3 c.u (Ev.vf f.u<|U3 j) ε⟩
   replace f:=O<|Ev.vb f.u<|Q8 j;clear j;have P:=O i;have ab:=i.at';clear i;have Z:=O (U0 D P.u (Nd.mk 17 x 0 0 [] T 0 m q) none 0 0 ⟨_,K,kW _ _ _ _,ù⟩ (by grind[St.nx]) (kQ N c.u.size) λg n=>S g<|kQ c.u.size n);have EV:=O<|f.u _ Ev.pure;have GX:=O (show F8 s ⟨((A).nx).i,((A).nx).N++[(Nd.mk 17 x 0 0 [] T 0 m q)],((A).nx).T⟩ by
    grind[F8,St.nx,qQ,jQ,xQ]);have a6:(0:Int)<=(Q ((A).nx).N:Int)/\(Q ((A).nx).N:Int)<(Q (((A).nx).N++[(Nd.mk 17 x 0 0 [] T 0 m q)]):Int):=à;clear P f;go_wp2_with fail;refine Z.u.mono ?_;rintro e ah ⟨rfl,k9,p9⟩;have K9:=O<|c.u.trans k9;have P9:=O p9;clear k9 p9 Z;go_wp2_with fail;go_ret;exact G0 K9.u EV.u P9.u GX.u a6
def Hm(F:cY L)(m)(hE:∀M,M<=m->bG B a b L 215 (λd s r=>r.expr d s) M)(j i)(w:E)(n:Nat->Prop)(d)(s:St)(hm:Q L-s.i<=m)(G:∀g,V w.heap<=g->n g)(D:B<=V w.heap)(h:aH w B a b L n d s):
 μ η 187 #[pV a,U j,U i] w (Z3 w B a b L n d s λr=>A8 (r.expr d s) λq x=>A8 (aC L q [59]) λt _=>aE t<|Nd.mk j x 0 0 [] [] 0 (-1) i):=by
 have a5:=h.fq;have c:=O<|Kept.refl B n w;generalize a2:(λ(r:Sp)=>A8 (r.expr d s) λq x=>A8 (aC L q [59]) λt _=>aE t<|Nd.mk j x 0 0 [] [] 0 (-1) i)=R;have f:Hid (∀o,Ev L (λr=>A8 (r.expr d s) λq x=>A8 (aC L q [59]) λt _=>aE t<|Nd.mk j x 0 0 [] [] 0 (-1) i) o->Ev L R o):=by
  rw[<-a2];exact λ_ x=>x
 have P:=O h;go_in;have u:=O (hE (Q L-(s).i) W w n d (s) (vQ _) (λg l=>G g<|kQ c.u.size l) (kQ D c.u.size) P.u);go_wp2_with fail;refine u.u.mono ?_;rintro e a8 ⟨y,o,a3,H⟩;replace c:=O<|c.u.trans y;have A:=O a3;cases o with
 |fail er p=>
  obtain⟨rfl,he⟩:=H;exact⟨K,D3 c.u (Ev.vf f.u A.u) he⟩
 |ok k x=>
  obtain⟨rfl,z,l,a7⟩:=H;have a6:_/\_/\_/\_:=l;skip;replace f:=O<|Ev.vb f.u A.u;have P:=O z;have u:=O<|I7 F P.u [59];go_wp2_with fail;refine u.u.mono ?_;rintro e a9 ⟨y,hr⟩;replace c:=O<|c.u.trans y;obtain⟨v,rfl,z⟩|⟨v,rfl⟩:=hr;case inr=>exact⟨K,D3 c.u (Ev.vf f.u<|U3 v) ε⟩
  replace f:=O<|Ev.vb f.u<|Q8 v;have P:=O z;have T:=O (Q6 F P.u (Nd.mk j x 0 0 [] [] 0 (-1) i) 0 none 0 0 ⟨_,K,kW _ _ _ _,ù⟩ K (by grind[St.nx]) (kQ D c.u.size) λg l=>G g<|kQ c.u.size l);have N:=O<|f.u _ Ev.pure;have S:=O (show F8 s ⟨((k).nx).i,((k).nx).N++[(Nd.mk j x 0 0 [] [] 0 (-1) i)],((k).nx).T⟩ by
   grind[F8,St.nx,qQ,jQ,xQ]);have a4:0<=(Q ((k).nx).N:Int)/\(Q ((k).nx).N:Int)<(Q (((k).nx).N++[(Nd.mk j x 0 0 [] [] 0 (-1) i)]):Int):=à;go_wp2_with fail;refine T.u.mono ?_;rintro e aa ⟨rfl,k9,p9⟩;have Z:=O<|c.u.trans k9;have P9:=O p9;go_wp2;go_ret;exact G0 Z.u N.u P9.u S.u a4
def Yw(N:cY L)(m)(hE:∀k,k<=m->bG B a b L 215 (λd s r=>r.expr d s) k)(hK:∀k,k<=m->bG B a b L 217 (λd s r=>r.block d s) k)(j)(w)(l)(d)(s)(hm:Q L-s.i<=m)(H:∀g,V w.heap<=g->l g)(A:B<=V w.heap)(h:aH w B a b L l d s):
 μ η 189 #[pV a,U j] w (Z3 w B a b L l d s λr=>A8 (vL L d s r) λu x=>A8 (r.block d u) λv y=>aE v<|Nd.mk 23 x y 0 [] [] 0 (-1) j):=by
 have a5:=h.fq;have c:=O<|Kept.refl B l w;generalize a2:(λr=>A8 (vL L d s r) λu x=>A8 (r.block d u) λv y=>aE v<|Nd.mk 23 x y 0 [] [] 0 (-1) j)=T;have i:Hid (∀o,Ev L (λr=>A8 (vL L d s r) λu x=>A8 (r.block d u) λv y=>aE v<|Nd.mk 23 x y 0 [] [] 0 (-1) j) o->Ev L T o):=by
  rw[<-a2];exact λ_ x=>x
 have P:=O h;go_in;have z:=O (Av N (Q L-(s).i) (λk a8=>hE k W) w l d (s) (vQ _) (λg f=>H g<|kQ c.u.size f) (kQ A c.u.size) P.u);go_wp2_with fail;refine z.u.mono ?_;rintro e a4 ⟨G,o,F,t⟩;replace c:=O<|c.u.trans G;have q:=O F;cases o with
 |fail er p=>
  obtain⟨rfl,D⟩:=t;exact⟨K,D3 c.u (Ev.vf i.u q.u) D⟩
 |ok R x=>
  obtain⟨rfl,M,f,a9⟩:=t;have a6:=f;skip;replace i:=O<|Ev.vb i.u q.u;have P:=O M;have z:=O (hK (Q L-(R).i) W a4 l d (R) (vQ _) (λg f=>H g<|kQ c.u.size f) (kQ A c.u.size) P.u);go_wp2_with fail;refine z.u.mono ?_;rintro e ab ⟨G,o,F,t⟩;replace c:=O<|c.u.trans G;have q:=O F;cases o with
  |fail er p=>
   obtain⟨rfl,D⟩:=t;exact⟨K,D3 c.u (Ev.vf i.u q.u) D⟩
  |ok n y=>
   obtain⟨rfl,M,f,aa⟩:=t;have a7:_/\_/\_/\_:=f;skip;replace i:=O<|Ev.vb i.u q.u;have P:=O M;have HA:=O (Q6 N P.u (Nd.mk 23 x y 0 [] [] 0 (-1) j) 0 none 0 0 ⟨_,K,kW _ _ _ _,ù⟩ K W (kQ A c.u.size) λg f=>H g<|kQ c.u.size f);have S:=O<|i.u _ Ev.pure;have Z:=O (show F8 s ⟨(n).i,(n).N++[(Nd.mk 23 x y 0 [] [] 0 (-1) j)],(n).T⟩ by
    grind[F8,qQ,jQ,xQ]);have a3:0<=(Q (n).N:Int)/\(Q (n).N:Int)<(Q ((n).N++[(Nd.mk 23 x y 0 [] [] 0 (-1) j)]):Int):=à;go_wp2_with fail;refine HA.u.mono ?_;rintro e ac ⟨rfl,k9,p9⟩;have K9:=O<|c.u.trans k9;have P9:=O p9;go_wp2;go_ret;exact G0 K9.u S.u P9.u Z.u a3
def Zw(Z:cY L)(a3)(hE:∀A,A<=a3->bG B a b L 215 (λd s r=>r.expr d s) A)(hK:∀A,A<=a3->bG B a b L 217 (λd s r=>r.block d s) A)(n)(w)(t)(d)(s)(hm:Q L-s.i<=a3)(M:∀g,V w.heap<=g->t g)(G:B<=V w.heap)(a5:aH w B a b L t d s):
 μ η 188 #[pV a,U n] w (Z3 w B a b L t d s λr=>A8 (vL L d s r) λS x=>A8 (r.block d S) λl y=>A8 (if aL L (l).i [[101,108,115,101]] then r.block d (l).nx else C<|.ok (l)<|-1) λT z=>aE T<|Nd.mk 22 x y z [] [] 0 (-1) n):=by
 have ac:=a5.fq;have c:=O<|Kept.refl B t w;generalize a6:(λr=>A8 (vL L d s r) λS x=>A8 (r.block d S) λl y=>A8 (if aL L (l).i [[101,108,115,101]] then r.block d (l).nx else C<|.ok (l)<|-1) λT z=>aE T<|Nd.mk 22 x y z [] [] 0 (-1) n)=FF;have i:Hid (∀o,Ev L (λr=>A8 (vL L d s r) λS x=>A8 (r.block d S) λl y=>A8 (if aL L (l).i [[101,108,115,101]] then r.block d (l).nx else C<|.ok (l)<|-1) λT z=>aE T<|Nd.mk 22 x y z [] [] 0 (-1) n) o->Ev L FF o):=by
  rw[<-a6];exact λ_ x=>x
 have P:=O a5;go_in;have k:=O (Av Z (Q L-(s).i) (λA ah=>hE A W) w t d (s) (vQ _) (λg f=>M g<|kQ c.u.size f) (kQ G c.u.size) P.u);go_wp2_with fail;refine k.u.mono ?_;rintro e aa ⟨q,o,v,u⟩;replace c:=O<|c.u.trans q;have m:=O v;cases o with
 |fail er p=>
  obtain⟨rfl,H⟩:=u;exact⟨K,D3 c.u (Ev.vf i.u m.u) H⟩
 |ok s1 x=>
  obtain⟨rfl,h,f,ai⟩:=u;have ad:=f;skip;replace i:=O<|Ev.vb i.u m.u;have P:=O h;clear h f;have k:=O (hK (Q L-(s1).i) W aa t d (s1) (vQ _) (λg f=>M g<|kQ c.u.size f) (kQ G c.u.size) P.u);clear P;go_wp2_with fail;refine k.u.mono ?_;rintro e al ⟨q,o,v,u⟩;replace c:=O<|c.u.trans q;have m:=O v;clear q v k;cases o with
  |fail er p=>
   obtain⟨rfl,H⟩:=u;exact⟨K,D3 c.u (Ev.vf i.u m.u) H⟩
  |ok j y=>
   obtain⟨rfl,h,f,aj⟩:=u;have ae:_/\_/\_/\_:=f;skip;replace i:=O<|Ev.vb i.u m.u;clear m;have P:=O h;have af:=h.at';clear h f;have k:=H7 Z P.u [101,108,115,101];generalize hq:aL L (j).i [[101,108,115,101]]=a9 at k;have HQ:=O hq;have H2:=O k;clear P hq k;go_wp2_with fail;refine H2.u.mono ?_;rintro e a4 ⟨rfl,q,h⟩;replace c:=O<|c.u.trans q;clear q H2;cases a9;case false=>
    have P:Hid (aH a4 B a b L t d<|j):=h;replace i:=O (Ev.vb i.u<|Ev.pure.eq λr=>by rw[HQ.u];rfl);clear h;have F:=O (Q6 Z P.u (Nd.mk 22 x y (-1) [] [] 0 (-1) n) 0 none 0 0 ⟨_,K,kW _ _ _ _,ù⟩ K W (kQ G c.u.size) λg f=>M g<|kQ c.u.size f);have EV:=O<|i.u _ Ev.pure;have GX:=O (show F8 s ⟨(j).i,(j).N++[(Nd.mk 22 x y (-1) [] [] 0 (-1) n)],(j).T⟩ by
     grind[F8,qQ,jQ,xQ]);have a2:(0:Int)<=(Q (j).N:Int)/\(Q (j).N:Int)<(Q ((j).N++[(Nd.mk 22 x y (-1) [] [] 0 (-1) n)]):Int):=à;clear P i;go_wp2_with fail;refine F.u.mono ?_;rintro e ab ⟨rfl,N,R⟩;have K9:=O<|c.u.trans N;have P9:=O R;clear N R F;go_wp2_with fail;go_ret;exact G0 K9.u EV.u P9.u GX.u a2
   case true=>
    have P:Hid (aH a4 B a b L t d (j).nx):=h;have a8:=h.at';simp only[St.nx]at a8;clear h;have k:=O (hK (Q L-(j).nx.i) (by grind[St.nx]) a4 t d (j).nx (vQ _) (λg f=>M g<|kQ c.u.size f) (kQ G c.u.size) P.u);clear P;go_wp2_with fail;refine k.u.mono ?_;rintro e am ⟨q,o,v,u⟩;replace c:=O<|c.u.trans q;have m:=O (v.eq (ψ:=λr=>if aL L (j).i [[101,108,115,101]] then r.block d (j).nx else C<|.ok (j)<|-1) λr=>by rw[HQ.u];rfl);clear q v k;cases o with
    |fail er p=>
     obtain⟨rfl,H⟩:=u;exact⟨K,D3 c.u (Ev.vf i.u m.u) H⟩
    |ok D z=>
     obtain⟨rfl,h,f,ak⟩:=u;have a7:_/\_/\_/\_:=f;simp only[St.nx]at a7;replace i:=O<|Ev.vb i.u m.u;clear m;have P:=O h;have ag:=h.at';clear h f;have F:=O (Q6 Z P.u (Nd.mk 22 x y z [] [] 0 (-1) n) 0 none 0 0 ⟨_,K,kW _ _ _ _,ù⟩ K W (kQ G c.u.size) λg f=>M g<|kQ c.u.size f);have EV:=O<|i.u _ Ev.pure;have GX:=O (show F8 s ⟨(D).i,(D).N++[(Nd.mk 22 x y z [] [] 0 (-1) n)],(D).T⟩ by
      grind[F8,qQ,jQ,xQ]);have a2:(0:Int)<=(Q (D).N:Int)/\(Q (D).N:Int)<(Q ((D).N++[(Nd.mk 22 x y z [] [] 0 (-1) n)]):Int):=à;clear P i;go_wp2_with fail;refine F.u.mono ?_;rintro e ab ⟨rfl,N,R⟩;have K9:=O<|c.u.trans N;have P9:=O R;clear N R F;go_wp2_with fail;go_ret;exact G0 K9.u EV.u P9.u GX.u a2
def yq{d}{s}{c}(e:aL L s.i [[125]]=τ):Ev L (λr=>r.gj d s c) (.ok s.nx c):=
 Ev.step (Ev.pure.eq λr=>by show (if aL L s.i [[125]] then _ else _)=_;grind)
def Ĥ{d}{s}{c}{o}(e:aL L s.i [[125]]=κ)(h:Ev L (λr=>A8 (r.gy d s) λs x=>r.gj d s<|c++[x]) o):Ev L (λr=>r.gj d s c) o:=
 Ev.step (h.eq λr=>by show (if aL L s.i [[125]] then _ else _)=_;grind)
def C8d(F:cY L)(ah)(hS:∀m',m'<ah->bG B a b L 94 (λd s r=>r.gy d s) m'):bG B a b L 217 (λd s r=>r.block d s) ah:=by
 intro w t d s hm a4 hB h;have b4:=F.jq;have HA:=O<|xP F h;have ai:Hid (∀S,I No w S->aH S B a b L t d s):=λS ha=>h.y ha;have ό:Hid (∀o,Ev L (λr=>A8 (aC L s [123]) λs1 _=>A8 (r.gj d s1 []) λu l=>aE u<|Nd.mk 26 0 0 0 l [] 0 (-1) ((tk L s.i).at':Int)) o->Ev L (λr=>r.block d s) o):=λo ho=>Ev.step<|ho.eq λr=>K;obtain⟨i0,an,ao,ap,aq⟩:=info_parts Tryz.fy;generalize ((tk L s.i).at':Int)=D at*;go_in;go_wp2_with fail;refine HA.u.mono ?_;rintro e av ⟨rfl,hc⟩;have K1:=O<|C9 (B:=B) (ok:=t) hc;have H1:=O<|I7 F (ai.u av hc) [123];go_wp2_with fail;refine H1.u.mono ?_;rintro e b6 ⟨k,hr⟩;have K2:=O<|K1.u.trans k;obtain⟨T,rfl,n⟩|⟨T,rfl⟩:=hr;case inr=>exact⟨K,D3 K2.u (ό.u _<|Ev.bad<|U3 T) ε⟩
 have V2:=O<|Ev.vb ό.u<|Q8 T;have aj:=O n;go_wp2;go_loopw [4] (λau wr=>∃(f:uZ) (i:St) (m:Option Addr) (c:Nat),au=Y m (Q f) c/\Q f<=i.i/\Hid (Kept B t w wr)/\Hid (L9 s.nx i)/\Hid (wr.ownsRow (V w.heap) 3 1 (Y m (Q f) c) (Q f)<|C8 f)/\
  Hid (aH wr B a b L (λg=>t g/\C g≠Δ (Y m (Q f) c)) d i)/\Hid (∀o,Ev L (λr=>A8 (r.gj d i f) λu l=>aE u<|Nd.mk 26 0 0 0 l [] 0 (-1) D) o->Ev L (λr=>r.block d s) o)) (λ_ wr=>Q L-qI wr a);case atStart=>exact⟨[],s.nx,none,0,K,ι,K2.u,⟨vQ _,W,W,W⟩,kW _ _ _ _,aj.u.mono λg j _=>⟨j,ù⟩,V2.u⟩
 case round=>
  obtain⟨f,i,m,c,rfl,ax,KR,GR,OR,z,A⟩:=hrel;have HT:=H7 F z.u [125];have b0:=z.u.at';have b3:=z.u.j3;have ay:=z.u.fq;have am:=GR.u;simp only[L9,St.nx]at am;generalize hq:aL L i.i [[125]]=ar at*;have R:=O hq;clear hq;go_wp2_with fail;refine HT.mono ?_;clear HT;rintro e a5 ⟨rfl,k,n⟩;have q:=O<|KR.u.trans<|k.mono λ_ h=>h.1;have v:=O (G9 OR.u k ε);have M:=O n;clear k n OR z KR;cases ar
  .have x:Hid (aH a5 B a b L (λg=>t g/\C g≠Δ (Y m (Q f) c)) d i):=M.u;clear M;have HM:=O (hS (Q L-i.i) W a5 _ d i (vQ _) (λg j=>⟨a4 g<|kQ q.u.size j,λhx=>by have:=(v.u.lt g hx.symm).2;omega⟩) (kQ hB q.u.size) x.u);clear x;go_wp2_with fail;refine HM.u.mono ?_;rintro e aw ⟨k,o,ac,ae⟩;have G:=O<|q.u.trans<|k.mono λ_ h=>h.1;have H:=O (G9 v.u k ε);have E4:=O ac;clear k ac q v HM;cases o with
   |fail er p=>
    obtain⟨rfl,he⟩:=ae;exact⟨K,D3 G.u (A.u _<|Ev.bad<|Ĥ R.u<|Ev.bad (k:=λr s a6=>r.gj d s<|f++[a6]) E4.u) he⟩
   |ok P y=>
    obtain⟨rfl,n,j,_⟩:=ae;have a8:=O n;have az:_/\_/\_/\_:=j;have b2:=n.at';clear n j;have VN:=O (λo (ho:Ev L (λr=>A8 (r.gj d P<|f++[y]) λu l=>aE u<|Nd.mk 26 0 0 0 l [] 0 (-1) D) o)=>A.u o (by
     obtain⟨ak,h1⟩:=E4.u;obtain⟨al,h2⟩:=ho;refine⟨ak+al+1,λaa hf=>?_⟩;obtain⟨g,rfl⟩:∃g,aa=g+1:=⟨aa-1,W⟩;have a1:(gW L g).gy d i=C (.ok P y):=h1 g W;have a2:=h2 g W;have a3:=h2 (g+1) W;show A8 (if aL L i.i [[125]] then C (.ok i.nx f) else A8 ((gW L g).gy d i) λs a6=>(gW L g).gj d s<|f++[a6]) _=C o;rw[R.u,wY ε,a1];exact a2));clear A;have ag:=O<|H.u.alloc<|γ #[U y] 3;go_wp2_with (at_builtin;refine wpList_append_own_at _ K _ _ 63 K (V w.heap) 3 i0 (U 0) 1 8 underlying63 an ao ap aq K ε _ _ _ K ag.u (J (V aw.heap) 0) 1 1 [U y] K K ?c1 ?c2 ?c3 ?c4 ?c5 ?_);case c1=>grind[cell_one_new]
    case c2=>intro b5 hu;simp at hu;obtain rfl:=hu;rfl
    case c3=>grind[Γ]
    case c4=>omega
    case c5=>have:=G.u.size;simp;omega
    intro v' b7 N Z _ ab;obtain⟨a9,c2,af⟩:=B8 N;rw[af]at N ab⊢;have PG:=O ((a8.u.alloc<|γ #[U y] 3).grown (v:=Y m (Q f) c) (v':=Y a9 (Q f+1) c2) (H.u.alloc _) (.inl K) Z ð);have KG:=O<|(G.u.alloc<|γ #[U y] 3).grown (H.u.alloc _) Z;have OG:=O N;clear N Z ab ag a8 H G af;go_wp2_with fail;go_roundw;case rel=>
     refine⟨f++[y],P,a9,c2,ι,θ,KG.u,(show L9 s.nx P from by grind[L9,St.nx]),?_,?_,VN.u⟩<;>simp_all[ξ,T4]
    case measure=>
     have h3:=PG.u.j3;omega
  .have x:Hid (aH a5 B a b L (λg=>t g/\C g≠Δ (Y m (Q f) c)) d i.nx):=M.u;have PY:=O<|x.u.mono (ok':=t) λg j _=>j.1;have b1:=x.u.at';clear M x;have a7:=O (Q6 F PY.u (Nd.mk 26 0 0 0 f [] 0 (-1) D) 0 m (Q f) c ⟨_,K,C7 v.u<|wQ _,λg j=>a4 g (A9 v.u g j).1⟩ K (by grind[St.nx]) (kQ hB q.u.size) λg j=>a4 g<|kQ q.u.size j);have EV:=O<|A.u _<|Ev.bind (k:=λ_ u l=>aE u<|Nd.mk 26 0 0 0 l [] 0 (-1) D) (yq R.u) Ev.pure;have GX:=O (show F8 s ⟨i.nx.i,i.nx.N++[Nd.mk 26 0 0 0 f [] 0 (-1) D],i.nx.T⟩ by
    grind[F8,St.nx,qQ,jQ,xQ]);clear PY A v;go_wp2_with fail;refine a7.u.mono ?_;rintro e b8 ⟨rfl,k9,p9⟩;have K9:=O<|q.u.trans k9;have P9:=O p9;clear k9 p9 a7;go_wp2_with fail;go_ret;exact G0 K9.u EV.u P9.u GX.u θ
end
section
variable{w:E}{B a:Nat}{c:χ}{L:List Tk}{b:Nat->Prop}{d:Nat}{s:St}
def Qx(k)(w:E):μ η 236 #[U k] w λe i=>e=π (U<|lX k)/\i=w:=by
 by_cases f:k=5
 .subst f;go_in;go_wp2;go_ret;exact⟨K,K⟩
 .by_cases g:k=8
  .subst g;go_in;go_wp2;go_ret;exact⟨K,K⟩
  .by_cases h:k=9
   .subst h;go_in;go_wp2;go_ret;exact⟨K,K⟩
   .have e:lX k=0:=by simp[lX,f,g,h]
    rw[e];go_in;go_wp2;go_ret;exact⟨K,K⟩
def aH.cut(h:aH w B a c L b d s){k g f}(hk:k<Q s.N)(h3:δ w (J a 3)=C (Y (C<|J g 0) (Q s.N) f)):
 aH (ρ w (J a 3)<|Y (C<|J g 0) k f) B a c L b d ⟨s.i,s.N.take k,s.T⟩/\Kept B b w (ρ w (J a 3)<|Y (C<|J g 0) k f):=by
 have a7:=h.ju 3<|Y (C<|J g 0) k f;obtain⟨h1,h2,hf,D,F,R,z,y,yx,l,hn,N,a8,a9⟩:=h;have p:δ w (J a 3)=C R:=cr l K;have c4:δ w (J a 4)=C z:=cr l K;have Z:R=Y (C<|J g 0) (Q s.N) f:=by rw[h3]at p;exact(xZ p).symm
 subst Z;have m:=I.set w (J a 3)<|Y (C<|J g 0) k f;have u:∀{A:Nat} {e:TypeId} {S:Nat} {v:χ} {n:Nat} {T:List χ},ξ w A e S v n T->e≠115->∀g,Δ v=C g->¬g=a:=by
  intro A e S v n T ho t g hg M;subst M;obtain⟨_,j,i⟩:=A9 ho g hg;rw[l]at i;simp only[zQ,xW]at i;exact t i.2.1.symm
 have P:∀g,b g->g<V w.heap->g=a->(∃j e,w.heap[g]?=C (γ j e (0,0))/\(e=156\/e=3))->False:=by
  rintro g _ _ rfl ⟨j,e,i,t⟩;rw[l]at i;simp at i;obtain rfl|rfl:=t
  .grind
  .grind
 have r:(ρ w (J a 3)<|Y (C<|J g 0) k f).heap[a]?=C (γ #[c,U s.i,U d,Y (C<|J g 0) k f,z] 115 (0,0)):=by rw[ê w a 3 _ _ _ l];rfl
 have hcut:ξ w B 93 9 (Y (C<|J g 0) k f) k (y.take<|k*9):=by
  obtain⟨M,_⟩|⟨q,ab,j,H,a2,a6,ac,a3,a4,ad⟩:=hn.2
  .omega
  .simp at H;obtain⟨rfl,rfl⟩:=H;refine⟨?_,.inr ⟨g,f,j,K,a2,a6,W,a3,a4,?_⟩⟩<;>grind
 have hl:Q (s.N.take k)=k:=by rw[List.length_take];omega
 have a5:ξ (ρ w (J a 3)<|Y (C<|J g 0) k f) B 93 9 (Y (C<|J g 0) k f) (Q (s.N.take k)) (y.take<|k*9):=by
  rw[hl];exact A3 hcut m (u hcut ε)
 refine⟨⟨h1,h2,⟨θ,hf.2⟩,A3 D m<|u D ε,?_,Y (C<|J g 0) k f,z,y.take<|k*9,yx,r,a5,A3 N m<|u N ε,(eN.take (λ_ _ h=>gE.len h) k a8).imp<|gE.P m P λ_ x _=>x,a9.imp<|eI.P m P λ_ x _=>x⟩,a7⟩;refine⟨F.1,λaa q o G=>?_,λaa q o G=>?_⟩
 .rw[á _ a 3 _ _ _ r]at o;cases o;exact F.2.1 _ q p G
 .rw[á _ a 4 _ _ _ r]at o;grind
def aH.ll(h:aH w B a c L b d s){k}(t):∃g l i j,δ w (J a 3)=C (Y (C<|J g 0) (Q s.N) l)/\Q s.N<=l/\l<=Γ/\g<V w.heap/\a<V w.heap/\w.frozen? (J a 3)=κ/\
 δ w (J g<|k*9)=C (U s.N[k].x)/\δ w (J g<|k*9+1)=C (U s.N[k].a)/\δ w (J g<|k*9+2)=C (U s.N[k].b)/\δ w (J g<|k*9+3)=C (U s.N[k].c)/\δ w (J g<|k*9+4)=C (Y i (Q s.N[k].M) j)/\
 δ w (J g<|k*9+5)=C (ζ ⟨ν s.N[k].text⟩)/\δ w (J g<|k*9+6)=C (U s.N[k].n)/\δ w (J g<|k*9+7)=C (U s.N[k].ty)/\δ w (J g<|k*9+8)=C (U s.N[k].at')/\
 ξ w 0 3 1 (Y i (Q s.N[k].M) j) (Q s.N[k].M) (C8 s.N[k].M)/\(∀g,Δ (Y i (Q s.N[k].M) j)=C g->b g):=by
 obtain⟨H,N,M,P,m,o,A,x,z⟩:=h.blk;obtain⟨F,y,rfl⟩:=B8 o;obtain⟨g,rfl,_,q,p,r,f⟩:=D5 o W;obtain⟨G,u,e⟩:=eN.at (λ_ _ h=>gE.len h) k t x;obtain⟨D,rfl,n,v⟩:=u;obtain⟨i,j,rfl⟩:=B8 n;exact⟨g,y,i,j,cr m K,p,r,q,(aG m),ã w a 3 _ _ m,f _ _<|(e 0 W).trans K,f _ _<|(e 1 W).trans K,f _ _<|(e 2 W).trans K,f _ _<|(e 3 W).trans K,f _ _<|(e 4 W).trans K,f _ _<|(e 5 W).trans K,f _ _<|(e 6 W).trans K,f _ _<|(e 7 W).trans K,f _ _<|(e 8 W).trans K,n,v⟩
def Gx(w:E)(e f){n}(g:V w.heap=n):((w.alloc e).alloc f).heap[n]?=C e:=by
 grind[heap_alloc_old,rY]
def Zn(w:E)(f e){n}(g:V w.heap=n):((w.alloc f).alloc e).heap[n+1]?=C e:=by
 subst g;have h:=rY (w.alloc f) e;simp_all
def I.put{S}{f e}{q o}{v}(h:I S f e)(g:S q):I S f (ρ e (J q o) v):=
 h.trans (I.mono (I.set e (J q o) v) λ_ _ x=>θ) λ_ _ x=>x
def Bp(w:E)(B a:Nat)(c:χ)(L:List Tk)(b:Nat->Prop)(d:Nat)(s:St)(k:Nat)(n:Nd)(m:Sp->Option (Out Int))(e:é)(j:E):Prop:=
 Kept B b w j/\∃o,Ev L m o/\match o with
  |.ok f v=>(∃h i,e=π (.agg #[U (kJ n v).x,U (kJ n v).a,U (kJ n v).b,U (kJ n v).c,Y h (Q n.M) i,ζ ⟨ν n.text⟩,U n.n,U n.ty,U n.at'])/\ξ j 0 3 1 (Y h (Q n.M) i) (Q n.M) (C8 n.M)/\∀g,Δ (Y h (Q n.M) i)=C g->b g)/\aH j B a c L b d f/\s.i+1<f.i/\Q f.N+s.i+1<=Q s.N+f.i/\Q f.T+s.i+1<=Q s.T+f.i/\k<=Q f.N
  |.fail l p=>e=gu l p/\l≠0
def QG{w m t}{b j}{d k}{s l}{n}{x}{f}{h}{e}{o}(z:Kept B b w m)(D:Ev L o<|.ok l x)(M:aH m B a c L j d l)(F:F8 ⟨s.i+1,s.N.take k,s.T⟩ l)
 (G:ξ w 0 3 1 (Y f (Q n.M) h) (Q n.M)<|C8 n.M) (H:∀g,Δ (Y f (Q n.M) h)=C g->b g) (Z:Q (s.N.take k)=k) (N:∀g,j g->b g) (S:¬j (V w.heap)) (T:¬j (V w.heap+1)) (a2:Δ c≠C (V w.heap)) (a3:Δ c≠C (V w.heap+1))
 (r:I (λi=>i=V w.heap\/i=V w.heap+1) m t) (A:e=π (.agg #[U (kJ n x).x,U (kJ n x).a,U (kJ n x).b,U (kJ n x).c,Y f (Q n.M) h,ζ ⟨ν n.text⟩,U n.n,U n.ty,U n.at'])):Bp w B a c L b d s k n o e t:=by
 have q:=z.trans' r (λi P x=>W);have R:Q (s.N.take k)<=Q s.N:=by rw[List.length_take];omega
 obtain⟨p,u,v,y⟩:=F;simp only at p u v y;refine⟨q,_,D,⟨f,h,A,G9 G q ε,H⟩,M.free r ?_ λg x _=>N g x,p,W,W,W⟩;grind
def B7e(hL:cY L)(ao)(hE:∀m',m'<ao->bG B a c L 215 (λd s r=>r.expr d s) m')(w)(b)(d)(s)(k:Nat)(hk)(hq:aL L s.i [[61]]=τ)(hm:Q L-s.i<=ao)(ax:∀g,V w.heap<=g->b g)(hB:B<=V w.heap)(aa:aH w B a c L b d s):
 μ η 218 #[pV a,U k] w (Bp w B a c L b d s k s.N[k] λr=>if lX s.N[k].x=0 then bF L s.i 1 else r.expr d ⟨s.i+1,s.N.take k,s.T⟩):=by
 have hi:=aa.at';obtain⟨g,al,j,l,c3,bb,av,D,be,ar,n0,n1,n2,n3,n4,n5,n6,n7,n8,hl,an⟩:=aa.ll hk;unfold Γ at av;generalize au:(λ(r:Sp)=>if lX s.N[k].x=0 then bF L s.i 1 else r.expr d ⟨s.i+1,s.N.take k,s.T⟩)=FF;have M:Hid (∀o,Ev L (λr=>if lX s.N[k].x=0 then bF L s.i 1 else r.expr d ⟨s.i+1,s.N.take k,s.T⟩) o->Ev L FF o):=by
  rw[<-au];exact λ_ x=>x
 have hcut:=aa.cut hk c3;have ag:Q (s.N.take k)=k:=by rw[List.length_take];omega
 have H0:=O aa;have HK:=O λx ap=>Qx x ap;generalize s.N[k]=nd at*;obtain⟨i,v,y,z,n,t,q,u,m⟩:=nd;simp only at n0 n1 n2 n3 n4 n5 n6 n7 n8 hl an M⊢;have HL:=O hl;have ad:=O an;have ah:=H0.u.kq<|vQ _;have ai:Δ c≠C (V w.heap+1):=H0.u.kq W;by_cases ab:lX i=0
 .have G:=O<|HK.u i<|(σ w<|γ #[U 0,U 0,U 0,U 0,sN,ζ ⟨#[]⟩,U 0,U 0,U 0] 93).alloc<|aM i v y z (Y j (Q n) l) t q u m;rw[ab]at G;have af:I No w ((σ w<|γ #[U 0,U 0,U 0,U 0,sN,ζ ⟨#[]⟩,U 0,U 0,U 0] 93).alloc<|aM i v y z (Y j (Q n) l) t q u m):=(I.alloc No _ _).trans (I.alloc No _ _) λ_ _ x=>x;have HF:=O<|vP hL (H0.u.y af) 1;have K1:=O<|C9 (B:=B) (ok:=b) af;have F:=O (M.u (.fail 1 ((tk L s.i).at':Int))<|Ev.pure.eq λr=>by rw[yY ab];rfl);clear af M hcut;go_in;go_wp2_with fail;refine G.u.mono ?_;rintro a9 az ⟨rfl,rfl⟩;go_wp2_with fail;refine HF.u.mono ?_;rintro a9 aj ⟨rfl,hc⟩;exact⟨K,K1.u.trans<|C9 hc,_,F.u,K,ε⟩
 .have G:=O<|HK.u i<|(σ w<|γ #[U 0,U 0,U 0,U 0,sN,ζ ⟨#[]⟩,U 0,U 0,U 0] 93).alloc<|aM i v y z (Y j (Q n) l) t q u m;have hz:V (ρ w (J a 3)<|Y (C<|J g 0) k al).heap=V w.heap:=ι;let A:Nat->Prop:=λg=>b g/\g≠V w.heap/\g≠V w.heap+1;have ak:aH ((σ (ρ w (J a 3)<|Y (C<|J g 0) k al)<|γ #[U 0,U 0,U 0,U 0,sN,ζ ⟨#[]⟩,U 0,U 0,U 0] 93).alloc<|aM i v y z (Y j (Q n) l) t q u m) B a c L A d ⟨s.i,s.N.take k,s.T⟩:=
   ((hcut.1.mono λg D bc=>⟨D,W,W⟩).alloc _).alloc _;have HN:=O<|I7 hL ak [61];have K1:=O<|(hcut.2.alloc<|γ #[U 0,U 0,U 0,U 0,sN,ζ ⟨#[]⟩,U 0,U 0,U 0] 93).alloc<|aM i v y z (Y j (Q n) l) t q u m;have R:¬A (V w.heap):=λx=>x.2.1 K;have S:¬A (V w.heap+1):=λx=>x.2.2 K;have ay:∀g,V w.heap+2<=g->A g:=λg D=>⟨ax g W,W,W⟩;have Z:∀g,A g->b g:=λg x=>x.1;have bd:∀g,b g->g<V w.heap->A g:=λg x bi=>⟨x,W,W⟩;clear_value A;clear ak hcut;have FK:=O ab;clear ab;generalize H:lX i=kk at G;go_in;go_wp2_with fail;refine G.u.mono ?_;rintro a9 az ⟨rfl,rfl⟩;have fk:(kk==0)=κ:=by simpa[<-H]using FK.u
  go_wp2_with fail;refine HN.u.mono ?_;rintro a9 aj ⟨N,ac⟩;have f:=J2 N (Gx _ _ _ hz) R;have h:=J2 N (Zn _ _ _ hz) S;have bg:V w.heap+2<=V aj.heap:=by have:=N.size;simpa using this
  have K2:=O<|K1.u.trans<|N.mono Z;clear HN N K1 G;obtain⟨_,rfl,T⟩|⟨hx,_⟩:=ac;rotate_left
  .rw[hq]at hx;cases hx
  have H1:=O (hE (Q L-(s.i+1)) W aj A d ⟨s.i+1,s.N.take k,s.T⟩ (vQ _) (λg D=>ay g W) W T);clear T;go_wp2_with fail;refine H1.u.mono ?_;rintro a9 e ⟨P,o,am,ac⟩;have f:=J2 P f R;have h:=J2 P h S;have K3:=O<|K2.u.trans<|P.mono Z;have F:=O (M.u o<|am.eq λr=>θ);have bh:=P.size;clear P am M H1 K2;cases o with
  |fail er p=>
   obtain⟨rfl,he⟩:=ac;exact⟨K,K3.u,_,F.u,K,he⟩
  |ok s3 x=>
   obtain⟨rfl,T,D,bf⟩:=ac;have ae:=O T;have G3:=O D;clear T D;have a0:δ e (J (V w.heap) 0)=C (U 0):=cr f K;have a1:δ e (J (V w.heap) 1)=C (U 0):=cr f K;have a2:δ e (J (V w.heap) 2)=C (U 0):=cr f K;have a3:δ e (J (V w.heap) 3)=C (U 0):=cr f K;have a4:δ e (J (V w.heap) 4)=C (sN):=cr f K;have a5:δ e (J (V w.heap) 5)=C (ζ ⟨#[]⟩):=cr f K;have a6:δ e (J (V w.heap) 6)=C (U 0):=cr f K;have a7:δ e (J (V w.heap) 7)=C (U 0):=cr f K;have a8:δ e (J (V w.heap) 8)=C (U 0):=cr f K;have b0:δ e (J (V w.heap+1) 0)=C (U i):=cr h K;have b1:δ e (J (V w.heap+1) 1)=C (U v):=cr h K;have b2:δ e (J (V w.heap+1) 2)=C (U y):=cr h K;have b3:δ e (J (V w.heap+1) 3)=C (U z):=cr h K;have b4:δ e (J (V w.heap+1) 4)=C (Y j (Q n) l):=cr h K;have b5:δ e (J (V w.heap+1) 5)=C (ζ ⟨ν t⟩):=cr h K;have b6:δ e (J (V w.heap+1) 6)=C (U q):=cr h K;have b7:δ e (J (V w.heap+1) 7)=C (U u):=cr h K;have b8:δ e (J (V w.heap+1) 8)=C (U m):=cr h K;have z0:=ã e (V w.heap) 0 _ _ f;have y0:=ã e (V w.heap+1) 0 _ _ h;have z1:=ã e (V w.heap) 1 _ _ f;have y1:=ã e (V w.heap+1) 1 _ _ h;have z2:=ã e (V w.heap) 2 _ _ f;have y2:=ã e (V w.heap+1) 2 _ _ h;have z3:=ã e (V w.heap) 3 _ _ f;have y3:=ã e (V w.heap+1) 3 _ _ h;have z4:=ã e (V w.heap) 4 _ _ f;have y4:=ã e (V w.heap+1) 4 _ _ h;have z5:=ã e (V w.heap) 5 _ _ f;have y5:=ã e (V w.heap+1) 5 _ _ h;have z6:=ã e (V w.heap) 6 _ _ f;have y6:=ã e (V w.heap+1) 6 _ _ h;have z7:=ã e (V w.heap) 7 _ _ f;have y7:=ã e (V w.heap+1) 7 _ _ h;have z8:=ã e (V w.heap) 8 _ _ f;have y8:=ã e (V w.heap+1) 8 _ _ h;have lA:V w.heap<V e.heap:=W;have lb:V w.heap+1<V e.heap:=W;have aw:i=5/\kk=18\/i=8/\kk=19\/i=9/\kk=20:=by
    have aq:=FK.u;unfold lX at H aq;split at H<;>rename_i b9
    .omega
    split at H<;>rename_i ba
    .omega
    split at H<;>rename_i c3
    .omega
    .grind
   clear H FK fk f h n0 n1 n2 n3 n4 n5 n6 n7 n8 c3 ar;obtain⟨rfl,rfl⟩|⟨rfl,rfl⟩|⟨rfl,rfl⟩:=aw
   .go_wp2_with fail;refine ä (v:=.agg #[U 18,U x,U y,U z,Y j (Q n) l,ζ ⟨ν t⟩,U q,U u,U m]) (by simp[â,results218,go_sem,a0,a1,a2,a3,a4,a5,a6,a7,a8]) K ?_;refine QG K3.u F.u ae.u G3.u HL.u ad.u ag Z R S ah ai ?_ K;iterate 11 refine I.put ?_ ι
    grind[I.refl]
   .go_wp2_with fail;refine ä (v:=.agg #[U 19,U v,U x,U z,Y j (Q n) l,ζ ⟨ν t⟩,U q,U u,U m]) (by simp[â,results218,go_sem,a0,a1,a2,a3,a4,a5,a6,a7,a8]) K ?_;refine QG K3.u F.u ae.u G3.u HL.u ad.u ag Z R S ah ai ?_ K;iterate 11 refine I.put ?_ ι
    grind[I.refl]
   .go_wp2_with fail;refine ä (v:=.agg #[U 20,U v,U y,U x,Y j (Q n) l,ζ ⟨ν t⟩,U q,U u,U m]) (by simp[â,results218,go_sem,a0,a1,a2,a3,a4,a5,a6,a7,a8]) K ?_;refine QG K3.u F.u ae.u G3.u HL.u ad.u ag Z R S ah ai ?_ K;iterate 11 refine I.put ?_ ι
    grind[I.refl]
end
section
variable{B a:Nat}{b:χ}{L:List Tk}
def BO(L:List Tk)(d:Nat)(s:St)(r:Sp):Option (Out Int):=A8 (r.expr d s) λc x=>
 if aL L c.i [[61]] then
  if lX (c.N.getD x.toNat kB).x=0 then bF L c.i 1
  else A8 (r.expr d ⟨c.i+1,c.N.take x.toNat,c.T⟩) λe v=>A8 (aC L e [59]) λf _=>aE f<|kJ (c.N.getD x.toNat kB) v
 else A8 (aC L c [59]) λe _=>aE e ⟨25,x,0,0,[],[],0,-1,iC c x⟩
def Rh(n)(v):∃f d e c,kJ n v=⟨f,d,e,c,n.M,n.text,n.n,-1,n.at'⟩:=by
 unfold kJ;split
 .simp
 split<;>exact⟨_,_,_,_,K⟩
def AJ{w:E}{q}{m l k j i g f d c v0 v1 v2 v3 v4 v5 v6 v7 v8}{e}(h:w.heap[q]?=C (γ #[m,l,k,j,i,g,f,d,c] e (0,0))):
 (ρ (ρ (ρ (ρ (ρ (ρ (ρ (ρ (ρ w (J q 0) v0) (J q 1) v1) (J q 2) v2) (J q 3) v3) (J q 4) v4) (J q 5) v5) (J q 6) v6) (J q 7) v7) (J q 8) v8).heap[q]?=C (γ #[v0,v1,v2,v3,v4,v5,v6,v7,v8] e (0,0)):=by
 have n:(ρ w (J q 0) v0).heap[q]?=C (γ #[v0,l,k,j,i,g,f,d,c] e (0,0)):=by rw[ê w q 0 _ _ v0 h];rfl
 generalize ρ w (J q 0) v0=u0 at*;have o:(ρ u0 (J q 1) v1).heap[q]?=C (γ #[v0,v1,k,j,i,g,f,d,c] e (0,0)):=by rw[ê u0 q 1 _ _ v1 n];rfl
 generalize ρ u0 (J q 1) v1=u1 at*;have p:(ρ u1 (J q 2) v2).heap[q]?=C (γ #[v0,v1,v2,j,i,g,f,d,c] e (0,0)):=by rw[ê u1 q 2 _ _ v2 o];rfl
 generalize ρ u1 (J q 2) v2=u2 at*;have r:(ρ u2 (J q 3) v3).heap[q]?=C (γ #[v0,v1,v2,v3,i,g,f,d,c] e (0,0)):=by rw[ê u2 q 3 _ _ v3 p];rfl
 generalize ρ u2 (J q 3) v3=u3 at*;have s:(ρ u3 (J q 4) v4).heap[q]?=C (γ #[v0,v1,v2,v3,v4,g,f,d,c] e (0,0)):=by rw[ê u3 q 4 _ _ v4 r];rfl
 generalize ρ u3 (J q 4) v4=u4 at*;have t:(ρ u4 (J q 5) v5).heap[q]?=C (γ #[v0,v1,v2,v3,v4,v5,f,d,c] e (0,0)):=by rw[ê u4 q 5 _ _ v5 s];rfl
 generalize ρ u4 (J q 5) v5=u5 at*;have u:(ρ u5 (J q 6) v6).heap[q]?=C (γ #[v0,v1,v2,v3,v4,v5,v6,d,c] e (0,0)):=by rw[ê u5 q 6 _ _ v6 t];rfl
 generalize ρ u5 (J q 6) v6=u6 at*;have v:(ρ u6 (J q 7) v7).heap[q]?=C (γ #[v0,v1,v2,v3,v4,v5,v6,v7,c] e (0,0)):=by rw[ê u6 q 7 _ _ v7 u];rfl
 generalize ρ u6 (J q 7) v7=u7 at*;have x:(ρ u7 (J q 8) v8).heap[q]?=C (γ #[v0,v1,v2,v3,v4,v5,v6,v7,v8] e (0,0)):=by rw[ê u7 q 8 _ _ v8 v];rfl
 omega
theorem getD_at{k}{N:List Nd}(c:k<Q N):N.getD ((k:Int)).toNat kB=N[k]:=θ
def C8c(N:cY L)(hX:∀(d) (s s') (x),Ev L (λr=>r.expr d s) (.ok s' x)->Q s.N<=x)(al)(hE:∀m',m'<=al->bG B a b L 215 (λd s r=>r.expr d s) m')(a6)(P)(d)(s)(hm:Q L-s.i<=al)(ae:∀g,V a6.heap<=g->P g)(hB:B<=V a6.heap)(ac:aH a6 B a b L P d s):
 μ η 190 #[pV a] a6 (Z3 a6 B a b L P d s<|BO L d s):=by
 have hi:=ac.at';have bj:=N.jq;have ba:=ac.fq;have HM:=O<|hE al (vQ _) a6 P d s hm ae hB ac;have S:Hid (∀o,Ev L (BO L d s) o->Ev L (BO L d s) o):=λo m=>m;generalize ah:BO L d s=FF at S⊢;rw[<-ah]at S;have S:Hid (∀o,Ev L (BO L d s) o->Ev L FF o):=by rw[ah];exact λ_ x=>x
 clear ah;clear ac;go_in;go_wp2_with fail;refine HM.u.mono ?_;clear HM;rintro e c ⟨hk,o,a8,aa⟩;have K1:=O hk;have E1:=O a8;clear hk a8;cases o with
 |fail er p=>
  obtain⟨rfl,he⟩:=aa;exact⟨K,D3 K1.u (S.u _<|Ev.bad E1.u) he⟩
 |ok i x=>
  obtain⟨rfl,j,w,hx⟩:=aa;obtain⟨k,rfl⟩:=î hx.1;have ai:k<Q i.N:=by have:=hx.2;omega
  have bd:=j.at';have bb:=j.fq;obtain⟨g,ay,la,lc,c3,az,aq,bc,bi,ap,n0,n1,n2,n3,n4,n5,n6,n7,n8,hl,ad⟩:=j.ll ai;unfold Γ at aq;clear n0 n1 n2 n3 n4 n5 n6 n7 hl ad;have bf:=hX _ _ _ _ E1.u;have V1:=O λo m=>S.u o<|Ev.bind E1.u m;clear S E1;have af:=O j;have G1:=O w;clear j w;generalize am:i.N[k].at'=t at*;have AT:=O am;clear am;let R:Nat->Prop:=λg=>P g/\g≠V c.heap;have au:V (c.alloc<|γ #[U 25,U (k:Int),U 0,U 0,sN,ζ ⟨#[]⟩,U 0,U 0,U t] 93).heap=V c.heap+1:=ι;have ag:Hid (aH ((c.alloc<|γ #[U 25,U (k:Int),U 0,U 0,sN,ζ ⟨#[]⟩,U 0,U 0,U t] 93).alloc<|γ (pZ [[61]]) 9) B a b L R d i):=((af.u.mono λg w bg=>⟨w,W⟩).alloc _).alloc _;have bq:=af.u.kq<|vQ _;have aj:¬R (V c.heap):=λx=>x.2 K;have a2:∀g,R g->P g:=λg x=>x.1;have ar:∀g,V c.heap+1<=g->R g:=λg w=>⟨ae g<|by have:=K1.u.size;omega,W⟩;have HI:=O (sY N ag.u (V c.heap+1) 1 [[61]] (by grind[xG]) ε);clear_value R;generalize hq:aL L i.i [[61]]=aw at*;have Q1:=O hq;clear hq;go_wp2_with fail;refine HI.u.mono ?_;rintro e ao ⟨rfl,hc⟩;have h:=(hc.block (V c.heap) à λx=>x).trans<|Gx _ _ _ K;have bn:V c.heap+2<=V ao.heap:=by have:=hc.size;simpa using this
  have K2:=O<|K1.u.trans<|(((Kept.refl B P c).alloc<|γ #[U 25,U (k:Int),U 0,U 0,sN,ζ ⟨#[]⟩,U 0,U 0,U t] 93).alloc _).trans<|C9 hc;have ab:=O<|ag.u.y hc;have bm:=K1.u.size;clear hc HI af ag K1 c3 ap n8 au;cases aw
  .have Z:=O (λo (m:Ev L (λr=>A8 (aC L i [59]) λH (_:Unit)=>aE H ⟨25,(k:Int),0,0,[],[],0,-1,t⟩) o)=>V1.u o<|m.eq λr=>by rw[wY ι,<-AT.u];grind[iC]);clear V1 AT;have HN:=O<|I7 N ab.u [59];clear ab;go_wp2_with fail;refine HN.u.mono ?_;rintro e f ⟨y,hr⟩;have h:=J2 y h aj;have T:=O<|K2.u.trans<|y.mono a2;have av:=y.size;clear y K2 HN;obtain⟨z,rfl,j⟩|⟨z,rfl⟩:=hr;case inr=>exact⟨K,D3 T.u (Z.u _<|Ev.bad<|U3 z) ε⟩
   have EV:=O<|Z.u _<|Ev.bind (k:=λr H (_:Unit)=>aE H ⟨25,(k:Int),0,0,[],[],0,-1,t⟩) (Q8 z) Ev.pure;clear Z z;have b0:δ f (J (V c.heap) 0)=C (U 25):=cr h K;have b1:δ f (J (V c.heap) 1)=C (U (k:Int)):=cr h K;have b2:δ f (J (V c.heap) 2)=C (U 0):=cr h K;have b3:δ f (J (V c.heap) 3)=C (U 0):=cr h K;have b4:δ f (J (V c.heap) 4)=C (sN):=cr h K;have b5:δ f (J (V c.heap) 5)=C (ζ ⟨#[]⟩):=cr h K;have b6:δ f (J (V c.heap) 6)=C (U 0):=cr h K;have b7:δ f (J (V c.heap) 7)=C (U 0):=cr h K;have b8:δ f (J (V c.heap) 8)=C (U t):=cr h K;have HA:=O (Q6 N (j.mono λg x _=>a2 g x) (Nd.mk 25 (k:Int) 0 0 [] [] 0 (-1) t) 0 none 0 0 ⟨_,K,kW _ _ _ _,ù⟩ K (by grind[St.nx]) W λg w=>ae g W);have GX:=O (show F8 s ⟨i.nx.i,i.nx.N++[Nd.mk 25 (k:Int) 0 0 [] [] 0 (-1) t],i.nx.T⟩ by
    have:=G1.u;grind[F8,St.nx,qQ,jQ,xQ]);have ak:(0:Int)<=(Q i.nx.N:Int)/\(Q i.nx.N:Int)<(Q (i.nx.N++[Nd.mk 25 (k:Int) 0 0 [] [] 0 (-1) t]):Int):=à;clear j;go_wp2_with fail;refine HA.u.mono ?_;rintro e ax ⟨rfl,k9,p9⟩;have K9:=O<|T.u.trans k9;have P9:=O p9;clear k9 p9 HA;go_wp2_with fail;go_ret;exact G0 K9.u EV.u P9.u GX.u ak
  .have Z:=O (λo (m:Ev L (λr=>A8 (if lX i.N[k].x=0 then bF L i.i 1 else r.expr d ⟨i.i+1,i.N.take k,i.T⟩) λH v=>A8 (aC L H [59]) λl (_:Unit)=>aE l<|kJ i.N[k] v) o)=>V1.u o<|m.eq λr=>by rw[yY K,getD_at ai,tQ];split<;>rfl);clear V1 AT;have HS:=O (B7e N (Q L-i.i) (λm' bh=>hE m'<|by have:=G1.u.1;omega) ao R d i k ai Q1.u (vQ _) (λg w=>ar g W) W ab.u);clear ab;generalize i.N[k]=n at*;generalize hφ:(λ(r:Sp)=>if lX n.x=0 then bF L i.i 1 else r.expr d ⟨i.i+1,i.N.take k,i.T⟩)=φ at HS;have V3:=O (λo (m:Ev L (λr=>A8 (φ r) λH v=>A8 (aC L H [59]) λl (_:Unit)=>aE l<|kJ n v) o)=>Z.u o<|m.eq λr=>θ);clear Z hφ;go_wp2_with fail;refine HS.u.mono ?_;rintro e f ⟨y,o,a8,aa⟩;have h:=J2 y h aj;have T:=O<|K2.u.trans<|y.mono a2;have E3:=O a8;have av:=y.size;clear y K2 HS a8;cases o with
   |fail er p=>
    obtain⟨rfl,he⟩:=aa;exact⟨K,D3 T.u (V3.u _<|Ev.bad E3.u) he⟩
   |ok l v=>
    obtain⟨⟨a4,a5,rfl,hl,ad⟩,j,g1,g2,g3,g4⟩:=aa;obtain⟨A,D,F,G,hN⟩:=Rh n v;rw[hN];have V4:=O (λo (m:Ev L (λr=>A8 (aC L l [59]) λs4 (_:Unit)=>aE s4 ⟨A,D,F,G,n.M,n.text,n.n,-1,n.at'⟩) o)=>V3.u o<|Ev.bind (k:=λr H v=>A8 (aC L H [59]) λl (_:Unit)=>aE l<|kJ n v) E3.u<|m.eq λr=>θ);clear V3 E3 hN;have b0:δ f (J (V c.heap) 0)=C (U 25):=cr h K;have b1:δ f (J (V c.heap) 1)=C (U (k:Int)):=cr h K;have b2:δ f (J (V c.heap) 2)=C (U 0):=cr h K;have b3:δ f (J (V c.heap) 3)=C (U 0):=cr h K;have b4:δ f (J (V c.heap) 4)=C (sN):=cr h K;have b5:δ f (J (V c.heap) 5)=C (ζ ⟨#[]⟩):=cr h K;have b6:δ f (J (V c.heap) 6)=C (U 0):=cr h K;have b7:δ f (J (V c.heap) 7)=C (U 0):=cr h K;have b8:δ f (J (V c.heap) 8)=C (U t):=cr h K;have z0:=ã f (V c.heap) 0 _ _ h;have z1:=ã f (V c.heap) 1 _ _ h;have z2:=ã f (V c.heap) 2 _ _ h;have z3:=ã f (V c.heap) 3 _ _ h;have z4:=ã f (V c.heap) 4 _ _ h;have z5:=ã f (V c.heap) 5 _ _ h;have z6:=ã f (V c.heap) 6 _ _ h;have z7:=ã f (V c.heap) 7 _ _ h;have z8:=ã f (V c.heap) 8 _ _ h;have lA:V c.heap<V f.heap:=W;have HB:=O h;have HN:Hid (∀q,I (λa3=>a3=V c.heap) f q->aH q B a b L R d l):=λq ha=>j.free ha θ λg x _=>x;have HL:Hid (∀q,I (λa3=>a3=V c.heap) f q->ξ q 0 3 1 (Y a4 (Q n.M) a5) (Q n.M) (C8 n.M)):=λq ha=>A3 hl ha θ;have HO:=O ad;have be:=j.at';have b9:=j.fq;clear j hl ad h;go_wp2_with fail;have a7:I (λa3=>a3=V c.heap) f (ρ (ρ (ρ (ρ (ρ (ρ (ρ (ρ (ρ f (J (V c.heap) 0)<|U A) (J (V c.heap) 1)<|U D) (J (V c.heap) 2)<|U F) (J (V c.heap) 3)<|U G) (J (V c.heap) 4)<|Y a4 (Q n.M) a5) (J (V c.heap) 5)<|ζ ⟨ν n.text⟩) (J (V c.heap) 6)<|U n.n) (J (V c.heap) 7)<|U n.ty) (J (V c.heap) 8)<|U n.at'):=by
     iterate 9 refine I.put ?_ K
     exact I.refl _ _
    have an:=AJ (v0:=U A) (v1:=U D) (v2:=U F) (v3:=U G) (v4:=Y a4 (Q n.M) a5) (v5:=ζ ⟨ν n.text⟩) (v6:=U n.n) (v7:=U n.ty) (v8:=U n.at') HB.u;generalize (ρ (ρ (ρ (ρ (ρ (ρ (ρ (ρ (ρ f (J (V c.heap) 0)<|U A) (J (V c.heap) 1)<|U D) (J (V c.heap) 2)<|U F) (J (V c.heap) 3)<|U G) (J (V c.heap) 4)<|Y a4 (Q n.M) a5) (J (V c.heap) 5)<|ζ ⟨ν n.text⟩) (J (V c.heap) 6)<|U n.n) (J (V c.heap) 7)<|U n.ty) (J (V c.heap) 8)<|U n.at')=q at*;have H4:=O<|I7 N (HN.u q a7) [59];have O4:=O<|HL.u q a7;have K4:=O (T.u.trans' a7 λa3 hi x=>W);have bp:=a7.size;clear HN HL a7 T HB b0 b1 b2 b3 b4 b5 b6 b7 b8 z0 z1 z2 z3 z4 z5 z6 z7 z8;refine H4.u.mono ?_;rintro e M ⟨a9,hr⟩;have u:=J2 a9 an aj;have K5:=O<|K4.u.trans<|a9.mono a2;have O5:=O (G9 O4.u a9 ε);have bo:=a9.size;clear a9 K4 H4 O4 an;obtain⟨z,rfl,j⟩|⟨z,rfl⟩:=hr;case inr=>exact⟨K,D3 K5.u (V4.u _<|Ev.bad<|U3 z) ε⟩
    have EV:=O<|V4.u _<|Ev.bind (k:=λr s4 (_:Unit)=>aE s4<|Nd.mk A D F G n.M n.text n.n (-1) n.at') (Q8 z) Ev.pure;clear V4 z;have e0:M.cell? (J (V c.heap) 0)=C (U A):=cr u K;have e1:M.cell? (J (V c.heap) 1)=C (U D):=cr u K;have e2:M.cell? (J (V c.heap) 2)=C (U F):=cr u K;have e3:M.cell? (J (V c.heap) 3)=C (U G):=cr u K;have e4:M.cell? (J (V c.heap) 4)=C (Y a4 (Q n.M) a5):=cr u K;have e5:M.cell? (J (V c.heap) 5)=C (ζ ⟨ν n.text⟩):=cr u K;have e6:M.cell? (J (V c.heap) 6)=C (U n.n):=cr u K;have e7:M.cell? (J (V c.heap) 7)=C (U n.ty):=cr u K;have e8:M.cell? (J (V c.heap) 8)=C (U n.at'):=cr u K;have HA:=O (Q6 N (j.mono λg x _=>a2 g x) (Nd.mk A D F G n.M n.text n.n (-1) n.at') n.ty a4 (Q n.M) a5 ⟨_,K,O5.u,λg w=>a2 g<|HO.u g w⟩ K (by grind[St.nx]) W λg w=>ae g W);have GX:=O (show F8 s ⟨l.nx.i,l.nx.N++[(Nd.mk A D F G n.M n.text n.n (-1) n.at')],l.nx.T⟩ by
     have:=G1.u;grind[F8,St.nx,qQ,jQ,xQ]);have ak:(0:Int)<=(Q l.nx.N:Int)/\(Q l.nx.N:Int)<(Q (l.nx.N++[(Nd.mk A D F G n.M n.text n.n (-1) n.at')]):Int):=à;clear j u;go_wp2_with fail;refine HA.u.mono ?_;rintro e ax ⟨rfl,k9,p9⟩;have K9:=O<|K5.u.trans k9;have P9:=O p9;clear k9 p9 HA;go_wp2_with fail;go_ret;exact G0 K9.u EV.u P9.u GX.u ak
end
