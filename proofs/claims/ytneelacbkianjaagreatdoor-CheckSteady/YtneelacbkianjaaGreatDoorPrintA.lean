/-
  A part of the proof.
-/
import Derived.Test.YtneelacbkianjaaGreatDoorWriteA
import Derived.Test.YtneelacbkianjaaGreatDoorPrs
set_option maxHeartbeats 16000000
set_option maxRecDepth 100000
namespace Go.Proofs.YtneelacbkianjaaGreatDoor
open Go.Proofs.Tryz
open Go.RowKit
theorem Tryz.liesBldP:liesAt prog prog.depth 58 (6 / prog.cellsOf 58) 0 54 1=true:=by kernel_rfl
def pk(a:Value)(d:Nat):Wk:=⟨false,58,#[a,U (d:Int)],Tryz.liesBldP,by decide⟩
def Tab (w:lZ) (B:Nat):Prop:=Lib.TabIs prog w "internal/strconv.uint64pow10" .u64 Lib.pow10Tab/\∃g,prog.globalNamed "internal/strconv.uint64pow10" =some g/\g<B/\g<w.heap.size
theorem H5a{S:Nat->Prop}{w f:lZ}{B:Nat}(h:Tab w B)(a:I S w f)(j:∀k,k<B->¬S k):Tab f B:=by
 obtain⟨e,g,b,c,d⟩:=h;have i:=a.block g d (j g c);refine⟨?_,g,b,c,yQ d a.size⟩;unfold Lib.TabIs World.var? at *;simp only[b]at e⊢;simpa[i]using e
structure Psp(w:lZ)(B wb:Nat)(tv nv:Value)(d:Nat)(N:List Nd)(T:List Ty)(bs:bZ):Prop where
 sp:Wsp w B wb tv (pk nv d) T bs
 row:∃nx,w.ownsRow 0 87 9 nv N.length nx/\Rws (NdV w (λ_=>True)) N nx
 tab:Tab w B
theorem L6a{w o:lZ}{B c:Nat}{n:Value}{d:Wk}{i:bZ}(_:Wkp B c w o)(m:Wrt w B c n d i){k:Nat}{j:Array Value}{e:TypeId}(b:w.heap[k]? =some (.cells j e (0,0)))(h:e≠5/\e∈L9c):¬(B<=k/\(k=c\/∃f g,w.heap[k]? =some (.cells f 5 g))):=by
 rintro⟨_,a|⟨f,g,a⟩⟩
 · subst a;obtain⟨p,v,l,_⟩:=m.blk;rw[l]at b;simp only[zQ,xW]at b;exact d.ne _ h.2 b.2.1
 · rw[b]at a;simp only[zQ,xW]at a;exact h.1 a.2.1
section
variable{w c:lZ}{B a:Nat}{e b:Value}{d:Nat}{N:List Nd}{T:List Ty}{f g:bZ}
theorem O8c{p:Wk}(k:Wkp B a w c)(l:Wrt w B a e p f)(h:∃i,w.ownsRow 0 87 9 b N.length i/\Rws (NdV w (λ_=>True)) N i):∃i,c.ownsRow 0 87 9 b N.length i/\Rws (NdV c (λ_=>True)) N i:=by
 obtain⟨i,n,t⟩:=h;refine⟨i,A4 n k λm s x=> ?_,t.imp (NdV.chg k (λm _ _ o j=> ?_) (λ_ _ _=>trivial))⟩
 · obtain⟨_,q,j⟩:=A9 n m s;exact L6a k l j (by decide) x
 · obtain⟨q,u,j,r⟩:=j;rcases r with rfl|rfl
   · exact L6a k l j (by decide) o
   · exact L6a k l j (by decide) o
theorem Psp.kept{m:Nat}(h:Psp w B a e b d N T f)(i:Wkp B a w c)(r:Wrt c B a e (pk b m) g):Psp c B a e b m N T g:=by
 have y:=h.sp;obtain⟨l,s,z,o,v⟩:=y;refine⟨⟨r,s,z,A4 o i λn u x=> ?_,v.imp (TyV.chg i (λn _ _ p j=> ?_) (λ_ _ _=>trivial))⟩,O8c i l h.row,H5a h.tab i (λk C x=>by have:=x.1;omega)⟩
 · obtain⟨_,q,j⟩:=A9 o n u;exact L6a i l j (by decide) x
 · obtain⟨q,A,j,t⟩:=j;rcases t with rfl|rfl
   · exact L6a i l j (by decide) p
   · exact L6a i l j (by decide) p
def ndv(n:Nd)(h:Option Addr)(i:Nat):Value:= .agg #[U n.kind,U n.a,U n.b,U n.c,.slice h n.list.length i,.string ⟨n.text.toArray⟩,U n.n,U n.ty,U n.at']
theorem Psp.cell(h:Psp w B a e b d N T f):∃n m,b= .slice n N.length m/\w.cell? (J a 4)=some (.slice n N.length m)/\w.cell? (J a 5)=some (U (d:Int))/\(∀o,w.frozen? (J a o)=false)/\a<w.heap.size/\
 ∀i (t:i<N.length),∃j r s,n=some (J j 0)/\j<w.heap.size/\N.length<=m/\m<=maxLen/\w.cell? (J j (i * 9))=some (U N[i].kind)/\w.cell? (J j (i * 9+1))=some (U N[i].a)/\w.cell? (J j (i * 9+2))=some (U N[i].b)/\w.cell? (J j (i * 9+3))=some (U N[i].c)/\
  w.cell? (J j (i * 9+4))=some (.slice r N[i].list.length s)/\w.cell? (J j (i * 9+5))=some (.string ⟨N[i].text.toArray⟩)/\w.cell? (J j (i * 9+6))=some (U N[i].n)/\w.cell? (J j (i * 9+7))=some (U N[i].ty)/\w.cell? (J j (i * 9+8))=some (U N[i].at')/\
  w.ownsRow 0 3 1 (.slice r N[i].list.length s) N[i].list.length (C8 N[i].list):=by
 obtain⟨F,u,C⟩:=h.row;obtain⟨n,m,rfl⟩:=B9 u;obtain⟨_,p,v,q,_⟩:=h.sp.wrt;refine⟨n,m,rfl,cr q rfl,cr q rfl,λo=>frozen_of_row w a o _ _ q,(ltG q),λi t=> ?_⟩;obtain⟨j,rfl,_,A,y,z,k⟩:=F5 u (by omega);obtain⟨G,D,l⟩:=Rws.at (z:=9) (λ_ _ h=>h.len) i t C;obtain⟨E,rfl,x,_⟩:=D;obtain⟨r,s,rfl⟩:=B9 x;refine⟨j,r,s,rfl,A,y,z,k _ _ ?_,k _ _ ?_,k _ _ ?_,k _ _ ?_,k _ _ ?_,k _ _ ?_,k _ _ ?_,k _ _ ?_,k _ _ ?_,x⟩
 · have:=l 0 (by omega);simpa using this
 · have:=l 1 (by omega);simpa using this
 · have:=l 2 (by omega);simpa using this
 · have:=l 3 (by omega);simpa using this
 · have:=l 4 (by omega);simpa using this
 · have:=l 5 (by omega);simpa using this
 · have:=l 6 (by omega);simpa using this
 · have:=l 7 (by omega);simpa using this
 · have:=l 8 (by omega);simpa using this
end
theorem J5b(n:Nd)(h:Option Addr)(i:Nat)(w:lZ):Calls prog 172 #[ndv n h i] w λe k=>e= .returned (U (bnK n.kind n.text:Int))/\I No w k:=by
 obtain⟨d,a,b,c,l,j,n,q,m⟩:=n;simp only[ndv];by_cases g:d=13
 · subst g;go_enter func172,ntmps172;go_wp2;go_ret;exact⟨rfl,I.alloc _ _ _⟩
 by_cases f:d=12
 · subst f;go_enter func172,ntmps172;go_wp2;all_goals go_ret
   all_goals exact⟨M7 (by simp_all [bnK]),I.alloc _ _ _⟩
 have p:(d==13)=false:=by simp[g]
 have o:(d !=12)=true:=by simp[f]
 have e:bnK d j=5:=by simp[bnK,f,g]
 rw[e];go_enter func172,ntmps172;go_wp2;go_ret;exact⟨rfl,I.alloc _ _ _⟩
section
variable{B a:Nat}{c:Value}{b:Wk}
theorem say2{a0:lZ}(p:B<=a0.heap.size)(g:lZ)(q:Nat)(h:bZ)(d f:ByteArray)(l:q=g.heap.size)(i:Wkp B a a0 g)(m:Wrt g B a c b h)(r:h.length+d.size+f.size<=100000000000000):
 Calls prog 30 #[pV a,.slice (some (J q 0)) 2 2] (g.alloc (.cells #[.string d,.string f] 9)) (D7 a0 B a c b (h++(d.data.toList++f.data.toList))):=by
 subst l;have n:d.data.toList.length=d.size:=bl d;have o:f.data.toList.length=f.size:=bl f;refine(X6a (m.still (I.alloc _ _ _)) [d,f] g.heap.size (0,0) (qY g _) (by simp) (by simp[F8a];omega) (by simp;have:=i.size;omega)).mono ?_;rintro e s ⟨rfl,j,k⟩;exact⟨rfl,(i.trans (Wkp.still (I.alloc _ _ _))).trans j,by simpa[F8a]using k⟩
end
def CC(f:lZ)(B c:Nat)(e:Value)(d:Wk)(K:Nat)(g:Array Value)(X:bZ):Prop:=
 ∀(a:lZ) (b:bZ),Wkp B c f a->Wrt a B c e d b->b.length+X.length<=100000000000000->Calls prog K g a (D7 f B c e d (b++X))
def CS(h:lZ)(B b:Nat)(g:Value)(f:Wk):Prop:=
 (∀(a:lZ) (d:bZ) (q n:Nat) (c:bZ),q=a.heap.size->Wkp B b h a->Wrt a B b g f d->d.length+c.length<=100000000000000->
  Calls prog 30 #[pV b,.slice (some (J q 0)) 1 1] (a.alloc (.cells #[.string ⟨c.toArray⟩] 9)) (D7 h B b g f (d++c))/\
  Calls prog 30 #[pV b,.slice (some (J q 0)) 1 1] ((a.drewN n).alloc (.cells #[.string ⟨c.toArray⟩] 9)) (D7 h B b g f (d++c)))/\
 (∀(a:lZ) (d:bZ) (q n:Nat) (c e:bZ),q=a.heap.size->Wkp B b h a->Wrt a B b g f d->d.length+c.length+e.length<=100000000000000->
  Calls prog 30 #[pV b,.slice (some (J q 0)) 2 2] (a.alloc (.cells #[.string ⟨c.toArray⟩,.string ⟨e.toArray⟩] 9)) (D7 h B b g f (d++(c++e)))/\
  Calls prog 30 #[pV b,.slice (some (J q 0)) 2 2] ((a.drewN n).alloc (.cells #[.string ⟨c.toArray⟩,.string ⟨e.toArray⟩] 9)) (D7 h B b g f (d++(c++e))))/\
 (∀(a:lZ) (d:bZ) (q n:Nat) (c e i:bZ),q=a.heap.size->Wkp B b h a->Wrt a B b g f d->d.length+c.length+e.length+i.length<=100000000000000->
  Calls prog 30 #[pV b,.slice (some (J q 0)) 3 3] (a.alloc (.cells #[.string ⟨c.toArray⟩,.string ⟨e.toArray⟩,.string ⟨i.toArray⟩] 9)) (D7 h B b g f (d++(c++e++i)))/\
  Calls prog 30 #[pV b,.slice (some (J q 0)) 3 3] ((a.drewN n).alloc (.cells #[.string ⟨c.toArray⟩,.string ⟨e.toArray⟩,.string ⟨i.toArray⟩] 9)) (D7 h B b g f (d++(c++e++i))))
section
variable{B wb:Nat}{tv a:Value}{bn:Wk}{N:List Nd}{T:List Ty}
theorem bsz(l:bZ):(⟨l.toArray⟩:ByteArray).size=l.length:=rfl
theorem L1a{j:lZ}(m:B<=j.heap.size):CS j B wb tv bn:=by
 have o:∀(b:lZ) (c:bZ) (q:Nat) (d:bZ),q=b.heap.size->Wkp B wb j b->Wrt b B wb tv bn c->c.length+d.length<=100000000000000->Calls prog 30 #[pV wb,.slice (some (J q 0)) 1 1] (b.alloc (.cells #[.string ⟨d.toArray⟩] 9)) (D7 j B wb tv bn (c++d)):=by
  intro b c q d i e f h;exact Z5d m b q c ⟨d.toArray⟩ i e f (by rw[bsz];exact h)
 have p:∀(b:lZ) (c:bZ) (q:Nat) (d g:bZ),q=b.heap.size->Wkp B wb j b->Wrt b B wb tv bn c->c.length+d.length+g.length<=100000000000000->Calls prog 30 #[pV wb,.slice (some (J q 0)) 2 2] (b.alloc (.cells #[.string ⟨d.toArray⟩,.string ⟨g.toArray⟩] 9)) (D7 j B wb tv bn (c++(d++g))):=by
  intro b c q d g i e f h;exact say2 m b q c ⟨d.toArray⟩ ⟨g.toArray⟩ i e f (by rw[bsz,bsz];exact h)
 have r:∀(b:lZ) (c:bZ) (q:Nat) (d g k:bZ),q=b.heap.size->Wkp B wb j b->Wrt b B wb tv bn c->c.length+d.length+g.length+k.length<=100000000000000->Calls prog 30 #[pV wb,.slice (some (J q 0)) 3 3] (b.alloc (.cells #[.string ⟨d.toArray⟩,.string ⟨g.toArray⟩,.string ⟨k.toArray⟩] 9)) (D7 j B wb tv bn (c++(d++g++k))):=by
  intro b c q d g k i e f h;exact O3d m b q c ⟨d.toArray⟩ ⟨g.toArray⟩ ⟨k.toArray⟩ i e f (by rw[bsz,bsz,bsz];exact h)
 have l:∀(b:lZ) (c:bZ) (n:Nat),Wkp B wb j b->Wrt b B wb tv bn c->Wkp B wb j (b.drewN n)/\Wrt (b.drewN n) B wb tv bn c:=λb c n e f=>⟨e.trans (Wkp.still (I.drewN _ _ n)),f.still (I.drewN _ _ n)⟩;refine⟨λb c q n d i e f h=>⟨o b c q d i e f h, ?_⟩,λb c q n d g i e f h=>⟨p b c q d g i e f h, ?_⟩,λb c q n d g k i e f h=>⟨r b c q d g k i e f h, ?_⟩⟩
 · exact o (b.drewN n) c q d (by rw[i];simp) (l b c n e f).1 (l b c n e f).2 h
 · exact p (b.drewN n) c q d g (by rw[i];simp) (l b c n e f).1 (l b c n e f).2 h
 · exact r (b.drewN n) c q d g k (by rw[i];simp) (l b c n e f).1 (l b c n e f).2 h
def O2a(d:Nat)(t:Nt):Pc:=⟨bnd t,t.k,pr d t⟩
def PE(B wb:Nat)(tv a:Value)(N:List Nd)(T:List Ty)(m:Nat):Prop:=
 ∀(t:Nt) (i:Int) (d:Nat) (w:lZ) (b:bZ),szN t<=m->d+szN t<=1000000->Gd t->isE t.k->At N T t i->Psp w B wb tv a d N T b->B<=w.heap.size->b.length+(pr d t).length<=100000000000000->
  Calls prog 95 #[pV wb,U i] w (D7 w B wb tv (pk a d) (b++pr d t))
theorem PE.cc{m:Nat}(h:PE B wb tv a N T m){t:Nt}{i:Int}{d:Nat}{c:lZ}{j:bZ}(v:szN t<=m)(p:d+szN t<=1000000)(r:Gd t)(q:isE t.k)(o:At N T t i)(u:Psp c B wb tv a d N T j)(n:B<=c.heap.size):
 CC c B wb tv (pk a d) 95 #[pV wb,U i] (pr d t):=by
 intro f g b w s;refine(h t i d f g v p r q o (u.kept b w) (kQ n b.size) s).mono ?_;rintro e x ⟨rfl,k,l⟩;exact⟨rfl,b.trans k,l⟩
theorem X7b{a4:Nat}(hE:PE B wb tv a N T a4){t:Nt}{a3:Int}{d:Nat}{w:lZ}{u:bZ}(f:Nat)(hs:szN t<=a4)(hd:d+szN t<=1000000)(hg:Gd t)(he:isE t.k)(H:At N T t a3)(A:Psp w B wb tv a d N T u)(hB:B<=w.heap.size)(i:u.length+(wi f (O2a d t)).length<=100000000000000):
 Calls prog 133 #[pV wb,U a3,U (f:Int)] w (D7 w B wb tv (pk a d) (u++wi f (O2a d t))):=by
 have K:=O (hE.cc hs hd hg he H A hB);have Y:=O (L1a (B:=B) (wb:=wb) (tv:=tv) (bn:=pk a d) hB);obtain⟨na,nc,rfl,c4,c5,fz,ac,a2⟩:=A.cell;have V:=O A;clear A;cases t with
 |ty t0=>cases t0<;>simp[Nt.k,isE]at he
 |nd k l n o=>
 rw[At]at H;obtain⟨j,rfl,hj,F,G,-,-⟩:=H;obtain⟨g,la,lc,rfl,ab,aa,a7,x0,x1,x2,x3,x4,x5,x6,x7,x8,-⟩:=a2 j hj;have v:=O (λm=>J5b N[j] la lc m);clear a2;rw[F,G]at v;rw[F]at x0;rw[G]at x5;simp only[ndv,F,G]at v;unfold maxLen at a7;have a5:Hid (f<=bnK k l->wi f (O2a d (.nd k l n o))=pr d (.nd k l n o)):=λh=>rY h;have a6:Hid (¬f<=bnK k l->wi f (O2a d (.nd k l n o))=[40]++pr d (.nd k l n o)++[41]):=λh=>yY h;generalize wi f (O2a d (.nd k l n o))=Z at *;generalize bnK k l=D at *;generalize pr d (.nd k l n o)=ae at *;generalize N[j].a=va at *;generalize N[j].b=vb at *;generalize N[j].c=vc at *;generalize N[j].n=vn at *;generalize N[j].ty=vt at *;generalize N[j].at'=vp at *;generalize N[j].list=vl at *;go_enter func133,ntmps133;go_wp2_with fail
 refine(v.o _).mono ?_;rintro e w0 ⟨rfl,z⟩;have x:=O (Wkp.still (B:=B) (wb:=wb) z);have y:=O (V.o.sp.wrt.still z);have ad:w.heap.size<=w0.heap.size:=z.size;clear z v V;have L:Hid (∀m E,Wkp B wb w m->Wrt m B wb tv (pk (.slice (some (J g 0)) N.length nc) d) E->E=u++Z->D7 w B wb tv (pk (.slice (some (J g 0)) N.length nc) d) (u++Z) (rT) m):=λm E b c e=>⟨rfl,b,e ▸ c⟩;by_cases hl:f<=D
 · have a8:(f:Int)<=(D:Int):=by omega
   have q:=O (a5.o hl);rw[q.o]at i;have p:=O (K.o _ _ x.o y.o (by first|omega|(simp;omega)|(simp at i;omega)|(simp at i⊢;omega)));go_wp2_with fail
   refine(p.o).mono ?_;rintro e a9 ⟨rfl,b,c⟩;have r:=O b;have s:=O c;clear b c p x y;have C:=O (L.o _ _ r.o s.o (by rw[q.o];try simp));clear r s;go_wp2;go_end0;exact C.o
 · have a8:¬(f:Int)<=(D:Int):=by omega
   have q:=O (a6.o hl);rw[q.o]at i;have p:=O (Y.o.1 _ _ _ 1 [40] rfl x.o y.o (by first|omega|(simp;omega)|(simp at i;omega)|(simp at i⊢;omega)));go_wp2_with fail
   refine(p.o.1).mono ?_;rintro e a9 ⟨rfl,b,c⟩;have r:=O b;have s:=O c;clear b c p x y;have M:=O (K.o _ _ r.o s.o (by first|omega|(simp;omega)|(simp at i;omega)|(simp at i⊢;omega)));go_wp2_with fail
   refine(M.o).mono ?_;rintro e af ⟨rfl,b,c⟩;have R:=O b;have W:=O c;clear b c M r s;have P:=O (Y.o.1 _ _ _ 1 [41] rfl R.o W.o (by first|omega|(simp;omega)|(simp at i;omega)|(simp at i⊢;omega)));go_wp2_with fail
   refine(P.o.1).mono ?_;rintro e ag ⟨rfl,b,c⟩;have S:=O b;have X:=O c;clear b c P R W;have C:=O (L.o _ _ S.o X.o (by rw[q.o];try simp));clear S X;go_wp2;go_end0;exact C.o
end
def CCs(w:lZ)(B e:Nat)(d:Value)(c:Wk)(K:Nat)(b:Array Value)(X:bZ):Prop:=∀a,I No w a->CC a B e d c K b X
section
variable{B a:Nat}{b:Value}{c:Wk}
theorem G9{w W:lZ}{d:bZ}(k:B<=w.heap.size)(l:Wrt w B a b c d)(g:I No w W)(X:bZ):Hid (CS W B a b c)/\Hid (Wkp B a W W)/\Hid (Wrt W B a b c d)/\Hid (∀f h,Wkp B a W f->Wrt f B a b c h->h=d++X->D7 w B a b c (d++X) (rT) f):=
 ⟨L1a (kQ k g.size),Wkp.refl B a W,l.still g,λ_ _ i j e=>⟨rfl,(Wkp.still g).trans i,e ▸ j⟩⟩
theorem M7b{w d:lZ}{f:bZ}(j:Wrt w B a b c f){C:Array Value}(i:I No w (w.alloc (.cells C 87)))(g:Wkp B a (w.alloc (.cells C 87)) d):(∀{o:Nat} {v:Value},C[o]? =some v->d.cell? (J w.heap.size o)=some v)/\w.heap.size<d.heap.size:=by
 have e:=g.other (j.still i) (qY w _) (by decide) (by decide);exact⟨λh=>(cell_of_row d _ _ _ _ _ e).trans h,(ltG e)⟩
theorem fc1{w:lZ}{h:bZ}(m:Wrt w B a b c h){C:Array Value}(k:I No w (w.alloc (.cells C 87)))(e:Nat){g:Value}(i:C[e]? =some g):Hid (∀d,Wkp B a (w.alloc (.cells C 87)) d->d.cell? (J w.heap.size e)=some g/\w.heap.size<d.heap.size):=λ_ j=>have ⟨f,l⟩:=M7b m k j;⟨f i,l⟩
theorem fc2{w:lZ}{j:bZ}(p:Wrt w B a b c j){C:Array Value}(o:I No w (w.alloc (.cells C 87)))(e g:Nat){h i:Value}(k:C[e]? =some h)(m:C[g]? =some i):Hid (∀d,Wkp B a (w.alloc (.cells C 87)) d->d.cell? (J w.heap.size e)=some h/\d.cell? (J w.heap.size g)=some i/\w.heap.size<d.heap.size):=λ_ n=>have ⟨f,l⟩:=M7b p o n;⟨f k,f m,l⟩
theorem fc3{w:lZ}{m:bZ}(s:Wrt w B a b c m){C:Array Value}(r:I No w (w.alloc (.cells C 87)))(e g h:Nat){i j k:Value}(n:C[e]? =some i)(o:C[g]? =some j)(p:C[h]? =some k):Hid (∀d,Wkp B a (w.alloc (.cells C 87)) d->d.cell? (J w.heap.size e)=some i/\d.cell? (J w.heap.size g)=some j/\d.cell? (J w.heap.size h)=some k/\w.heap.size<d.heap.size):=λ_ q=>have ⟨f,l⟩:=M7b s r q;⟨f n,f o,f p,l⟩
theorem fc4{w:lZ}{o:bZ}(v:Wrt w B a b c o){C:Array Value}(u:I No w (w.alloc (.cells C 87)))(e g h i:Nat){j k m n:Value}(p:C[e]? =some j)(q:C[g]? =some k)(r:C[h]? =some m)(s:C[i]? =some n):Hid (∀d,Wkp B a (w.alloc (.cells C 87)) d->d.cell? (J w.heap.size e)=some j/\d.cell? (J w.heap.size g)=some k/\d.cell? (J w.heap.size h)=some m/\d.cell? (J w.heap.size i)=some n/\w.heap.size<d.heap.size):=λ_ t=>have ⟨f,l⟩:=M7b v u t;⟨f p,f q,f r,f s,l⟩
theorem R9b{w:lZ}{j:bZ}(C:B<=w.heap.size)(v:Wrt w B a b c j)(i:Int)(g h:bZ)(l:CCs w B a b c 133 #[pV a,U i,U 5] h)(u:j.length+(h++([46]++g)).length<=100000000000000):
 Calls prog 97 #[pV a,U i,.string ⟨g.toArray⟩] w (D7 w B a b c (j++(h++([46]++g)))):=by
 have k:I No w w:=I.refl _ _;obtain⟨A,o,r,y⟩:=G9 C v k (h++([46]++g));have x:=O (l _ k);clear v k l;go_enter func97,ntmps97;have m:=O (x.o _ _ o.o r.o (by simp at u⊢<;>omega));go_wp2_with fail
 refine(m.o).mono ?_;rintro e D ⟨rfl,d,f⟩;have p:=O d;have s:=O f;clear d f m o r;have n:=O (A.o.2.1 _ _ _ 1 [46] (g) rfl p.o s.o (by simp at u⊢<;>omega));go_wp2_with fail
 refine(n.o.1).mono ?_;rintro e E ⟨rfl,d,f⟩;have q:=O d;have t:=O f;clear d f n p s;have z:=O (y.o _ _ q.o t.o (by simp));clear q t;go_wp2;go_end0;exact z.o
theorem at_any'{w:lZ}{m:bZ}(N:B<=w.heap.size)(G:Wrt w B a b c m)(i j:Int)(g h:bZ)(o:CCs w B a b c 133 #[pV a,U i,U 5] g)(n:CCs w B a b c 95 #[pV a,U j] h)(l:m.length+(g++[91]++h++[93]).length<=100000000000000):
 Calls prog 98 #[pV a,U i,U j] w (D7 w B a b c (m++(g++[91]++h++[93]))):=by
 have k:I No w w:=I.refl _ _;obtain⟨F,t,z,L⟩:=G9 N G k (g++[91]++h++[93]);have K:=O (o _ k);have H:=O (n _ k);clear G k o n;go_enter func98,ntmps98;have p:=O (K.o _ _ t.o z.o (by simp at l⊢<;>omega));go_wp2_with fail
 refine(p.o).mono ?_;rintro e P ⟨rfl,d,f⟩;have u:=O d;have A:=O f;clear d f p t z;have q:=O (F.o.1 _ _ _ 1 [91] rfl u.o A.o (by simp at l⊢<;>omega));go_wp2_with fail
 refine(q.o.1).mono ?_;rintro e R ⟨rfl,d,f⟩;have v:=O d;have C:=O f;clear d f q u A;have r:=O (H.o _ _ v.o C.o (by simp at l⊢<;>omega));go_wp2_with fail
 refine(r.o).mono ?_;rintro e S ⟨rfl,d,f⟩;have x:=O d;have D:=O f;clear d f r v C;have s:=O (F.o.1 _ _ _ 1 [93] rfl x.o D.o (by simp at l⊢<;>omega));go_wp2_with fail
 refine(s.o.1).mono ?_;rintro e T ⟨rfl,d,f⟩;have y:=O d;have E:=O f;clear d f s x D;have M:=O (L.o _ _ y.o E.o (by simp));clear y E;go_wp2;go_end0;exact M.o
theorem K2b{w:lZ}{d:bZ}(k:B<=w.heap.size)(h:Wrt w B a b c d)(_hlen:d.length+(([]:bZ)).length<=100000000000000):
 Calls prog 96 #[pV a,U (-1)] w (D7 w B a b c (d++(([]:bZ)))):=by
 have g:I No w w:=I.refl _ _;obtain⟨l,e,f,i⟩:=G9 k h g (([]:bZ));clear h g;go_enter func96,ntmps96;have j:=O (i.o _ _ e.o f.o (by simp));clear e f;go_wp2;go_end0;exact j.o
theorem E3b{w:lZ}{h:bZ}(A:B<=w.heap.size)(u:Wrt w B a b c h)(j:Nat)(g:bZ)(k:CCs w B a b c 16 #[pV a,U (j:Int)] g)(t:h.length+([58,32]++g).length<=100000000000000):
 Calls prog 96 #[pV a,U (j:Int)] w (D7 w B a b c (h++([58,32]++g))):=by
 have i:I No w w:=I.refl _ _;obtain⟨z,n,q,x⟩:=G9 A u i ([58,32]++g);have v:=O (k _ i);clear u i k;go_enter func96,ntmps96;have l:=O (z.o.1 _ _ _ 1 [58,32] rfl n.o q.o (by simp at t⊢<;>omega));go_wp2_with fail
 refine(l.o.1).mono ?_;rintro e C ⟨rfl,d,f⟩;have o:=O d;have r:=O f;clear d f l n q;have m:=O (v.o _ _ o.o r.o (by simp at t⊢<;>omega));go_wp2_with fail
 refine(m.o).mono ?_;rintro e D ⟨rfl,d,f⟩;have p:=O d;have s:=O f;clear d f m o r;have y:=O (x.o _ _ p.o s.o (by simp));clear p s;go_wp2;go_end0;exact y.o
theorem Q2d{w:lZ}{t:bZ}(Z:B<=w.heap.size)(u:Wrt w B a b c t)(N v S T:Int)(V:uZ)(g:bZ)(W Y X:Int)(P:Option Addr)(R:Nat)(o:bZ)(y:CCs w B a b c 133 #[pV a,U v,U 4] o)(q:t.length+(g++(if g=[116,121,112,101,111,102] then [32] else [])++o).length<=100000000000000):
 Calls prog 132 #[pV a,.agg #[U N,U v,U S,U T,.slice P V.length R,.string ⟨g.toArray⟩,U W,U Y,U X]] w (D7 w B a b c (t++(g++(if g=[116,121,112,101,111,102] then [32] else [])++o))):=by
 generalize M:(if g=[116,121,112,101,111,102] then [32] else ([]:bZ))=ii at *;have E:=O M;clear M;have p:I No w (w.alloc (ndC N v S T (.slice P V.length R) g W Y X)):=I.alloc No _ _;obtain⟨L,F,H,A⟩:=G9 Z u p (g++ii++o);have z:=O (y _ p);have l:=fc2 u p 1 5 rfl rfl;clear u p y;go_enter func132,ntmps132;have C:=O (L.o.1 _ _ (w.heap.size+1) 1 (g) (by simp) F.o H.o (by simp at q⊢<;>omega));go_wp2_with fail
 go_region_with (go_at_call 30;refine(C.o.2).mono ?_;rintro e a2 ⟨rfl,d,f⟩)
 all_goals
  have m:=O d;have n:=O f;obtain⟨a8,a9,aa⟩:=l.o a2 d;clear d f C F H;by_cases r:g=[116,121,112,101,111,102]
  · have k:=E.o;rw[rY r]at k;subst k;subst r;have h:=O (L.o.1 _ _ _ 1 [32] rfl m.o n.o (by simp at q⊢<;>omega));go_wp2_with fail
    refine(h.o.1).mono ?_;rintro e x ⟨rfl,d,f⟩;have i:=O d;have j:=O f;obtain⟨a4,a5,a6⟩:=l.o x d;clear d f h m n;have D:=O (z.o _ _ i.o j.o (by simp at q⊢<;>omega));go_wp2_with fail
    refine(D.o).mono ?_;rintro e a3 ⟨rfl,d,f⟩;have G:=O d;have K:=O f;obtain⟨ab,ac,ad⟩:=l.o a3 d;clear d f D i j;have s:=O (A.o _ _ G.o K.o (by simp));clear G K;go_wp2;go_end0;exact s.o
  · have k:=E.o;rw[yY r]at k;subst k;have a7:(g==[116,121,112,101,111,102])=false:=by simp[r]
    have h:=O (z.o _ _ m.o n.o (by simp at q⊢<;>omega));go_wp2_with fail
    refine(h.o).mono ?_;rintro e x ⟨rfl,d,f⟩;have i:=O d;have j:=O f;obtain⟨a4,a5,a6⟩:=l.o x d;clear d f h m n;have s:=O (A.o _ _ i.o j.o (by simp));clear i j;go_wp2;go_end0;exact s.o
theorem Z2a{w:lZ}{m:bZ}(hB:B<=w.heap.size)(n:Wrt w B a b c m)(h:bZ)(L o p R:Int)(S:uZ)(P:bZ)(T W V:Int)(M:Option Addr)(N:Nat)(j k:bZ)(r:CCs w B a b c 95 #[pV a,U o] j)(q:CCs w B a b c 56 #[pV a,U p] k)(l:m.length+((h++[32,40])++j++[41,32]++k).length<=100000000000000):
 Calls prog 55 #[pV a,.string ⟨h.toArray⟩,.agg #[U L,U o,U p,U R,.slice M S.length N,.string ⟨P.toArray⟩,U T,U W,U V]] w (D7 w B a b c (m++((h++[32,40])++j++[41,32]++k))):=by
 have g:I No w (w.alloc (ndC L o p R (.slice M S.length N) P T W V)):=I.alloc No _ _;obtain⟨K,x,D,Z⟩:=G9 hB n g ((h++[32,40])++j++[41,32]++k);have Y:=O (r _ g);have X:=O (q _ g);have i:=fc2 n g 1 2 rfl rfl;clear n g r q;go_enter func55,ntmps55;have s:=O (K.o.2.1 _ _ (w.heap.size+1) 1 (h) [32,40] (by simp) x.o D.o (by simp at l⊢<;>omega));go_wp2_with fail
 refine(s.o.1).mono ?_;rintro e a2 ⟨rfl,d,f⟩;have y:=O d;have E:=O f;obtain⟨a6,a7,a8⟩:=i.o a2 d;clear d f s x D;have t:=O (Y.o _ _ y.o E.o (by simp at l⊢<;>omega));go_wp2_with fail
 refine(t.o).mono ?_;rintro e a3 ⟨rfl,d,f⟩;have z:=O d;have F:=O f;obtain⟨a9,aa,ab⟩:=i.o a3 d;clear d f t y E;have u:=O (K.o.1 _ _ _ 1 [41,32] rfl z.o F.o (by simp at l⊢<;>omega));go_wp2_with fail
 refine(u.o.1).mono ?_;rintro e a4 ⟨rfl,d,f⟩;have A:=O d;have G:=O f;obtain⟨ac,ad,ae⟩:=i.o a4 d;clear d f u z F;have v:=O (X.o _ _ A.o G.o (by simp at l⊢<;>omega));go_wp2_with fail
 refine(v.o).mono ?_;rintro e a5 ⟨rfl,d,f⟩;have C:=O d;have H:=O f;obtain⟨af,ag,ah⟩:=i.o a5 d;clear d f v A G;have HE:=O (Z.o _ _ C.o H.o (by simp));clear C H;go_wp2;go_end0;exact HE.o
theorem D4d{w:lZ}{m:bZ}(Z:B<=w.heap.size)(n:Wrt w B a b c m)(o N P:Int)(R:uZ)(g:bZ)(S p T:Int)(L:Option Addr)(M:Nat)(k j:bZ)(r:CCs w B a b c 96 #[pV a,U p] k)(q:CCs w B a b c 95 #[pV a,U o] j)(l:m.length+(([108,101,116,32]++g)++k++[32,61,32]++j).length<=100000000000000):
 Calls prog 57 #[pV a,.agg #[U 17,U o,U N,U P,.slice L R.length M,.string ⟨g.toArray⟩,U S,U p,U T]] w (D7 w B a b c (m++(([108,101,116,32]++g)++k++[32,61,32]++j))):=by
 have h:I No w (w.alloc (ndC 17 o N P (.slice L R.length M) g S p T)):=I.alloc No _ _;obtain⟨K,x,D,X⟩:=G9 Z n h (([108,101,116,32]++g)++k++[32,61,32]++j);have W:=O (r _ h);have V:=O (q _ h);have i:=fc3 n h 1 7 5 rfl rfl rfl;clear n h r q;go_enter func57,ntmps57;have s:=O (K.o.2.1 _ _ (w.heap.size+1) 1 [108,101,116,32] (g) (by simp) x.o D.o (by simp at l⊢<;>omega));go_wp2_with fail
 go_region_with (go_at_call 30;refine(s.o.2).mono ?_;rintro e a2 ⟨rfl,d,f⟩)
 all_goals
  have y:=O d;have E:=O f;obtain⟨a6,a7,a8,a9⟩:=i.o a2 d;clear d f s x D;have t:=O (W.o _ _ y.o E.o (by simp at l⊢<;>omega));go_wp2_with fail
  refine(t.o).mono ?_;rintro e a3 ⟨rfl,d,f⟩;have z:=O d;have F:=O f;obtain⟨aa,ab,ac,ad⟩:=i.o a3 d;clear d f t y E;have u:=O (K.o.1 _ _ _ 1 [32,61,32] rfl z.o F.o (by simp at l⊢<;>omega));go_wp2_with fail
  refine(u.o.1).mono ?_;rintro e a4 ⟨rfl,d,f⟩;have A:=O d;have G:=O f;obtain⟨ae,af,ag,ah⟩:=i.o a4 d;clear d f u z F;have v:=O (V.o _ _ A.o G.o (by simp at l⊢<;>omega));go_wp2_with fail
  refine(v.o).mono ?_;rintro e a5 ⟨rfl,d,f⟩;have C:=O d;have H:=O f;obtain⟨ai,aj,ak,al⟩:=i.o a5 d;clear d f v A G;have Y:=O (X.o _ _ C.o H.o (by simp));clear C H;go_wp2;go_end0;exact Y.o
theorem D2d{w:lZ}{j:bZ}(N:B<=w.heap.size)(k:Wrt w B a b c j)(l A C:Int)(D:uZ)(f:bZ)(E G F:Int)(y:Option Addr)(z:Nat)(h:bZ)(m:CCs w B a b c 95 #[pV a,U l] h)(x:j.length+((f++[32,61,32])++h).length<=100000000000000):
 Calls prog 57 #[pV a,.agg #[U 18,U l,U A,U C,.slice y D.length z,.string ⟨f.toArray⟩,U E,U G,U F]] w (D7 w B a b c (j++((f++[32,61,32])++h))):=by
 have i:I No w (w.alloc (ndC 18 l A C (.slice y D.length z) f E G F)):=I.alloc No _ _;obtain⟨M,q,t,K⟩:=G9 N k i ((f++[32,61,32])++h);have H:=O (m _ i);have n:=fc2 k i 1 5 rfl rfl;clear k i m;go_enter func57,ntmps57;have o:=O (M.o.2.1 _ _ (w.heap.size+1) 1 (f) [32,61,32] (by simp) q.o t.o (by simp at x⊢<;>omega));go_wp2_with fail
 go_region_with (go_at_call 30;refine(o.o.2).mono ?_;rintro e P ⟨rfl,d,g⟩)
 all_goals
  have r:=O d;have u:=O g;obtain⟨S,T,V⟩:=n.o P d;clear d g o q t;have p:=O (H.o _ _ r.o u.o (by simp at x⊢<;>omega));go_wp2_with fail
  refine(p.o).mono ?_;rintro e R ⟨rfl,d,g⟩;have s:=O d;have v:=O g;obtain⟨W,X,Y⟩:=n.o R d;clear d g p r u;have L:=O (K.o _ _ s.o v.o (by simp));clear s v;go_wp2;go_end0;exact L.o
theorem D3d{w:lZ}{k:bZ}(W:B<=w.heap.size)(m:Wrt w B a b c k)(o p H:Int)(K:uZ)(n:bZ)(L N M:Int)(F:Option Addr)(G:Nat)(h i:bZ)(r:CCs w B a b c 97 #[pV a,U o,.string ⟨n.toArray⟩] h)(q:CCs w B a b c 95 #[pV a,U p] i)(l:k.length+(h++[32,61,32]++i).length<=100000000000000):
 Calls prog 57 #[pV a,.agg #[U 19,U o,U p,U H,.slice F K.length G,.string ⟨n.toArray⟩,U L,U N,U M]] w (D7 w B a b c (k++(h++[32,61,32]++i))):=by
 have g:I No w (w.alloc (ndC 19 o p H (.slice F K.length G) n L N M)):=I.alloc No _ _;obtain⟨V,v,A,S⟩:=G9 W m g (h++[32,61,32]++i);have R:=O (r _ g);have P:=O (q _ g);have j:=fc3 m g 1 2 5 rfl rfl rfl;clear m g r q;go_enter func57,ntmps57;have s:=O (R.o _ _ v.o A.o (by simp at l⊢<;>omega));go_wp2_with fail
 refine(s.o).mono ?_;rintro e X ⟨rfl,d,f⟩;have x:=O d;have C:=O f;obtain⟨a2,a3,a4,a5⟩:=j.o X d;clear d f s v A;have t:=O (V.o.1 _ _ _ 1 [32,61,32] rfl x.o C.o (by simp at l⊢<;>omega));go_wp2_with fail
 refine(t.o.1).mono ?_;rintro e Y ⟨rfl,d,f⟩;have y:=O d;have D:=O f;obtain⟨a6,a7,a8,a9⟩:=j.o Y d;clear d f t x C;have u:=O (P.o _ _ y.o D.o (by simp at l⊢<;>omega));go_wp2_with fail
 refine(u.o).mono ?_;rintro e Z ⟨rfl,d,f⟩;have z:=O d;have E:=O f;obtain⟨aa,ab,ac,ad⟩:=j.o Z d;clear d f u y D;have T:=O (S.o _ _ z.o E.o (by simp));clear z E;go_wp2;go_end0;exact T.o
theorem D5d{w:lZ}{k:bZ}(W:B<=w.heap.size)(m:Wrt w B a b c k)(n o p:Int)(K:uZ)(H:bZ)(L N M:Int)(F:Option Addr)(G:Nat)(h i:bZ)(r:CCs w B a b c 98 #[pV a,U n,U o] h)(q:CCs w B a b c 95 #[pV a,U p] i)(l:k.length+(h++[32,61,32]++i).length<=100000000000000):
 Calls prog 57 #[pV a,.agg #[U 20,U n,U o,U p,.slice F K.length G,.string ⟨H.toArray⟩,U L,U N,U M]] w (D7 w B a b c (k++(h++[32,61,32]++i))):=by
 have g:I No w (w.alloc (ndC 20 n o p (.slice F K.length G) H L N M)):=I.alloc No _ _;obtain⟨V,v,A,S⟩:=G9 W m g (h++[32,61,32]++i);have R:=O (r _ g);have P:=O (q _ g);have j:=fc4 m g 1 2 3 5 rfl rfl rfl rfl;clear m g r q;go_enter func57,ntmps57;have s:=O (R.o _ _ v.o A.o (by simp at l⊢<;>omega));go_wp2_with fail
 refine(s.o).mono ?_;rintro e X ⟨rfl,d,f⟩;have x:=O d;have C:=O f;obtain⟨a2,a3,a4,a5,a6⟩:=j.o X d;clear d f s v A;have t:=O (V.o.1 _ _ _ 1 [32,61,32] rfl x.o C.o (by simp at l⊢<;>omega));go_wp2_with fail
 refine(t.o.1).mono ?_;rintro e Y ⟨rfl,d,f⟩;have y:=O d;have D:=O f;obtain⟨a7,a8,a9,aa,ab⟩:=j.o Y d;clear d f t x C;have u:=O (P.o _ _ y.o D.o (by simp at l⊢<;>omega));go_wp2_with fail
 refine(u.o).mono ?_;rintro e Z ⟨rfl,d,f⟩;have z:=O d;have E:=O f;obtain⟨ac,ad,ae,af,ag⟩:=j.o Z d;clear d f u y D;have T:=O (S.o _ _ z.o E.o (by simp));clear z E;go_wp2;go_end0;exact T.o
theorem C2c{w:lZ}{i:bZ}(N:B<=w.heap.size)(j:Wrt w B a b c i)(k A C:Int)(D:uZ)(z:bZ)(E G F:Int)(x:Option Addr)(y:Nat)(g:bZ)(l:CCs w B a b c 95 #[pV a,U k] g)(v:i.length+([112,114,105,110,116,32]++g).length<=100000000000000):
 Calls prog 57 #[pV a,.agg #[U 21,U k,U A,U C,.slice x D.length y,.string ⟨z.toArray⟩,U E,U G,U F]] w (D7 w B a b c (i++([112,114,105,110,116,32]++g))):=by
 have h:I No w (w.alloc (ndC 21 k A C (.slice x D.length y) z E G F)):=I.alloc No _ _;obtain⟨M,p,s,K⟩:=G9 N j h ([112,114,105,110,116,32]++g);have H:=O (l _ h);have m:=fc1 j h 1 rfl;clear j h l;go_enter func57,ntmps57;have n:=O (M.o.1 _ _ (w.heap.size+1) 1 [112,114,105,110,116,32] (by simp) p.o s.o (by simp at v⊢<;>omega));go_wp2_with fail
 refine(n.o.1).mono ?_;rintro e P ⟨rfl,d,f⟩;have q:=O d;have t:=O f;obtain⟨S,T⟩:=m.o P d;clear d f n p s;have o:=O (H.o _ _ q.o t.o (by simp at v⊢<;>omega));go_wp2_with fail
 refine(o.o).mono ?_;rintro e R ⟨rfl,d,f⟩;have r:=O d;have u:=O f;obtain⟨V,W⟩:=m.o R d;clear d f o q t;have L:=O (K.o _ _ r.o u.o (by simp));clear r u;go_wp2;go_end0;exact L.o
theorem T4b{w:lZ}{i:bZ}(N:B<=w.heap.size)(j:Wrt w B a b c i)(k A C:Int)(D:uZ)(z:bZ)(E G F:Int)(x:Option Addr)(y:Nat)(g:bZ)(l:CCs w B a b c 95 #[pV a,U k] g)(v:i.length+([114,101,116,117,114,110,32]++g).length<=100000000000000):
 Calls prog 57 #[pV a,.agg #[U 24,U k,U A,U C,.slice x D.length y,.string ⟨z.toArray⟩,U E,U G,U F]] w (D7 w B a b c (i++([114,101,116,117,114,110,32]++g))):=by
 have h:I No w (w.alloc (ndC 24 k A C (.slice x D.length y) z E G F)):=I.alloc No _ _;obtain⟨M,p,s,K⟩:=G9 N j h ([114,101,116,117,114,110,32]++g);have H:=O (l _ h);have m:=fc1 j h 1 rfl;clear j h l;go_enter func57,ntmps57;have n:=O (M.o.1 _ _ (w.heap.size+1) 1 [114,101,116,117,114,110,32] (by simp) p.o s.o (by simp at v⊢<;>omega));go_wp2_with fail
 refine(n.o.1).mono ?_;rintro e P ⟨rfl,d,f⟩;have q:=O d;have t:=O f;obtain⟨S,T⟩:=m.o P d;clear d f n p s;have o:=O (H.o _ _ q.o t.o (by simp at v⊢<;>omega));go_wp2_with fail
 refine(o.o).mono ?_;rintro e R ⟨rfl,d,f⟩;have r:=O d;have u:=O f;obtain⟨V,W⟩:=m.o R d;clear d f o q t;have L:=O (K.o _ _ r.o u.o (by simp));clear r u;go_wp2;go_end0;exact L.o
theorem R8d{w:lZ}{g:bZ}(G:B<=w.heap.size)(i:Wrt w B a b c g)(j u v:Int)(x:uZ)(t:bZ)(y A z:Int)(r:Option Addr)(s:Nat)(d:bZ)(k:CCs w B a b c 95 #[pV a,U j] d)(L:g.length+(d).length<=100000000000000):
 Calls prog 57 #[pV a,.agg #[U 25,U j,U u,U v,.slice r x.length s,.string ⟨t.toArray⟩,U y,U A,U z]] w (D7 w B a b c (g++(d))):=by
 have f:I No w (w.alloc (ndC 25 j u v (.slice r x.length s) t y A z)):=I.alloc No _ _;obtain⟨K,m,o,D⟩:=G9 G i f (d);have C:=O (k _ f);have E:=fc1 i f 1 rfl;clear i f k;go_enter func57,ntmps57;have l:=O (C.o _ _ m.o o.o (by omega));go_wp2_with fail
 refine(l.o).mono ?_;rintro e H ⟨rfl,h,q⟩;have n:=O h;have p:=O q;obtain⟨M,N⟩:=E.o H h;clear h q l m o;have F:=O (D.o _ _ n.o p.o (by simp));clear n p;go_wp2;go_end0;exact F.o
theorem A6a{w:lZ}{j:bZ}(P:B<=w.heap.size)(k:Wrt w B a b c j)(g:Int)(T:(g==22)=false)(V:(g==23)=false)(o p q:Int)(r:uZ)(n:bZ)(s u t:Int)(l:Option Addr)(m:Nat)(h:bZ)(v:CCs w B a b c 57 #[pV a,.agg #[U g,U o,U p,U q,.slice l r.length m,.string ⟨n.toArray⟩,U s,U u,U t]] h)(H:j.length+(h++[59]).length<=100000000000000):
 Calls prog 29 #[pV a,.agg #[U g,U o,U p,U q,.slice l r.length m,.string ⟨n.toArray⟩,U s,U u,U t]] w (D7 w B a b c (j++(h++[59]))):=by
 have i:I No w (w.alloc (ndC g o p q (.slice l r.length m) n s u t)):=I.alloc No _ _;obtain⟨N,A,E,L⟩:=G9 P k i (h++[59]);have K:=O (v _ i);have x:=fc1 k i 1 rfl;clear k i v;go_enter func29,ntmps29;have y:=O (K.o _ _ A.o E.o (by simp at H⊢<;>omega));go_wp2_with fail
 refine(y.o).mono ?_;rintro e R ⟨rfl,d,f⟩;have C:=O d;have F:=O f;obtain⟨W,X⟩:=x.o R d;clear d f y A E;have z:=O (N.o.1 _ _ _ 1 [59] rfl C.o F.o (by simp at H⊢<;>omega));go_wp2_with fail
 refine(z.o.1).mono ?_;rintro e S ⟨rfl,d,f⟩;have D:=O d;have G:=O f;obtain⟨Y,Z⟩:=x.o S d;clear d f z C F;have M:=O (L.o _ _ D.o G.o (by simp));clear D G;go_wp2;go_end0;exact M.o
theorem Y8b{w:lZ}{g:bZ}(G:B<=w.heap.size)(i:Wrt w B a b c g)(m n o:Int)(p:uZ)(l:bZ)(q s r:Int)(j:Option Addr)(k:Nat)(d:bZ)(t:CCs w B a b c 55 #[pV a,.string ⟨#[119,104,105,108,101]⟩,.agg #[U 23,U m,U n,U o,.slice j p.length k,.string ⟨l.toArray⟩,U q,U s,U r]] d)(L:g.length+(d).length<=100000000000000):
 Calls prog 29 #[pV a,.agg #[U 23,U m,U n,U o,.slice j p.length k,.string ⟨l.toArray⟩,U q,U s,U r]] w (D7 w B a b c (g++(d))):=by
 have f:I No w (w.alloc (ndC 23 m n o (.slice j p.length k) l q s r)):=I.alloc No _ _;obtain⟨K,v,y,D⟩:=G9 G i f (d);have C:=O (t _ f);have E:=fc1 i f 1 rfl;clear i f t;go_enter func29,ntmps29;have u:=O (C.o _ _ v.o y.o (by omega));go_wp2_with fail
 refine(u.o).mono ?_;rintro e H ⟨rfl,h,A⟩;have x:=O h;have z:=O A;obtain⟨M,N⟩:=E.o H h;clear h A u v y;have F:=O (D.o _ _ x.o z.o (by simp));clear x z;go_wp2;go_end0;exact F.o
theorem N8d{w:lZ}{g:bZ}(F:B<=w.heap.size)(i:Wrt w B a b c g)(m n:Int)(o:uZ)(l:bZ)(p r q:Int)(j:Option Addr)(k:Nat)(d:bZ)(s:CCs w B a b c 55 #[pV a,.string ⟨#[105,102]⟩,.agg #[U 22,U m,U n,U (-1),.slice j o.length k,.string ⟨l.toArray⟩,U p,U r,U q]] d)(K:g.length+(d).length<=100000000000000):
 Calls prog 29 #[pV a,.agg #[U 22,U m,U n,U (-1),.slice j o.length k,.string ⟨l.toArray⟩,U p,U r,U q]] w (D7 w B a b c (g++(d))):=by
 have f:I No w (w.alloc (ndC 22 m n (-1) (.slice j o.length k) l p r q)):=I.alloc No _ _;obtain⟨H,u,x,C⟩:=G9 F i f (d);have A:=O (s _ f);have D:=fc1 i f 3 rfl;clear i f s;go_enter func29,ntmps29;have t:=O (A.o _ _ u.o x.o (by omega));go_wp2_with fail
 refine(t.o).mono ?_;rintro e G ⟨rfl,h,z⟩;have v:=O h;have y:=O z;obtain⟨L,M⟩:=D.o G h;clear h z t u x;have E:=O (C.o _ _ v.o y.o (by simp));clear v y;go_wp2;go_end0;exact E.o
theorem N4c{w:lZ}{l:bZ}(W:B<=w.heap.size)(n:Wrt w B a b c l)(r s:Int)(j:Nat)(t:uZ)(q:bZ)(u x v:Int)(o:Option Addr)(p:Nat)(h i:bZ)(z:CCs w B a b c 55 #[pV a,.string ⟨#[105,102]⟩,.agg #[U 22,U r,U s,U (j:Int),.slice o t.length p,.string ⟨q.toArray⟩,U u,U x,U v]] h)(y:CCs w B a b c 56 #[pV a,U (j:Int)] i)(m:l.length+(h++[32,101,108,115,101,32]++i).length<=100000000000000):
 Calls prog 29 #[pV a,.agg #[U 22,U r,U s,U (j:Int),.slice o t.length p,.string ⟨q.toArray⟩,U u,U x,U v]] w (D7 w B a b c (l++(h++[32,101,108,115,101,32]++i))):=by
 have g:I No w (w.alloc (ndC 22 r s (j:Int) (.slice o t.length p) q u x v)):=I.alloc No _ _;obtain⟨V,E,K,S⟩:=G9 W n g (h++[32,101,108,115,101,32]++i);have R:=O (z _ g);have P:=O (y _ g);have k:=fc1 n g 3 rfl;clear n g z y;go_enter func29,ntmps29;have A:=O (R.o _ _ E.o K.o (by simp at m⊢<;>omega));go_wp2_with fail
 refine(A.o).mono ?_;rintro e X ⟨rfl,d,f⟩;have F:=O d;have L:=O f;obtain⟨a2,a3⟩:=k.o X d;clear d f A E K;have C:=O (V.o.1 _ _ _ 1 [32,101,108,115,101,32] rfl F.o L.o (by simp at m⊢<;>omega));go_wp2_with fail
 refine(C.o.1).mono ?_;rintro e Y ⟨rfl,d,f⟩;have G:=O d;have M:=O f;obtain⟨a4,a5⟩:=k.o Y d;clear d f C F L;have D:=O (P.o _ _ G.o M.o (by simp at m⊢<;>omega));go_wp2_with fail
 refine(D.o).mono ?_;rintro e Z ⟨rfl,d,f⟩;have H:=O d;have N:=O f;obtain⟨a6,a7⟩:=k.o Z d;clear d f D G M;have T:=O (S.o _ _ H.o N.o (by simp));clear H N;go_wp2;go_end0;exact T.o
theorem H5d{w:lZ}{h:bZ}(M:B<=w.heap.size)(j:Wrt w B a b c h)(d n m z:Nat)(p q r:Int)(s:uZ)(o:bZ)(t v u:Int)(k:Option Addr)(l:Nat)(T:w.cell? (J a 4)=some (.slice (some (J d 0)) n m))(S:z<n)(_hnc:n<=m)(_hnm:m<=maxLen)(_hgn:d<w.heap.size)(_hwb:a<w.heap.size)(V:w.cell? (J d (z * 9))=some (U 12))(W:w.cell? (J d (z * 9+1))=some (U p))(X:w.cell? (J d (z * 9+2))=some (U q))(Y:w.cell? (J d (z * 9+3))=some (U r))(Z:w.cell? (J d (z * 9+4))=some (.slice k s.length l))(x5:w.cell? (J d (z * 9+5))=some (.string ⟨o.toArray⟩))(x6:w.cell? (J d (z * 9+6))=some (U t))(x7:w.cell? (J d (z * 9+7))=some (U v))(x8:w.cell? (J d (z * 9+8))=some (U u))(f:bZ)(x:CCs w B a b c 131 #[pV a,.agg #[U 12,U p,U q,U r,.slice k s.length l,.string ⟨o.toArray⟩,U t,U v,U u]] f)(R:h.length+(f).length<=100000000000000):
 Calls prog 95 #[pV a,U (z:Int)] w (D7 w B a b c (h++(f))):=by
 have g:I No w (w.alloc (ndC 12 p q r (.slice k s.length l) o t v u)):=I.alloc No _ _;obtain⟨P,A,D,H⟩:=G9 M j g (f);have G:=O (x _ g);have K:=fc1 j g 1 rfl;clear j g x;go_enter func95,ntmps95;have y:=O (G.o _ _ A.o D.o (by omega));go_wp2_with fail
 refine(y.o).mono ?_;rintro e N ⟨rfl,i,F⟩;have C:=O i;have E:=O F;obtain⟨a2,a3⟩:=K.o N i;clear i F y A D;have L:=O (H.o _ _ C.o E.o (by simp));clear C E;go_wp2;go_end0;exact L.o
theorem H6d{w:lZ}{h:bZ}(M:B<=w.heap.size)(j:Wrt w B a b c h)(d n m z:Nat)(p q r:Int)(s:uZ)(o:bZ)(t v u:Int)(k:Option Addr)(l:Nat)(T:w.cell? (J a 4)=some (.slice (some (J d 0)) n m))(S:z<n)(_hnc:n<=m)(_hnm:m<=maxLen)(_hgn:d<w.heap.size)(_hwb:a<w.heap.size)(V:w.cell? (J d (z * 9))=some (U 13))(W:w.cell? (J d (z * 9+1))=some (U p))(X:w.cell? (J d (z * 9+2))=some (U q))(Y:w.cell? (J d (z * 9+3))=some (U r))(Z:w.cell? (J d (z * 9+4))=some (.slice k s.length l))(x5:w.cell? (J d (z * 9+5))=some (.string ⟨o.toArray⟩))(x6:w.cell? (J d (z * 9+6))=some (U t))(x7:w.cell? (J d (z * 9+7))=some (U v))(x8:w.cell? (J d (z * 9+8))=some (U u))(f:bZ)(x:CCs w B a b c 132 #[pV a,.agg #[U 13,U p,U q,U r,.slice k s.length l,.string ⟨o.toArray⟩,U t,U v,U u]] f)(R:h.length+(f).length<=100000000000000):
 Calls prog 95 #[pV a,U (z:Int)] w (D7 w B a b c (h++(f))):=by
 have g:I No w (w.alloc (ndC 13 p q r (.slice k s.length l) o t v u)):=I.alloc No _ _;obtain⟨P,A,D,H⟩:=G9 M j g (f);have G:=O (x _ g);have K:=fc1 j g 1 rfl;clear j g x;go_enter func95,ntmps95;have y:=O (G.o _ _ A.o D.o (by omega));go_wp2_with fail
 refine(y.o).mono ?_;rintro e N ⟨rfl,i,F⟩;have C:=O i;have E:=O F;obtain⟨a2,a3⟩:=K.o N i;clear i F y A D;have L:=O (H.o _ _ C.o E.o (by simp));clear C E;go_wp2;go_end0;exact L.o
theorem R9c{w:lZ}{k:bZ}(W:B<=w.heap.size)(l:Wrt w B a b c k)(d p o z:Nat)(q K L:Int)(r:uZ)(H:bZ)(M P N:Int)(m:Option Addr)(n:Nat)(n4:w.cell? (J a 4)=some (.slice (some (J d 0)) p o))(a2:z<p)(_hnc:p<=o)(_hnm:o<=maxLen)(_hgn:d<w.heap.size)(_hwb:a<w.heap.size)(x0:w.cell? (J d (z * 9))=some (U 7))(x1:w.cell? (J d (z * 9+1))=some (U q))(x2:w.cell? (J d (z * 9+2))=some (U K))(x3:w.cell? (J d (z * 9+3))=some (U L))(x4:w.cell? (J d (z * 9+4))=some (.slice m r.length n))(x5:w.cell? (J d (z * 9+5))=some (.string ⟨H.toArray⟩))(x6:w.cell? (J d (z * 9+6))=some (U M))(x7:w.cell? (J d (z * 9+7))=some (U P))(x8:w.cell? (J d (z * 9+8))=some (U N))(i j:bZ)(t:CCs w B a b c 133 #[pV a,U q,U 5] i)(s:CCs w B a b c 134 #[pV a,.string ⟨#[40]⟩,.slice m r.length n,.string ⟨#[41]⟩] j)(G:k.length+(i++j).length<=100000000000000):
 Calls prog 95 #[pV a,U (z:Int)] w (D7 w B a b c (k++(i++j))):=by
 have h:I No w (w.alloc (ndC 7 q K L (.slice m r.length n) H M P N)):=I.alloc No _ _;obtain⟨Z,y,D,T⟩:=G9 W l h (i++j);have S:=O (t _ h);have R:=O (s _ h);have u:=fc2 l h 1 4 rfl rfl;clear l h t s;go_enter func95,ntmps95;have v:=O (S.o _ _ y.o D.o (by simp at G⊢<;>omega));go_wp2_with fail
 refine(v.o).mono ?_;rintro e X ⟨rfl,f,g⟩;have A:=O f;have E:=O g;obtain⟨a3,a4,a5⟩:=u.o X f;clear f g v y D;have x:=O (R.o _ _ A.o E.o (by simp at G⊢<;>omega));go_wp2_with fail
 refine(x.o).mono ?_;rintro e Y ⟨rfl,f,g⟩;have C:=O f;have F:=O g;obtain⟨a6,a7,a8⟩:=u.o Y f;clear f g x A E;have V:=O (T.o _ _ C.o F.o (by simp));clear C F;go_wp2;go_end0;exact V.o
theorem H8d{w:lZ}{h:bZ}(M:B<=w.heap.size)(j:Wrt w B a b c h)(d l k z:Nat)(n y A:Int)(C:uZ)(m:bZ)(D F E:Int)(v:Option Addr)(x:Nat)(T:w.cell? (J a 4)=some (.slice (some (J d 0)) l k))(S:z<l)(_hnc:l<=k)(_hnm:k<=maxLen)(_hgn:d<w.heap.size)(_hwb:a<w.heap.size)(V:w.cell? (J d (z * 9))=some (U 8))(W:w.cell? (J d (z * 9+1))=some (U n))(X:w.cell? (J d (z * 9+2))=some (U y))(Y:w.cell? (J d (z * 9+3))=some (U A))(Z:w.cell? (J d (z * 9+4))=some (.slice v C.length x))(x5:w.cell? (J d (z * 9+5))=some (.string ⟨m.toArray⟩))(x6:w.cell? (J d (z * 9+6))=some (U D))(x7:w.cell? (J d (z * 9+7))=some (U F))(x8:w.cell? (J d (z * 9+8))=some (U E))(f:bZ)(o:CCs w B a b c 97 #[pV a,U n,.string ⟨m.toArray⟩] f)(R:h.length+(f).length<=100000000000000):
 Calls prog 95 #[pV a,U (z:Int)] w (D7 w B a b c (h++(f))):=by
 have g:I No w (w.alloc (ndC 8 n y A (.slice v C.length x) m D F E)):=I.alloc No _ _;obtain⟨P,q,s,H⟩:=G9 M j g (f);have G:=O (o _ g);have K:=fc2 j g 1 5 rfl rfl;clear j g o;go_enter func95,ntmps95;have p:=O (G.o _ _ q.o s.o (by omega));go_wp2_with fail
 refine(p.o).mono ?_;rintro e N ⟨rfl,i,u⟩;have r:=O i;have t:=O u;obtain⟨a2,a3,a4⟩:=K.o N i;clear i u p q s;have L:=O (H.o _ _ r.o t.o (by simp));clear r t;go_wp2;go_end0;exact L.o
theorem T6d{w:lZ}{h:bZ}(M:B<=w.heap.size)(j:Wrt w B a b c h)(d l k z:Nat)(m n A:Int)(C:uZ)(y:bZ)(D F E:Int)(v:Option Addr)(x:Nat)(T:w.cell? (J a 4)=some (.slice (some (J d 0)) l k))(S:z<l)(_hnc:l<=k)(_hnm:k<=maxLen)(_hgn:d<w.heap.size)(_hwb:a<w.heap.size)(V:w.cell? (J d (z * 9))=some (U 9))(W:w.cell? (J d (z * 9+1))=some (U m))(X:w.cell? (J d (z * 9+2))=some (U n))(Y:w.cell? (J d (z * 9+3))=some (U A))(Z:w.cell? (J d (z * 9+4))=some (.slice v C.length x))(x5:w.cell? (J d (z * 9+5))=some (.string ⟨y.toArray⟩))(x6:w.cell? (J d (z * 9+6))=some (U D))(x7:w.cell? (J d (z * 9+7))=some (U F))(x8:w.cell? (J d (z * 9+8))=some (U E))(f:bZ)(o:CCs w B a b c 98 #[pV a,U m,U n] f)(R:h.length+(f).length<=100000000000000):
 Calls prog 95 #[pV a,U (z:Int)] w (D7 w B a b c (h++(f))):=by
 have g:I No w (w.alloc (ndC 9 m n A (.slice v C.length x) y D F E)):=I.alloc No _ _;obtain⟨P,q,s,H⟩:=G9 M j g (f);have G:=O (o _ g);have K:=fc2 j g 1 2 rfl rfl;clear j g o;go_enter func95,ntmps95;have p:=O (G.o _ _ q.o s.o (by omega));go_wp2_with fail
 refine(p.o).mono ?_;rintro e N ⟨rfl,i,u⟩;have r:=O i;have t:=O u;obtain⟨a2,a3,a4⟩:=K.o N i;clear i u p q s;have L:=O (H.o _ _ r.o t.o (by simp));clear r t;go_wp2;go_end0;exact L.o
theorem T7d{w:lZ}{l:bZ}(hB:B<=w.heap.size)(n:Wrt w B a b c l)(d p o z:Nat)(q N P:Int)(R:uZ)(M:bZ)(S r T:Int)(K:Option Addr)(L:Nat)(n4:w.cell? (J a 4)=some (.slice (some (J d 0)) p o))(a5:z<p)(_hnc:p<=o)(_hnm:o<=maxLen)(_hgn:d<w.heap.size)(_hwb:a<w.heap.size)(x0:w.cell? (J d (z * 9))=some (U 14))(x1:w.cell? (J d (z * 9+1))=some (U q))(x2:w.cell? (J d (z * 9+2))=some (U N))(x3:w.cell? (J d (z * 9+3))=some (U P))(x4:w.cell? (J d (z * 9+4))=some (.slice K R.length L))(x5:w.cell? (J d (z * 9+5))=some (.string ⟨M.toArray⟩))(x6:w.cell? (J d (z * 9+6))=some (U S))(x7:w.cell? (J d (z * 9+7))=some (U r))(x8:w.cell? (J d (z * 9+8))=some (U T))(i j:bZ)(t:CCs w B a b c 133 #[pV a,U q,U 5] i)(s:CCs w B a b c 16 #[pV a,U r] j)(m:l.length+(i++[32,97,115,32]++j).length<=100000000000000):
 Calls prog 95 #[pV a,U (z:Int)] w (D7 w B a b c (l++(i++[32,97,115,32]++j))):=by
 have h:I No w (w.alloc (ndC 14 q N P (.slice K R.length L) M S r T)):=I.alloc No _ _;obtain⟨Z,y,E,X⟩:=G9 hB n h (i++[32,97,115,32]++j);have W:=O (t _ h);have V:=O (s _ h);have k:=fc2 n h 1 7 rfl rfl;clear n h t s;go_enter func95,ntmps95;have u:=O (W.o _ _ y.o E.o (by simp at m⊢<;>omega));go_wp2_with fail
 refine(u.o).mono ?_;rintro e a2 ⟨rfl,f,g⟩;have A:=O f;have F:=O g;obtain⟨a6,a7,a8⟩:=k.o a2 f;clear f g u y E;have v:=O (Z.o.1 _ _ _ 1 [32,97,115,32] rfl A.o F.o (by simp at m⊢<;>omega));go_wp2_with fail
 refine(v.o.1).mono ?_;rintro e a3 ⟨rfl,f,g⟩;have C:=O f;have G:=O g;obtain⟨a9,aa,ab⟩:=k.o a3 f;clear f g v A F;have x:=O (V.o _ _ (C.o.trans (Wkp.still (I.drewN _ _ 1))) (G.o.still (I.drewN _ _ 1)) (by simp at m⊢<;>omega));go_wp2_with fail
 go_region_with (go_at_call 16;refine(x.o).mono ?_;rintro e a4 ⟨rfl,f,g⟩)
 all_goals
  have D:=O f;have H:=O g;obtain⟨ac,ad,ae⟩:=k.o a4 f;clear f g x C G;have Y:=O (X.o _ _ D.o H.o (by simp));clear D H;go_wp2;go_end0;exact Y.o
theorem T2{w:lZ}{i:bZ}(N:B<=w.heap.size)(k:Wrt w B a b c i)(f:Int)(S:(f==12)=false)(T:(f==13)=false)(W:(f==7)=false)(X:(f==8)=false)(Y:(f==9)=false)(V:(f==14)=false)(d o n z:Nat)(q r s:Int)(t:uZ)(p:bZ)(u x v:Int)(l:Option Addr)(m:Nat)(n4:w.cell? (J a 4)=some (.slice (some (J d 0)) o n))(a2:z<o)(_hnc:o<=n)(_hnm:n<=maxLen)(_hgn:d<w.heap.size)(_hwb:a<w.heap.size)(x0:w.cell? (J d (z * 9))=some (U f))(x1:w.cell? (J d (z * 9+1))=some (U q))(x2:w.cell? (J d (z * 9+2))=some (U r))(x3:w.cell? (J d (z * 9+3))=some (U s))(x4:w.cell? (J d (z * 9+4))=some (.slice l t.length m))(x5:w.cell? (J d (z * 9+5))=some (.string ⟨p.toArray⟩))(x6:w.cell? (J d (z * 9+6))=some (U u))(x7:w.cell? (J d (z * 9+7))=some (U x))(x8:w.cell? (J d (z * 9+8))=some (U v))(g:bZ)(y:CCs w B a b c 135 #[pV a,.agg #[U f,U q,U r,U s,.slice l t.length m,.string ⟨p.toArray⟩,U u,U x,U v]] g)(Z:i.length+(g).length<=100000000000000):
 Calls prog 95 #[pV a,U (z:Int)] w (D7 w B a b c (i++(g))):=by
 have h:I No w (w.alloc (ndC f q r s (.slice l t.length m) p u x v)):=I.alloc No _ _;obtain⟨R,C,E,K⟩:=G9 N k h (g);have H:=O (y _ h);have L:=fc1 k h 1 rfl;clear k h y;go_enter func95,ntmps95;have A:=O (H.o _ _ C.o E.o (by omega));go_wp2_with fail
 refine(A.o).mono ?_;rintro e P ⟨rfl,j,G⟩;have D:=O j;have F:=O G;obtain⟨a3,a4⟩:=L.o P j;clear j G A C E;have M:=O (K.o _ _ D.o F.o (by simp));clear D F;go_wp2;go_end0;exact M.o
theorem B0b{g:Value}{d:Nat}{w:lZ}{f:bZ}(x:B<=w.heap.size)(l:Wrt w B a b (pk g d) f)(A:d<=1000000)(E:f.length+(mg d).length<=100000000000000):
 Calls prog 28 #[pV a] w (D7 w B a b (pk g d) (f++mg d)):=by
 have u:=O (L1a (B:=B) (wb:=a) (tv:=b) (bn:=pk g d) x);obtain⟨p,v,k,_⟩:=l.blk;have z:w.cell? (J a 5)=some (U (d:Int)):=cr k rfl;have F:=(ltG k);have s:=O l;clear k l;go_enter func28,ntmps28;go_wp2_with fail
 go_loopw [6] (λv wr=>∃j:Nat,j<=d/\v=U (j:Int)/\Hid (Wrt wr B a b (pk g d) (f++mg j))/\Hid (Wkp B a w wr)) (λv _=>d - (intOf v).toNat)
 case atStart=>exact⟨0,wQ _,rfl,by simpa[mg]using s,Wkp.refl _ _ _⟩
 case round=>
  obtain⟨j,C,rfl,i,h⟩:=hrel;by_cases D:j<d
  · have G:(mg j).length+2<=(mg d).length:=by
     unfold mg;rw[show d=(d - j - 1)+1+j by omega];simp[List.length_flatten];omega
    have q:Hid (mg (j+1)=mg j++[32,32]):=by
     show _=_;unfold mg;rw[List.replicate_succ',List.flatten_append];simp
    have m:=O (u.o.1 _ _ _ 1 [32,32] rfl h.o i.o (by simp;omega));clear h i;go_wp2_with fail
    refine m.o.1.mono ?_;rintro e H ⟨rfl,n,o⟩;have r:=O n;have t:=O o;clear n o m;go_wp2;go_roundw
    case rel=>exact⟨j+1,by omega,by go_num,by rw[q.o,<-List.append_assoc];exact t.o,r.o⟩
    case measure=>simp[intOf];omega
  · have y:j=d:=by omega
    subst y;go_wp2_with fail
    go_end0;exact⟨rfl,h.o,i.o⟩
def PS(B a:Nat)(b h:Value)(N:List Nd)(T:List Ty)(m:Nat):Prop:=
 ∀(t:Nt) (j d:Nat) (i:j<N.length) (f:Option Addr) (g:Nat) (w:lZ) (e:bZ),szN t<=m->d+szN t<=1000000->Gd t->17<=t.k->t.k<=25->At N T t (j:Int)->Psp w B a b h d N T e->w.ownsRow 0 3 1 (.slice f N[j].list.length g) N[j].list.length (C8 N[j].list)->B<=w.heap.size->e.length+(pr d t).length<=100000000000000->
  Calls prog 29 #[pV a,ndv N[j] f g] w (D7 w B a b (pk h d) (e++pr d t))
theorem B2b(d:Nat)(e:List Pc){j:Nat}(f:j<e.length):I1 d (e.take (j+1))=I1 d (e.take j)++(mg d++e[j].s++[10]):=by
 unfold I1;rw[nQ f,List.flatMap_append];simp
theorem D1d(d:Nat)(e:List Pc){j:Nat}(h:j<e.length):(I1 d (e.take j)).length+(mg d).length+e[j].s.length+1<=(I1 d e).length:=by
 have f:=B2b d e h;have g:I1 d e=I1 d (e.take (j+1))++I1 d (e.drop (j+1)):=by
  unfold I1;rw[<-List.flatMap_append,List.take_append_drop]
 rw[g,f];simp only[qQ,jQ,xQ];omega
theorem J5a{x:Value}{N:List Nd}{T:List Ty}{aa:Nat}(hS:PS B a b x N T aa)(z d:Nat)(hz:z<N.length)(f:List Nt)(w:lZ)(s:bZ)(ao:∀p∈f,szN p<=aa/\Gd p/\17<=p.k/\p.k<=25)(an:∀p∈f,d+szN p<=1000000)(l:AtL N T f N[z].list)(K:Psp w B a b x d N T s)(hB:B<=w.heap.size)(hd:d<=1000000)(az:f.length<=1000000)(ax:s.length+(I1 d (prL d f)).length<=100000000000000):
 Calls prog 12 #[pV a,U (z:Int)] w (D7 w B a b (pk x d) (s++I1 d (prL d f))):=by
 have SY:=O (L1a (B:=B) (wb:=a) (tv:=b) (bn:=pk x d) hB);obtain⟨na,u,rfl,c4,c5,fz,ak,a2⟩:=K.cell;obtain⟨g,la,lc,rfl,ar,aq,ad,x0,x1,x2,x3,x4,x5,x6,x7,x8,ol⟩:=a2 z hz;unfold maxLen at ad;have E:=O K;have OL:=O ol;have ay:=F5a l;have ab:=O l;clear a2 K x0 x1 x2 x3 x5 x6 x7 x8 ol l;generalize N[z].list=L at *;have ae:(prL d f).length=f.length:=by rw[X7];simp
 go_enter func12,ntmps12;go_wp2_with fail
 go_loopw [15] (λv wr=>∃j:Nat,j<=f.length/\v=U (j:Int)/\Hid (Wrt wr B a b (pk (.slice (some (J g 0)) N.length u) d) (s++I1 d ((prL d f).take j)))/\Hid (Wkp B a w wr)) (λv _=>f.length - (intOf v).toNat)
 case atStart=>exact⟨0,wQ _,rfl,(show Wrt _ _ _ _ _ _ from by simpa[I1]using E.o.sp.wrt),Wkp.refl _ _ _⟩
 case round=>
  obtain⟨j,hj,rfl,q,m⟩:=hrel;by_cases H:j<f.length
  · have a4:j<L.length:=by omega
    have l:=D9b ab.o j H a4;obtain⟨a6,a7,t,a8⟩:=ao f[j] (mQ H);have a9:=an f[j] (mQ H);have X:=E.o.kept m.o q.o;obtain⟨gi,af,av,aw,ag,ah⟩:=D9 (m.o.own E.o.sp.wrt OL.o (by decide) (by decide)) a4;subst af;unfold maxLen at ag;have hl:=D1d d (prL d f) (by omega:j<(prL d f).length);have D:=O (B2b d (prL d f) (by omega:j<(prL d f).length));have am:(prL d f)[j]'(by omega)=O2a d f[j]:=by simp[X7,O2a]
    rw[am]at hl D;have b2:a<wr.heap.size:=yQ ak m.o.size;have G:B<=wr.heap.size:=kQ hB m.o.size;obtain⟨y,hy,a5⟩:∃y:Nat,L[j]=(y:Int)/\y<N.length:=by
     have i:=l;cases hq:f[j] with
     |ty t0=>rw[hq]at t;cases t0<;>simp[Nt.k]at t
     |nd b3 tx b4 qs=>
      rw[hq,At]at i;obtain⟨y,h3,h4,_⟩:=i;exact⟨y,h3,h4⟩
    rw[hy]at l ah;simp only[O2a]at hl D;have P:=O (B0b G q.o hd (by simp only[qQ];omega));have W:=O X;have M:=O m.o;have S:Hid (∀(k:lZ) (r:bZ) (n:Option Addr) (o:Nat),Psp k B a b (.slice (some (J g 0)) N.length u) d N T r->k.ownsRow 0 3 1 (.slice n N[y].list.length o) N[y].list.length (C8 N[y].list)->B<=k.heap.size->r.length+(pr d f[j]).length<=100000000000000->Calls prog 29 #[pV a,ndv N[y] n o] k (D7 k B a b (pk (.slice (some (J g 0)) N.length u) d) (r++pr d f[j]))):=λk r n o al A ac aj=>hS f[j] y d a5 n o k r a6 a9 a7 t a8 l al A ac aj;clear m q X l a6 a7 t a8 a9;generalize pr d f[j]=ap at *;go_wp2_with fail
    refine P.o.mono ?_;rintro e k ⟨rfl,h,i⟩;have F:=W.o.kept h i;obtain⟨b5,b6,Z,d4,-,-,b0,a3⟩:=F.cell;simp only[Value.slice.injEq]at Z;obtain⟨rfl,-,rfl⟩:=Z;obtain⟨g1,n,o,e2,au,-,-,x0,x1,x2,x3,x4,x5,x6,x7,x8,A⟩:=a3 y a5;simp only[zQ,Addr.mk.injEq]at e2;obtain⟨rfl,-,-⟩:=e2;have C:=O (S.o k _ n o F A (kQ G h.size) (by simp only[qQ];omega));have V:=O (M.o.trans h);have Q1:=O h;have Y:=O (L1a (B:=B) (wb:=a) (tv:=b) (bn:=pk (.slice (some (J g 0)) N.length u) d) (kQ G h.size));clear h i P W M S F a3 A SY;simp only[ndv]at C;go_wp2_with fail
    refine C.o.mono ?_;rintro e b7 ⟨rfl,h,i⟩;have R:=O (Y.o.1 _ _ _ 1 [10] rfl h i (by simp only[qQ,jQ,xQ];omega));clear h i C Y;go_wp2_with fail
    refine R.o.1.mono ?_;rintro e b8 ⟨rfl,h,i⟩;have K3:=O (V.o.trans h);have R3:=O i;clear h i R V Q1;go_wp2;go_roundw
    case rel=>exact⟨j+1,by omega,by go_num,(by show Wrt _ _ _ _ _ _;rw[D.o];simpa using R3.o),K3.o⟩
    case measure=>simp[intOf];omega
  · have ai:j=f.length:=by omega
    subst ai;have ht:(prL d f).take f.length=prL d f:=by rw[<-ae,xZ]
    rw[ht]at q;have b1:¬((f.length:Int)<(L.length:Int)):=by omega
    go_wp2_with fail
    go_end0;exact⟨rfl,m.o,q.o⟩
theorem Wrt.deep{f:Value}{d d':Nat}{w:lZ}{g:bZ}(h:Wrt w B a b (pk f d) g):Wrt (w.setCell (J a 5) (U (d':Int))) B a b (pk f d') g:=by
 obtain⟨l,p,v,i,n,j⟩:=h;refine⟨l,p,v, ?_,n,A4 j (I.set w (J a 5) _) λk m o=> ?_⟩
 · rw[heap_setCell_same w a 5 _ _ _ i];rfl
 · have q:k=a:=o;subst q;obtain⟨_,r,e⟩:=A9 j k m;rw[i]at e;simp only[zQ,xW]at e;exact absurd e.2.1 ((pk f d).ne _ (by decide))
theorem Wrt.cells{g:Value}{d:Nat}{w:lZ}{f:bZ}(h:Wrt w B a b (pk g d) f):w.cell? (J a 5)=some (U (d:Int))/\(∀o,w.frozen? (J a o)=false)/\a<w.heap.size:=by
 obtain⟨p,v,e,_⟩:=h.blk;exact⟨cr e rfl,λo=>frozen_of_row w a o _ _ e,(ltG e)⟩
theorem V1d{i:Value}{N:List Nd}{T:List Ty}{m:Nat}(L:PS B a b i N T m)(z d:Nat)(hz:z<N.length)(q:bZ)(n:Int)(g:List Nt)(w:lZ)(l:bZ)(V:∀p∈g,szN p<=m/\Gd p/\17<=p.k/\p.k<=25)(S:∀p∈g,d+1+szN p<=1000000)(M:AtL N T g N[z].list)(o:Psp w B a b i d N T l)(x:B<=w.heap.size)(hd:d+1<=1000000)(a4:g.length<=1000000)(j:l.length+(pr d (.nd 26 q n g)).length<=100000000000000):
 Calls prog 56 #[pV a,U (z:Int)] w (D7 w B a b (pk i d) (l++pr d (.nd 26 q n g))):=by
 have E:Hid (pr d (.nd 26 q n g)=[123,10]++I1 (d+1) (prL (d+1) g)++mg d++[125]):=rfl;rw[E.o]at j;have D:=O (λ(u:lZ) (v:bZ) (R:Wkp B a w u) (hw:Wrt u B a b (pk i (d+1)) v) (hl:v.length+(I1 (d+1) (prL (d+1) g)).length<=100000000000000)=>J5a L z (d+1) hz g u v V S M (o.kept R hw) (kQ x R.size) hd a4 hl);have H:=O (λd'=>L1a (B:=B) (wb:=a) (tv:=b) (bn:=pk i d') x);have P:B<=a:=o.sp.wrt.low;have Y:=O o.sp.wrt;have aa:(mg d).length=2 * d:=by unfold mg;simp[List.length_flatten];omega
 have y:=O ((H.o d).1 _ _ _ 1 [123,10] rfl (Wkp.refl B a w) Y.o (by simp only[qQ,jQ,xQ]at j⊢;omega));clear o M V S L;generalize I1 (d+1) (prL (d+1) g)=LL at *;generalize pr d (.nd 26 q n g)=Z at *;go_enter func56,ntmps56;go_wp2_with fail
 refine y.o.1.mono ?_;rintro e a5 ⟨rfl,h,f⟩;obtain⟨c5,fz,a8⟩:=f.cells;have k:=O (h.trans (Wkp.set P a5 5 (U ((d+1:Nat):Int))));have t:=O (f.deep (d':=d+1));have r:=O (D.o _ _ k.o t.o (by simp only[qQ,jQ,xQ]at j⊢;omega));have K:((d+1:Nat):Int)=(d:Int)+1:=by omega
 rw[K]at k t r;clear h f y D;go_wp2_with fail
 refine r.o.mono ?_;rintro e W ⟨rfl,h,f⟩;have F:=k.o.trans h;obtain⟨a2,a7,a9⟩:=f.cells;rw[K]at a2;have s:=O (F.trans (Wkp.set P W 5 (U (d:Int))));have G:=O (f.deep (d':=d));have a3:B<=(W.setCell (J a 5) (U (d:Int))).heap.size:=kQ x s.o.size;have C:=O (B0b a3 G.o (by omega) (by simp only[qQ,jQ,xQ]at j⊢;omega));clear h f r k t F;have e6:(d:Int)+1 - 1=(d:Int):=by omega
 go_wp2_with fail
 refine C.o.mono ?_;rintro e ab ⟨rfl,h,f⟩;have A:=O ((H.o d).1 _ _ _ 1 [125] rfl (s.o.trans h) f (by simp only[qQ,jQ,xQ]at j⊢;omega));clear h f C s G;go_wp2_with fail
 refine A.o.1.mono ?_;rintro e a6 ⟨rfl,h,f⟩;have X:=O (show D7 w B a b (pk i d) (l++Z) (rT) a6 from ⟨rfl,h,by rw[E.o];simpa using f⟩);clear h f A;go_wp2;go_end0;exact X.o
end
section
variable{B a:Nat}{c b:Value}{N:List Nd}{T:List Ty}{d:Nat}
def PB(B a:Nat)(c b:Value)(N:List Nd)(T:List Ty)(m:Nat):Prop:=
 ∀(t:Nt) (i:Int) (d:Nat) (w:lZ) (e:bZ),szN t<=m->d+szN t<=1000000->Gd t->t.k=26->At N T t i->Psp w B a c b d N T e->B<=w.heap.size->e.length+(pr d t).length<=100000000000000->
  Calls prog 56 #[pV a,U i] w (D7 w B a c (pk b d) (e++pr d t))
theorem W6{w:lZ}{l:bZ}(r:Psp w B a c b d N T l)(o:B<=w.heap.size){K:Nat}{j:Array Value}{X:bZ}(h:∀f g,Wkp B a w f->Psp f B a c b d N T g->B<=f.heap.size->g.length+X.length<=100000000000000->Calls prog K j f (D7 f B a c (pk b d) (g++X))):
 CCs w B a c (pk b d) K j X:=by
 intro u p f g k s q;have i:=(Wkp.still (B:=B) (wb:=a) p).trans k;refine(h f g i (r.kept i s) (kQ o i.size) q).mono ?_;rintro e t ⟨rfl,m,n⟩;exact⟨rfl,k.trans m,n⟩
section
variable{w:lZ}{e:bZ}{m:Nat}
theorem A9a(k:PE B a c b N T m)(r:Psp w B a c b d N T e)(h:B<=w.heap.size){t:Nt}{i:Int}(u:szN t<=m)(n:d+szN t<=1000000)(p:Gd t)(o:isE t.k)(l:At N T t i):
 CCs w B a c (pk b d) 95 #[pV a,U i] (pr d t):=
 W6 r h (λf g _ s j q=>k t i d f g u n p o l s j q)
theorem Z4(j:PE B a c b N T m)(q:Psp w B a c b d N T e)(g:B<=w.heap.size)(f:Nat){t:Nt}{i:Int}(s:szN t<=m)(l:d+szN t<=1000000)(o:Gd t)(n:isE t.k)(k:At N T t i):
 CCs w B a c (pk b d) 133 #[pV a,U i,U (f:Int)] (wi f (O2a d t)):=
 W6 q g (λ_ _ _ r h p=>X7b j f s l o n k r h p)
theorem R1a(k:PB B a c b N T m)(r:Psp w B a c b d N T e)(h:B<=w.heap.size){t:Nt}{i:Int}(u:szN t<=m)(n:d+szN t<=1000000)(p:Gd t)(o:t.k=26)(l:At N T t i):
 CCs w B a c (pk b d) 56 #[pV a,U i] (pr d t):=
 W6 r h (λf g _ s j q=>k t i d f g u n p o l s j q)
theorem S9c(d j:Nat):wtx (pk b d) T j=txt' (tr T j):=by simp[wtx,wtr,pk]
theorem E9d(g:∀i (f:i<T.length),T[i].list.length<=100000/\T[i].fields.length<=1001)(r:Psp w B a c b d N T e)(n:B<=w.heap.size){t:Tr}{j:Nat}(p:j<T.length)(u:tr T j=t):
 CCs w B a c (pk b d) 16 #[pV a,U (j:Int)] (txt' t):=by
 subst u;refine W6 r n (λk l _ s o q=> ?_);have h:=J1a (B:=B) (wb:=a) (tv:=c) (bn:=pk b d) (T:=T) (λi f=>⟨kQ (g i f).1 (by decide),kQ (g i f).2 (by decide)⟩) (j+1) j k l (by omega) p s.sp o (by rw[S9c];exact q);rw[S9c]at h;exact h
theorem F0d(o:∀i (u:i<T.length),T[i].list.length<=100000/\T[i].fields.length<=1001)(p:Psp w B a c b d N T e)(l:B<=w.heap.size){t:Option Tr}{i:Int}(f:At N T (.ty t) i):
 CCs w B a c (pk b d) 96 #[pV a,U i] (E6a (O2a d (.ty t))):=by
 refine W6 p l (λr s _ h g k=> ?_);cases t with
 |none=>
  rw[At]at f;subst f;exact K2b g h.sp.wrt k
 |some t=>
  rw[At]at f;obtain⟨j,rfl,n,q⟩:=f;exact E3b g h.sp.wrt j (txt' t) (E9d o h g n q) k
end
end
