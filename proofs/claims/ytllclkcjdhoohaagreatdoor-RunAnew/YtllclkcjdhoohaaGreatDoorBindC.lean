/-
  A part of the proof.
-/
import Derived.Test.YtllclkcjdhoohaaGreatDoorBindA
set_option maxHeartbeats 0
set_option linter.all false
set_option maxRecDepth 100000
namespace Go.Proofs.YtllclkcjdhoohaaGreatDoor
open _root_.Array renaming size->V
open Bool renaming false->κ
open Go renaming heap_setCell_same->ð,Value->υ,Calls->μ,maxLen->Δ,undef->Φ
open Obj renaming cells->γ
open Go.Proofs.Tryz renaming prog->ε
open RowKit.Below renaming heap_alloc->ÿ
open Value renaming ownBlock->Θ,slice->Y,string->ι,pointer->Γ
open World renaming setCell->σ,ownsRow->ρ,alloc->ω,cell?->δ
open I renaming trans->Ã,alloc->ν,drewN->Ψ
open List renaming replicate->ó,length->Q,toArray->ξ
open Option renaming some->C
open cV renaming y->Ú
open Go.RowKit Go.Maps
def B6e{w:E}{q}{x y z}{t}(h:w.heap[q]?=C (γ #[x,y,z] t (0,0)))(v):(σ w (J q 2) v).heap[q]?=C (γ #[x,y,v] t (0,0)):=by
 rw[ð w q 2 _ _ v h];rfl
structure tZ(wz w:E)(B bb:Nat)(nv tv:υ)(j:Nat):Prop where
 low:B<=bb
 blk:w.heap[bb]?=C (γ #[nv,sN,tv] 166 (0,0))
 js:ρ w (V wz.heap) 3 1 tv j<|C8<|ó j<|-1
 P:I (λk=>k=bb) wz w
theorem tZ.grow{l w i c}{B a}{f g b}{j}(h:tZ l w B a f g j)(d:I No w i)(n:I (λk=>C k=Θ g) i c)(u:ρ c (V l.heap) 3 1 b (j+1)<|C8 (ó j<|-1)++[U<|-1]):tZ l (σ c (J a 2) b) B a f b (j+1):=by
 have o:=(aG h.blk);have s:=A3 h.js d Ξ;have m:i.heap[a]?=C (γ #[f,sN,g] 166 (0,0)):=by rw[d.block a o id];exact h.blk
 have r:=I6 s m ζ;have p:c.heap[a]?=C (γ #[f,sN,g] 166 (0,0)):=by
  rw[n.block a (yQ o d.size) λe=>r e.symm];exact m
 have q:=I.set c (J a 2) b;refine⟨h.low,B6e p b,?_,?_⟩
 .grind[C8,ó,List.replicate_succ',A3,I6]
 .refine Ã (Ã (Ã h.P d λ_ _ x=>x.elim) n λk t e=>?_) q λ_ _ x=>x;have:=(h.js.lt k e.symm).1;omega
def tZ.done{w0 b w:E}{B c}{g l}{j}(h:tZ b w B c g l j)(m:V w0.heap<=B)(d:B<=V b.heap)(f:Below (V w0.heap) w0 b):dF w0 w B c g l 0 [] (ó j<|-1):=by
 have n:=h.low;refine⟨m,kQ d h.P.size,f.trans<|I.ep h.P (λk _ e=>W) f.size,sN,[],h.low,h.blk,kW _ _ _ _,?_,K,θ,θ,λi a _=>η⟩;have:=C7 h.js d;grind
open Go.Proofs.Tryz
section
variable{d:E}{B a:Nat}{c b:υ}{N:List Nd}
def uz(H:cU d c N)(i)(hi:i<Q N)(w)(a2)(t)(D)(h:dF d w B a c b a2 t D)(a8:t≠[])(u tb)(k qs)(T:zJ N u tb k N[i] qs)(G:∀p∈k,1<=p.k->lD d B a c b N p)(v)(a9:a2+2*aB k<=v)(hm:v<=100000)(hf:Q t+aB k<=100000)(Z:Q D=Q N)(R:Q (N[i]).M<=100000)(P:(N[i]).x≠5/\(N[i]).x≠18/\(N[i]).x≠17/\(N[i]).x≠16/\(N[i]).x≠6/\(N[i]).x≠26):
 μ ε 224 #[pV a,U i] w (aI d w B a c b N v D<|bE κ t u k):=by
 have a7:=h.jh;obtain⟨ah,nc,f,g,rfl,hg,ai,aa,⟨x0,x1,x2,x3,x4,x5,x6,x7,x8⟩,A,S⟩:=H.at h.jh i hi;generalize ab:N[i]=nd at*;obtain⟨e,m,n,o,j,l,q,s,r⟩:=nd;simp only at x0 x1 x2 x3 x4 x5 x6 x7 x8 A S R P;have z:I No w ((ω w<|γ #[pV a] 161).alloc<|aM e m n o (Y f (Q j) g) l q s r):=B6 (ν No _ _)<|ν No _ _;have F:=h.kept z;have L:((ω w<|γ #[pV a] 161).alloc<|aM e m n o (Y f (Q j) g) l q s r).heap[V w.heap]?=C (γ #[pV a] 161 (0,0)):=by
  rw[ÿ _ _ _ θ];have:=rY w<|γ #[pV a] 161;simpa using this
 have a6:((ω w<|γ #[pV a] 161).alloc<|aM e m n o (Y f (Q j) g) l q s r).heap[V w.heap+1]?=C (γ #[U e,U m,U n,U o,Y f (Q j) g,ι ⟨ξ l⟩,U q,U s,U r] 82 (0,0)):=by
  have:=rY (ω w<|γ #[pV a] 161)<|aM e m n o (Y f (Q j) g) l q s r;simpa using this
 have a4:δ ((ω w<|γ #[pV a] 161).alloc<|aM e m n o (Y f (Q j) g) l q s r) (J (V w.heap) 0)=C (pV a):=cr L K;have KA:=O<|Ú (B:=B) (bb:=a) (tv:=b) z;obtain⟨ae,af⟩:=h.blk;have M:=A3 A z λ_ _ ad=>ad;unfold Δ at aa;obtain⟨k5,al,ak,aj,k6,ac⟩:=P;have an:(e==6)=κ:=by simp[k6]
 have am:(e==26)=κ:=by simp[ac]
 have y:=O λa3 ha=>MF KA.u (l0:=[]) F a8 T G W hf Z f g M R (V w.heap) a4 v a9 a3 ha;rw[Br.and_zero]at y;simp only[eE]at y;generalize bE κ t u k=RR at*;generalize Q (px u qs)=pl at*;clear Z T G F h ab L a6 M A S a7 H;go_in;go_wp2_with fail;go_region_with (first|(go_at_call 101;refine(y.u _<|Ψ _ _ 1).mono ?_;rintro a5 ao ⟨ga,gc,rfl,ag,H3⟩)|(go_at_call 166;refine(Hid.u H3).mono ?_;rintro a5 ap (⟨er,p,rfl,x⟩|⟨rfl,x⟩);exact⟨K,x.u⟩));all_goals go_wp2_with fail
 all_goals go_end0
 all_goals exact x.u
theorem wP{w:E}{k}{e}{g f}(h:ρ w k 3 1 (Y (C<|J g 0) (Q e) f) (Q e)<|C8 e)(i)(j):ρ (σ w (J g i)<|U j) k 3 1 (Y (C<|J g 0) (Q e) f) (Q e) (C8<|e.set i j):=by
 obtain⟨s,_⟩|⟨r,q,m,l,n,u,p,o,t,v⟩:=h.2
 .grind
 .simp at l;obtain⟨rfl,rfl⟩:=l;refine⟨by simp[C8],.inr ⟨g,f,m.setIfInBounds i<|U j,K,n,?_,p,o,η,?_⟩⟩
  .grind[ð]
  simp_all[Nat.mul_one,Array.toList_setIfInBounds,List.take_set,C8,List.map_set]
def dF.write{w}{m}{q}{l}(h:dF d w B a c b m q l)(i)(Z)(j):∃g n,b=Y (C<|J g 0) (Q l) n/\g<V w.heap/\Q l<=n/\n<=Δ/\δ w (J g i)=C (U l[i])/\w.frozen? (J g i)=κ/\δ w (J a 2)=C b/\a<V w.heap/\
 cV B a b w (σ w (J g i)<|U j)/\dF d (σ w (J g i)<|U j) B a c b m q (l.set i j):=by
 obtain⟨u,M,f⟩:=h.st;obtain⟨R,n,H⟩:=B8 f.js;subst H;obtain⟨g,rfl,G,D,x,y,z⟩:=D5 f.js W;have A:=z i (U l[i]) (by grind[C8]);obtain⟨_,S,r⟩:=A9 f.js g K;have o:I (λk=>k=g) w (σ w (J g i)<|U j):=I.set w (J g i) _;have p:cV B a (Y (C<|J g 0) (Q l) n) w (σ w (J g i)<|U j):=o.mono λk _ e=>⟨e ▸ G,.inr<|.inl<|by rw[e];rfl⟩;have P:a≠g:=λe=>I6 f.js f.blk ζ (by rw[e];rfl);refine⟨g,n,K,D,x,y,A,frozen_of_row w g i _ _ r,cr f.blk K,(aG f.blk),p,?_⟩;refine⟨h.hz,kQ h.le p.size,h.jh.trans<|(p.below h.le).mono h.hz,u,M,f.low,?_,?_,?_,f.len,f.nd,f.ge,λL t v=>?_⟩
 .rw[o.block a (aG f.blk) P];exact f.blk
 .exact A3 f.ar o (λT F e=>Hz f.ar f.js ζ F<|by rw[e];rfl)
 .have:=wP f.js i j;grind
 .have s:=f.fr L t v;refine s.P o λe=>s.et<|e ▸ r
def zv(hN:cU d c N)(i)(hi:i<Q N)(w)(ae)(y)(D)(h:dF d w B a c b ae y D)(a5:y≠[])(x tb)(A T)(ab:zJ N x tb A N[i] T)(hC:∀a6∈A,1<=a6.k->lD d B a c b N a6)(z)(am:ae+1+2*aB A<=z)(hm:z<=100000)(hf:Q y+aB A<=100000)(ad:Q D=Q N)(aa:Q (N[i]).M<=100000)(ac:Q (N[i]).text<=1000000)(az:i<=100000)(hk:(N[i]).x=16)(a3)(hR:a3=bE κ (I2 y (N[i]).text i) x A):
 μ ε 224 #[pV a,U i] w (aI d w B a c b N z D a3):=by
 have ak:=h.jh;obtain⟨ah,nc,g,j,rfl,hg,b0,an,⟨x0,x1,x2,x3,x4,x5,x6,x7,x8⟩,ho,S⟩:=hN.at h.jh i hi;generalize ao:N[i]=nd at*;obtain⟨v,m,n,o,k,f,p,s,r⟩:=nd;simp only at x0 x1 x2 x3 x4 x5 x6 x7 x8 ho S aa ac hk hR;have a4:I No w ((ω w<|γ #[pV a] 161).alloc<|aM v m n o (Y g (Q k) j) f p s r):=B6 (ν No _ _)<|ν No _ _;have L:=h.kept a4;have M:((ω w<|γ #[pV a] 161).alloc<|aM v m n o (Y g (Q k) j) f p s r).heap[V w.heap]?=C (γ #[pV a] 161 (0,0)):=by
  rw[ÿ _ _ _ θ];have:=rY w<|γ #[pV a] 161;simpa using this
 have P:((ω w<|γ #[pV a] 161).alloc<|aM v m n o (Y g (Q k) j) f p s r).heap[V w.heap+1]?=C (γ #[U v,U m,U n,U o,Y g (Q k) j,ι ⟨ξ f⟩,U p,U s,U r] 82 (0,0)):=by
  have:=rY (ω w<|γ #[pV a] 161)<|aM v m n o (Y g (Q k) j) f p s r;simpa using this
 have ax:δ ((ω w<|γ #[pV a] 161).alloc<|aM v m n o (Y g (Q k) j) f p s r) (J (V w.heap) 0)=C (pV a):=cr M K;have KA:=O<|Ú (B:=B) (bb:=a) (tv:=b) a4;obtain⟨au,av⟩:=h.blk;have a9:=A3 ho a4 λ_ _ ar=>ar;unfold Δ at an;subst hk;have ap:=U9 y f (i:Int) a5;have OW:Hid (∀G,I No ((ω w<|γ #[pV a] 161).alloc<|aM 16 m n o (Y g (Q k) j) f p s r) G->μ ε 268 #[pV a] G λe F=>∃q,e=.returned (.map<|C q)/\F.cell? (J (V w.heap+1) 5)=C (ι ⟨ξ f⟩)/\V w.heap+1<V F.heap/\∃u,(Instr.mapUpdate 266 (.map<|C q) (ι ⟨ξ f⟩)<|U (i:Int)).run ε F=.ok () u/\
  u.heap[V w.heap]?=C (γ #[pV a] 161 (0,0))/\u.heap[V w.heap+1]?=C (γ #[U 16,U m,U n,U o,Y g (Q k) j,ι ⟨ξ f⟩,U p,U s,U r] 82 (0,0))/\Hid (∀H,I No u H->μ ε 101 #[.agg #[U 16,U m,U n,U o,Y g (Q k) j,ι ⟨ξ f⟩,U p,U s,U r]] H λe a7=>∃ga gc,e=.returned (Y ga (Q (px x T)) gc)/\δ a7 (J (V w.heap) 0)=C (pV a)/\
  Hid (μ ε 166 #[pV a,Y ga (Q (px x T)) gc] a7<|DX d w B a (Y (C<|J ah 0) (Q N) nc) b N z D a3))):=by
  intro G ha;refine(YO L a5 W W f ac (i:Int) ⟨W,W⟩ G ha).mono ?_;rintro e F ⟨q,rfl,hc,-,u,hu,R,aj⟩;obtain⟨y1,y2⟩:=L.tv M ζ;obtain⟨z1,z2⟩:=L.tv P ζ;have a8:F.cell? (J (V w.heap+1) 5)=C (ι ⟨ξ f⟩):=A4 hc θ;have q0:=R.other M ζ y1 y2;refine⟨q,K,a8,blt a8,u,hu,q0,R.other P ζ z1 z2,λH ai=>?_⟩;have hP:=MF (l0:=[]) (ts:=D) (KA.u.trans R) aj (T2 a5 ap) ab hC W W ad g j (R.row a9 (λe=>?_) λg' al e=>?_) aa (V w.heap) (cr q0 K) z am H ai
  .rw[Br.and_zero,<-hR]at hP;exact hP
  .have:=S _ e;have:=h.low.1;have:=h.hz;omega
  .have:=S _ al;have:=h.low.2 g' e;have:=h.hz;omega
 have ag:δ ((ω w<|γ #[pV a] 161).alloc<|aM 16 m n o (Y g (Q k) j) f p s r) (J (V w.heap+1) 5)=C (ι ⟨ξ f⟩):=cr P K;generalize Q (px x T)=pl at*;clear ad ab hC L h ao M P a9 ho S ak hN hR;go_in;go_wp2_with fail;go_region_with (go_at_call 268;refine(OW.u _<|Ψ _ _ 1).mono ?_;rintro e b1 ⟨q,rfl,d5,dl,t,aq,af,l,PA⟩);all_goals
  have aw:δ t (J (V w.heap) 0)=C (pV a):=cr af K;have n0:δ t (J (V w.heap+1) 0)=C (U 16):=cr l K;have n1:δ t (J (V w.heap+1) 1)=C (U m):=cr l K;have n2:δ t (J (V w.heap+1) 2)=C (U n):=cr l K;have n3:δ t (J (V w.heap+1) 3)=C (U o):=cr l K;have n4:δ t (J (V w.heap+1) 4)=C (Y g (Q k) j):=cr l K;have n5:δ t (J (V w.heap+1) 5)=C (ι ⟨ξ f⟩):=cr l K;have n6:δ t (J (V w.heap+1) 6)=C (U p):=cr l K;have n7:δ t (J (V w.heap+1) 7)=C (U s):=cr l K;have n8:δ t (J (V w.heap+1) 8)=C (U r):=cr l K;have ln:=(aG l);clear OW aq d5 dl af l ag;go_wp2_with fail;go_region_with (first|(go_at_call 101;refine(PA.u _<|Ψ _ _ 1).mono ?_;rintro e u ⟨ga,gc,rfl,ay,H3⟩)|(go_at_call 166;refine(Hid.u H3).mono ?_;rintro e a7 (⟨er,a6,rfl,Z⟩|⟨rfl,Z⟩);exact⟨K,Z.u⟩));all_goals go_wp2_with fail
  all_goals go_end0
  all_goals exact Z.u
theorem aI.set{w n e}{m i}{k}{f}{l}{x}{j}(p:cV B a b w e)(h:dF d e B a c b m (I2 f x j)<|dG k l)(q:m<=i)(g:I No e n):aI d w B a c b N i k ((Br.ok f l).jk x j) (rT) n:=by
 have h:=h.kept g;obtain⟨o,s,r⟩:=h.st;exact⟨p.trans<|Ú g,K,h.hz,h.le,h.jh,o,s,r.more q⟩
def ō(hN:cU d c N)(G)(n k nE)(b8:n<Q N)(hI:k<=100000)(b9:(N[n]).x=G)(w)(m)(j)(v)(i)(aq:dF d w B a c b m j v)(F:j≠[])(hm:m+2+2*nE<=100000)(hf:Q j<=100000)(hx:Q i<=1000000)
 (L) (P M) (H T Z) (vn vt s) (ay:s=cW N k) (R:List Fr->Br) (ap:∀f D l,f≠[]->R f=.ok D l->Q D=Q f)
 (HA:∀(h) (m1) (f) (g),dF d h B a c b m1 f v->Q f=Q j->m1<=m+1->B<=g->g≠a->Θ b≠C g->ρ h 0 3 1 (Y (C<|J g 0) 1 1) 1 (C8 [n])->μ ε 166 #[pV a,Y (C<|J g 0) 1 1] h (aI d h B a c b N (m1+2*nE) v<|R f)):
 μ ε 267 #[pV a,U k,.agg #[U H,U n,U T,U Z,Y L P M,ι ⟨ξ i⟩,U vn,U vt,U s]] w (aI d w B a c b N (m+2+2*nE) v<|if (kG j i).isSome then .bad 6 k else (R<|if G=6 then I2 j i k else j).jk i k):=by
 have ab:=ν No w<|aM H (n:Int) T Z (Y L P M) i vn vt s;have aa:=rY w<|aM H (n:Int) T Z (Y L P M) i vn vt s;have h1:=aq.kept ab;have bd:V w.heap<V (w.alloc<|aM H (n:Int) T Z (Y L P M) i vn vt s).heap:=θ;obtain⟨x1,x2⟩:=h1.tv aa ζ;have A:Hid (∀h,cV B a b (w.alloc<|aM H (n:Int) T Z (Y L P M) i vn vt s) h->δ h (J (V w.heap) 1)=C (U (n:Int))/\δ h (J (V w.heap) 5)=C (ι ⟨ξ i⟩)/\δ h (J (V w.heap) 8)=C (U s)/\V w.heap<V h.heap):=λh p=>by
  have hb:=p.other aa ζ x1 x2;exact⟨cr hb K,cr hb K,cr hb K,(aG hb)⟩
 have FN:Hid (∀h m f o,dF d h B a c b m f o->∃g S,c=Y (C<|J g 0) (Q N) S/\g<V h.heap/\Q N<=S/\S<=Δ/\δ h (J g<|n*9)=C (U G)/\δ h (J a 0)=C c/\a<V h.heap):=λh m f o p=>by
  obtain⟨g,S,bn,bo,e1,e2,e3,e4,e5,_,_⟩:=hN.at p.jh n b8;obtain⟨b1,b2⟩:=p.blk;grind
 have OW:Hid (∀h m1 f o,dF d h B a c b m1 f o->Q f=Q j->m1<=100000->cV B a b (w.alloc<|aM H (n:Int) T Z (Y L P M) i vn vt s) h->∀a2,I No h a2->
  μ ε 268 #[pV a] a2 λe x=>∃q,e=.returned (.map<|C q)/\I No h x/\(δ x (J (V w.heap) 5)=C (ι ⟨ξ i⟩)/\V w.heap<V x.heap)/\(Instr.lookup 266 (.map<|C q) (ι ⟨ξ i⟩) true).run ε x=.ok (.tuple #[U<|(kG f i).getD 0,.bool (kG f i).isSome]) x/\
  ∃t,(Instr.mapUpdate 266 (.map<|C q) (ι ⟨ξ i⟩)<|U (k:Int)).run ε x=.ok () t/\Hid (cV B a b h t/\dF d t B a c b (m1+1) (I2 f i (k:Int)) o)):=λh m1 f o p hl bc ba a2 h2=>by
  refine(YO p (T2 F hl) W bc i hx (k:Int) ⟨W,W⟩ a2 h2).mono ?_;rintro e x ⟨q,rfl,hc,r,t,hu,az⟩;have:=A.u x<|ba.trans<|Ú hc;exact⟨q,K,hc,⟨this.2.1,this.2.2.2⟩,r,t,hu,az⟩
 have HG:=O zM;have b0:=O ay;clear ay;have a3:=O<|Ú (B:=B) (bb:=a) (tv:=b) ab;have H1:=O h1;have ai:=O HA;have am:=O ap;have aj:Hid (∀h m f o,dF d h B a c b m f o->B<=V h.heap):=λh m f o p=>p.le;have ak:Hid (∀(h:E),ρ (h.alloc<|γ #[U (n:Int)] 3) 0 3 1 (Y (C<|J (V h.heap) 0) 1 1) 1<|C8 [(n:Int)]):=λh=>rJ (w:=h) (base:=0) (wQ _) [(n:Int)] θ;have a6:Hid (∀h m f o,dF d h B a c b m f o->V h.heap≠a/\Θ b≠C (V h.heap)):=λh m f o p=>by
  obtain⟨av,ms,ax⟩:=p.st;have:=(aG ax.blk);refine⟨W,λe=>?_⟩;have:=(ax.js.lt _ e).2;omega
 generalize ar:(if (kG j i).isSome then Br.bad 6 k else (R<|if G=6 then I2 j i (k:Int) else j).jk i (k:Int))=RR;have al:=O ar;obtain⟨b3,c5,c8,-⟩:=A.u _<|cV.refl _ _ _ _;have b7:Q j=Q j:=K;have an:=O (OW.u _ m j v h1 K W<|cV.refl _ _ _ _);obtain⟨b1,b2⟩:=h1.blk;clear ab aa h1 aq ar HA ap x1 x2 b7 hN b9;generalize b5:(kG j i).isSome=bl at*;generalize (kG j i).getD 0=zz at*;clear b5;go_in;go_wp2_with fail;go_region_with (go_at_call 268;refine(an.u _<|Ψ _ _ 1).mono ?_;rintro e y ⟨q,rfl,ac,⟨d5,dl⟩,bb,-⟩);all_goals
  have K1:=O<|Ú (B:=B) (bb:=a) (tv:=b) ac;have B1:=O<|H1.u.kept ac;obtain⟨e1,e5,e8,el⟩:=A.u y K1.u;clear an bb b3 c5 c8 b1 b2 bd ac;cases bl with
  |true=>
   have r:=al.u;rw[yY K]at r;subst r;go_wp2_with fail;refine(HG.u _ 6 s).mono ?_;rintro e bf ⟨rfl,aw⟩;exact⟨K,(a3.u.trans K1.u).trans<|Ú aw,show gu 6 s=gu 6 (cW N k) by rw[b0.u]⟩
  |false=>
   have r:=al.u;rw[wY ζ]at r;obtain⟨g,S,rfl,g1,g2,g3,g4,g5,g6⟩:=FN.u y _ _ _ B1.u;unfold Δ at g3;by_cases a7:G=6
   .rw[yY a7]at r;subst a7;subst r;have ao:=O<|OW.u y m j v B1.u K W K1.u;go_wp2_with fail;go_region;all_goals go_wp2_with fail
    all_goals go_region_with (go_at_call 268;refine(ao.u _<|B6 (Ψ _ _ 1)<|Ψ _ _ 1).mono ?_;rintro e bf ⟨q2,rfl,aw,⟨b4,fl⟩,-,t,af,H3⟩)
    all_goals
     have ad:=K1.u.trans H3.u.1;have au:=H3.u.2;obtain⟨bi,-,-,bj⟩:=A.u t ad;have K3:=O ad;have B3:=O au;clear ad au af b4 fl e1 e5 e8 el ao;have A2:=O (ai.u (t.alloc<|γ #[U (n:Int)] 3) (m+1) (I2 j i (k:Int)) (V t.heap) (B3.u.kept<|ν No _ _) (U9 j i (k:Int) F) W (aj.u _ _ _ _ B3.u) (a6.u _ _ _ _ B3.u).1 (a6.u _ _ _ _ B3.u).2<|ak.u _);have KX:=O<|(K3.u).trans<|Ú (B:=B) (bb:=a) (tv:=b)<|ν No t<|γ #[U (n:Int)] 3;have SX:=O λD l e=>(am.u (I2 j i (k:Int)) D l (T2 F<|U9 j i (k:Int) F) e).trans<|U9 j i (k:Int) F;generalize a9:R (I2 j i (k:Int))=Rf at*;clear a9;go_wp2_with fail;refine A2.u.mono ?_;rintro e ah ⟨a4,a5⟩;have u:=O<|KX.u.trans a4;clear a4 A2 KX;cases Rf with
     |bad er ag=>
      obtain rfl:e=gu er (cW N ag):=a5;exact⟨K,a3.u.trans u.u,K⟩
     |ok f l=>
      obtain⟨rfl,z⟩:=a5;have ae:=SX.u f l K;obtain⟨be,p5,-,pl⟩:=A.u ah u.u;have a8:=O<|OW.u _ _ f (dG v l) z ae W u.u;obtain⟨q1,q2⟩:=z.blk;clear z SX;go_wp2_with fail;go_region_with (go_at_call 268;refine(a8.u _<|Ψ _ _ 1).mono ?_;rintro e bg ⟨q,rfl,b6,⟨r5,rl⟩,-,bh,af,H6⟩);all_goals go_wp2_with fail
      all_goals go_end0
      all_goals exact aI.set (a3.u.trans<|u.u.trans H6.u.1) H6.u.2 W<|I.refl _ _
   .rw[wY a7]at r;have bm:(G==6)=κ:=by simp[a7]
    subst r;have FD:Hid (dF d y.drew B a (Y (C<|J g 0) (Q N) S) b m j v):=B1.u.kept<|Ψ _ _ 1;have KD:=O<|K1.u.trans<|Ú (B:=B) (bb:=a) (tv:=b)<|Ψ No y 1;go_wp2_with fail;go_region;all_goals
     have A2:=O (ai.u (y.drew.alloc<|γ #[U (n:Int)] 3) (m) (j) (V y.drew.heap) (FD.u.kept<|ν No _ _) (K) W (aj.u _ _ _ _ FD.u) (a6.u _ _ _ _ FD.u).1 (a6.u _ _ _ _ FD.u).2<|ak.u _);have KX:=O<|(KD.u).trans<|Ú (B:=B) (bb:=a) (tv:=b)<|ν No y.drew<|γ #[U (n:Int)] 3;have SX:=O λD l e=>(am.u (j) D l (T2 F<|K) e).trans<|K;generalize a9:R (j)=Rf at*;clear a9;go_wp2_with fail;refine A2.u.mono ?_;rintro e ah ⟨a4,a5⟩;have u:=O<|KX.u.trans a4;clear a4 A2 KX;cases Rf with
     |bad er ag=>
      obtain rfl:e=gu er (cW N ag):=a5;exact⟨K,a3.u.trans u.u,K⟩
     |ok f l=>
      obtain⟨rfl,z⟩:=a5;have ae:=SX.u f l K;obtain⟨be,p5,-,pl⟩:=A.u ah u.u;have a8:=O<|OW.u _ _ f (dG v l) z ae W u.u;obtain⟨q1,q2⟩:=z.blk;clear z SX;go_wp2_with fail;go_region_with (go_at_call 268;refine(a8.u _<|Ψ _ _ 1).mono ?_;rintro e bg ⟨q,rfl,b6,⟨r5,rl⟩,-,bh,af,H6⟩);all_goals go_wp2_with fail
      all_goals go_end0
      all_goals exact aI.set (a3.u.trans<|u.u.trans H6.u.1) H6.u.2 W<|I.refl _ _
def vh(L:cU d c N)(i)(hi:i<Q N)(w)(m)(e)(y)(h:dF d w B a c b m e y)(ad:e≠[])(a2)(x H)(ag:x<Q N)(a6:(N[x]).x=a2)(hm:m+2+2*H<=100000)(hf:Q e<=100000)(T:Q (N[i]).text<=1000000)(af:i<=100000)(P:(N[i]).x=17)(Z:(N[i]).a=x)(F:List Fr->Br)(a3:∀f f' a8,f≠[]->F f=.ok f' a8->Q f'=Q f)
 (HA:∀(z) (m1) (f) (g),dF d z B a c b m1 f y->Q f=Q e->m1<=m+1->B<=g->g≠a->Θ b≠C g->ρ z 0 3 1 (Y (C<|J g 0) 1 1) 1 (C8 [x])->μ ε 166 #[pV a,Y (C<|J g 0) 1 1] z (aI d z B a c b N (m1+2*H) y<|F f)) (R) (A:R=if (kG e (N[i]).text).isSome then .bad 6 i else (F<|if a2=6 then I2 e (N[i]).text i else e).jk (N[i]).text i):
 μ ε 224 #[pV a,U i] w (aI d w B a c b N (m+2+2*H) y R):=by
 have ac:=h.jh;have a4:=L;have D:cW N i=(N[i]).at':=by
  unfold cW;rw[lQ,gQ hi];rfl
 obtain⟨g,nc,j,k,rfl,hg,an,ah,⟨x0,x1,x2,x3,x4,x5,x6,x7,x8⟩,G,S⟩:=L.at h.jh i hi;generalize ai:N[i]=nd at D T P Z A x0 x1 x2 x3 x4 x5 x6 x7 x8 G S;obtain⟨t,u,o,p,l,n,q,s,r⟩:=nd;simp only at x0 x1 x2 x3 x4 x5 x6 x7 x8 G S T P Z A;have M:I No w ((ω w<|γ #[pV a] 161).alloc<|aM t u o p (Y j (Q l) k) n q s r):=B6 (ν No _ _)<|ν No _ _;have h1:=h.kept M;have a5:((ω w<|γ #[pV a] 161).alloc<|aM t u o p (Y j (Q l) k) n q s r).heap[V w.heap]?=C (γ #[pV a] 161 (0,0)):=by
  rw[ÿ _ _ _ θ];have:=rY w<|γ #[pV a] 161;simpa using this
 have ab:((ω w<|γ #[pV a] 161).alloc<|aM t u o p (Y j (Q l) k) n q s r).heap[V w.heap+1]?=C (γ #[U t,U u,U o,U p,Y j (Q l) k,ι ⟨ξ n⟩,U q,U s,U r] 82 (0,0)):=by
  have:=rY (ω w<|γ #[pV a] 161)<|aM t u o p (Y j (Q l) k) n q s r;simpa using this
 have am:δ ((ω w<|γ #[pV a] 161).alloc<|aM t u o p (Y j (Q l) k) n q s r) (J (V w.heap) 0)=C (pV a):=cr a5 K;have KA:=O<|Ú (B:=B) (bb:=a) (tv:=b) M;obtain⟨ak,al⟩:=h.blk;have ae:=A3 G M λ_ _ aj=>aj;unfold Δ at ah;subst P;subst Z;simp only at D;have HI:=O<|ō a4 a2 x i H ag af a6 _ m e y n h1 ad hm hf T j (Q l) k 17 o p q s r D.symm F a3 HA;rw[<-A]at HI;generalize aa:R=RR at*;clear aa HA a3 A h1 h ai a5 ab ae G S ac L a4 D a6;go_in;go_wp2_with fail;refine HI.u.mono ?_;rintro a9 ao v;have v:=aI.after KA.u v;have a7:=v.2;cases RR with
 |bad er i=>
  obtain rfl:a9=gu er (cW N i):=a7;exact⟨K,v⟩
 |ok f a8=>
  obtain⟨rfl,-⟩:=a7;have HP:=O v;go_wp2;go_end0;exact HP.u
def D6e(P:cU d c N)(i)(hi:i<Q N)(w)(m)(D)(M)(h:dF d w B a c b m D M)(e)(o)(Z)(n)(f)(a6:∀p∈e,p.k=16/\lD d B a c b N p)(a7:∀p∈f,1<=p.k/\lD d B a c b N p)(z tb)(he:dM N z tb<|e++[.ty o,.nd 26 Z n f])(hm:m+2*(aB e+aB f)<=100000)(hf:Q D+1+(aB e+aB f)<=100000)(a8:Q M=Q N)(aa:Q N<=100000)(T:(N[i]).x=6)(L:(N[i]).a=((z+aB e+aB f:Nat)))(G:(N[i]).M=px z e)(R)(hR:R=(bE true (D++[Fr.no]) z<|e++[.ty o,.nd 26 Z n f]).pop):
 μ ε 224 #[pV a,U i] w (aI d w B a c b N (m+2*(aB e+aB f)) M R):=by
 have ad:=h.jh;have a2:=P;obtain⟨al,nc,g,j,rfl,hg,am,ae,⟨x0,x1,x2,x3,x4,x5,x6,x7,x8⟩,H,F⟩:=P.at h.jh i hi;generalize af:N[i]=nd at T L G x0 x1 x2 x3 x4 x5 x6 x7 x8 H F;obtain⟨x,y,r,s,k,q,t,v,u⟩:=nd;simp only at x0 x1 x2 x3 x4 x5 x6 x7 x8 H F T L G;have S:I No w ((ω w<|γ #[pV a] 161).alloc<|aM x y r s (Y g (Q k) j) q t v u):=B6 (ν No _ _)<|ν No _ _;have h1:=h.kept S;have a3:((ω w<|γ #[pV a] 161).alloc<|aM x y r s (Y g (Q k) j) q t v u).heap[V w.heap]?=C (γ #[pV a] 161 (0,0)):=by
  rw[ÿ _ _ _ θ];have:=rY w<|γ #[pV a] 161;simpa using this
 have ac:((ω w<|γ #[pV a] 161).alloc<|aM x y r s (Y g (Q k) j) q t v u).heap[V w.heap+1]?=C (γ #[U x,U y,U r,U s,Y g (Q k) j,ι ⟨ξ q⟩,U t,U v,U u] 82 (0,0)):=by
  have:=rY (ω w<|γ #[pV a] 161)<|aM x y r s (Y g (Q k) j) q t v u;simpa using this
 have aj:δ ((ω w<|γ #[pV a] 161).alloc<|aM x y r s (Y g (Q k) j) q t v u) (J (V w.heap) 0)=C (pV a):=cr a3 K;have KA:=O<|Ú (B:=B) (bb:=a) (tv:=b) S;obtain⟨ah,ai⟩:=h.blk;have a4:=A3 H S λ_ _ ag=>ag;unfold Δ at ae;subst T;have HI:=O<|vq a2 e o Z n f a6 a7 z tb _ m D M he h1 hm hf a8 aa g j k G a4 F 6 r s ⟨ξ q⟩ t v u;rw[<-hR,<-L]at HI;generalize ab:R=RR at*;generalize m+2*(aB e+aB f)=mm at*;clear ab hR h1 h af a3 ac a4 H F ad P a2 a6 a7 he L G a8;go_in;go_wp2_with fail;refine HI.u.mono ?_;rintro a9 an A;have A:=aI.after KA.u A;have a5:=A.2;cases RR with
 |bad er i=>
  obtain rfl:a9=gu er (cW N i):=a5;exact⟨K,A⟩
 |ok ak l=>
  obtain⟨rfl,-⟩:=a5;have HP:=O A;go_wp2;go_end0;exact HP.u
def VA(L:cU d c N)(i)(hi:i<Q N)(w)(m)(u)(H)(h:dF d w B a c b m u H)(f)(a5:∀a7∈f,1<=a7.k/\lD d B a c b N a7)(x tb)(he:dM N x tb f)(hm:m+2*aB f<=100000)(hf:Q u+1+aB f<=100000)(a6:Q H=Q N)(T:(N[i]).x=26)(F:(N[i]).M=px x f)(R)(hR:R=(bE κ (u++[Fr.no]) x f).pop):
 μ ε 224 #[pV a,U i] w (aI d w B a c b N (m+2*aB f) H R):=by
 have ac:=h.jh;have aa:=L;obtain⟨a9,nc,g,j,rfl,hg,al,ad,⟨x0,x1,x2,x3,x4,x5,x6,x7,x8⟩,G,D⟩:=L.at h.jh i hi;generalize ae:N[i]=nd at T F x0 x1 x2 x3 x4 x5 x6 x7 x8 G D;obtain⟨v,o,p,q,k,n,r,t,s⟩:=nd;simp only at x0 x1 x2 x3 x4 x5 x6 x7 x8 G D T F;have S:I No w ((ω w<|γ #[pV a] 161).alloc<|aM v o p q (Y g (Q k) j) n r t s):=B6 (ν No _ _)<|ν No _ _;have z:=h.kept S;have A:((ω w<|γ #[pV a] 161).alloc<|aM v o p q (Y g (Q k) j) n r t s).heap[V w.heap]?=C (γ #[pV a] 161 (0,0)):=by
  rw[ÿ _ _ _ θ];have:=rY w<|γ #[pV a] 161;simpa using this
 have P:((ω w<|γ #[pV a] 161).alloc<|aM v o p q (Y g (Q k) j) n r t s).heap[V w.heap+1]?=C (γ #[U v,U o,U p,U q,Y g (Q k) j,ι ⟨ξ n⟩,U r,U t,U s] 82 (0,0)):=by
  have:=rY (ω w<|γ #[pV a] 161)<|aM v o p q (Y g (Q k) j) n r t s;simpa using this
 have ai:δ ((ω w<|γ #[pV a] 161).alloc<|aM v o p q (Y g (Q k) j) n r t s) (J (V w.heap) 0)=C (pV a):=cr A K;have KA:=O<|Ú (B:=B) (bb:=a) (tv:=b) S;obtain⟨ag,ah⟩:=h.blk;have a2:=A3 G S λ_ _ af=>af;unfold Δ at ad;subst T;have a3:u++[Fr.no]≠[]:=θ;have Z:=O (XZ 271 (λ_ _=>Ω) z W (m+2*aB f) (bE κ (u++[Fr.no]) x f) (Sl.small (X0 _ _ _ _ a3) W) (pV (V w.heap)) (pV<|V w.heap+1) (λa8 M hb=>by
  obtain⟨y1,y2⟩:=z.tv A ζ;obtain⟨z1,z2⟩:=z.tv P ζ;have ak:=h.low;have hz:=h.hz;refine Oo f a5 x tb a8 m (u++[Fr.no]) H he hb a3 hm η a6 g j k F ?_ D _ _ (M.other A ζ y1 y2) 26 o p q ⟨ξ n⟩ r t s<|M.other P ζ z1 z2;refine M.row a2 (λe=>?_) (λa9 hg e=>?_)<;>grind));rw[<-hR]at Z;generalize ab:R=RR at*;generalize m+2*aB f=mm at*;clear ab hR z h ae A P a2 G D ac L aa a5 he F a6;go_in;go_wp2_with fail;refine Z.u.mono ?_;rintro e am y;have y:=aI.after KA.u y;have a4:=y.2;cases RR with
 |bad er i=>
  obtain rfl:e=gu er (cW N i):=a4;exact⟨K,y⟩
 |ok aj l=>
  obtain⟨rfl,-⟩:=a4;have HP:=O y;go_wp2;go_end0;exact HP.u
end
open Go.Proofs.Tryz
section
variable{b:E}{B a:Nat}{c d:υ}{N:List Nd}
def vk(hN:cU b c N)(i)(hi)(w)(a4)(D)(A)(h:dF b w B a c d a4 D A)(b6:D≠[])(T tb)(ps qs)(an:zJ N T tb ps N[i] qs)(hC:∀ad∈ps,1<=ad.k->lD b B a c d N ad)(P)(ba:a4+2*aB ps<=P)(hm:P<=100000)(hf:Q D+aB ps<=100000)(aq:Q A=Q N)(al:Q (N[i]).M<=100000)(ap:Q (N[i]).text<=1000000)(hk:(N[i]).x=5\/(N[i]).x=18)(R)(a9:bM (N[i]).text D=none->R=.bad 5 i)(aa:∀j,bM (N[i]).text D=C j->R=(Br.ok D [(i,j)]).and λb3=>bE κ b3 T ps):
 μ ε 224 #[pV a,U i] w (aI b w B a c d N P A R):=by
 have b5:=h.jh;obtain⟨g,S,n,p,rfl,hg,bf,bb,⟨x0,x1,x2,x3,x4,x5,x6,x7,x8⟩,ho,ac⟩:=hN.at h.jh i hi;generalize am:N[i]=nd at*;obtain⟨k,s,t,u,r,l,x,y,m⟩:=nd;simp only at x0 x1 x2 x3 x4 x5 x6 x7 x8 ho ac al ap hk a9 aa;have a2:I No w ((ω w<|γ #[pV a] 161).alloc<|aM k s t u (Y n (Q r) p) l x y m):=B6 (ν No _ _)<|ν No _ _;have h1:=h.kept a2;have ah:((ω w<|γ #[pV a] 161).alloc<|aM k s t u (Y n (Q r) p) l x y m).heap[V w.heap]?=C (γ #[pV a] 161 (0,0)):=by
  rw[ÿ _ _ _ θ];have:=rY w<|γ #[pV a] 161;simpa using this
 have ai:((ω w<|γ #[pV a] 161).alloc<|aM k s t u (Y n (Q r) p) l x y m).heap[V w.heap+1]?=C (γ #[U k,U s,U t,U u,Y n (Q r) p,ι ⟨ξ l⟩,U x,U y,U m] 82 (0,0)):=by
  have:=rY (ω w<|γ #[pV a] 161)<|aM k s t u (Y n (Q r) p) l x y m;simpa using this
 have a6:δ ((ω w<|γ #[pV a] 161).alloc<|aM k s t u (Y n (Q r) p) l x y m) (J (V w.heap) 0)=C (pV a):=cr ah K;have KA:=O<|Ú (B:=B) (bb:=a) (tv:=d) a2;obtain⟨ax,ay⟩:=h.blk;have aj:=A3 ho a2 λ_ _ a5=>a5;unfold Δ at bb;have ag:cW N i=m:=by
  unfold cW;rw[lQ,gQ hi,am];rfl
 have ak:i<Q A:=W;obtain⟨f,F,a8,t1,t2,t3,-,-,t4,-,-,-⟩:=h.write i ak 0;subst a8;have FI:Hid (∀M,I No ((ω w<|γ #[pV a] 161).alloc<|aM k s t u (Y n (Q r) p) l x y m) M->μ ε 266 #[pV a,.agg #[U k,U s,U t,U u,Y n (Q r) p,ι ⟨ξ l⟩,U x,U y,U m]] M λe z=>
  (e=gu 5 m/\Hid (aI b w B a (Y (C<|J g 0) (Q N) S) (Y (C<|J f 0) (Q A) F) N P A R (gu 5 m) z))\/
  (∃j,e=.returned (U j)/\(∃au,δ z (J f i)=C (U au))/\z.frozen? (J f i)=κ/\δ z (J a 2)=C (Y (C<|J f 0) (Q A) F)/\δ z (J (V w.heap) 0)=C (pV a)/\(a<V z.heap/\f<V z.heap)/\
   Hid (bM l D=C j/\cV B a (Y (C<|J f 0) (Q A) F) w (σ z (J f i)<|U j)/\dF b (σ z (J f i)<|U j) B a (Y (C<|J g 0) (Q N) S) (Y (C<|J f 0) (Q A) F) a4 D (dG A [(i,j)])/\I (λa3=>a3=f) ((ω w<|γ #[pV a] 161).alloc<|aM k s t u (Y n (Q r) p) l x y m) (σ z (J f i)<|U j)))):=by
  intro M ha;have h2:=h1.kept ha;obtain⟨av,ms,ao⟩:=h2.st;have be:=ao.len;refine(C9d ao W k s t u n (Q r) p l x y m ap).mono ?_;rintro e z ⟨Z,he⟩;have a7:=B6 ha Z;have h3:=h2.kept Z;cases hl:bM l D with
  |none=>
   rw[hl]at he;exact .inl ⟨he,KA.u.trans<|Ú a7,by rw[a9 hl];show gu 5 m=gu 5 (cW N i);rw[ag]⟩
  |some j=>
   rw[hl]at he;obtain⟨bd,bg,a8,u1,u2,u3,u4,u5,u6,u7,u8,u9⟩:=h3.write i ak j;simp only[Value.slice.injEq,zQ,Addr.mk.injEq,and_true,true_and]at a8;obtain⟨rfl,rfl⟩:=a8;exact .inr ⟨j,he,⟨_,u4⟩,u5,u6,A4 a7 a6,⟨u7,u1⟩,K,(KA.u.trans<|Ú a7).trans u8,u9,Ã (a7.mono λ_ _ a5=>a5.elim) (I.set z (J f i) _) λ_ _ a5=>a5⟩
 have PB:Hid (∀(j:Int) (z:E),Hid (bM l D=C j/\cV B a (Y (C<|J f 0) (Q A) F) w (σ z (J f i)<|U j)/\dF b (σ z (J f i)<|U j) B a (Y (C<|J g 0) (Q N) S) (Y (C<|J f 0) (Q A) F) a4 D (dG A [(i,j)])/\I (λa3=>a3=f) ((ω w<|γ #[pV a] 161).alloc<|aM k s t u (Y n (Q r) p) l x y m) (σ z (J f i)<|U j))->
  (∀o v,δ ((ω w<|γ #[pV a] 161).alloc<|aM k s t u (Y n (Q r) p) l x y m) (J (V w.heap) o)=C v->δ (σ z (J f i)<|U j) (J (V w.heap) o)=C v)/\(∀o v,δ ((ω w<|γ #[pV a] 161).alloc<|aM k s t u (Y n (Q r) p) l x y m) (J (V w.heap+1) o)=C v->δ (σ z (J f i)<|U j) (J (V w.heap+1) o)=C v)/\
  ∀M,I No (σ z (J f i)<|U j) M->μ ε 101 #[.agg #[U k,U s,U t,U u,Y n (Q r) p,ι ⟨ξ l⟩,U x,U y,U m]] M λe ae=>∃ga gc,e=.returned (Y ga (Q (px T qs)) gc)/\δ ae (J (V w.heap) 0)=C (pV a)/\
  Hid (μ ε 166 #[pV a,Y ga (Q (px T qs)) gc] ae<|DX b w B a (Y (C<|J g 0) (Q N) S) (Y (C<|J f 0) (Q A) F) N P A R)):=by
  rintro j z ⟨hl,b8,b4,Z⟩;have b7:∀q,V w.heap<=q->q≠f:=λq hq=>W;have ab:∀q,V w.heap<=q->∀o v,δ ((ω w<|γ #[pV a] 161).alloc<|aM k s t u (Y n (Q r) p) l x y m) (J q o)=C v->δ (σ z (J f i)<|U j) (J q o)=C v:=λq hq o v e=>by
   have b9:=blt e;have:=Z.block q b9<|b7 q hq;unfold δ at*;simp only at*;rw[this];exact e
  refine⟨ab _<|vQ _,ab _ W,λM ha=>?_⟩;rw[aa j hl];refine MF b8 b4 b6 an hC W hf aq n p ?_ al (V w.heap) (ab _ (vQ _) _ _ a6) P ba M ha;refine A3 aj Z λq hq e=>?_;have:=ac q hq;have h5:=(h.fresh (q:=f));have:=h.low.2 f K;have:=h.hz;omega
 have cn:∀o v,(#[U k,U s,U t,U u,Y n (Q r) p,ι ⟨ξ l⟩,U x,U y,U m]:Array υ)[o]?=C v->δ ((ω w<|γ #[pV a] 161).alloc<|aM k s t u (Y n (Q r) p) l x y m) (J (V w.heap+1) o)=C v:=λo v e=>by rw[cell_of_row _ _ o _ _ _ ai];exact e
 have G:=O cn;have b0:=t4;clear cn;generalize Q (px T qs)=pl at*;clear aq an hC h1 h am ah ai aj ho ac b5 hN a9 aa ag;have n0:δ ((ω w<|γ #[pV a] 161).alloc<|aM k s t u (Y n (Q r) p) l x y m) (J (V w.heap+1) 0)=C (U k):=G.u 0 _ K;have n1:δ ((ω w<|γ #[pV a] 161).alloc<|aM k s t u (Y n (Q r) p) l x y m) (J (V w.heap+1) 1)=C (U s):=G.u 1 _ K;have n2:δ ((ω w<|γ #[pV a] 161).alloc<|aM k s t u (Y n (Q r) p) l x y m) (J (V w.heap+1) 2)=C (U t):=G.u 2 _ K;have n3:δ ((ω w<|γ #[pV a] 161).alloc<|aM k s t u (Y n (Q r) p) l x y m) (J (V w.heap+1) 3)=C (U u):=G.u 3 _ K;have n4:δ ((ω w<|γ #[pV a] 161).alloc<|aM k s t u (Y n (Q r) p) l x y m) (J (V w.heap+1) 4)=C (Y n (Q r) p):=G.u 4 _ K;have n5:δ ((ω w<|γ #[pV a] 161).alloc<|aM k s t u (Y n (Q r) p) l x y m) (J (V w.heap+1) 5)=C (ι ⟨ξ l⟩):=G.u 5 _ K;have n6:δ ((ω w<|γ #[pV a] 161).alloc<|aM k s t u (Y n (Q r) p) l x y m) (J (V w.heap+1) 6)=C (U x):=G.u 6 _ K;have n7:δ ((ω w<|γ #[pV a] 161).alloc<|aM k s t u (Y n (Q r) p) l x y m) (J (V w.heap+1) 7)=C (U y):=G.u 7 _ K;have n8:δ ((ω w<|γ #[pV a] 161).alloc<|aM k s t u (Y n (Q r) p) l x y m) (J (V w.heap+1) 8)=C (U m):=G.u 8 _ K;have l1:V w.heap+1<V ((ω w<|γ #[pV a] 161).alloc<|aM k s t u (Y n (Q r) p) l x y m).heap:=θ;have l2:a<V ((ω w<|γ #[pV a] 161).alloc<|aM k s t u (Y n (Q r) p) l x y m).heap:=â;have l3:f<V ((ω w<|γ #[pV a] 161).alloc<|aM k s t u (Y n (Q r) p) l x y m).heap:=â;have az:δ ((ω w<|γ #[pV a] 161).alloc<|aM k s t u (Y n (Q r) p) l x y m) (J a 2)=C (Y (C<|J f 0) (Q A) F):=A4 a2 t4;have hg:(k==5)=true\/(k==5)=κ/\(k==18)=true:=by
  obtain rfl|rfl:=hk
  .exact .inl K
  .exact .inr ⟨K,K⟩
 clear hk;obtain g5|⟨g5,g18⟩:=hg;all_goals
  go_in;go_wp2_with fail;generalize ((ω w<|γ #[pV a] 161).alloc<|aM k s t u (Y n (Q r) p) l x y m)=wz at*;try clear x0 x1 x2 x3 x4 x5 x6 x7 x8
  try clear G KA a2
  unfold Δ at t3;rename_i ϋ aK;have aw:Hid (∀(b1 b2:υ) (j:Int) (z:E),Hid (bM l D=C j/\cV B a (Y (C<|J f 0) (Q A) F) w (σ z (J f i)<|U j)/\dF b (σ z (J f i)<|U j) B a (Y (C<|J g 0) (Q N) S) (Y (C<|J f 0) (Q A) F) a4 D (dG A [(i,j)])/\I (λa3=>a3=f) wz (σ z (J f i)<|U j))->
   Exit.inBlock 0 (Exit.then ϋ<|bodyPost ε Tryz.f126<|aI b w B a (Y (C<|J g 0) (Q N) S) (Y (C<|J f 0) (Q A) F) N P A R) Exit.normal {tmps:=#[pV a,U (i:Int),pV (V w.heap),Φ,pV<|V w.heap+1,pV a,pV a,pV a,Y (C<|J g 0) (Q N) S,U (i:Int),Γ<|C<|J g<|i*9,.agg #[U k,U s,U t,U u,Y n (Q r) p,ι ⟨ξ l⟩,U x,U y,U m],pV<|V w.heap+1,U k,.bool true,b1,b2,pV a,pV a,Γ<|C<|J a 2,Y (C<|J f 0) (Q A) F,U (i:Int),pV a,.agg #[U k,U s,U t,U u,Y n (Q r) p,ι ⟨ξ l⟩,U x,U y,U m],U j,Γ<|C<|J f i,Φ,Φ,Φ,Φ,Φ,Φ,Φ,Φ,Φ,Φ,Φ,Φ,Φ,Φ,Φ,Φ,Φ,Φ,Φ,Φ,Φ,Φ,Φ,Φ,Φ,Φ,Φ],defers:=[]} (σ z (J f i)<|U j)):=by
   intro b1 b2 j z L;obtain⟨ar,H,af⟩:=PB.u j z L;have y0:=ar 0 _ a6;have z0:=H 0 _ n0;have z1:=H 1 _ n1;have z2:=H 2 _ n2;have z3:=H 3 _ n3;have z4:=H 4 _ n4;have z5:=H 5 _ n5;have z6:=H 6 _ n6;have z7:=H 7 _ n7;have z8:=H 8 _ n8;have PA:=O af;have lz:=blt z0;clear ar H af FI PB L n0 n1 n2 n3 n4 n5 n6 n7 n8 a6;generalize σ z (J f i) (U j)=wy at*;try clear ax ay az t4 b0
   go_wp2_with fail;go_region_with (first|(go_at_call 101;refine(PA.u _<|Ψ _ _ 1).mono ?_;rintro e z ⟨ga,gc,rfl,bc,L⟩)|(go_at_call 166;refine(Hid.u L).mono ?_;rintro e ae (⟨er,ad,rfl,H4⟩|⟨rfl,H4⟩);exact⟨K,H4.u⟩));all_goals go_wp2_with fail
   all_goals go_end0
   all_goals exact H4.u
  clear PB aK;go_region_with (go_at_call 266;refine(FI.u _<|Ψ _ _ 1).mono ?_;rintro e z (⟨rfl,L⟩|⟨j,rfl,⟨au,u1⟩,u2,u3,u4,⟨u5,u6⟩,L⟩);exact⟨K,L.u⟩);all_goals exact aw.u _ _ _ _ L
end
