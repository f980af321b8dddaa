/-
  A part of the proof.
-/
import Derived.Test.YteocidgdmjaffaaGreatDoorCheckF
import Derived.Test.YteocidgdmjaffaaGreatDoorCheckH
set_option maxHeartbeats 0
set_option linter.all false
set_option maxRecDepth 100000
namespace Go.Proofs.YteocidgdmjaffaaGreatDoor
open Go.Proofs.Tryz
abbrev sL(a:Option Addr)(n c:Nat):Value:=.slice a n c
abbrev fB:Obj:=.cells #[U 0,U 0] 26
def nW(w:E)(o):(w.alloc o).heap[w.heap.size]?=some o:=yY w o
open Go.RowKit Go.Maps
section
variable{b w:E}{c:Cx}{a d e g:Nat}{j i f:Value}{h:Int}
def vD.bad{m}{k}{l}(n:KQ w l)(o:I (SW b a d e) b l)(p:T7 c (k+1)=.inl (m,k))(q:k<c.N.length):vD b w c a d e g j i h f (kR c) (gu m (cI c.N k)) l:=by
 refine⟨n,o,?_⟩;grind[kR,xI]
def Lt(T:cP b c a d e g j f)(al:aS b w c a d e g j i h f [] []):
 Calls prog 27 #[pV a] w (vD b w c a d e g j i h f (kR c)):=by
 have c6:=T.ok.fh;have c7:=T.ok.jr;have ax:=O (Jw T al);have S:=O T;obtain⟨na,nc,ac⟩:∃na nc,j=sL na c.N.length nc:=by
  obtain⟨nx,hn,_⟩:=T.fg al.P;grind[B8]
 subst ac;clear al T;go_in;go_wp2_with fail;refine ax.u.mono ?_;rintro A cd ⟨rfl,Z1,bw,bn,b9,am,b8⟩;obtain⟨oa,oc,ae,fz,q0,q1,q2,q3,q4,q5,F,qp,R⟩:=am.cell;have b2:=O b9;have av:=O am;have ay:=O b8;clear b9 am b8 ax fz q1 q2 q3 q4 q5 F qp R;go_wp2_with fail;go_loopw [12] (λaq wr=>∃(k:Nat) (l:Of) (Z:List Ty) (p:bZ),k<=c.N.length/\aq=U (k:Int)/\Z.length<=c.N.length+2*k/\Hid (T7 c k=.inr l)/\Hid (fZ (tl c Z) p l)/\Hid (aS b wr c a d e g (sL na c.N.length nc) i h f Z p)/\Hid (KQ w wr)) (λaq _=>c.N.length-(intOf aq).toNat);case atStart=>exact⟨0,iL c,Z1,bw,wQ _,rfl,by omega,rfl,b2,av,ay⟩
 case round=>
  clear b2 av ay q0 bn ae;obtain⟨k,l,Z,p,hj,rfl,hZ,M,L,s,H⟩:=hrel;by_cases D:k<c.N.length
  .obtain⟨ak,bv,la,lc,ac,hg,c8,bq,⟨x0,x1,x2,x3,x4,x5,x6,x7,x8⟩,-,-⟩:=(S.u.fg s.u.P).at (Below.refl _ _) k D;have br:na=some (J ak 0)/\nc=bv:=by
    injection ac with e1 e2 e3;exact⟨e1,e3⟩
   obtain⟨rfl,rfl⟩:=br;clear ac;have hI:=AW c k l hj M.u;have hW:=EA S.u.ok k l hj M.u;have hN:(tl c Z).length+2<=4000:=by rw[S9];omega
   have G:Hid (T7 c (k+1)=match jB c l k with
    |.inl A=>.inl (A,k)
    |.inr none=>.inr l
    |.inr (some t)=>.inr (l.set k (some t))):=by
    show _=_;rw[T7,M.u];rfl
   have a6:Hid (∀(u:E) (aj:Bool),aj=decide (1<=c.N[k].x/\c.N[k].x<=14)->_):=λu aj o=>Cd u c.N[k] la lc aj o;have HS:Hid (¬(1<=c.N[k].x/\c.N[k].x<=14)->∀u,I No wr u->_):=λz u hu=>Xe S.u (DW S.u.ok s.u.ts L.u hI (vQ k)) (s.u.y hu) D z;have HX:Hid ((1<=c.N[k].x/\c.N[k].x<=14)->∀u,I No wr u->_):=λz u hu=>Oj S.u L.u hI hW (s.u.y hu) D z hN;have ah:Hid (∀t,D7 c l k=some t->sz t<=1000000):=λt ht=>uw S.u.ok hI D ht;have af:Hid ((1<=c.N[k].x/\c.N[k].x<=14)->jB c l k=match D7 c l k with
    |none=>.inl 9
    |some t=>if 300<sz t then .inl 2 else .inr (some t)):=λz=>by
    unfold jB;grind[B9]
   have aa:Hid (c.N[k].at'=cI c.N k):=by
    show _=_;unfold cI;rw[lQ,gQ D];rfl
   unfold fE at a6;have bc:k<p.length:=by rw[L.u.len,hI.len];exact D
   clear hI hW;generalize bs:c.N[k]=nd at*;obtain⟨kd,va,vb,vc,ls,tx,vn,vt,vp⟩:=nd;simp only at*;clear bs;unfold maxLen at bq;have A1:=O (I.alloc No wr (aL kd va vb vc (sL la ls.length lc) tx vn vt vp));have q:=nW wr (aL kd va vb vc (sL la ls.length lc) tx vn vt vp);have NB:=O q;have n0:=cell_of_row _ _ 0 _ _ _ q;have n1:=cell_of_row _ _ 1 _ _ _ q;have n2:=cell_of_row _ _ 2 _ _ _ q;have n3:=cell_of_row _ _ 3 _ _ _ q;have n4:=cell_of_row _ _ 4 _ _ _ q;have n5:=cell_of_row _ _ 5 _ _ _ q;have n6:=cell_of_row _ _ 6 _ _ _ q;have n7:=cell_of_row _ _ 7 _ _ _ q;have n8:=cell_of_row _ _ 8 _ _ _ q;clear q;by_cases z:1<=kd/\kd<=14
   .have b5:=O (HX.u z);have a4:=O (af.u z);have a7:Hid (∀u,_):=λu=>a6.u u true (by grind);clear HS HX af a6 z;go_wp2_with fail;refine(a7.u _).mono ?_;rintro A a3 ⟨rfl,V⟩;have r:=O (B6 A1.u V);have b7:=O (J4 V NB.u);have ab:=O (s.u.y r.u);clear V A1 NB n0 n1 n2 n3 n4 n5 n6 n7 n8 x0 x1 x2 x3 x4 x5 x6 x7 x8 a7;obtain⟨oa,oc,ae,fz,q0,q1,q2,q3,q4,q5,F,qp,R⟩:=ab.u.cell;obtain⟨N,ap,bb,an,ao,ad,y0,yf⟩:=R k bc;subst ap;have b1:=O F;have b0:Hid (∃v,a3.heap[a]?=some (.cells v 57 (0,0))):=by
     obtain⟨ov,au,o,_⟩:=ab.u.st;exact⟨_,o⟩
    have ag:Hid (∃v,a3.heap[N]?=some (.cells v 3 (0,0))):=by
     obtain⟨ov,au,o,hr,_⟩:=ab.u.st;rw[cell_of_row _ a 6 _ _ _ o]at F;have e6:=vZ F;have bi:ov=.slice (some (J N 0)) p.length oc:=e6;subst bi;obtain⟨_,bz,hh⟩:=A9 hr N rfl;exact⟨_,hh⟩
    have b6:=O y0;unfold maxLen at ad;clear fz q0 q1 q2 q3 q4 q5 qp R;have c5:(k:Int)<(p.length:Int):=by omega
    go_wp2_with fail;go_cut [] from 13 to 48 (λwc=>∃(t:Tr) (x:Nat) (n:List Ty),Hid (D7 c l k=some t)/\n.length<=2/\Hid (x<(tl c (Z++n)).length/\tr (tl c (Z++n)) x=t/\aS b wc c a d e g (.slice (some (J ak 0)) c.N.length nc) i h f (Z++n) (p.set k (x:Int))/\KQ a3 wc));case first=>
     go_region_with (go_at_call 46;refine(b5.u _ (B6 r.u (I.drewN _ _ 1))).mono ?_;rintro A ar ⟨m,a9,⟨B,rfl⟩|⟨t,x,n,B,rfl,hX,a2,P,y⟩⟩;exact⟨rfl,vD.bad ((H.u.trans (.y (B6 r.u (I.drewN _ _ 1)))).trans (.kg m)) a9 (by rw[G.u,a4.u,B]) D⟩;have cc:=b0.u.elim λv o=>(World.cell?_of_block ((m.2 a v _ _ o (by decide) (by decide)).trans o.symm)).trans b1.u;have y5:=ag.u.elim λv o=>(World.cell?_of_block ((m.2 N v _ _ o (by decide) (by decide)).trans o.symm)).trans b6.u;have cg:=ag.u.elim λv o=>frozen_of_row ar N k v _ (m.2 N v _ _ o (by decide) (by decide));have c4:=yQ an m.1;have a5:Hid (D7 c l k=some t/\x<(tl c (Z++n)).length/\tr (tl c (Z++n)) x=t/\aS b ar c a d e g (.slice (some (J ak 0)) c.N.length nc) i h f (Z++n) p/\KG a3 ar):=⟨B,a2,P,y,(KG.y (I.drewN No a3 1)).trans m⟩;clear B a2 P y m a9);all_goals
      have b4:=O (a5.u.2.2.2.1.set (g:=N) (oc:=oc) (by omega) k (x:Int));go_wp2_with fail;go_meet;exact⟨t,x,n,a5.u.1,hX,a5.u.2.1,a5.u.2.2.1,b4.u.1,(KQ.kg a5.u.2.2.2.2).trans b4.u.2⟩
    case rest=>
     obtain⟨t,x,n,a8,hX,HF⟩:=hcut;obtain⟨a2,P,y,m⟩:=HF.u;clear HF F y0 yf b1 ae bb an ao ad ag b6 b0;obtain⟨ca,cb,ae,fz,q0,q1,q2,q3,q4,q5,F,qp,R⟩:=y.cell;obtain⟨c3,ap,bb,an,ao,ad,y0,-⟩:=R k (by simp_all);subst ap;rw[List.getElem_set_self]at y0;have n8:wc.cell? (J wr.heap.size 8)=some (U vp):=by
      rw[cell_of_row _ _ 8 _ _ _ (m.2 _ _ _ _ b7.u (by decide) (by decide) (by decide) (by decide))];rfl
     have bt:=blt n8;have bu:=blt F;have bo:=blt y0;simp only at bt bu bo;rw[List.length_set]at F ao;unfold maxLen at ad;have HZ:Hid (∀u,I No wc u->_):=λu hu=>(y.y hu).jf.elim λau hs=>Jb x u a2 hs (by rw[P];exact ah.u t a8.u);rw[P]at HZ;have az:=O ((H.u.trans (.y r.u)).trans m);have aw:=O y;have bg:Hid (fZ (tl c (Z++n)) (p.set k (x:Int)) (l.set k (some t))):=by
      have hm:=L.u.more s.u.ts n;rw[nL]at hm;exact hm.set a2 P
     have bm:(Z++n).length<=c.N.length+2*(k+1):=by rw[qQ];omega
     clear y m a2 P qp R fz q0 q1 q2 q4 q5 b5 H s L r b7 ah ab;by_cases h3:300<sz t
     .have ai:Hid (T7 c (k+1)=.inl (2,k)):=by
       show _=_;rw[G.u,a4.u,a8.u];simp only[wY h3]
      have bd:Hid (vp=cI c.N k):=aa.u;have bj:(300:Int)<(sz t:Int):=by omega
      clear G a4 a8 M aa h3;go_wp2_with fail;go_region_with (go_at_call 47;refine(HZ.u _ (I.drewN _ _ 1)).mono ?_;rintro A bx ⟨rfl,W⟩;have c9:=A4 W n8;have C6:=O (B6 (I.drewN No wc 1) W);clear W);all_goals
       go_wp2_with fail;refine(Y0 _ 2 vp).mono ?_;rintro A cf ⟨rfl,ba⟩;refine⟨rfl,?_⟩;rw[bd.u];exact vD.bad (az.u.trans (.y (B6 C6.u ba))) (aw.u.y (B6 C6.u ba)).P ai.u D
     .have ai:Hid (T7 c (k+1)=.inr (l.set k (some t))):=by
       show _=_;rw[G.u,a4.u,a8.u];simp only[zY h3]
      have bj:¬(300:Int)<(sz t:Int):=by omega
      clear G a4 a8 M aa h3;go_wp2_with fail;go_region_with (go_at_call 47;refine(HZ.u _ (I.drewN _ _ 1)).mono ?_;rintro A bx ⟨rfl,W⟩;have C6:=O (B6 (I.drewN No wc 1) W);clear W);all_goals
       go_wp2_with fail;go_roundw;case rel=>exact⟨k+1,l.set k (some t),Z++n,p.set k (x:Int),by omega,by go_num,bm,ai,bg,aw.u.y C6.u,az.u.trans (.y C6.u)⟩
       grind[intOf]
   .have b3:=O (HS.u z);have a7:Hid (∀u,_):=λu=>a6.u u false (by grind);clear HS HX af a6 z ah aa bc;go_wp2_with fail;refine(a7.u _).mono ?_;rintro A a3 ⟨rfl,V⟩;have r:=O (B6 A1.u V);clear V A1 NB n0 n1 n2 n3 n4 n5 n6 n7 n8 x0 x1 x2 x3 x4 x5 x6 x7 x8 a7;go_wp2_with fail;refine(b3.u _ r.u).mono ?_;rintro A ce ⟨m,a9,⟨er,B,rfl⟩|⟨B,rfl,y⟩⟩
    .refine⟨rfl,vD.bad ((H.u.trans (.y r.u)).trans m) a9 ?_ D⟩;rw[G.u,B]
    .have bh:Hid (T7 c (k+1)=.inr l):=by
      show _=_;rw[G.u,B]
     have be:=O y;have bf:=O ((H.u.trans (.y r.u)).trans m);clear y m a9 B G M s H r b3;go_wp2_with fail;go_roundw;case rel=>exact⟨k+1,l,Z,p,by omega,by go_num,by omega,bh,L,be,bf⟩
     case measure=>simp[intOf];omega
  .have bp:k=c.N.length:=by omega
   subst bp;go_wp2_with fail;go_end0;refine⟨H.u,s.u.P,?_⟩;have:kR c=.inr l:=M.u;rw[this];exact⟨rfl,Z,p,by omega,L.u,s.u⟩
end
section
variable{b w:E}{c:Cx}{a d e h:Nat}{g j f:Value}{i:Int}{Z:List Ty}{k:bZ}
def aS.nz{u}(z:aS b w c a d e h g j i f Z k){q}{v}{l}{y}(n:I (λm=>m=q) w u)(H:w.heap[q]?=some (.cells v l y))(B:l≠57/\l≠108/\l≠81/\l≠137/\l≠3)(T:b.heap.size<=q):aS b u c a d e h g j i f Z k:=by
 obtain⟨A,⟨ov,D,t,L,p⟩,F⟩:=z;have M:∀{m:Nat} {r:Array Value} {o:TypeId} {s:Nat×Nat},w.heap[m]?=some (.cells r o s)->l≠o->m≠q:=λ{m r o s} G V S=>by
  grind
 refine⟨A.trans n (λm G x=>by omega),⟨ov,D,?_,A3 L n (λP R x=>?_),p.P n (p.fy.P n (λx=>?_)) ?_ (λ_ x _=>x)⟩,F⟩
 .rw[n.block a (aI t) (M t B.1)];omega
 .grind[A9]
 .have N:=x;subst N;exact p.fy.tag _ _ _ H
 grind
def KM(b w:E)(c:Cx)(a d e h:Nat)(g j:Value)(i:Int)(f:Value)(r:(Int×Nat) ⊕ Of)(m:Ending)(l:E):Prop:=KQ w l/\I (SW b a d e) b l/\match r with
 |.inl (n,o)=>m=.returned (.agg #[U n,U (cI c.N o)])
 |.inr p=>m=.returned (.agg #[U 0,U 0])/\∃Z k,Z.length<=3*c.N.length/\fZ (tl c Z) k p/\aS b l c a d e h g j i f Z k
theorem KQ.own{m o p}{q}(n:KQ m o)(D:m.heap.size<=q)(r:I (λl=>l=q) o p):KQ m p:=
 ⟨kQ n.1 r.size,λl s t u x v y z A=>by
  have B:=(aI x);rw[r.block l (yQ B n.1) (by omega)];exact n.2 l s t u x v y z A⟩
def Jm(hB:cP b c a d e h g f)(F:aS b w c a d e h g j i f [] []):
 Calls prog 26 #[.func (.func 27) #[pV a] #[]] w (KM b w c a d e h g j i f (kR c)):=by
 have L:=I.alloc No w (fB);have S:=Lt hB (F.y L);have a3:=nW w (fB);have N:=F.P.size;have R:Hid (∀q,KQ (w.alloc (fB)) q->q.heap[w.heap.size]?=some (fB)/\KQ w q):=λq G=>⟨G.2 _ _ _ _ a3 (by decide) (by decide) (by decide) (by decide),(KQ.y L).trans G⟩;generalize kR c=a2 at*;go_enter_defers func26,ntmps26;go_wp2_with fail;refine S.mono ?_;rintro t l ⟨v,a5,M⟩;have V:=O a5;obtain⟨m,a4⟩:=R.u l v;have q0:l.cell? (J w.heap.size 0)=some (U 0):=cr m rfl;have q1:l.cell? (J w.heap.size 1)=some (U 0):=cr m rfl;have hz:=(aI m);have a8:=λa6=>frozen_of_row l _ a6 _ _ m;have s:=O m;have D:=O a4;cases a2 with
 |inl p=>
  obtain⟨r,o⟩:=p;obtain rfl:t=gu r (cI c.N o):=M;unfold gu;refine leaves_cons (f:=42) (args:=#[pV w.heap.size]) (by simp) (by simp[go_sem]) ?_;refine(AF w.heap.size r (cI c.N o) 0 0 [] _ q0 q1 a8).mono ?_;rintro t u' a9 ⟨rfl,rfl,H,z,A⟩;have W:KM b w c a d e h g j i f (.inl (r,o)) (.returned (.agg #[U r,U (cI c.N o)])) a9:=⟨D.u.own (vQ _) (H.mono (λy v x=>by omega)),V.u.trans H (λy v x=>by omega),rfl⟩;generalize cI c.N o=pa at*;simp[Leaves,settle,results,results26,go_sem,z,A];omega
 |inr a7=>
  obtain⟨rfl,Z,k,hZ,hR,hC⟩:=M;have T:=O hR;have B:=O hC;go_wp2;refine leaves_cons (f:=42) (args:=#[pV w.heap.size]) (by simp) (by simp[go_sem]) ?_;refine(GS w.heap.size _).mono ?_;rintro t u' aa ⟨rfl,rfl,n⟩;have s1:=heap_setCell_same l w.heap.size 0 _ _ (U 0) s.u;have P:=heap_setCell_same _ w.heap.size 1 _ _ (U 0) s1;have z:=A4 n (show World.cell? _ (J w.heap.size 0)=some (U 0) from cr P rfl);have A:=A4 n (show World.cell? _ (J w.heap.size 1)=some (U 0) from cr P rfl);have u:I (λy=>y=w.heap.size) l ((l.setCell (J w.heap.size 0) (U 0)).setCell (J w.heap.size 1) (U 0)):=I.trans (I.set l (J w.heap.size 0) _) (I.set _ (J w.heap.size 1) _) (λ_ _ x=>x);have W:KM b w c a d e h g j i f (.inr a7) (.returned (.agg #[U 0,U 0])) aa:=⟨(D.u.own (vQ _) u).trans (.y n),((B.u.nz u s.u (by decide) N).y n).P,rfl,Z,k,hZ,T.u,(B.u.nz u s.u (by decide) N).y n⟩;simp[Leaves,settle,results,results26,go_sem,z,A];omega
end
def zX(l:Y)(w:E)(e:Ending)(o:E):Prop:=Below w.heap.size w o/\
 ((∃g p v,jU l g p/\e=.returned (.tuple #[v,.agg #[U g,U p]]))\/
  ∃N T a k,gF l N T a k/\∃f b c d n j q i h Z m,Below w.heap.size w f/\w.heap.size<=b/\w.heap.size<=c/\w.heap.size<=d/\cP f (bM N T a) b c d n j h/\
   e=.returned (.tuple #[pV b,.agg #[U 0,U 0]])/\Z.length<=3*N.length/\fZ (tl (bM N T a) Z) m k/\aS f o (bM N T a) b c d n j q i h Z m/\i=N.length-1)
def YB(s)(w:E)(hs:s.size<=maxLen):Calls prog 14 #[.string s] w (zX s.data.toList w):=by
 have ch:=O (λB=>Sw s B hs);have bo:=O (λB=>XU s B hs);have dl:=nW w (fB);clear hs;have cu:∀(B:E) (g p:Int),g≠0->Below (w.alloc (fB)).heap.size (w.alloc (fB)) B->B.heap[w.heap.size]?=some (fB)/\Below w.heap.size w B:=λB g p _ a7=>
  ⟨by rw[a7.block _ (by simp)];omega,(I.ek (I.alloc No w _) (λ_ _ x=>x.elim) (vQ _)).trans (a7.mono (by simp))⟩;have aw:=O cu;clear dl cu;go_in;go_wp2_with fail;refine(ch.u _).mono ?_;clear ch;rintro e B ⟨a7,hq⟩;have dx:(∃g p,(g≠0/\jU s.data.toList g p)/\e=.returned (.tuple #[sN,.agg #[U g,U p]]))\/∃N aj ps fs T ad ak,dI s.data.toList (.inr (N,aj))/\bH N aj ps/\jI ps=.ok fs T/\e=.returned (.tuple #[.slice ad (S7 (cQ (List.replicate N.length (-1)) T) N.length).length ak,.agg #[U 0,U 0]])/\B.ownsRow (w.alloc (fB)).heap.size 75 2 (.slice ad (S7 (cQ (List.replicate N.length (-1)) T) N.length).length ak) (S7 (cQ (List.replicate N.length (-1)) T) N.length).length (Z4 (S7 (cQ (List.replicate N.length (-1)) T) N.length)):=by
  obtain⟨g,p,D,h0,W⟩|⟨N,aj,ps,D,W,h3⟩:=hq
  .exact .inl ⟨g,p,⟨D,D,.inl h0⟩,W⟩
  .cases hb:jI ps with
   |bad g i=>rw[hb]at h3;exact .inl ⟨g,_,⟨h3.1,h3.1,.inr ⟨N,aj,ps,D,W,.inl ⟨i,hb,rfl⟩⟩⟩,h3.2⟩
   |ok fs T=>
    grind
 clear hq;obtain⟨g,p,⟨S,cx⟩,rfl⟩|⟨N,aj,ps,fs,T,ad,ak,S,hP,cv,rfl,d4⟩:=dx
 .obtain⟨f0,ao⟩:=aw.u B g p S a7;have g0:B.cell? (J w.heap.size 0)=some (U 0):=cr f0 rfl;have g1:B.cell? (J w.heap.size 1)=some (U 0):=cr f0 rfl;have gz:=λar=>frozen_of_row B _ ar _ _ f0;have gl:=(aI f0);have e9:(g !=0)=true:=by simp[S]
  have ac:=O ao;have df:=O cx;clear a7 f0 ao aw S cx bo;go_wp2_with fail;go_region;all_goals go_wp2_with fail
  all_goals
   have a6:I (λk=>k=w.heap.size) B ((B.setCell (J w.heap.size 0) (U g)).setCell (J w.heap.size 1) (U p)):=I.trans (I.set B (J w.heap.size 0) _) (I.set _ (J w.heap.size 1) _) (λ_ _ x=>x);have hR:zX s.data.toList w (.returned (.tuple #[.pointer none,.agg #[U g,U p]])) _:=⟨ac.u.trans (I.ek (I.trans a6 (B6 (I.alloc No _ (.cells #[U g,U p] 26)) (I.drewN No _ 1)) (λ_ _ x=>x.elim)) (λk _ e=>by omega) ac.u.size),.inl ⟨g,p,_,df.u,rfl⟩⟩;exact bodyPost_ret (v:=.tuple #[.pointer none,.agg #[U g,U p]]) (by simp[results,results14,go_sem,g0,g1,gl]) rfl hR
 .obtain⟨f0,ao⟩:=aw.u B 1 0 (by decide) a7;have c8:=O f0;have ac:=O ao;have ba:=O S;have H:=O hP;have ai:=O cv;have b6:=O d4;have gl:=(aI f0);clear a7 f0 ao aw S hP cv d4;obtain⟨t,al⟩:∃t,S7 (cQ (List.replicate N.length (-1)) T) N.length=t:=⟨_,rfl⟩;have ck:Hid (∀p∈t,(0<=p.1/\p.1<=1000000)/\(0<=p.2/\p.2<=1000000)):=by
   rw[<-al];exact Lh H.u ai.u
  have bi:Hid (t.length<=1200):=by
   have D:=LZ (cQ (List.replicate N.length (-1)) T) N.length;have W:=H.u.fh;show t.length<=1200;rw[<-al];omega
  rw[al]at b6⊢;have dc:=O al;clear al;obtain⟨bl,bs⟩:∃bl,t.length=bl:=⟨_,rfl⟩;rw[bs]at bi b6⊢;have bh:=O bs;clear bs;go_wp2_with fail;refine(bo.u _).mono ?_;clear bo;rintro e V ⟨an,⟨g,p,D,_⟩|⟨a,b,h,l,m,n,D,rfl,d2,d6⟩⟩
  .exact absurd (D.one ba.u) (by simp)
  .have e1:=D.one ba.u;simp only[Sum.inr.injEq,Prod.mk.injEq]at e1;obtain⟨rfl,rfl⟩:=e1;have c3:=O an;have ci:=O d2;have cn:=O d6;clear D an d2 d6;have ef:=@run_makeMap prog;have p3:=nW V (.cells #[sL h a.length l,sL m b.length n,U ((a.length:Int)-1)] 52);have p4:((V.alloc (.cells #[sL h a.length l,sL m b.length n,U ((a.length:Int)-1)] 52)).alloc (fB)).heap[V.heap.size]?=some (.cells #[sL h a.length l,sL m b.length n,U ((a.length:Int)-1)] 52 (0,0)):=by
    rw[Below.heap_alloc _ _ _ (by simp)];exact p3
   have C3:=O (B6 (I.alloc No V (.cells #[sL h a.length l,sL m b.length n,U ((a.length:Int)-1)] 52)) (I.alloc No _ (fB)));go_wp2_with fail;generalize (V.alloc (.cells #[sL h a.length l,sL m b.length n,U ((a.length:Int)-1)] 52)).alloc (fB)=o at*;have r0:o.cell? (J V.heap.size 0)=some (sL h a.length l):=cr p4 rfl;have da:o.cell? (J V.heap.size 1)=some (sL m b.length n):=cr p4 rfl;have r2:o.cell? (J V.heap.size 2)=some (U ((a.length:Int)-1)):=cr p4 rfl;have du:=(aI p4);have bj:Hid (∀u,I No o u->Calls prog 22 #[] u λe A=>∃d q:Nat,e=.returned (pV d)/\o.heap.size<=q/\o.heap.size<=d/\u.heap.size<=q/\q<A.heap.size/\Hid (I No u A)/\Hid (dH A d q 4000 [] (.map []))/\A.cell? (J d 0)=some (sN)/\A.cell? (J V.heap.size 0)=some (sL h a.length l)/\A.cell? (J V.heap.size 1)=some (sL m b.length n)/\A.cell? (J V.heap.size 2)=some (U ((a.length:Int)-1))/\V.heap.size<A.heap.size):=λu G=>by
    refine(Sk u).mono ?_;rintro e A ⟨rfl,hc,hs,hl⟩;have D:=G.size;have W:=blt hl;simp only at W;have bu:=B6 G hc;exact⟨_,_,rfl,D,by omega,vQ _,by omega,hc,hs,hl,A4 bu r0,A4 bu da,A4 bu r2,by omega⟩
   have N3:Hid (cV o (sL h a.length l) a):=ci.u.row.et C3.u (λ_ _ _ _ _ _ x=>x);have T3:Hid (oU o (sL m b.length n) b):=cn.u.row.et C3.u (λ_ _ _ _ _ _ x=>x);have av:=B6 (B6 (I.alloc No B _) ((I.below c3.u).mono (λ_ hi x=>by omega))) C3.u;have F3:Hid (o.heap[w.heap.size]?=some (fB)):=J4 av c8.u;have B3:Hid (Below w.heap.size w o):=ac.u.trans (I.ek av (λ_ _ x=>x.elim) ac.u.size);have O3:Hid (o.ownsRow 0 75 2 (sL ad bl ak) bl (Z4 t)):=A3 (C8 b6.u (wQ _)) av (λ_ _ x=>x);clear av;clear p3 p4;go_cut [8] (λv8 wc=>∃c d q f:Nat,v8=pV c/\Hid (I No o wc/\wc.heap[c]?=some (.cells #[sL h a.length l,sL m b.length n,U ((a.length:Int)-1),pV d,.map (some f),sN,sN,U 0,U 0,U 0,U 0,U 0,U 0] 57 (0,0))/\dH wc d q 4000 [] (.map [])/\wc.cell? (J d 0)=some (sN)/\eK wc f 0 (λ_=>none)/\o.heap.size<=c/\o.heap.size<=d/\o.heap.size<=q/\o.heap.size<=f/\f≠q));case first=>
    go_region_with (go_at_call 22;first
     |(refine(bj.u _ (I.drewN _ _ 1)).mono ?_;rintro e Z ⟨d,q,rfl,dm,dp,an,dq,az,bq,l4,x0,x1,x2,dv⟩)
     |(refine(bj.u _ (B6 (I.drewN No o 1) (I.alloc No o.drew (.map #[] 0)))).mono ?_;rintro e Z ⟨d,q,rfl,dm,dp,an,dq,az,bq,l4,x0,x1,x2,dv⟩));all_goals go_wp2_with fail
    all_goals go_meet
    all_goals first
     |exact⟨Z.heap.size+1,d,q,Z.heap.size,rfl,B6 (B6 (I.drewN No o 1) az.u) (B6 (I.alloc No Z (.map #[] 0)) (I.alloc No _ _)),by have:=nW (Z.alloc (.map #[] 0)) (.cells #[sL h a.length l,sL m b.length n,U ((a.length:Int)-1),pV d,.map (some Z.heap.size),sN,sN,U 0,U 0,U 0,U 0,U 0,U 0] 57);simp_all,bq.u.y (B6 (I.alloc No Z (.map #[] 0)) (I.alloc No _ _)),A4 (B6 (I.alloc No Z (.map #[] 0)) (I.alloc No _ _)) l4,(eK.new Z).P (I.alloc No _ _) (λx=>x),by omega,by omega,by omega,by omega,by omega⟩
     |exact⟨Z.heap.size,d,q,o.heap.size,rfl,B6 (B6 (B6 (I.drewN No o 1) (I.alloc No o.drew (.map #[] 0))) az.u) (I.alloc No _ _),nW Z _,bq.u.y (I.alloc No _ _),A4 (I.alloc No _ _) l4,((eK.new o.drew).P az.u (λx=>x)).P (I.alloc No _ _) (λx=>x),by omega,by omega,by omega,vQ _,by have br:=an;simp only[World.size_alloc]at br;have W:o.drew.heap.size=o.heap.size:=rfl;omega⟩
   case rest=>
    obtain⟨c,d,q,f,rfl,c7⟩:=hcut;obtain⟨af,bx,d9,k4,k5,k6,k7,k8,k9,d8⟩:=c7.u;have a5:Hid (iF wc a c d q f (sL h a.length l) #[sL h a.length l,sL m b.length n,U ((a.length:Int)-1),pV d,.map (some f),sN,sN,U 0,U 0,U 0,U 0,U 0,U 0] [] 0 (λ_=>none)):=⟨N3.u.et af (λ_ _ _ _ _ _ x=>x),bx,d9.jf,k5,d8⟩;have cq:Hid (oU wc (sL m b.length n) b):=T3.u.et af (λ_ _ _ _ _ _ x=>x);have HF:Hid (wc.heap[w.heap.size]?=some (fB)):=J4 af F3.u;have c4:Hid (Below w.heap.size w wc/\w.heap.size<=c/\w.heap.size<=d/\w.heap.size<=q/\w.heap.size<=f):=by
     have:=B3.u.size;exact⟨B3.u.trans (I.ek af (λ_ _ x=>x.elim) (by omega)),by omega,by omega,by omega,by omega⟩
    have bn:Hid (wc.ownsRow 0 75 2 (sL ad bl ak) bl (Z4 t)):=A3 O3.u af (λ_ _ x=>x);have cd:=O k4;have z4:wc.cell? (J c 4)=some (.map (some f)):=cr bx rfl;have dz:=blt z4;simp only at dz;have ct:=O z4;have lw:=(aI HF.u);clear c7 af bx d9 k4 k5 k6 k7 k8 k9 d8 N3 T3 F3 B3 O3 bj C3 c3 ci cn r0 da r2 du c8 ac b6 gl z4;go_wp2_with fail;go_loopw [33] (λv wr=>∃j:Nat,j<=bl/\v=U (j:Int)/\Hid (I (λk=>k=f) wc wr/\eK wr f j (kB (t.take j)))) (λv _=>bl-(intOf v).toNat);case atStart=>exact⟨0,wQ _,rfl,I.refl _ _,a5.u.names⟩
    case round=>
     obtain⟨j,hj,rfl,HJ⟩:=hrel;have aq:∀{aa:Nat} {cs:Array Value} {e:TypeId} {fz:Nat×Nat},wc.heap[aa]?=some (.cells cs e fz)->wr.heap[aa]?=some (.cells cs e fz):=λ{aa cs e fz} hq=>by
      rw[HJ.u.1.block aa (aI hq) (λx=>by subst x;exact a5.u.names.eu hq)];omega
     have y4:wr.cell? (J c 4)=some (.map (some f)):=by rw[World.cell?_of_block ((aq a5.u.eo).trans a5.u.eo.symm)];exact ct.u
     have e4:=blt y4;simp only at e4;by_cases eb:j<bl
     .have be:j<t.length:=by have:=bh.u;omega
      obtain⟨g2,dw,-,ea,e8,dr,bv⟩:=D4 (A3 bn.u HJ.u.1 (λa3 hg x=>by
       obtain⟨_,bc,hh⟩:=A9 bn.u a3 hg;subst x;exact a5.u.names.eu hh)) (by omega);have v0:=bv (j*2) _ (MA t j be).1;have v1:=bv (j*2+1) _ (MA t j be).2;subst dw;have rg:=ck.u t[j] (mQ be);have bg:Hid (kB (t.take (j+1))=λx=>if x=t[j].1 then some t[j].2 else kB (t.take j) x):=by
       show _=_;rw[nQ be,OQ]
      obtain⟨⟨x,au⟩,d7⟩:∃p,t[j]=p:=⟨_,rfl⟩;rw[d7]at v0 v1 rg bg;simp only at v0 v1 rg bg;unfold maxLen at dr;obtain⟨db,d5,cz,cw⟩:=((HJ.u.2).P (B6 (I.alloc No wr (.cells #[U x,U au] 75)) (I.drewN No _ 1)) (λx=>x)).put x au rg.1 (by have:=bi.u;omega) rg.2;have eg:(Instr.mapUpdate 46 (.map (some f)) (U x) (U au)).run prog (wr.alloc (.cells #[U x,U au] 75)).drew=.ok () db:=d5;have dh:=O cz;have de:Hid (I (λk=>k=f) wc db):=HJ.u.1.trans (((B6 (I.alloc No wr (.cells #[U x,U au] 75)) (I.drewN No _ 1)).mono (S':=λk=>k=f) (λ_ _ x=>x.elim)).trans cw (λ_ _ x=>x)) (λ_ _ x=>x);clear bv d7 cz cw aq d5;go_wp2_with fail;go_region;all_goals go_wp2_with fail
      all_goals go_roundw
      all_goals first
       |exact⟨j+1,by omega,by go_num,de.u,(show eK _ _ _ _ from by rw[bg.u];exact dh.u)⟩
       |grind[intOf]
     .have dt:j=bl:=by omega
      subst dt;have bb:Hid (iF wr a c d q f (sL h a.length l) #[sL h a.length l,sL m b.length n,U ((a.length:Int)-1),pV d,.map (some f),sN,sN,U 0,U 0,U 0,U 0,U 0,U 0] [] j (kB t)):=a5.u.put HJ.u.1 (by
       have:=HJ.u.2;rw[List.take_of_length_le (by rw[bh.u];simp)]at this;omega);have cp:Hid (oU wr (sL m b.length n) b):=cq.u.et HJ.u.1 (λaa cs e fz hq _ x=>by subst x;exact a5.u.names.eu hq);have cc:Hid (wr.heap[w.heap.size]?=some (fB)):=aq HF.u;have ay:Hid (Below w.heap.size w wr/\w.heap.size<=c/\w.heap.size<=d/\w.heap.size<=q):=by
       obtain⟨b1,b2,b3,b4,b5⟩:=c4.u;exact⟨b1.trans (I.ek HJ.u.1 (λk _ x=>by omega) b1.size),b2,b3,b4⟩
      have cg:Hid (wr.cell? (J d 0)=some (sN)):=by
       obtain⟨y0,yx,ap,_⟩:=a5.u.jf.eo;exact(World.cell?_of_block ((aq ap).trans ap.symm)).trans cd.u
      have cb:=O (Jy (T:=b) H.u.ep (BL H.u ai.u H.u.tx).ls (by have:=H.u.n;omega) H.u.fh wr _ bb.u.fe);have dk:wr.cell? (J c 0)=some (sL h a.length l):=cr bb.u.eo rfl;clear a5 cq HF c4 cd ct bn HJ aq y4 ck bh;go_wp2_with fail;refine cb.u.mono ?_;clear cb;rintro e L ⟨fv,rfl,ae,bw⟩;obtain⟨y,z,rfl⟩:=B8 bw;have a2:=O (bb.u.y ae);have cl:Hid (oU L (sL m b.length n) b):=cp.u.et ae (λ_ _ _ _ _ _ x=>x);have b0:=O (J4 ae cc.u);have ah:Hid (Below w.heap.size w L/\w.heap.size<=c/\w.heap.size<=d/\w.heap.size<=q):=⟨ay.u.1.trans (I.ek ae (λ_ _ x=>x.elim) ay.u.1.size),ay.u.2⟩;have ce:=O (A4 ae cg.u);have bm:=O (C8 bw (wQ _));have c5:L.cell? (J c 5)=some (sN):=cr a2.u.eo rfl;have z5:=frozen_of_row L _ 5 _ _ a2.u.eo;have l5:=blt c5;simp only at l5;clear ae bw bb cp cc ay cg dk;go_wp2_with fail;have b7:(L.setCell (J c 5) (sL y a.length z)).heap[c]?=some (.cells (oH b.length (sL h a.length l) (sL m b.length n) ((a.length:Int)-1) d f (sL y a.length z) 0) 57 (0,0)):=heap_setCell_same L c 5 _ _ (sL y a.length z) a2.u.eo;have a8:I (λx=>x=c) L (L.setCell (J c 5) (sL y a.length z)):=I.set L (J c 5) _;have b8:=O (a2.u.store a8 b7);have cm:Hid (oU (L.setCell (J c 5) (sL y a.length z)) (sL m b.length n) b):=cl.u.et a8 (λaa cs e fz hq he=>a2.u.not aa cs e fz hq (by grind));have c9:Hid ((L.setCell (J c 5) (sL y a.length z)).heap[w.heap.size]?=some (fB)):=by
       show _=_;rw[a8.block _ (aI b0.u) (a2.u.not _ _ _ _ b0.u (by decide))];exact b0.u
      have ab:Hid (Below w.heap.size w (L.setCell (J c 5) (sL y a.length z))/\w.heap.size<=c/\w.heap.size<=d/\w.heap.size<=q):=⟨ah.u.1.trans (I.ek a8 (λk _ x=>by have:=ah.u.2.1;omega) ah.u.1.size),ah.u.2⟩;have cj:Hid ((L.setCell (J c 5) (sL y a.length z)).ownsRow 0 3 1 (sL y a.length z) a.length (C7 (kO a))):=A3 bm.u a8 (λa3 hg x=>by
       obtain⟨_,bc,hh⟩:=A9 bm.u a3 hg;exact a2.u.not _ _ _ _ hh (by decide) x);have cf:Hid ((L.setCell (J c 5) (sL y a.length z)).cell? (J d 0)=some (sN)):=by
       obtain⟨y0,yx,ap,_⟩:=a2.u.jf.eo;exact(World.cell?_of_block (a8.block d (aI ap) (a2.u.not _ _ _ _ ap (by decide)))).trans ce.u
      clear a8 b7 a2 cl b0 ah bm ce c5 z5 l5;generalize L.setCell (J c 5) (sL y a.length z)=W7 at*;have d1:W7.cell? (J c 1)=some (sL m b.length n):=cr b8.u.eo rfl;have d3:W7.cell? (J c 3)=some (pV d):=cr b8.u.eo rfl;have l7:=blt d1;simp only at l7;have bz:Hid (∀u,I No W7 u->Calls prog 24 #[pV d,sL m b.length n] u λe A=>∃v,e=.returned (U v)/\Hid (iF A a c d q f (sL h a.length l) (oH b.length (sL h a.length l) (sL m b.length n) ((a.length:Int)-1) d f (sL y a.length z) 0) (b++I8.take 0) j (kB t)/\A.heap[w.heap.size]?=some (fB)/\Below w.heap.size w A/\A.ownsRow 0 3 1 (sL y a.length z) a.length (C7 (kO a)))):=λu G=>by
       obtain⟨yx,hy,dy⟩:=cm.u.et G (λ_ _ _ _ _ _ x=>x);have am:=b8.u.y G;have d0:=A4 G cf.u;refine(Az u am.jf (λ_ _=>trivial) b m n yx hy dy H.u.ok (λeh ht=>?_) (by have:=H.u.jr;grind) _ d0 (λa3 hg=>by grind[Value.ownBlock])).mono ?_
       .obtain⟨ag,hn,rfl⟩:=List.mem_iff_getElem.1 ht;have D:=H.u.ls ag hn;refine⟨by omega,by omega,?_⟩;exact H.u.of _ (mQ hn)
       .rintro e A ⟨rfl,hc,hs,_⟩;rw[Iv]at hs;obtain⟨D,W,h3⟩:=am.grow (S':=b++I8.take 0) d0 hc (by grind);refine⟨_,rfl,D,W _ _ _ _ (J4 G c9.u) (by decide) (by decide),?_,?_⟩
        .have h4:=ab.u;exact(h4.1.trans (I.ek G (λ_ _ x=>x.elim) h4.1.size)).trans (I.ek h3 (λk _ x=>by omega) (kQ h4.1.size G.size))
        .have h5:=A3 cj.u G (λ_ _ x=>x);refine⟨h5.1,?_⟩;obtain g2|⟨a3,cap,bc,e1,e2,e3,r⟩:=h5.2<;>grind
      go_cut [] (λP=>Hid (iF P a c d q f (sL h a.length l) (oH b.length (sL h a.length l) (sL m b.length n) ((a.length:Int)-1) d f (sL y a.length z) 0) (b++I8.take 0) j (kB t)/\P.heap[w.heap.size]?=some (fB)/\Below w.heap.size w P/\P.ownsRow 0 3 1 (sL y a.length z) a.length (C7 (kO a))));case first=>
       go_region_with (go_at_call 24;refine(bz.u _ (I.drewN _ _ 1)).mono ?_;rintro e P ⟨v,rfl,M⟩);all_goals go_wp2_with fail
       all_goals go_meet
       all_goals omega
      case rest=>
       clear bz b8 cm c9 cj cf d1 d3 l7;go_wp2_with fail;go_loopw [11] (λv wr=>∃i:Nat,i<=5/\v=U ((i:Int)+1)/\Hid (iF wr a c d q f (sL h a.length l) (oH b.length (sL h a.length l) (sL m b.length n) ((a.length:Int)-1) d f (sL y a.length z) i) (b++I8.take i) j (kB t)/\wr.heap[w.heap.size]?=some (fB)/\Below w.heap.size w wr/\wr.ownsRow 0 3 1 (sL y a.length z) a.length (C7 (kO a)))) (λv _=>6-(intOf v).toNat);case atStart=>grind
       case round=>
        clear hcut;obtain⟨i,hi,rfl,F⟩:=hrel;by_cases cy:i<5
        .have d3:wr.cell? (J c 3)=some (pV d):=cr F.u.1.eo rfl;have l7:=blt d3;simp only at l7;have di:Hid (∀u,I No wr u->Calls prog 25 #[pV d,.agg #[U ((i:Int)+1),sN,sN,U 0]] u λe A=>e=.returned (U ((b.length+i:Nat):Int))/\Hid (iF A a c d q f (sL h a.length l) (oH b.length (sL h a.length l) (sL m b.length n) ((a.length:Int)-1) d f (sL y a.length z) i) (b++I8.take (i+1)) j (kB t)/\A.heap[w.heap.size]?=some (fB)/\Below w.heap.size w A/\A.ownsRow 0 3 1 (sL y a.length z) a.length (C7 (kO a)))):=λu G=>by
          have am:=F.u.1.y G;have ec:=H.u.jr;have ed:(b++I8.take i).length=b.length+i:=by rw[qQ,List.length_take];simp[I8];omega
          refine(zP (t:=⟨(i:Int)+1,[],[],0⟩) u am.jf none none 0 0 0 0 ⟨_,_,rfl,kW _ _ _ _,kW _ _ _ _,λa3 hg=>trivial,λa3 hg=>trivial⟩ (.inl ⟨by grind,by grind,rfl,rfl⟩) (by omega)).mono ?_;rintro e A ⟨rfl,⟨v,hv,hc⟩,hs⟩;have e2:b++I8.take i++[⟨(i:Int)+1,[],[],0⟩]=b++I8.take (i+1):=by
           rw[Uf cy,<-List.append_assoc];rfl
          rw[e2]at hs;obtain⟨D,W,h3⟩:=am.grow hv hc hs;refine⟨by grind,D,W _ _ _ _ (J4 G F.u.2.1) (by decide) (by decide),?_,?_⟩
          .have h4:=F.u.2.2.1;have h5:=ab.u.2;exact(h4.trans (I.ek G (λ_ _ x=>x.elim) h4.size)).trans (I.ek h3 (λk _ x=>by omega) (kQ h4.size G.size))
          .have h5:=A3 F.u.2.2.2 G (λ_ _ x=>x);refine⟨h5.1,?_⟩;obtain g2|⟨a3,cap,bc,e1,e2,e3,r⟩:=h5.2<;>grind
         go_wp2_with fail;go_region_with (go_at_call 25;refine(di.u _ (I.drewN _ _ 1)).mono ?_;rintro e P ⟨rfl,M⟩;have y8:P.cell? (J c (7+(i+1)))=some (U 0):=(by rw[cell_of_row _ _ (7+(i+1)) _ _ _ M.u.1.eo];have:i=0\/i=1\/i=2\/i=3\/i=4:=(by omega);obtain rfl|rfl|rfl|rfl|rfl:=this<;>rfl);have z8:=(λar=>frozen_of_row P c ar _ _ M.u.1.eo);have l8:=blt y8;simp only at l8);all_goals go_wp2_with fail
         all_goals
          have a6:I (λx=>x=c) P (P.setCell (J c (7+(i+1))) (U ((b.length:Int)+(i:Int)))):=I.set P (J c (7+(i+1))) _;have b9:(P.setCell (J c (7+(i+1))) (U ((b.length:Int)+(i:Int)))).heap[c]?=some (.cells (oH b.length (sL h a.length l) (sL m b.length n) ((a.length:Int)-1) d f (sL y a.length z) (i+1)) 57 (0,0)):=by
           have br:=heap_setCell_same P c (7+(i+1)) _ _ (U ((b.length:Int)+(i:Int))) M.u.1.eo;have e:=Ib b.length (sL h a.length l) (sL m b.length n) ((a.length:Int)-1) d f (sL y a.length z) cy;rw[Int.natCast_add]at e;rw[br,e]
          have R:=ab.u.2;have H9:=O (And.intro (M.u.1.store a6 b9) (And.intro (show (P.setCell (J c (7+(i+1))) (U ((b.length:Int)+(i:Int)))).heap[w.heap.size]?=some (fB) by rw[a6.block _ (aI M.u.2.1) (M.u.1.not _ _ _ _ M.u.2.1 (by decide))];exact M.u.2.1) (And.intro (M.u.2.2.1.trans (I.ek a6 (λk _ x=>by omega) M.u.2.2.1.size)) (A3 M.u.2.2.2 a6 (λa3 hg x=>by obtain⟨_,bc,hh⟩:=A9 M.u.2.2.2 a3 hg;exact M.u.1.not _ _ _ _ hh (by decide) x)))));grind[intOf]
        .have ds:i=5:=by omega
         subst ds;have bd:=Ec H.u ai.u (by rw[dc.u];exact F.u.1) (by have:=bi.u;omega) F.u.2.2.2;have ca:=O (Jm bd.1 bd.2);have c6:=O bd.1;have ee:=vM;have l7:=(aI F.u.1.eo);clear bd;go_wp2_with fail;refine ca.u.mono ?_;clear ca;rintro e a4 ⟨hk,bf,S⟩;have f9:=hk.2 _ _ _ _ F.u.2.1 (by decide) (by decide) (by decide) (by decide);have g0:a4.cell? (J w.heap.size 0)=some (U 0):=cr f9 rfl;have g1:a4.cell? (J w.heap.size 1)=some (U 0):=cr f9 rfl;have gz:=λar=>frozen_of_row a4 _ ar _ _ f9;have e7:=(aI f9);have R:=ab.u.2;have ax:Hid (Below w.heap.size w a4/\w.heap.size<=a4.heap.size):=⟨EU bf F.u.2.2.1 F.u.2.2.1.size R.1 R.2.1 R.2.2,(EU bf F.u.2.2.1 F.u.2.2.1.size R.1 R.2.1 R.2.2).size⟩;cases a9:kR (bM a b T) with
         |inl p=>
          obtain⟨g,ag⟩:=p;rw[a9]at S;have e0:e=.returned (.agg #[U g,U (cI a ag)]):=S;subst e0;have dg:Hid (jU s.data.toList g (cI a ag)):=⟨sx a9,.inr ⟨a,b,ps,ba.u,H.u,.inr ⟨fs,T,ag,ai.u,a9,rfl⟩⟩⟩;clear hk bf S a9 f9 R F ab;generalize cI a ag=pa at*;have a6:I (λk=>k=w.heap.size) a4 ((a4.setCell (J w.heap.size 0) (U g)).setCell (J w.heap.size 1) (U pa)):=I.trans (I.set a4 (J w.heap.size 0) _) (I.set _ (J w.heap.size 1) _) (λ_ _ x=>x);have bp:Hid (zX s.data.toList w (.returned (.tuple #[pV c,.agg #[U g,U pa]])) ((a4.setCell (J w.heap.size 0) (U g)).setCell (J w.heap.size 1) (U pa))):=⟨ax.u.1.trans (I.ek a6 (λk _ x=>by omega) ax.u.2),.inl ⟨g,pa,_,dg.u,rfl⟩⟩;clear a6;go_wp2_with fail;exact bodyPost_ret (v:=.tuple #[pV c,.agg #[U g,U pa]]) (by simp[results,results14,go_sem,g0,g1]) rfl bp.u
         |inr e5=>
          rw[a9]at S;obtain⟨e0,dj,e6,hZ,hR,hC⟩:=S;subst e0;have bt:=iy f9;have bp:Hid (zX s.data.toList w (.returned (.tuple #[pV c,.agg #[U 0,U 0]])) ((a4.setCell (J w.heap.size 0) (U 0)).setCell (J w.heap.size 1) (U 0))):=⟨ax.u.1.trans (I.ek bt (λ_ _ x=>x.elim) ax.u.2),.inr ⟨a,b,T,e5,⟨ps,fs,ba.u,H.u,ai.u,a9⟩,wr,c,d,q,f,_,_,_,_,dj,e6,F.u.2.2.1,R.1,R.2.1,R.2.2,c6.u,rfl,hZ,hR,hC.y bt,rfl⟩⟩;clear hk bf hZ hR hC a9 f9 R F ab bt c6;go_wp2_with fail;exact bodyPost_ret (v:=.tuple #[pV c,.agg #[U 0,U 0]]) (by simp[results,results14,go_sem,g0,g1]) rfl bp.u
section
variable{d w:E}{c:Cx}{b i mb k:Nat}{j yv f:Value}{mn:Int}{Z:List Ty}{e:bZ}{n:Of}{xb gb m:Nat}{g:Gm}
def aS.qq{r}(h:aS d w c b i mb k j yv mn f Z e){q}(a:I (λl=>l=q) w r)(R:∀s u y,w.heap[q]?≠some (.cells s u y))(P:q≠mb)(N:d.heap.size<=q):aS d r c b i mb k j yv mn f Z e:=by
 obtain⟨A,⟨ov,D,o,G,p⟩,B⟩:=h;have H:∀{l:Nat} {t:Array Value} {v:TypeId} {z:Nat×Nat},w.heap[l]?=some (.cells t v z)->l≠q:=λF M=>by
  grind
 refine⟨A.trans a (λl F x=>by omega),⟨ov,D,?_,A3 G a (λg L x=>?_),p.P a (p.fy.P a (λx=>?_)) ?_ (λ_ x _=>x)⟩,B⟩
 .rw[a.block b (aI o) (H o)];omega
 .grind[A9]
 .omega
 grind
structure fY(d w:E)(c:Cx)(b i mb k:Nat)(j yv:Value)(mn:Int)(f:Value)(Z:List Ty)(e:bZ)(xb gb m:Nat)(g:Gm):Prop where
 st:aS d w c b i mb k j yv mn f Z e
 eo:w.heap[xb]?=some (.cells #[pV b,.map (some gb)] 48 (0,0))
 gs:eK w gb m g
 low:d.heap.size<=gb
 ne:gb≠mb
theorem fY.y{l}(h:fY d w c b i mb k j yv mn f Z e xb gb m g)(a:I No w l):fY d l c b i mb k j yv mn f Z e xb gb m g:=
 ⟨h.st.y a,J4 a h.eo,h.gs.P a (λx=>x),h.low,h.ne⟩
def fY.gy{a}(h:fY d w c b i mb k j yv mn f Z e xb gb m g)(l:I (λp=>p=mb) w a)(o:aS d a c b i mb k j yv mn f Z e):fY d a c b i mb k j yv mn f Z e xb gb m g:=
 ⟨o,h.st.eo l h.eo,h.gs.P l h.ne,h.low,h.ne⟩
def fY.more{a}(h:fY d w c b i mb k j yv mn f Z e xb gb m g)(l:m<=a):fY d w c b i mb k j yv mn f Z e xb gb a g:=
 ⟨h.st,h.eo,h.gs.more l,h.low,h.ne⟩
theorem fY.put{a}{o:Gm}{r}(h:fY d w c b i mb k j yv mn f Z e xb gb m g)(l:I (λt=>t=gb) w a)(s:eK a gb r o):fY d a c b i mb k j yv mn f Z e xb gb r o/\KC w a:=by
 have p:KC w a:=⟨l.size,λq u v z x=>by
  rw[l.block q (aI x) (λy=>by subst y;exact h.gs.eu x)];omega⟩;exact⟨⟨h.st.qq l (λ_ _ _=>h.gs.eu) h.ne h.low,p.2 _ _ _ _ h.eo,s,h.low,h.ne⟩,p⟩
def WB(h:fY d w c b i mb k j yv mn f Z e xb gb m g)(S:m<=100000000)(l:Nat)(hi:l<=1000000)(a)(N:a<(tl c Z).length):
 Calls prog 28 #[pV xb,U l,U a] w λo B=>o=rT/\fY d B c b i mb k j yv mn f Z e xb gb (m+1) (kF g l (tr (tl c Z) a))/\KC w B:=by
 obtain⟨D,T⟩:=h.st.jf;obtain⟨oa,oc,a2,fz,q0,q1,q2,q3,-,-,-,-,-⟩:=h.st.cell;have b0:w.cell? (J xb 0)=some (pV b):=cr h.eo rfl;have L:w.cell? (J xb 1)=some (.map (some gb)):=cr h.eo rfl;have H:=O h;have A:=zT (tr (tl c Z) a);have s:=O (Jn a w N T);obtain⟨t,V⟩:∃t,tr (tl c Z) a=t:=⟨_,rfl⟩;rw[V]at A s⊢;obtain⟨v,q⟩:∃v,iB t=v:=⟨_,rfl⟩;have x:=O q;rw[q]at A s;go_in;go_wp2_with fail;refine s.u.mono ?_;rintro o F ⟨rfl,y⟩;have M:=A4 y L;have W:=blt M;simp only at W;have r:=O (H.u.y y);have z:=O y;by_cases q:v=127
 .subst q;have p:Hid (fY d F c b i mb k j yv mn f Z e xb gb (m+1) (kF g l t)):=by
   have o:kF g l t=g:=by unfold kF;rw[wY x.u]
   rw[o];exact r.u.more (Nat.le_succ _)
  go_wp2;go_end0;exact⟨rfl,p.u,KC.y z.u⟩
 .have gv:((v:Int)!=127)=true:=by simp;omega
  obtain⟨G,a3,R,P⟩:=r.u.gs.put l v (by omega) S (by omega);have p:Hid (fY d G c b i mb k j yv mn f Z e xb gb (m+1) (kF g l t)/\KC F G):=by
   have o:kF g l t=λu=>if u=(l:Int) then some (v:Int) else g u:=by
    unfold kF;rw[zY (by rw[x.u];omega),x.u];rfl
   rw[o];exact r.u.put P R
  go_wp2;go_end0;exact⟨rfl,p.u.1,(KC.y z.u).trans p.u.2⟩
def Tq(h:fY d w c b i mb k j yv mn f Z e xb gb m g)(hm:m<=100000000){x}(T:w.heap[x]?=some (.cells #[pV xb] 83 (0,0)))(p:Nat)(hp:p<=1000000)(W:Lk c Z e n p)(a)(R:a<(tl c Z).length):
 Calls prog 30 #[U p,U a,pV x] w λo H=>o=rT/\fY d H c b i mb k j yv mn f Z e xb gb (m+1) (pA n g (p,tr (tl c Z) a))/\KC w H:=by
 obtain⟨p',r,a2,o,hr,G,a3⟩:=W;have:p=p':=by omega
 subst this;have u:=O (WI h.st p a2 r hr G);have V:(tl c Z)[r].x=(aX n p).k:=by rw[<-a3,iH h.st.ts G]
 have z:=O (λa4 (hu:I No w a4)=>WB (h.y hu) hm p hp a R);have b0:w.cell? (J xb 0)=some (pV b):=cr h.eo rfl;have x0:w.cell? (J x 0)=some (pV xb):=cr T rfl;have L:=O h;rw[V]at u;obtain⟨t,ht⟩:∃t,tr (tl c Z) a=t:=⟨_,rfl⟩;rw[ht]at z⊢;obtain⟨q,F⟩:∃q,(aX n p).k=q:=⟨_,rfl⟩;have A:=O F;rw[F]at u;go_in;go_wp2_with fail;refine u.u.mono ?_;rintro o a6 ⟨rfl,D⟩;have a5:=A4 D x0;have S:=blt a5;simp only at S;have l:=O D;by_cases B:q=5
 .subst B;have y:pA n g (p,t)=kF g p t:=by unfold pA;rw[wY A.u]
  have s:=O y;go_wp2_with fail;refine(z.u _ l.u).mono ?_;rintro o a7 ⟨rfl,P,N⟩;have v:=O P;have M:=O N;go_wp2;go_end0;exact⟨rfl,by rw[s.u];exact v.u,(KC.y l.u).trans M.u⟩
 .have g5:(q==5)=false:=by simpa using B
  have y:pA n g (p,t)=g:=by unfold pA;rw[zY (by rw[A.u];omega)]
  have s:=O y;have v:=O ((L.u.y l.u).more (Nat.le_succ m));go_wp2;go_end0;exact⟨rfl,by rw[s.u];exact v.u,KC.y l.u⟩
def Jt(d h:E)(c:Cx)(b i mb k:Nat)(j yv:Value)(mn:Int)(f:Value)(Z:List Ty)(e:bZ)(n:Of)(xb gb m:Nat)(g:Gm)(a:Nat)(l:List (Int×Tr))(u:E):Prop:=
 fY d u c b i mb k j yv mn f Z e xb gb (m+l.length) (l.foldl (pA n) g)/\l.length<=1200/\u.heap[a]?=some (.cells #[pV xb] 83 (0,0))/\KC h u
def Fv(y:cP d c b i mb k j f){q}(z:fU c Z e n q)(H:m<=90000000)(F:∃L,aM c n q=some L)(B)(s):
 mC d c b i mb k j yv mn f Z e n q 30 #[pV s] (Jt d B c b i mb k j yv mn f Z e n xb gb m g s) (λ_ _=>False) where
 cf _ _:=by go_simp
 st l u h:=h.1.st;y l u r h hc:=⟨h.1.y hc,h.2.1,J4 hc h.2.2.1,h.2.2.2.trans (.y hc)⟩;gy l u r h hc hC:=⟨h.1.gy hc hC,h.2.1,h.1.st.eo hc h.2.2.1,h.2.2.2.trans (h.1.st.kc hc)⟩;bad l u r h hc hn:=by
  grind
 tell l u L x p a h hx hp ha hL2 hmem hlen:=by
  have t:=z.pe x hx;rw[hp]at t;have A:p<=1000000:=by
   obtain⟨M,v,_,G,_⟩:=hx;have:=y.ok.fh;omega
  have:=h.2.1;refine(Tq h.1 (by omega) h.2.2.1 p A t a ha).mono ?_;rintro v r ⟨rfl,D,o⟩;refine .inr ⟨rfl,⟨?_,by grind,o.2 _ _ _ _ h.2.2.1,h.2.2.2.trans o⟩,o⟩;grind
end
section
variable{p w:E}{c:Cx}{d h j o:Nat}{l q e:Value}{k:Int}{Z:List Ty}{b:bZ}{n:Of}{a f m:Nat}{g:Gm}{i:Nat}
def Qa(p w:E)(c:Cx)(d h j o:Nat)(l q:Value)(k:Int)(e:Value)(Z:List Ty)(b:bZ)(a f m:Nat)(g:Gm)(s:Ending)(r:E):Prop:=
 s=rT/\fY p r c d h j o l q k e Z b a f (m+1201) g/\KC w r
def Bz(hB:cP p c d h j o l e)(hL:fU c Z b n i)(hD:yI c n i)(A)(ag:c.N[i].x=7\/c.N[i].x=8\/c.N[i].x=9->Lk c Z b n i)(L:fY p w c d h j o l q k e Z b a f m g)(hm:m<=80000000):
 Calls prog 15 #[pV a,U i] w (Qa p w c d h j o l q k e Z b a f m (tM c n g i)):=by
 have b2:=vM;have b1:=hB.ok.fh;have HX:Hid (∀u bx,fY p u c d h j o l q k e Z b a f (m+1) (mR c n g i)->u.heap[bx]?=some (.cells #[pV a] 83 (0,0))->
  Calls prog 29 #[pV d,U (i:Int),.func (.func 30) #[] #[pV bx]] u λG w'=>G=rT/\fY p w' c d h j o l q k e Z b a f (m+1201) (tM c n g i)/\KC u w'):=λu bx hu al=>by
  refine(OT (w:=u) hB hL (Fv (yv:=q) (mn:=k) (xb:=a) (gb:=f) (m:=m+1) (g:=mR c n g i) hB hL (by omega) hD.asked u bx) A (λy=>by have:=hD.call (by rw[B9 A];exact y);rw[B9 A]at this;exact this) (λy=>hD.ret (by rw[B9 A];exact y)) ⟨hu,wQ _,al,KC.refl _⟩).mono ?_;rintro G w' (⟨_,aw⟩|⟨rfl,ax,aj,B,h2,h3,h4⟩)
  .exact aw.elim
  .refine⟨rfl,?_,h4⟩;unfold tM;rw[aj];exact B.more (by omega)
 obtain⟨oa,oc,b6,fz,q0,q1,q2,q3,q4,q5,q6,qp,qo⟩:=L.st.cell;obtain⟨ng,nc,R,S,aq,hg,b3,ao,⟨x0,x1,x2,x3,x4,x5,x6,x7,x8⟩,an,-⟩:=(hB.fg L.st.P).at (Below.refl _ _) i A;have b0:w.cell? (J a 0)=some (pV d):=cr L.eo rfl;have b7:=(aI L.eo);have ah:=hB.ok.ep i A;have HG:Hid (∀u (t:Nat),t<(tl c Z).length->I No w u->_):=λu t ha hu=>WB (L.y hu) (by omega) i (by omega) t ha;have HS:Hid (∀u,I No w u->fY p u c d h j o l q k e Z b a f (m+1) g):=λu hu=>(L.y hu).more (Nat.le_succ _);obtain⟨gw,a4⟩:∃gw,mR c n g i=gw:=⟨_,rfl⟩;have a6:Hid (c.N[i].x=16->c.N[i].ty≠-1->∃t:Nat,c.N[i].ty=(t:Int)/\t<(tl c Z).length/\kF g (i:Int) (tr (tl c Z) t)=gw):=λy D=>by
  obtain⟨t,B,h2,h3⟩:=hL.wt _ ((ah.q8 y).resolve_left D);refine⟨t,B,h2,?_⟩;rw[<-a4];unfold mR;rw[B9 A,wY y,wY D,h3]
 have a7:Hid (c.N[i].x=16->c.N[i].ty=-1->g=gw):=λy D=>by
  rw[<-a4];unfold mR;rw[B9 A,wY y,zY (by rw[D];simp)]
 have a8:Hid (c.N[i].x=7\/c.N[i].x=8\/c.N[i].x=9->∃(r:Nat) (L:i<b.length),b[i]=(r:Int)/\r<(tl c Z).length/\kF g (i:Int) (tr (tl c Z) r)=gw):=λy=>by
  obtain⟨av,r,B,h2,h3,h4,h5⟩:=ag y;have:i=av:=by omega
  subst this;refine⟨r,B,h3,h4,?_⟩;rw[<-a4];unfold mR;rw[B9 A,zY (by omega),wY y,h5]
 have a9:Hid (c.N[i].x≠16->¬(c.N[i].x=7\/c.N[i].x=8\/c.N[i].x=9)->g=gw):=λB h2=>by
  rw[<-a4];unfold mR;rw[B9 A,zY B,zY h2]
 rw[a4]at HX;have a5:Hid (∀ac (hj:ac<b.length),∃g,oa=some (J g 0)/\g<w.heap.size/\b.length<=oc/\oc<=maxLen/\w.cell? (J g ac)=some (U b[ac])):=λac hj=>by
  obtain⟨g,B,h2,h3,h4,h5,h6,_⟩:=qo ac hj;exact⟨g,B,h3,h4,h5,h6⟩
 unfold maxLen at ao;clear qp qo L hB hL hD ag ah a4 an q1 q2 q3 q4 q5 fz;generalize ap:c.N[i]=nd at*;clear ap;obtain⟨z,W,vb,vc,T,V,vn,vt,vp⟩:=nd;subst aq;simp only at*;by_cases ad:z=16
 .subst ad;by_cases D:vt=-1
  .obtain rfl:=a7.u rfl D;subst D;clear a6 a7 a8 a9 HG a5;have s:Hid (I No w ((w.alloc (.cells #[pV a] 83)).alloc (aL 16 W vb vc (sL R T.length S) V vn (-1) vp))):=B6 (I.alloc _ _ _) (I.alloc _ _ _);have H:((w.alloc (.cells #[pV a] 83)).alloc (aL 16 W vb vc (sL R T.length S) V vn (-1) vp)).heap[w.heap.size]?=some (.cells #[pV a] 83 (0,0)):=(Below.heap_alloc _ _ _ (by simp)).trans (nW w _);have F:=O H;clear H;go_in;go_wp2_with fail;refine(HX.u _ _ (HS.u _ s.u) (F.u)).mono ?_;rintro G a2 ⟨rfl,x,v⟩;have N:=O x;have M:Hid (KC w a2):=(KC.y s.u).trans v;clear x v;go_wp2_with fail;go_end0;exact⟨rfl,N.u,M.u⟩
  .obtain⟨t,ha,ak,rfl⟩:=a6.u rfl D;subst ha;have az:((t:Int)!=-1)=true:=by first|(simp;done)|(simp;omega)
   clear a6 a7 a8 a9 a5 D;have s:Hid (I No w ((w.alloc (.cells #[pV a] 83)).alloc (aL 16 W vb vc (sL R T.length S) V vn (t:Int) vp))):=B6 (I.alloc _ _ _) (I.alloc _ _ _);have H:((w.alloc (.cells #[pV a] 83)).alloc (aL 16 W vb vc (sL R T.length S) V vn (t:Int) vp)).heap[w.heap.size]?=some (.cells #[pV a] 83 (0,0)):=(Below.heap_alloc _ _ _ (by simp)).trans (nW w _);have F:=O H;clear H;go_in;go_wp2_with fail;refine(HG.u _ t ak s.u).mono ?_;rintro G ai ⟨rfl,hP,P⟩;have f0:=P.2 _ _ _ _ F.u;have aa:ai.cell? (J w.heap.size 0)=some (pV a):=cr f0 rfl;have ab:=P.cell (A4 s.u b0);have l0:=blt aa;have l1:=blt ab;simp only at l0 l1;have HP:=O hP;have HK:=O P;have F0:=O f0;clear hP P f0 HG;go_wp2_with fail;refine(HX.u _ _ (HP.u) (F0.u)).mono ?_;rintro G a2 ⟨rfl,x,v⟩;have N:=O x;have M:Hid (KC w a2):=((KC.y s.u).trans HK.u).trans v;clear x v;go_wp2_with fail;go_end0;exact⟨rfl,N.u,M.u⟩
 .have ay:(z==16)=false:=by simpa using ad
  by_cases ae:z=7\/z=8\/z=9
  .obtain⟨r,am,hr,au,rfl⟩:=a8.u ae;obtain⟨go,rfl,b4,b5,ar,y0⟩:=a5.u i am;rw[hr]at y0;clear a6 a7 a8 a9 a5 hr;unfold maxLen at ar;obtain⟨a3,hW⟩:∃a3,a3=(w.alloc (.cells #[pV a] 83)).alloc (aL z W vb vc (sL R T.length S) V vn vt vp):=⟨_,rfl⟩;have s:Hid (I No w a3):=by
    rw[hW];exact B6 (I.alloc _ _ _) (I.alloc _ _ _)
   have F:Hid (a3.heap[w.heap.size]?=some (.cells #[pV a] 83 (0,0))):=by
    rw[hW];exact(Below.heap_alloc _ _ _ (by simp)).trans (nW w _)
   have aa:a3.cell? (J w.heap.size 0)=some (pV a):=cr F.u rfl;have ab:=A4 s.u b0;have af:=A4 s.u q6;have c3:=A4 s.u y0;have l0:=blt aa;have l1:=blt ab;have l2:=blt af;have l3:=blt c3;simp only at l0 l1 l2 l3;obtain rfl|rfl|rfl:=ae;all_goals
    go_in;go_wp2_with fail;rw[<-hW];clear x0 x1 x2 x3 x4 x5 x6 x7 x8 q0 q6 b0 y0 hW;go_region_with (go_at_call 28;refine(HG.u _ r au (B6 s.u (I.drewN _ _ 1))).mono ?_;rintro G ai ⟨rfl,hP,P⟩;have HP:=O hP;have HK:=O P;clear hP P);all_goals
     have f0:=HK.u.2 _ _ _ _ (show a3.drew.heap[w.heap.size]?=some (.cells #[pV a] 83 (0,0)) from F.u);have d0:=HK.u.cell aa;have d1:=HK.u.cell ab;have m0:=blt d0;have m1:=blt d1;simp only at m0 m1;have F0:=O f0;clear f0 aa ab af c3 l0 l1 l2 l3 HG;go_wp2_with fail;refine(HX.u _ _ (HP.u) (F0.u)).mono ?_;rintro G a2 ⟨rfl,x,v⟩;have N:=O x;have M:Hid (KC w a2):=(((KC.y s.u).trans (KC.y (I.drewN _ _ 1))).trans HK.u).trans v;clear x v;go_wp2_with fail;go_end0;exact⟨rfl,N.u,M.u⟩
  .obtain rfl:=a9.u ad ae;have g7:(z==7)=false:=by simp;omega
   have g8:(z==8)=false:=by simp;omega
   have g9:(z==9)=false:=by simp;omega
   clear a6 a7 a8 a9 HG a5 ad ae;have s:Hid (I No w ((w.alloc (.cells #[pV a] 83)).alloc (aL z W vb vc (sL R T.length S) V vn vt vp))):=B6 (I.alloc _ _ _) (I.alloc _ _ _);have H:((w.alloc (.cells #[pV a] 83)).alloc (aL z W vb vc (sL R T.length S) V vn vt vp)).heap[w.heap.size]?=some (.cells #[pV a] 83 (0,0)):=(Below.heap_alloc _ _ _ (by simp)).trans (nW w _);have F:=O H;clear H;go_in;go_wp2_with fail;refine(HX.u _ _ (HS.u _ s.u) (F.u)).mono ?_;rintro G a2 ⟨rfl,x,v⟩;have N:=O x;have M:Hid (KC w a2):=(KC.y s.u).trans v;clear x v;go_wp2_with fail;go_end0;exact⟨rfl,N.u,M.u⟩
end
def Tryz.oj:(prog.info? 37).map (λi=>(i.zero,i.size,i.bytes))=some (some (.agg #[U 0,U 0]),2,16):=by kernel_rfl
def ER(g):∀j,(Z7 g j).length<=j
 |0=>vQ _
 |j+1=>by
  have:=ER g j;grind[Z7,qQ]
section
variable{k w:E}{c:Cx}{d h i j:Nat}{b o e:Value}{l:Int}{Z:List Ty}{n:bZ}{a f m:Nat}{g:Gm}
def Ip(P:cP k c d h i j b e)(y:fY k w c d h i j b o l e Z n a f m g):
 Calls prog 16 #[pV a] w λa6 w'=>∃r q,a6=.returned (.slice r (Z7 g c.N.length).length q)/\I No w w'/\w'.ownsRow w.heap.size 37 2 (.slice r (Z7 g c.N.length).length q) (Z7 g c.N.length).length (Z4 (Z7 g c.N.length)):=by
 obtain⟨i0,hi,ab,ae,af⟩:=info_parts Tryz.oj;obtain⟨oa,oc,aj,-,q0,-,-,-,-,-,-,-,-⟩:=y.st.cell;have ai:=P.ok.fh;obtain⟨V,W,a9⟩:∃V W,b=sL V c.N.length W:=by
  obtain⟨nx,hn,_⟩:=P.fg y.st.P;grind[B8]
 subst a9;have b0:w.cell? (J a 0)=some (pV d):=cr y.eo rfl;have b1:w.cell? (J a 1)=some (.map (some f)):=cr y.eo rfl;have a3:=O y.gs;generalize c.N.length=D at*;go_in;go_wp2;go_loopw [16,3] (λv u wr=>∃(p:Nat) (r:Option Addr) (q:Nat),p<=D/\v=U p/\u=.slice r (Z7 g p).length q/\Hid (I No w wr)/\Hid (wr.ownsRow w.heap.size 37 2 (.slice r (Z7 g p).length q) (Z7 g p).length (Z4 (Z7 g p)))) (λv _ _=>D-(intOf v).toNat);case atStart=>exact⟨0,none,0,wQ _,rfl,rfl,I.refl _ _,kW _ _ _ _⟩
 case round=>
  obtain⟨p,r,q,hj,rfl,rfl,CR,G⟩:=hrel;have ak:=CR.u.size;by_cases ah:p<D
  .have B:=(a3.u.P CR.u (λx=>x)).look p (by omega);have d1:=A4 CR.u b1;have m1:=blt d1;simp only at m1;have aa:=ER g p;have s:Hid (Z7 g (p+1)=Z7 g p++(match g p with|some v=>[(p,v)]|none=>[])):=by
    show _=_;cases z:g p<;>simp[Z7,z]
   obtain⟨A,a7⟩:∃A,Z7 g p=A:=⟨_,rfl⟩;rw[a7]at G s aa⊢;cases z:g p with
   |none=>
    rw[z]at B s;have N:Hid (Z7 g (p+1)=A):=by
     show _=_;rw[s.u];simp
    simp at B;go_wp2;go_roundw;case rel=>exact⟨p+1,r,q,by omega,by go_num,by rw[N.u],CR,by rw[N.u];omega⟩
    grind[intOf]
   |some F=>
    rw[z]at B s;have L:Hid (Z7 g (p+1)=A++[((p:Int),F)]):=s.u;simp at B;have M:=O (G.u.alloc (.cells #[U p,U F] 37));clear s z;go_wp2_with (at_builtin;refine wpList_append_own _ rfl _ _ 23 rfl w.heap.size 37 i0 (.agg #[U 0,U 0]) 2 16 underlying23 hi ab ae af rfl (by decide) _ _ _ rfl M.u (J wr.heap.size 0) 1 1 [U (p:Int),U F] rfl rfl ?c1 ?c2 ?c3 ?c4 ?c5 ?_);case c1=>grind[World.news_of_block,yY]
    case c2=>intro u T;simp at T;obtain rfl|rfl:=T<;>rfl
    case c3=>grind[maxLen]
    case c4=>omega
    case c5=>simp;omega
    intro v' ag H S _;obtain⟨a5,c4,rfl⟩:=B8 H;have a4:=O H;have R:=(I.alloc (λt=>w.heap.size<=t) wr (.cells #[U (p:Int),U F] 37)).trans (I.grown S) (λt hk x=>(A9 M.u t x.symm).1);have a2:Hid (I No w ag):=((CR.u.mono (S':=λt=>w.heap.size<=t) (λ_ _ x=>x.elim)).trans R (λ_ _ x=>x)).mono (λt hk x=>by omega);clear H S R;go_wp2_with fail;go_roundw;case rel=>exact⟨p+1,a5,c4,by omega,by go_num,by rw[L.u,qQ,List.length_singleton],a2,(show World.ownsRow _ _ _ _ _ _ _ from by rw[L.u,ZI,qQ,List.length_singleton];exact a4.u)⟩
    grind[intOf]
  .have a8:p=D:=by omega
   subst a8;go_wp2_with fail;exact bodyPost_ret (v:=.slice r (Z7 g p).length q) (by simp[results,results16,go_sem]) rfl ⟨r,q,rfl,CR.u,G.u⟩
end
def JW(l:Y)(w:E)(e:Ending)(g:E):Prop:=Below w.heap.size w g/\
 ((∃f p,jU l f p/\e=.returned (.tuple #[sN,.agg #[U f,U p]]))\/
  ∃N T a b d c,gF l N T a b/\e=.returned (.tuple #[.slice d (iJ (bM N T a) b).length c,.agg #[U 0,U 0]])/\g.ownsRow w.heap.size 37 2 (.slice d (iJ (bM N T a) b).length c) (iJ (bM N T a) b).length (Z4 (iJ (bM N T a) b)))
theorem gF.ok{l}{N}{T}{a}{c}(h:gF l N T a c):jD (bM N T a)/\yA (bM N T a) c:=by
 obtain⟨i,e,_,b,d,g⟩:=h;have f:=BL b d b.tx;grind[YY]
def GY(s)(w:E)(hs:s.size<=maxLen):Calls prog 7 #[.string s] w (JW s.data.toList w):=by
 have HR:=O (λa=>YB s a hs);have ab:=nW w (fB);have b5:=@run_makeMap prog;go_in;go_wp2_with fail;refine(HR.u _).mono ?_;rintro e a ⟨a3,⟨q,p,v,ae,rfl⟩|⟨N,T,d,b,ah,n,f,F,G,qb,nv,yv,mn,P,Z,a7,a2,ai,af,ag,hB,rfl,hZ,W,V,-⟩⟩
 .have m:a.heap[w.heap.size]?=some (fB):=by
   rw[a3.block _ (by simp)];exact ab
  have R:a.cell? (J w.heap.size 0)=some (U 0):=cr m rfl;have S:a.cell? (J w.heap.size 1)=some (U 0):=cr m rfl;have gz:=λa6=>frozen_of_row a _ a6 _ _ m;have gl:=(aI m);have b4:(q !=0)=true:=by simp[ae.1]
  have B:Hid (Below w.heap.size w a):=(I.ek (I.alloc No w _) (λ_ _ x=>x.elim) (vQ _)).trans (a3.mono (by simp));have ak:=O ae;go_wp2;go_region;all_goals go_wp2
  all_goals
   have t:I (λk=>k=w.heap.size) a ((a.setCell (J w.heap.size 0) (U q)).setCell (J w.heap.size 1) (U p)):=I.trans (I.set a (J w.heap.size 0) _) (I.set _ (J w.heap.size 1) _) (λ_ _ x=>x);have W:JW s.data.toList w (.returned (.tuple #[sN,.agg #[U q,U p]])) _:=⟨B.u.trans (I.ek (I.trans t (B6 (I.alloc No _ (.cells #[U q,U p] 26)) (I.drewN No _ 1)) (λ_ _ x=>x.elim)) (λk _ e=>by omega) B.u.size),.inl ⟨q,p,ak.u,rfl⟩⟩;exact bodyPost_ret (by simp[results,results7,go_sem,R,S,gl]) rfl W
 .have m:a.heap[w.heap.size]?=some (fB):=by
   rw[a3.block _ (by simp)];exact ab
  have ay:w.heap.size+1<=n.heap.size:=by have:=a2.size;simpa using this
  have az:(w.alloc (fB)).heap.size=w.heap.size+1:=by simp
  rw[az]at a2 ai af ag;have B:Hid (∀g,I (SW n f F G) n g->Below w.heap.size w g):=λg an=>(I.ek (I.alloc No w _) (λ_ _ x=>x.elim) (vQ _)).trans ((EU an a2 ay ai af ag).mono (by omega));obtain⟨au,av⟩:=ah.ok;have al:=O ah;have L:Hid (∀g l i,Below w.heap.size w g->g.ownsRow w.heap.size 37 2 (.slice l (iJ (bM N T d) b).length i) (iJ (bM N T d) b).length (Z4 (iJ (bM N T d) b))->JW s.data.toList w (.returned (.tuple #[.slice l (iJ (bM N T d) b).length i,.agg #[U 0,U 0]])) g):=λg l i hb ho=>⟨hb,.inr ⟨N,T,d,b,l,i,al.u,rfl,ho⟩⟩;have aq:iJ (bM N T d) b=Z7 (oI (bM N T d) b (bM N T d).N.length) (bM N T d).N.length:=rfl;rw[aq]at L;generalize bM N T d=c at*;have b6:=au.fh;have H:=O av;have A:=O hB;have a9:=O W;have a8:=O V;have aj:=O m;obtain⟨y,z,ax⟩:∃y z,nv=sL y c.N.length z:=by
   obtain⟨nx,hn,_⟩:=hB.fg V.P;grind[B8]
  subst ax;obtain⟨oa,oc,b7,-,q0,-,-,-,-,-,-,-,-⟩:=V.cell;have M:I No a (((a.alloc (fB)).alloc (.map #[] 0)).alloc (.cells #[pV f,.map (some (a.heap.size+1))] 48)):=B6 (B6 (I.alloc _ _ _) (I.alloc _ _ _)) (I.alloc _ _ _);have ba:=A4 M q0;go_wp2;have b8:=a8.u.P.size;have P0:Hid (fY n (((a.alloc (fB)).alloc (.map #[] 0)).alloc (.cells #[pV f,.map (some (a.heap.size+1))] 48)) c f F G qb (sL y c.N.length z) yv mn P Z a7 (a.heap.size+2) (a.heap.size+1) 0 (oI c b 0)):=by
   refine⟨a8.u.y M,?_,?_,by omega,by have:=A.u.lt;omega⟩
   .have:=nW ((a.alloc (fB)).alloc (.map #[] 0)) (.cells #[pV f,.map (some (a.heap.size+1))] 48);simp_all
   .have:=(eK.new (a.alloc (fB))).P (I.alloc No _ (.cells #[pV f,.map (some (a.heap.size+1))] 48)) (λx=>x);simp at this;exact this
  have K0:=KC.y M;go_loopw [27] (λv wr=>∃j:Nat,j<=c.N.length/\v=U j/\Hid (fY n wr c f F G qb (sL y c.N.length z) yv mn P Z a7 (a.heap.size+2) (a.heap.size+1) (1201*j) (oI c b j))/\Hid (KC a wr)) (λv _=>c.N.length-(intOf v).toNat);case atStart=>grind
  case round=>
   obtain⟨j,hj,rfl,o,D⟩:=hrel;by_cases u:j<c.N.length
   .have HN:=O (Bz A.u (DW A.u.ok o.u.st.ts a9.u H.u.inv (Nat.le_of_lt u)) (H.u.dn j u) u (λhk=>by
     obtain⟨bb,ht⟩:=H.u.inv.ex j u (by grind[aO]) (.inl u);obtain⟨b0,h1,h2,h3,h4⟩:=aS.look a9.u ht;exact⟨j,b0,h1,rfl,h2,h3,h4⟩) o.u (by omega));go_wp2_with fail;refine HN.u.mono ?_;rintro e h ⟨rfl,ap,ao⟩;have b2:Hid (fY n h c f F G qb (sL y c.N.length z) yv mn P Z a7 (a.heap.size+2) (a.heap.size+1) (1201*(j+1)) (oI c b (j+1))):=ap;have b1:=O (D.u.trans ao);go_wp2;grind[intOf]
   .have aw:j=c.N.length:=by omega
    subst aw;have aa:=O (Ip A.u o.u);go_wp2_with fail;refine aa.u.mono ?_;rintro e h ⟨l,i,rfl,a4,a5⟩;have r:=J4 a4 (D.u.2 _ _ _ _ aj.u);have R:h.cell? (J w.heap.size 0)=some (U 0):=cr r rfl;have S:h.cell? (J w.heap.size 1)=some (U 0):=cr r rfl;have gz:=λa6=>frozen_of_row h _ a6 _ _ r;have b3:=(aI r);have t:I (λk=>k=w.heap.size) h ((h.setCell (J w.heap.size 0) (U 0)).setCell (J w.heap.size 1) (U 0)):=I.trans (I.set h (J w.heap.size 0) _) (I.set _ (J w.heap.size 1) _) (λ_ _ x=>x);have b9:=D.u.1;have ar:=O (L.u _ l i ((B.u _ (o.u.st.y a4).P).trans (I.ek t (λk _ x=>by omega) (by omega))) (A3 (C8 a5 (by omega)) t (λam hg x=>by have:=(a5.lt am hg).1;omega)));clear t r L aa a5 a4 o D;generalize (Z7 (oI c b c.N.length) c.N.length).length=bl at*;go_wp2_with fail;exact bodyPost_ret (v:=.tuple #[sL l bl i,.agg #[U 0,U 0]]) (by simp[results,results7,go_sem,R,S]) rfl ar.u
def FK(l:Y)(a p:Int):Prop:=jU l a p\/(a=0/\p=0/\∃N T b c,gF l N T b c)
def Jr(R:List (Int×Int)):Prop:=R.length<=1200/\(∀p∈R,(0<=p.1/\p.1<=1200)/\1<=p.2/\p.2<127)/\R.Pairwise λp q=>p.1<q.1
def gF.qj{l}{N}{T}{a}{b}(h:gF l N T a b):Jr (iJ (bM N T a) b):=by
 obtain⟨q,m,_,d,i,j⟩:=h;have c:=BL d i d.tx;have g:=EA c _ b (vQ _) j;obtain⟨e,f⟩:=XE (WQ c g (bM N T a).N.length) (bM N T a).N.length;have n:=ER (oI (bM N T a) b (bM N T a).N.length) (bM N T a).N.length;have o:=c.fh;exact⟨by grind[iJ],λp k=>by have:=e p k;omega,f⟩
def DA:ByteArray:=⟨([108,101,116,32,102,32,61,32,102,110,40,120,58,32,110,117,109,41,32,123,32,112,114,105,110,116,32,120,59,32,125,59]).toArray⟩
def US:gF DA.data.toList vL vF [(1,0)] DH:=⟨vK,[],Sj,Uh,Ch,zq⟩
def Ru(w:E):Calls prog 7 #[.string DA] w λe b=>Below w.heap.size w b/\∃g a,e=.returned (.tuple #[.slice (some (J g 0)) 1 a,.agg #[U 0,U 0]])/\g<b.heap.size/\1<=a/\a<=maxLen/\b.cell? (J g 0)=some (U 0)/\b.cell? (J g 1)=some (U 1):=by
 refine(GY DA w (by decide)).mono ?_;rintro e b ⟨f,⟨n,p,j,rfl⟩|⟨N,T,o,q,m,a,l,rfl,d⟩⟩
 .exact absurd j US.not
 .obtain⟨rfl,rfl,rfl,rfl⟩:=l.one US;rw[zu]at d⊢;obtain⟨g,rfl,_,k,h,i,c⟩:=D4 d (by decide);exact⟨f,g,a,rfl,k,h,i,c 0 _ rfl,c 1 _ rfl⟩
