/-
  A part of the proof.
-/
import Derived.Test.YtneelacbkianjaaGreatDoorCheckF
import Derived.Test.YtneelacbkianjaaGreatDoorCheckH
import Derived.Test.YtneelacbkianjaaGreatDoorPrintC
set_option maxHeartbeats 16000000
set_option maxRecDepth 100000
namespace Go.Proofs.YtneelacbkianjaaGreatDoor
open Go.Proofs.Tryz
open Go.RowKit Go.Maps
def tcl(p:Int×bZ):List Value:=[U p.1,.string ⟨p.2.toArray⟩]
theorem S0a{w a:lZ}(h:Below w.heap.size w a):I No w a:=(I.below h).mono λ_ b x=>by omega
def TdS(g:bZ->List (Int×bZ)->Prop)(f:bZ->Prop)(l:bZ)(w:lZ)(e:Ending)(d:lZ):Prop:=Below w.heap.size w d/\
 ((∃c p,c≠0/\f l/\e= .returned (.tuple #[sN,.agg #[U c,U p]]))\/
  ∃R b a,g l R/\e= .returned (.tuple #[.slice b R.length a,.agg #[U 0,U 0]])/\d.ownsRow w.heap.size 32 2 (.slice b R.length a) R.length (R.flatMap tcl))
theorem Y9b(o:bZ->List (Int×bZ)->Prop)(ag:bZ->Prop)(az:∀l R Y,o l R->o l Y->R=Y)(aw:∀l R,o l R->¬ag l)(av:∀l R,o l R->R.length<=100000)(s:ByteArray)(w:lZ)(hs:s.size<=maxLen)
 (K:∀a,Calls prog 4 #[] a λe q=>e= .returned (.bool true)/\Below a.heap.size a q)
 (L:∀a,I No w a->Calls prog 5 #[] a λe q=>e= .returned (.bool true)/\Below a.heap.size a q)
 (v:∀(s:ByteArray) a,s.size<=maxLen->Calls prog 6 #[.string s] a (TdS o ag s.data.toList a))
 (u:∀a,I No w a->Calls prog 7 #[.string s] a λe q=>Below a.heap.size a q/\∃t k p,e= .returned (.tuple #[.string t,.agg #[U k,U p]])/\(k=0->t.size<=maxLen/\∀R,o s.data.toList R->o t.data.toList R)):
 Calls prog 3 #[.string s] w λe q=>e= .returned (.bool true)/\Below w.heap.size w q:=by
 have ak:=O (λa=>v s a hs);have v:=O v;have K:=O K;have L:=O L;have u:=O u;have HN:=O aw;have ai:=O az;have ah:=O av;clear hs aw az av;go_enter func3,ntmps3;go_wp2_with fail
 refine(K.o w).mono ?_;rintro e bo ⟨rfl,ap⟩;have N:=O (S0a ap);clear ap K;go_wp2_with fail
 refine(L.o _ N.o).mono ?_;rintro e bc ⟨rfl,aq⟩;have C2:=O (D3 N.o (S0a aq));clear aq L N;go_wp2_with fail
 refine(ak.o bc).mono ?_;rintro e h ⟨a3,hr⟩;have F:=O (D3 C2.o (S0a a3));have bn:=a3.size;clear a3 ak C2;rcases hr with ⟨k,p,B,-,rfl⟩|⟨R,ad,ac,ay,rfl,ho⟩
 · have C:=qY h (.cells #[U k,U p] 26);have m:Hid (I No w (h.alloc (.cells #[U k,U p] 26))):=D3 F.o (I.alloc No _ _);have D:(h.alloc (.cells #[U k,U p] 26)).cell? (J h.heap.size 0)=some (U k):=cr C rfl;have b8:(k !=0)=true:=by simp[B]
   clear C F B;go_wp2_with fail
   refine(u.o _ m.o).mono ?_;rintro e b ⟨i,t,d,f,rfl,-⟩;have r:=O (D3 m.o (S0a i));have aa:=i.size;simp only[World.size_alloc]at aa;have E:=A8 (S0a i) D;have y:=qY b (.cells #[U d,U f] 26);have q0:=A8 (I.alloc No b (.cells #[U d,U f] 26)) E;have q1:(b.alloc (.cells #[U d,U f] 26)).cell? (J b.heap.size 0)=some (U d):=cr y rfl;have l3:h.heap.size<(b.alloc (.cells #[U d,U f] 26)).heap.size:=by simp;omega
   have l4:b.heap.size<(b.alloc (.cells #[U d,U f] 26)).heap.size:=by simp
   have n:Hid (Below w.heap.size w (b.alloc (.cells #[U d,U f] 26))):=I.toBelow (D3 r.o (I.alloc No _ _)) (λ_ _ x=>x.elim) (vQ _);clear r m D E y i u;go_wp2_with fail
   generalize b.alloc (.cells #[U d,U f] 26)=W at *;go_wp2;go_ret;exact⟨rfl,n.o⟩
 · have C:=qY h (.cells #[U 0,U 0] 26);have m:Hid (I No w (h.alloc (.cells #[U 0,U 0] 26))):=D3 F.o (I.alloc No _ _);have D:(h.alloc (.cells #[U 0,U 0] 26)).cell? (J h.heap.size 0)=some (U 0):=cr C rfl;have OA:=O (A4 ho (I.alloc No h (.cells #[U 0,U 0] 26)) (λ_ _ x=>x));have aj:=O ay;clear C F ho ay;go_wp2_with fail
   refine(u.o _ m.o).mono ?_;rintro e b ⟨i,t,d,f,rfl,a9⟩;have r:=O (D3 m.o (S0a i));have aa:=i.size;simp only[World.size_alloc]at aa;have E:=A8 (S0a i) D;have y:=qY b (.cells #[U d,U f] 26);have q0:=A8 (I.alloc No b (.cells #[U d,U f] 26)) E;have q1:(b.alloc (.cells #[U d,U f] 26)).cell? (J b.heap.size 0)=some (U d):=cr y rfl;have l3:h.heap.size<(b.alloc (.cells #[U d,U f] 26)).heap.size:=by simp;omega
   have l4:b.heap.size<(b.alloc (.cells #[U d,U f] 26)).heap.size:=by simp
   have bm:w.heap.size<=b.heap.size:=r.o.size;have G:Hid (I No w (b.alloc (.cells #[U d,U f] 26))):=D3 r.o (I.alloc No _ _);have V:=O (A4 (A4 OA.o (S0a i) (λ_ _ x=>x)) (I.alloc No b (.cells #[U d,U f] 26)) (λ_ _ x=>x));have X:=O y;clear r m D E y i u OA;by_cases he:d=0
   · subst he;obtain⟨ht,b0⟩:=a9 rfl;have al:=O (λa=>v.o t a ht);have P:=O (b0 R aj.o);clear a9 b0 ht v;go_wp2_with fail
     refine(al.o _).mono ?_;rintro e g ⟨ar,hr⟩;have A:=S0a ar;rcases hr with ⟨k,p,-,b5,rfl⟩|⟨Y,be,bd,a8,rfl,ax⟩
     · exact absurd b5 (HN.o _ _ P.o)
     · obtain rfl:=ai.o _ _ _ P.o a8;have bk:=ah.o _ _ a8;have u0:=A8 A q0;have u1:=A8 A q1;have z:g.heap[b.heap.size]? =some (.cells #[U 0,U f] 26 (0,0)):=by rw[A.block _ l4 (λx=>x)];exact X.o
       have u2:g.cell? (J b.heap.size 1)=some (U f):=cr z rfl;have fz:∀ae,g.frozen? (J b.heap.size ae)=false:=λae=>frozen_of_row g _ ae _ _ z;have l5:b.heap.size<g.heap.size:=(ltG z);have a5:I (λab=>ab=b.heap.size) g ((g.setCell (J b.heap.size 0) (U 0)).setCell (J b.heap.size 1) (U 0)):=I.trans (I.set g (J b.heap.size 0) _) (I.set _ (J b.heap.size 1) _) (λ_ _ x=>x);have B:∀(Z:Nat) (a:Option Addr) (c:Nat),g.ownsRow Z 32 2 (.slice a R.length c) R.length (R.flatMap tcl)->((g.setCell (J b.heap.size 0) (U 0)).setCell (J b.heap.size 1) (U 0)).ownsRow Z 32 2 (.slice a R.length c) R.length (R.flatMap tcl):=λZ a c ao=>A4 ao a5 λa2 hg x=>by
        obtain⟨_,bf,hh⟩:=A9 ao a2 hg;have x':a2=b.heap.size:=x;subst x';rw[z]at hh;simp only[zQ,xW]at hh;exact absurd hh.2.1 (by decide)
       have au:(g.setCell (J b.heap.size 0) (U 0)).heap[b.heap.size]? =some (.cells #[U 0,U f] 26 (0,0)):=by rw[heap_setCell_same g b.heap.size 0 _ _ _ z];rfl
       have a4:((g.setCell (J b.heap.size 0) (U 0)).setCell (J b.heap.size 1) (U 0)).heap[b.heap.size]? =some (.cells #[U 0,U 0] 26 (0,0)):=by rw[heap_setCell_same _ b.heap.size 1 _ _ _ au];rfl
       have v0:((g.setCell (J b.heap.size 0) (U 0)).setCell (J b.heap.size 1) (U 0)).cell? (J b.heap.size 0)=some (U 0):=cr a4 rfl;have lW:b.heap.size<((g.setCell (J b.heap.size 0) (U 0)).setCell (J b.heap.size 1) (U 0)).heap.size:=(ltG a4);have S:=O (B _ _ _ (A4 V.o A (λ_ _ x=>x)));have T:=O (B _ _ _ ax);have n:Hid (Below w.heap.size w ((g.setCell (J b.heap.size 0) (U 0)).setCell (J b.heap.size 1) (U 0))):=I.toBelow (I.trans ((D3 G.o A).mono (λ_ _ x=>x.elim)) a5 (λ_ _ x=>x)) (λab _ x=>by have x':ab=b.heap.size:=x;omega) (vQ _);clear B a5 A ar z au a4 ax a8 al P aj G V X HN ai ah q0 q1 l3 l4;go_wp2_with fail
       generalize (g.setCell (J b.heap.size 0) (U 0)).setCell (J b.heap.size 1) (U 0)=W at *;go_wp2_with fail
       go_loopw [8] (λaf wr=>∃j:Nat,j<=R.length/\af=U (j:Int)/\Hid (I No W wr)) (λaf _=>R.length - (intOf af).toNat)
       case atStart=>exact⟨0,wQ _,rfl,I.refl _ _⟩
       case round=>
        obtain⟨j,hj,rfl,H⟩:=hrel;by_cases M:j<R.length
        · obtain⟨a2,ba,-,hg,bg,b6,a6⟩:=F5 (A4 S.o H.o (λ_ _ x=>x)) (by omega);obtain⟨g2,bb,-,bi,bh,b7,a7⟩:=F5 (A4 T.o H.o (λ_ _ x=>x)) (by omega);subst ba bb;have a0:=a6 (j * 2) _ (Z5 tcl (λ_=>rfl) R j 0 M (by omega));have a1:=a6 (j * 2+1) _ (Z5 tcl (λ_=>rfl) R j 1 M (by omega));have am:=a7 (j * 2) _ (Z5 tcl (λ_=>rfl) R j 0 M (by omega));have an:=a7 (j * 2+1) _ (Z5 tcl (λ_=>rfl) R j 1 M (by omega));obtain⟨⟨x,bp⟩,b1⟩:∃p,R[j]=p:=⟨_,rfl⟩;rw[b1]at a0 a1 am an;simp only at a0 a1 am an;unfold maxLen at b6 b7;have bj:(j:Int)<(R.length:Int):=by omega
          clear a6 a7 b1 S T;go_wp2_with fail
          go_region
          all_goals go_wp2_with fail
          all_goals exact⟨⟨j+1,by omega,by go_num,D3 H.o (I.drewN _ _ _)⟩,by simp[intOf];omega⟩
        · have b9:j=R.length:=by omega
          subst b9;have b2:Hid (Below w.heap.size w wr):=n.o.trans (I.toBelow H.o (λ_ _ x=>x.elim) n.o.size);clear S T n;go_wp2;go_ret;exact⟨rfl,b2.o⟩
   · have b8:(d !=0)=true:=by simp[he]
     have n:Hid (Below w.heap.size w (b.alloc (.cells #[U d,U f] 26))):=I.toBelow G.o (λ_ _ x=>x.elim) (vQ _);clear a9 X V v he G;go_wp2_with fail
     generalize b.alloc (.cells #[U d,U f] 26)=W at *;go_wp2;go_ret;exact⟨rfl,n.o⟩
abbrev sL(a:Option Addr)(n c:Nat):Value:= .slice a n c
abbrev fB:Obj:= .cells #[U 0,U 0] 26
theorem nW(w:lZ)(o:Obj):(w.alloc o).heap[w.heap.size]? =some o:=qY w o
section
variable{b w:lZ}{c:Cx}{a d e g:Nat}{j i f:Value}{h:Int}
theorem CkQ.bad{l:Int}{k:Nat}{m:lZ}(o:KQ w m)(p:I (SW b a d e) b m)(n:Y8 c (k+1)= .inl (l,k))(q:k<c.N.length):CkQ b w c a d e g j i h f (ckP c) (gu l (atI c.N k)) m:=by
 refine⟨o,p, ?_⟩;have:ckP c= .inl (l,k):=W2b c n (by omega);rw[this]
theorem U6d(P:Cbs b c a d e g j f)(aj:Cst b w c a d e g j i h f [] []):
 Calls prog 23 #[pV a] w (CkQ b w c a d e g j i h f (ckP c)):=by
 have bz:=P.ok.lenN;have c3:=P.ok.lenT;have av:=O (U6b P aj);have N:=O P;obtain⟨na,V,aa⟩:∃na V,j=sL na c.N.length V:=by
  obtain⟨nx,hn,_⟩:=P.nrow aj.chg;exact B9 hn
 subst aa;clear aj P;go_enter func23,ntmps23;go_wp2_with fail
 refine av.o.mono ?_;rintro B c9 ⟨rfl,Z1,bs,bi,b7,ak,b6⟩;obtain⟨oa,oc,ac,fz,q0,q1,q2,q3,q4,q5,D,qp,L⟩:=ak.cell;have b0:=O b7;have ar:=O ak;have aw:=O b6;clear b7 ak b6 av fz q1 q2 q3 q4 q5 D qp L;go_wp2_with fail
 go_loopw [12] (λap wr=>∃(k:Nat) (l:Of) (Z:List Ty) (n:uZ),k<=c.N.length/\ap=U (k:Int)/\Z.length<=c.N.length+2 * k/\Hid (Y8 c k= .inr l)/\Hid (OfR (tl c Z) n l)/\Hid (Cst b wr c a d e g (sL na c.N.length V) i h f Z n)/\Hid (KQ w wr)) (λap _=>c.N.length - (intOf ap).toNat)
 case atStart=>exact⟨0,of0 c,Z1,bs,wQ _,rfl,by omega,rfl,b0,ar,aw⟩
 case round=>
  clear b0 ar aw q0 bi ac;obtain⟨k,l,Z,n,hj,rfl,hZ,H,G,v,F⟩:=hrel;by_cases A:k<c.N.length
  · obtain⟨ai,br,la,lc,aa,hg,c4,bm,⟨x0,x1,x2,x3,x4,x5,x6,x7,x8⟩,-,-⟩:=(N.o.nrow v.o.chg).at (Below.refl _ _) k A;have bn:na=some (J ai 0)/\V=br:=by
     injection aa with e1 e2 e3;exact⟨e1,e3⟩
    obtain⟨rfl,rfl⟩:=bn;clear aa;have hI:=N8b c k l hj H.o;have hW:=B3c N.o.ok k l hj H.o;have hN:(tl c Z).length+2<=4000:=by rw[T8];omega
    have E:Hid (Y8 c (k+1)=match ckN c l k with
     | .inl B=> .inl (B,k)
     | .inr none=> .inr l
     | .inr (some t)=> .inr (l.set k (some t))):=by
     show _=_;rw[Y8,H.o];rfl
    have a4:Hid (∀(u:lZ) (ah:Bool),ah=decide (1<=c.N[k].kind/\c.N[k].kind<=14)->_):=λu ah p=>C4c u c.N[k] la lc ah p;have HS:Hid (¬(1<=c.N[k].kind/\c.N[k].kind<=14)->∀u,I No wr u->_):=λo u hu=>H1e N.o (C9d N.o.ok v.o.ts G.o hI (vQ k)) (v.o.still hu) A o;have HX:Hid ((1<=c.N[k].kind/\c.N[k].kind<=14)->∀u,I No wr u->_):=λo u hu=>I2e N.o G.o hI hW (v.o.still hu) A o hN;have af:Hid (∀t,F1 c l k=some t->sz t<=1000000):=λt ht=>I0d N.o.ok hI A ht;have ad:Hid ((1<=c.N[k].kind/\c.N[k].kind<=14)->ckN c l k=match F1 c l k with
     |none=> .inl 9
     |some t=>if 300<sz t then .inl 2 else .inr (some t)):=λo=>by
     unfold ckN;rw[F7 A];exact rY o
    have a8:Hid (c.N[k].at'=atI c.N k):=by
     show _=_;unfold atI;rw[lQ,gQ A];rfl
    unfold nvl at a4;have ao:k<n.length:=by rw[G.o.len,hI.len];exact A
    clear hI hW;generalize bo:c.N[k]=nd at *;obtain⟨kd,va,vb,vc,ls,tx,vn,vt,vp⟩:=nd;simp only at *;clear bo;unfold maxLen at bm;have A1:=O (I.alloc No wr (ndC kd va vb vc (sL la ls.length lc) tx vn vt vp));have r:=nW wr (ndC kd va vb vc (sL la ls.length lc) tx vn vt vp);have NB:=O r;have n0:=cell_of_row _ _ 0 _ _ _ r;have n1:=cell_of_row _ _ 1 _ _ _ r;have n2:=cell_of_row _ _ 2 _ _ _ r;have n3:=cell_of_row _ _ 3 _ _ _ r;have n4:=cell_of_row _ _ 4 _ _ _ r;have n5:=cell_of_row _ _ 5 _ _ _ r;have n6:=cell_of_row _ _ 6 _ _ _ r;have n7:=cell_of_row _ _ 7 _ _ _ r;have n8:=cell_of_row _ _ 8 _ _ _ r;clear r;by_cases o:1<=kd/\kd<=14
    · have b3:=O (HX.o o);have a2:=O (ad.o o);have a5:Hid (∀u,_):=λu=>a4.o u true (by simp[o]);clear HS HX ad a4 o;go_wp2_with fail
      refine(a5.o _).mono ?_;rintro B W ⟨rfl,R⟩;have s:=O (D3 A1.o R);have b5:=O (S9 R NB.o);have a9:=O (v.o.still s.o);clear R A1 NB n0 n1 n2 n3 n4 n5 n6 n7 n8 x0 x1 x2 x3 x4 x5 x6 x7 x8 a5;obtain⟨oa,oc,ac,fz,q0,q1,q2,q3,q4,q5,D,qp,L⟩:=a9.o.cell;obtain⟨q,an,b9,al,am,ab,y0,yf⟩:=L k ao;subst an;have az:=O D;have ay:Hid (∃y,W.heap[a]? =some (.cells y 46 (0,0))):=by
       obtain⟨ov,aq,p,_⟩:=a9.o.st;exact⟨_,p⟩
      have ae:Hid (∃y,W.heap[q]? =some (.cells y 3 (0,0))):=by
       obtain⟨ov,aq,p,hr,_⟩:=a9.o.st;rw[cell_of_row _ a 6 _ _ _ p]at D;have e6:=bY D;have bf:ov= .slice (some (J q 0)) n.length oc:=e6;subst bf;obtain⟨_,bu,hh⟩:=A9 hr q rfl;exact⟨_,hh⟩
      have b4:=O y0;unfold maxLen at ab;clear fz q0 q1 q2 q3 q4 q5 qp L;have bx:(k:Int)<(n.length:Int):=by omega
      go_wp2_with fail
      go_cut [] from 13 to 48 (λwc=>∃(t:Tr) (x:Nat) (X:List Ty),Hid (F1 c l k=some t)/\X.length<=2/\Hid (x<(tl c (Z++X)).length/\tr (tl c (Z++X)) x=t/\Cst b wc c a d e g (.slice (some (J ai 0)) c.N.length V) i h f (Z++X) (n.set k (x:Int))/\KQ W wc))
      case first=>
       go_region_with (go_at_call 45;refine(b3.o _ (D3 s.o (I.drewN _ _ 1))).mono ?_;rintro B M ⟨m,a7,⟨C,rfl⟩|⟨t,x,X,C,rfl,hX,T,K,z⟩⟩;exact⟨rfl,CkQ.bad ((F.o.trans (.still (D3 s.o (I.drewN _ _ 1)))).trans (.kg m)) a7 (by rw[E.o,a2.o,C]) A⟩;have c8:M.cell? (J a 6)=some (.slice (some (J q 0)) n.length oc):=ay.o.elim λy p=>(World.cell?_of_block ((m.2 a y _ _ p (by decide) (by decide)).trans p.symm)).trans az.o;have y5:M.cell? (J q k)=some (U n[k]):=ae.o.elim λy p=>(World.cell?_of_block ((m.2 q y _ _ p (by decide) (by decide)).trans p.symm)).trans b4.o;have cc:M.frozen? (J q k)=false:=ae.o.elim λy p=>frozen_of_row M q k y _ (m.2 q y _ _ p (by decide) (by decide));have bw:q<M.heap.size:=yQ al m.1;have a3:Hid (F1 c l k=some t/\x<(tl c (Z++X)).length/\tr (tl c (Z++X)) x=t/\Cst b M c a d e g (.slice (some (J ai 0)) c.N.length V) i h f (Z++X) n/\KG W M):=⟨C,T,K,z,(KG.still (I.drewN No W 1)).trans m⟩;clear C T K z m a7)
       all_goals
        have b2:=O (a3.o.2.2.2.1.set (g:=q) (oc:=oc) (by assumption) k (x:Int));go_wp2_with fail
        go_meet;exact⟨t,x,X,a3.o.1,hX,a3.o.2.1,a3.o.2.2.1,b2.o.1,(KQ.kg a3.o.2.2.2.2).trans b2.o.2⟩
      case rest=>
       obtain⟨t,x,X,a6,hX,HF⟩:=hcut;obtain⟨T,K,z,m⟩:=HF.o;clear HF D y0 yf az ac b9 al am ab ae b4 ay;obtain⟨c6,c7,ac,fz,q0,q1,q2,q3,q4,q5,D,qp,L⟩:=z.cell;obtain⟨bv,an,b9,al,am,ab,y0,-⟩:=L k (by rw[List.length_set];exact ao);subst an;rw[List.getElem_set_self]at y0;have n8:wc.cell? (J wr.heap.size 8)=some (U vp):=by
        rw[cell_of_row _ _ 8 _ _ _ (m.2 _ _ _ _ b5.o (by decide) (by decide) (by decide) (by decide))];rfl
       have bp:=blt n8;have bq:=blt D;have bj:=blt y0;simp only at bp bq bj;rw[List.length_set]at D am;unfold maxLen at ab;have HZ:Hid (∀u,I No wc u->_):=λu hu=>(z.still hu).sho.elim λaq hs=>W3c x u T hs (by rw[K];exact af.o t a6.o);rw[K]at HZ;have ax:=O ((F.o.trans (.still s.o)).trans m);have au:=O z;have bd:Hid (OfR (tl c (Z++X)) (n.set k (x:Int)) (l.set k (some t))):=by
        have hm:=G.o.more v.o.ts X;rw[D9a]at hm;exact hm.set T K
       have bh:(Z++X).length<=c.N.length+2 * (k+1):=by rw[qQ];omega
       clear z m T K qp L fz q0 q1 q2 q4 q5 b3 F v G s b5 af a9;by_cases h3:300<sz t
       · have ag:Hid (Y8 c (k+1)= .inl (2,k)):=by
          show _=_;rw[E.o,a2.o,a6.o];simp only[rY h3]
         have ba:Hid (vp=atI c.N k):=a8.o;have bg:(300:Int)<(sz t:Int):=by omega
         clear E a2 a6 H a8 h3;go_wp2_with fail
         go_region_with (go_at_call 46;refine(HZ.o _ (I.drewN _ _ 1)).mono ?_;rintro B bt ⟨rfl,S⟩;have c5:=A8 S n8;have Y:=O (D3 (I.drewN No wc 1) S);clear S)
         all_goals
          go_wp2_with fail
          refine(B1a _ 2 vp).mono ?_;rintro B cb ⟨rfl,b8⟩;refine⟨rfl, ?_⟩;rw[ba.o];exact CkQ.bad (ax.o.trans (.still (D3 Y.o b8))) (au.o.still (D3 Y.o b8)).chg ag.o A
       · have ag:Hid (Y8 c (k+1)= .inr (l.set k (some t))):=by
          show _=_;rw[E.o,a2.o,a6.o];simp only[yY h3]
         have bg:¬(300:Int)<(sz t:Int):=by omega
         clear E a2 a6 H a8 h3;go_wp2_with fail
         go_region_with (go_at_call 46;refine(HZ.o _ (I.drewN _ _ 1)).mono ?_;rintro B bt ⟨rfl,S⟩;have Y:=O (D3 (I.drewN No wc 1) S);clear S)
         all_goals
          go_wp2_with fail
          go_roundw
          case rel=>exact⟨k+1,l.set k (some t),Z++X,n.set k (x:Int),by omega,by go_num,bh,ag,bd,au.o.still Y.o,ax.o.trans (.still Y.o)⟩
          case measure=>simp[intOf];omega
    · have b1:=O (HS.o o);have a5:Hid (∀u,_):=λu=>a4.o u false (by simp[o]);clear HS HX ad a4 o af a8 ao;go_wp2_with fail
      refine(a5.o _).mono ?_;rintro B W ⟨rfl,R⟩;have s:=O (D3 A1.o R);clear R A1 NB n0 n1 n2 n3 n4 n5 n6 n7 n8 x0 x1 x2 x3 x4 x5 x6 x7 x8 a5;go_wp2_with fail
      refine(b1.o _ s.o).mono ?_;rintro B ca ⟨m,a7,⟨er,C,rfl⟩|⟨C,rfl,z⟩⟩
      · refine⟨rfl,CkQ.bad ((F.o.trans (.still s.o)).trans m) a7 ?_ A⟩;rw[E.o,C]
      · have be:Hid (Y8 c (k+1)= .inr l):=by
         show _=_;rw[E.o,C]
        have bb:=O z;have bc:=O ((F.o.trans (.still s.o)).trans m);clear z m a7 C E H v F s b1;go_wp2_with fail
        go_roundw
        case rel=>exact⟨k+1,l,Z,n,by omega,by go_num,by omega,be,G,bb,bc⟩
        case measure=>simp[intOf];omega
  · have bk:k=c.N.length:=by omega
    subst bk;go_wp2_with fail
    go_end0;refine⟨F.o,v.o.chg, ?_⟩;have:ckP c= .inr l:=H.o;rw[this];exact⟨rfl,Z,n,by omega,G.o,v.o⟩
end
section
variable{a w:lZ}{c:Cx}{b e d h:Nat}{g j f:Value}{i:Int}{Z:List Ty}{k:uZ}
theorem Cst.oth{C:lZ}(L:Cst a w c b e d h g j i f Z k){q:Nat}{F:Array Value}{m:TypeId}{H:Nat×Nat}(s:I (λl=>l=q) w C)(u:w.heap[q]? =some (.cells F m H))(o:m≠46/\m≠102/\m≠76/\m≠131/\m≠3)(W:a.heap.size<=q):Cst a C c b e d h g j i f Z k:=by
 obtain⟨M,⟨V,D,v,B,y⟩,P⟩:=L;have r:∀{l:Nat} {z:Array Value} {t:TypeId} {A:Nat×Nat},w.heap[l]? =some (.cells z t A)->m≠t->l≠q:=λ{l z t A} n p T=>by
  subst T;rw[n]at u;simp only[zQ,xW]at u;exact p u.2.1.symm
 refine⟨M.trans s (λl n x=>by have E:l=q:=x;omega),⟨V,D, ?_,A4 B s (λK R x=> ?_),y.chg s (y.mst.chg s (λx=> ?_)) ?_ (λ_ x _=>x)⟩,P⟩
 · rw[s.block b (ltG v) (r v o.1)];exact v
 · obtain⟨_,G,S⟩:=A9 B K R;exact r S o.2.2.2.2 x
 · have E:d=q:=x;subst E;exact y.mst.tag _ _ _ u
 · rintro l G t n N p;rcases N with rfl|rfl|⟨rfl|rfl,_⟩
   · exact r n o.2.1 p
   · exact r n o.2.2.1 p
   · exact r n o.2.2.2.1 p
   · exact r n o.2.2.2.2 p
def FcQ(a w:lZ)(c:Cx)(b e d h:Nat)(g j:Value)(i:Int)(f:Value)(r:(Int×Nat) ⊕ Of)(m:Ending)(l:lZ):Prop:=KQ w l/\I (SW a b e d) a l/\match r with
 | .inl (n,o)=>m= .returned (.agg #[U n,U (atI c.N o)])
 | .inr p=>m= .returned (.agg #[U 0,U 0])/\∃Z k,Z.length<=3 * c.N.length/\OfR (tl c Z) k p/\Cst a l c b e d h g j i f Z k
theorem KQ.own{m o p:lZ}{q:Nat}(n:KQ m o)(C:m.heap.size<=q)(r:I (λl=>l=q) o p):KQ m p:=
 ⟨kQ n.1 r.size,λl s t u x v y z A=>by
  have B:=(ltG x);rw[r.block l (yQ B n.1) (by omega)];exact n.2 l s t u x v y z A⟩
theorem V5b(K:Cbs a c b e d h g f)(y:Cst a w c b e d h g j i f [] []):
 Calls prog 22 #[.func (.func 23) #[pV b] #[]] w (FcQ a w c b e d h g j i f (ckP c)):=by
 have a9:=mkf;have z:=I.alloc No w (fB);have H:=U6d K (y.still z);have P:=nW w (fB);have W:a.heap.size<=w.heap.size:=y.chg.size;have F:Hid (∀q,KQ (w.alloc (fB)) q->q.heap[w.heap.size]? =some (fB)/\KQ w q):=λq N=>⟨N.2 _ _ _ _ P (by decide) (by decide) (by decide) (by decide),(KQ.still z).trans N⟩;clear y K P z;generalize ckP c=a3 at *;go_enter_defers func22,ntmps22
 go_wp2_with fail
 refine H.mono ?_;clear H;rintro v l ⟨s,V,T⟩;have a2:=O V;clear V;obtain⟨m,S⟩:=F.o l s;have q0:l.cell? (J w.heap.size 0)=some (U 0):=cr m rfl;have q1:l.cell? (J w.heap.size 1)=some (U 0):=cr m rfl;have hz:=(ltG m);have a6:∀o,l.frozen? (J w.heap.size o)=false:=λo=>frozen_of_row l _ o _ _ m;have t:=O m;have G:=O S;clear s m F S;cases a3 with
 |inl a5=>
  obtain⟨r,p⟩:=a5;obtain rfl:v=gu r (atI c.N p):=T;unfold gu;refine leaves_cons (f:=41) (args:=#[pV w.heap.size]) (by simp) (by simp[go_sem]) ?_;refine(H1a w.heap.size r (atI c.N p) 0 0 [] _ q0 q1 a6).mono ?_;rintro v u' a7 ⟨rfl,rfl,R,C,D⟩;have u:FcQ a w c b e d h g j i f (.inl (r,p)) (.returned (.agg #[U r,U (atI c.N p)])) a7:=⟨G.o.own (vQ _) (R.mono (λB s x=>by omega)),a2.o.trans R (λB s x=>by omega),rfl⟩;generalize atI c.N p=pa at *;simp[Leaves,settle,results,results22,go_sem,C,D];exact u
 |inr a4=>
  obtain⟨rfl,Z,k,hZ,M,L⟩:=T;have Y:=O M;have E:=O L;clear M L;go_wp2_with fail
  refine leaves_cons (f:=41) (args:=#[pV w.heap.size]) (by simp) (by simp[go_sem]) ?_;refine(I6a w.heap.size _).mono ?_;rintro v u' a8 ⟨rfl,rfl,n⟩;have s1:=heap_setCell_same l w.heap.size 0 _ _ (U 0) t.o;have X:=heap_setCell_same _ w.heap.size 1 _ _ (U 0) s1;have C:=A8 n (show World.cell? _ (J w.heap.size 0)=some (U 0) from cr X rfl);have D:=A8 n (show World.cell? _ (J w.heap.size 1)=some (U 0) from cr X rfl);have A:I (λB=>B=w.heap.size) l ((l.setCell (J w.heap.size 0) (U 0)).setCell (J w.heap.size 1) (U 0)):=I.trans (I.set l (J w.heap.size 0) _) (I.set _ (J w.heap.size 1) _) (λ_ _ x=>x);have u:FcQ a w c b e d h g j i f (.inr a4) (.returned (.agg #[U 0,U 0])) a8:=⟨(G.o.own (vQ _) A).trans (.still n),((E.o.oth A t.o (by decide) W).still n).chg,rfl,Z,k,hZ,Y.o,(E.o.oth A t.o (by decide) W).still n⟩;simp[Leaves,settle,results,results22,go_sem,C,D];exact u
end
def RdC(l:bZ)(w:lZ)(e:Ending)(o:lZ):Prop:=Below w.heap.size w o/\
 ((∃g p v,FtO l g p/\e= .returned (.tuple #[v,.agg #[U g,U p]]))\/
  ∃N T a k,Okd l N T a k/\∃f b c d n j q i h Z m,Below w.heap.size w f/\w.heap.size<=b/\w.heap.size<=c/\w.heap.size<=d/\Cbs f (cxP N T a) b c d n j h/\
   e= .returned (.tuple #[pV b,.agg #[U 0,U 0]])/\Z.length<=3 * N.length/\OfR (tl (cxP N T a) Z) m k/\Cst f o (cxP N T a) b c d n j q i h Z m/\i=(N.length:Int) - 1)
theorem O1c(s:ByteArray)(w:lZ)(W:s.size<=maxLen):Calls prog 9 #[.string s] w (RdC s.data.toList w):=by
 have cc:=O (λD=>P3c s D W);have bj:=O (λD=>T9a s D W);have cn:=nW w (fB);clear W;have cm:∀(D:lZ) (h p:Int),h≠0->Below (w.alloc (fB)).heap.size (w.alloc (fB)) D->D.heap[w.heap.size]? =some (fB)/\Below w.heap.size w D:=λD h p _ a5=>
  ⟨by rw[a5.block _ (by simp)];exact cn,(I.toBelow (I.alloc No w _) (λ_ _ x=>x.elim) (vQ _)).trans (a5.mono (by simp))⟩
 have ar:=O cm;clear cn cm;go_enter func9,ntmps9;go_wp2_with fail
 refine(cc.o _).mono ?_;clear cc;rintro e D ⟨a5,hq⟩;have dr:(∃h p,(h≠0/\FtO s.data.toList h p)/\e= .returned (.tuple #[sN,.agg #[U h,U p]]))\/∃N ab ps fs S ad a4,PRes s.data.toList (.inr (N,ab))/\Prgm N ab ps/\bnP ps= .ok fs S/\e= .returned (.tuple #[.slice ad (U3 (upd (List.replicate N.length (-1)) S) N.length).length a4,.agg #[U 0,U 0]])/\D.ownsRow (w.alloc (fB)).heap.size 70 2 (.slice ad (U3 (upd (List.replicate N.length (-1)) S) N.length).length a4) (U3 (upd (List.replicate N.length (-1)) S) N.length).length (H2a (U3 (upd (List.replicate N.length (-1)) S) N.length)):=by
  rcases hq with ⟨h,p,E,h0,P⟩|⟨N,ab,ps,E,P,h3⟩
  · exact .inl ⟨h,p,⟨E,E,.inl h0⟩,P⟩
  · cases hb:bnP ps with
    |bad h i=>rw[hb]at h3;exact .inl ⟨h,_,⟨h3.1,h3.1,.inr ⟨N,ab,ps,E,P,.inl ⟨i,hb,rfl⟩⟩⟩,h3.2⟩
    |ok fs S=>
     rw[hb]at h3;obtain⟨ad,a4,h4,h5⟩:=h3;exact .inr ⟨N,ab,ps,fs,S,ad,a4,E,P,hb,h4,h5⟩
 clear hq;rcases dr with ⟨h,p,⟨T,cq⟩,rfl⟩|⟨N,ab,ps,fs,S,ad,a4,T,hP,co,rfl,cy⟩
 · obtain⟨f0,am⟩:=ar.o D h p T a5;have g0:D.cell? (J w.heap.size 0)=some (U 0):=cr f0 rfl;have g1:D.cell? (J w.heap.size 1)=some (U 0):=cr f0 rfl;have gz:∀o,D.frozen? (J w.heap.size o)=false:=λo=>frozen_of_row D _ o _ _ f0;have gl:=(ltG f0);have dz:(h !=0)=true:=by simp[T]
   have aa:=O am;have d9:=O cq;clear a5 f0 am ar T cq bj;go_wp2_with fail
   go_region
   all_goals go_wp2_with fail
   all_goals
    have a2:I (λk=>k=w.heap.size) D ((D.setCell (J w.heap.size 0) (U h)).setCell (J w.heap.size 1) (U p)):=I.trans (I.set D (J w.heap.size 0) _) (I.set _ (J w.heap.size 1) _) (λ_ _ x=>x);have hR:RdC s.data.toList w (.returned (.tuple #[.pointer none,.agg #[U h,U p]])) _:=⟨aa.o.trans (I.toBelow (I.trans a2 (D3 (I.alloc No _ (.cells #[U h,U p] 26)) (I.drewN No _ 1)) (λ_ _ x=>x.elim)) (λk _ e=>by omega) aa.o.size),.inl ⟨h,p,_,d9.o,rfl⟩⟩;exact bodyPost_ret (v:= .tuple #[.pointer none,.agg #[U h,U p]]) (by simp[results,results9,go_sem,g0,g1,gl]) rfl hR
 · obtain⟨f0,am⟩:=ar.o D 1 0 (by decide) a5;have bz:=O f0;have aa:=O am;have b0:=O T;have L:=O hP;have ai:=O co;have ay:=O cy;have gl:=(ltG f0);clear a5 f0 am ar T hP co cy;obtain⟨z,aj⟩:∃z,U3 (upd (List.replicate N.length (-1)) S) N.length=z:=⟨_,rfl⟩;have cf:Hid (∀p∈z,(0<=p.1/\p.1<=1000000)/\(0<=p.2/\p.2<=1000000)):=by
    rw[<-aj];exact U9d L.o ai.o
   have bf:Hid (z.length<=1200):=by
    have E:=D7b (upd (List.replicate N.length (-1)) S) N.length;have P:=L.o.lenN;show z.length<=1200;rw[<-aj];omega
   rw[aj]at ay⊢;have d7:=O aj;clear aj;obtain⟨bl,bo⟩:∃bl,z.length=bl:=⟨_,rfl⟩;rw[bo]at bf ay⊢;have be:=O bo;clear bo;go_wp2_with fail
   refine(bj.o _).mono ?_;clear bj;rintro e V ⟨al,⟨h,p,E,_⟩|⟨a,b,m,n,q,t,E,rfl,cx,d0⟩⟩
   · exact absurd (E.one b0.o) (by simp)
   · have e1:=E.one b0.o;simp only[Sum.inr.injEq,Prod.mk.injEq]at e1;obtain⟨rfl,rfl⟩:=e1;have bu:=O al;have cd:=O cx;have ci:=O d0;clear E al cx d0;have e8:=@run_makeMap prog;have p3:=nW V (.cells #[sL m a.length n,sL q b.length t,U ((a.length:Int) - 1)] 40);have p4:((V.alloc (.cells #[sL m a.length n,sL q b.length t,U ((a.length:Int) - 1)] 40)).alloc (fB)).heap[V.heap.size]? =some (.cells #[sL m a.length n,sL q b.length t,U ((a.length:Int) - 1)] 40 (0,0)):=by
      rw[Below.heap_alloc _ _ _ (by simp)];exact p3
     have C3:=O (D3 (I.alloc No V (.cells #[sL m a.length n,sL q b.length t,U ((a.length:Int) - 1)] 40)) (I.alloc No _ (fB)));go_wp2_with fail
     generalize (V.alloc (.cells #[sL m a.length n,sL q b.length t,U ((a.length:Int) - 1)] 40)).alloc (fB)=l at *;have r0:l.cell? (J V.heap.size 0)=some (sL m a.length n):=cr p4 rfl;have r1:l.cell? (J V.heap.size 1)=some (sL q b.length t):=cr p4 rfl;have r2:l.cell? (J V.heap.size 2)=some (U ((a.length:Int) - 1)):=cr p4 rfl;have dm:=(ltG p4);have bg:Hid (∀u,I No l u->Calls prog 18 #[] u λe C=>∃d y:Nat,e= .returned (pV d)/\l.heap.size<=y/\l.heap.size<=d/\u.heap.size<=y/\y<C.heap.size/\Hid (I No u C)/\Hid (Shp C d y 4000 [] (.map []))/\C.cell? (J d 0)=some (sN)/\C.cell? (J V.heap.size 0)=some (sL m a.length n)/\C.cell? (J V.heap.size 1)=some (sL q b.length t)/\C.cell? (J V.heap.size 2)=some (U ((a.length:Int) - 1))/\V.heap.size<C.heap.size):=λu G=>by
      refine(R1d u).mono ?_;rintro e C ⟨rfl,hc,W,hl⟩;have E:=G.size;have P:=blt hl;simp only at P;have b8:=D3 G hc;exact⟨_,_,rfl,E,by omega,vQ _,by omega,hc,W,hl,A8 b8 r0,A8 b8 r1,A8 b8 r2,by have:=b8.size;omega⟩
     have N3:Hid (Nrow l (sL m a.length n) a):=cd.o.row.keep C3.o (λ_ _ _ _ _ _ x=>x);have T3:Hid (Tyr l (sL q b.length t) b):=ci.o.row.keep C3.o (λ_ _ _ _ _ _ x=>x);have aq:I No D l:=D3 (D3 (I.alloc No D _) ((I.below bu.o).mono (λ_ hi x=>by omega))) C3.o;have F3:Hid (l.heap[w.heap.size]? =some (fB)):=S9 aq bz.o;have B3:Hid (Below w.heap.size w l):=aa.o.trans (I.toBelow aq (λ_ _ x=>x.elim) aa.o.size);have O3:Hid (l.ownsRow 0 70 2 (sL ad bl a4) bl (H2a z)):=A4 (C9 ay.o (wQ _)) aq (λ_ _ x=>x);clear aq;clear p3 p4;go_cut [8] (λv8 wc=>∃c d y f:Nat,v8=pV c/\Hid (I No l wc/\wc.heap[c]? =some (.cells #[sL m a.length n,sL q b.length t,U ((a.length:Int) - 1),pV d,.map (some f),sN,sN,U 0,U 0,U 0,U 0,U 0,U 0] 46 (0,0))/\Shp wc d y 4000 [] (.map [])/\wc.cell? (J d 0)=some (sN)/\ImM wc f 0 (λ_=>none)/\l.heap.size<=c/\l.heap.size<=d/\l.heap.size<=y/\l.heap.size<=f/\f≠y))
     case first=>
      go_region_with (go_at_call 18;first
       |(refine(bg.o _ (I.drewN _ _ 1)).mono ?_;rintro e X ⟨d,y,rfl,dg,dh,al,di,aw,bm,l4,x0,x1,x2,dp⟩)
       |(refine(bg.o _ (D3 (I.drewN No l 1) (I.alloc No l.drew (.map #[] 0)))).mono ?_;rintro e X ⟨d,y,rfl,dg,dh,al,di,aw,bm,l4,x0,x1,x2,dp⟩))
      all_goals go_wp2_with fail
      all_goals go_meet
      all_goals first
       |exact⟨X.heap.size+1,d,y,X.heap.size,rfl,D3 (D3 (I.drewN No l 1) aw.o) (D3 (I.alloc No X (.map #[] 0)) (I.alloc No _ _)),by have:=nW (X.alloc (.map #[] 0)) (.cells #[sL m a.length n,sL q b.length t,U ((a.length:Int) - 1),pV d,.map (some X.heap.size),sN,sN,U 0,U 0,U 0,U 0,U 0,U 0] 46);simpa using this,bm.o.still (D3 (I.alloc No X (.map #[] 0)) (I.alloc No _ _)),A8 (D3 (I.alloc No X (.map #[] 0)) (I.alloc No _ _)) l4,(ImM.new X).chg (I.alloc No _ _) (λx=>x),by omega,by omega,by omega,by omega,by omega⟩
       |exact⟨X.heap.size,d,y,l.heap.size,rfl,D3 (D3 (D3 (I.drewN No l 1) (I.alloc No l.drew (.map #[] 0))) aw.o) (I.alloc No _ _),nW X _,bm.o.still (I.alloc No _ _),A8 (I.alloc No _ _) l4,((ImM.new l.drew).chg aw.o (λx=>x)).chg (I.alloc No _ _) (λx=>x),by omega,by omega,by omega,vQ _,by have bn:=al;simp only[World.size_alloc]at bn;have P:l.drew.heap.size=l.heap.size:=rfl;omega⟩
     case rest=>
      obtain⟨c,d,y,f,rfl,bx⟩:=hcut;obtain⟨af,bs,d5,k4,k5,k6,k7,k8,k9,d4⟩:=bx.o;have a3:Hid (Rdb wc a c d y f (sL m a.length n) #[sL m a.length n,sL q b.length t,U ((a.length:Int) - 1),pV d,.map (some f),sN,sN,U 0,U 0,U 0,U 0,U 0,U 0] [] 0 (λ_=>none)):=⟨N3.o.keep af (λ_ _ _ _ _ _ x=>x),bs,d5.sho,k5,d4⟩;have ck:Hid (Tyr wc (sL q b.length t) b):=T3.o.keep af (λ_ _ _ _ _ _ x=>x);have HF:Hid (wc.heap[w.heap.size]? =some (fB)):=S9 af F3.o;have bv:Hid (Below w.heap.size w wc/\w.heap.size<=c/\w.heap.size<=d/\w.heap.size<=y/\w.heap.size<=f):=by
       have:=B3.o.size;exact⟨B3.o.trans (I.toBelow af (λ_ _ x=>x.elim) (by omega)),by omega,by omega,by omega,by omega⟩
      have bi:Hid (wc.ownsRow 0 70 2 (sL ad bl a4) bl (H2a z)):=A4 O3.o af (λ_ _ x=>x);have c8:=O k4;have z4:wc.cell? (J c 4)=some (.map (some f)):=cr bs rfl;have dt:=blt z4;simp only at dt;have cl:=O z4;have lw:=(ltG HF.o);clear bx af bs d5 k4 k5 k6 k7 k8 k9 d4 N3 T3 F3 B3 O3 bg C3 bu cd ci r0 r1 r2 dm bz aa ay gl z4;go_wp2_with fail
      go_loopw [33] (λv wr=>∃j:Nat,j<=bl/\v=U (j:Int)/\Hid (I (λk=>k=f) wc wr/\ImM wr f j (asg (z.take j)))) (λv _=>bl - (intOf v).toNat)
      case atStart=>exact⟨0,wQ _,rfl,I.refl _ _,a3.o.names⟩
      case round=>
       obtain⟨j,hj,rfl,HJ⟩:=hrel;have ao:∀{a8:Nat} {cs:Array Value} {e:TypeId} {fz:Nat×Nat},wc.heap[a8]? =some (.cells cs e fz)->wr.heap[a8]? =some (.cells cs e fz):=λ{a8 cs e fz} hq=>by
        rw[HJ.o.1.block a8 (ltG hq) (λx=>by subst x;exact a3.o.names.notcells hq)];exact hq
       have y4:wr.cell? (J c 4)=some (.map (some f)):=by rw[World.cell?_of_block ((ao a3.o.blk).trans a3.o.blk.symm)];exact cl.o
       have du:=blt y4;simp only at du;by_cases e5:j<bl
       · have bb:j<z.length:=by have:=be.o;omega
         obtain⟨g2,dq,-,e4,dy,dj,bq⟩:=F5 (A4 bi.o HJ.o.1 (λg hg x=>by
          obtain⟨_,ac,hh⟩:=A9 bi.o g hg;subst x;exact a3.o.names.notcells hh)) (by omega)
         have v0:=bq (j * 2) _ (D6b z j bb).1;have v1:=bq (j * 2+1) _ (D6b z j bb).2;subst dq;have rg:=cf.o z[j] (mQ bb);have bd:Hid (asg (z.take (j+1))=λx=>if x=z[j].1 then some z[j].2 else asg (z.take j) x):=by
          show _=_;rw[nQ bb,X2b]
         obtain⟨⟨x,ap⟩,d2⟩:∃p,z[j]=p:=⟨_,rfl⟩;rw[d2]at v0 v1 rg bd;simp only at v0 v1 rg bd;unfold maxLen at dj;obtain⟨d6,cz,cu,cp⟩:=((HJ.o.2).chg (D3 (I.alloc No wr (.cells #[U x,U ap] 70)) (I.drewN No _ 1)) (λx=>x)).put x ap rg.1 (by have:=bf.o;omega) rg.2;have e9:(Instr.mapUpdate 42 (.map (some f)) (U x) (U ap)).run prog (wr.alloc (.cells #[U x,U ap] 70)).drew= .ok () d6:=cz;have db:=O cu;have d8:Hid (I (λk=>k=f) wc d6):=HJ.o.1.trans (((D3 (I.alloc No wr (.cells #[U x,U ap] 70)) (I.drewN No _ 1)).mono (S':=λk=>k=f) (λ_ _ x=>x.elim)).trans cp (λ_ _ x=>x)) (λ_ _ x=>x);clear bq d2 cu cp ao cz;go_wp2_with fail
         go_region
         all_goals go_wp2_with fail
         all_goals go_roundw
         all_goals first
          |exact⟨j+1,by omega,by go_num,d8.o,(show ImM _ _ _ _ from by rw[bd.o];exact db.o)⟩
          |(simp[intOf];omega)
       · have dl:j=bl:=by omega
         subst dl;have b6:Hid (Rdb wr a c d y f (sL m a.length n) #[sL m a.length n,sL q b.length t,U ((a.length:Int) - 1),pV d,.map (some f),sN,sN,U 0,U 0,U 0,U 0,U 0,U 0] [] j (asg z)):=a3.o.put HJ.o.1 (by
          have:=HJ.o.2;rw[List.take_of_length_le (by rw[be.o];exact vQ _)]at this;exact this)
         have cj:Hid (Tyr wr (sL q b.length t) b):=ck.o.keep HJ.o.1 (λa8 cs e fz hq _ x=>by subst x;exact a3.o.names.notcells hq);have c7:Hid (wr.heap[w.heap.size]? =some (fB)):=ao HF.o;have av:Hid (Below w.heap.size w wr/\w.heap.size<=c/\w.heap.size<=d/\w.heap.size<=y):=by
          obtain⟨b1,b2,b3,b4,b5⟩:=bv.o;exact⟨b1.trans (I.toBelow HJ.o.1 (λk _ x=>by omega) b1.size),b2,b3,b4⟩
         have cb:Hid (wr.cell? (J d 0)=some (sN)):=by
          obtain⟨y0,yx,an,_⟩:=a3.o.sho.blk;exact(World.cell?_of_block ((ao an).trans an.symm)).trans c8.o
         have c6:=O (U5b (T:=b) L.o.flat (J5d L.o ai.o L.o.tx).ls (by have:=L.o.n;omega) L.o.lenN wr _ b6.o.nodes);have df:wr.cell? (J c 0)=some (sL m a.length n):=cr b6.o.blk rfl;clear a3 ck HF bv c8 cl bi HJ ao y4 cf be;go_wp2_with fail
         refine c6.o.mono ?_;clear c6;rintro e H ⟨fv,rfl,ae,br⟩;obtain⟨A,B,rfl⟩:=B9 br;have Z:=O (b6.o.still ae);have cg:Hid (Tyr H (sL q b.length t) b):=cj.o.keep ae (λ_ _ _ _ _ _ x=>x);have ax:=O (S9 ae c7.o);have ah:Hid (Below w.heap.size w H/\w.heap.size<=c/\w.heap.size<=d/\w.heap.size<=y):=⟨av.o.1.trans (I.toBelow ae (λ_ _ x=>x.elim) av.o.1.size),av.o.2⟩;have c9:=O (A8 ae cb.o);have bh:=O (C9 br (wQ _));have c5:H.cell? (J c 5)=some (sN):=cr Z.o.blk rfl;have z5:H.frozen? (J c 5)=false:=frozen_of_row H _ 5 _ _ Z.o.blk;have l5:=blt c5;simp only at l5;clear ae br b6 cj c7 av cb df;go_wp2_with fail
         have b7:(H.setCell (J c 5) (sL A a.length B)).heap[c]? =some (.cells (E9b b.length (sL m a.length n) (sL q b.length t) ((a.length:Int) - 1) d f (sL A a.length B) 0) 46 (0,0)):=heap_setCell_same H c 5 _ _ (sL A a.length B) Z.o.blk;have a6:I (λx=>x=c) H (H.setCell (J c 5) (sL A a.length B)):=I.set H (J c 5) _;have az:=O (Z.o.store a6 b7);have ch:Hid (Tyr (H.setCell (J c 5) (sL A a.length B)) (sL q b.length t) b):=cg.o.keep a6 (λa8 cs e fz hq he=>Z.o.not a8 cs e fz hq (by rcases he with rfl|rfl|rfl<;>decide));have c3:Hid ((H.setCell (J c 5) (sL A a.length B)).heap[w.heap.size]? =some (fB)):=by
          show _=_;rw[a6.block _ (ltG ax.o) (Z.o.not _ _ _ _ ax.o (by decide))];exact ax.o
         have a9:Hid (Below w.heap.size w (H.setCell (J c 5) (sL A a.length B))/\w.heap.size<=c/\w.heap.size<=d/\w.heap.size<=y):=⟨ah.o.1.trans (I.toBelow a6 (λk _ x=>by have:=ah.o.2.1;omega) ah.o.1.size),ah.o.2⟩;have ce:Hid ((H.setCell (J c 5) (sL A a.length B)).ownsRow 0 3 1 (sL A a.length B) a.length (C8 (fnP a))):=A4 bh.o a6 (λg hg x=>by
          obtain⟨_,ac,hh⟩:=A9 bh.o g hg;exact Z.o.not _ _ _ _ hh (by decide) x)
         have ca:Hid ((H.setCell (J c 5) (sL A a.length B)).cell? (J d 0)=some (sN)):=by
          obtain⟨y0,yx,an,_⟩:=Z.o.sho.blk;exact(World.cell?_of_block (a6.block d (ltG an) (Z.o.not _ _ _ _ an (by decide)))).trans c9.o
         clear a6 b7 Z cg ax ah bh c9 c5 z5 l5;generalize H.setCell (J c 5) (sL A a.length B)=W7 at *;have d1:W7.cell? (J c 1)=some (sL q b.length t):=cr az.o.blk rfl;have d3:W7.cell? (J c 3)=some (pV d):=cr az.o.blk rfl;have l7:=blt d1;simp only at l7;have bt:Hid (∀u,I No W7 u->Calls prog 20 #[pV d,sL q b.length t] u λe C=>∃v,e= .returned (U v)/\Hid (Rdb C a c d y f (sL m a.length n) (E9b b.length (sL m a.length n) (sL q b.length t) ((a.length:Int) - 1) d f (sL A a.length B) 0) (b++I9.take 0) j (asg z)/\C.heap[w.heap.size]? =some (fB)/\Below w.heap.size w C/\C.ownsRow 0 3 1 (sL A a.length B) a.length (C8 (fnP a)))):=λu G=>by
          obtain⟨yx,hy,ds⟩:=ch.o.keep G (λ_ _ _ _ _ _ x=>x);have ak:=az.o.still G;have cw:=A8 G ca.o;refine(E8d u ak.sho (λ_ _=>trivial) b q t yx hy ds L.o.ok (λea ht=> ?_) (by have:=L.o.lenT;simp;omega) _ cw (λg hg=>by simp[Value.ownBlock]at hg)).mono ?_
          · obtain⟨ag,hn,rfl⟩:=List.mem_iff_getElem.1 ht;have E:=L.o.ls ag hn;refine⟨by omega,by omega, ?_⟩;exact L.o.of _ (mQ hn)
          · rintro e C ⟨rfl,hc,W,_⟩;rw[X0b]at W;obtain⟨E,P,h3⟩:=ak.grow (S':=b++I9.take 0) cw hc (by simpa using W);refine⟨_,rfl,E,P _ _ _ _ (S9 G c3.o) (by decide) (by decide), ?_, ?_⟩
            · have h4:=a9.o;exact(h4.1.trans (I.toBelow G (λ_ _ x=>x.elim) h4.1.size)).trans (I.toBelow h3 (λk _ x=>by omega) (kQ h4.1.size G.size))
            · have h5:=A4 ce.o G (λ_ _ x=>x);refine⟨h5.1, ?_⟩;rcases h5.2 with g2|⟨g,cap,ac,e1,e2,e3,r⟩
              · exact .inl g2
              · exact .inr ⟨g,cap,ac,e1,e2,P _ _ _ _ e3 (by decide) (by decide),r⟩
         go_cut [] (λM=>Hid (Rdb M a c d y f (sL m a.length n) (E9b b.length (sL m a.length n) (sL q b.length t) ((a.length:Int) - 1) d f (sL A a.length B) 0) (b++I9.take 0) j (asg z)/\M.heap[w.heap.size]? =some (fB)/\Below w.heap.size w M/\M.ownsRow 0 3 1 (sL A a.length B) a.length (C8 (fnP a))))
         case first=>
          go_region_with (go_at_call 20;refine(bt.o _ (I.drewN _ _ 1)).mono ?_;rintro e M ⟨v,rfl,K⟩)
          all_goals go_wp2_with fail
          all_goals go_meet
          all_goals exact K
         case rest=>
          clear bt az ch c3 ce ca d1 d3 l7;go_wp2_with fail
          go_loopw [11] (λv wr=>∃i:Nat,i<=5/\v=U ((i:Int)+1)/\Hid (Rdb wr a c d y f (sL m a.length n) (E9b b.length (sL m a.length n) (sL q b.length t) ((a.length:Int) - 1) d f (sL A a.length B) i) (b++I9.take i) j (asg z)/\wr.heap[w.heap.size]? =some (fB)/\Below w.heap.size w wr/\wr.ownsRow 0 3 1 (sL A a.length B) a.length (C8 (fnP a)))) (λv _=>6 - (intOf v).toNat)
          case atStart=>exact⟨0,by omega,rfl,hcut⟩
          case round=>
           clear hcut;obtain⟨i,hi,rfl,F⟩:=hrel;by_cases ct:i<5
           · have d3:wr.cell? (J c 3)=some (pV d):=cr F.o.1.blk rfl;have l7:=blt d3;simp only at l7;have dc:Hid (∀u,I No wr u->Calls prog 21 #[pV d,.agg #[U ((i:Int)+1),sN,sN,U 0]] u λe C=>e= .returned (U ((b.length+i:Nat):Int))/\Hid (Rdb C a c d y f (sL m a.length n) (E9b b.length (sL m a.length n) (sL q b.length t) ((a.length:Int) - 1) d f (sL A a.length B) i) (b++I9.take (i+1)) j (asg z)/\C.heap[w.heap.size]? =some (fB)/\Below w.heap.size w C/\C.ownsRow 0 3 1 (sL A a.length B) a.length (C8 (fnP a)))):=λu G=>by
              have ak:=F.o.1.still G;have e6:=L.o.lenT;have cv:(b++I9.take i).length=b.length+i:=by rw[qQ,List.length_take];simp[I9];omega
              refine(X8a (t:=⟨(i:Int)+1,[],[],0⟩) u ak.sho none none 0 0 0 0 ⟨_,_,rfl,kW _ _ _ _,kW _ _ _ _,λg hg=>trivial,λg hg=>trivial⟩ (.inl ⟨by simp;omega,by simp;omega,rfl,rfl⟩) (by rw[cv];omega)).mono ?_;rintro e C ⟨rfl,⟨v,hv,hc⟩,W⟩;have e2:b++I9.take i++[⟨(i:Int)+1,[],[],0⟩]=b++I9.take (i+1):=by
               rw[O6c ct,<-List.append_assoc];rfl
              rw[e2]at W;obtain⟨E,P,h3⟩:=ak.grow hv hc W;refine⟨by rw[cv],E,P _ _ _ _ (S9 G F.o.2.1) (by decide) (by decide), ?_, ?_⟩
              · have h4:=F.o.2.2.1;have h5:=a9.o.2;exact(h4.trans (I.toBelow G (λ_ _ x=>x.elim) h4.size)).trans (I.toBelow h3 (λk _ x=>by omega) (kQ h4.size G.size))
              · have h5:=A4 F.o.2.2.2 G (λ_ _ x=>x);refine⟨h5.1, ?_⟩;rcases h5.2 with g2|⟨g,cap,ac,e1,e2,e3,r⟩
                · exact .inl g2
                · exact .inr ⟨g,cap,ac,e1,e2,P _ _ _ _ e3 (by decide) (by decide),r⟩
             go_wp2_with fail
             go_region_with (go_at_call 21;refine(dc.o _ (I.drewN _ _ 1)).mono ?_;rintro e M ⟨rfl,K⟩;have y8:M.cell? (J c (7+(i+1)))=some (U 0):=(by rw[cell_of_row _ _ (7+(i+1)) _ _ _ K.o.1.blk];have:i=0\/i=1\/i=2\/i=3\/i=4:=(by omega);rcases this with rfl|rfl|rfl|rfl|rfl<;>rfl);have z8:∀o,M.frozen? (J c o)=false:=(λo=>frozen_of_row M c o _ _ K.o.1.blk);have l8:=blt y8;simp only at l8)
             all_goals go_wp2_with fail
             all_goals
              have a2:I (λx=>x=c) M (M.setCell (J c (7+(i+1))) (U ((b.length:Int)+(i:Int)))):=I.set M (J c (7+(i+1))) _;have b9:(M.setCell (J c (7+(i+1))) (U ((b.length:Int)+(i:Int)))).heap[c]? =some (.cells (E9b b.length (sL m a.length n) (sL q b.length t) ((a.length:Int) - 1) d f (sL A a.length B) (i+1)) 46 (0,0)):=by
               have bn:=heap_setCell_same M c (7+(i+1)) _ _ (U ((b.length:Int)+(i:Int))) K.o.1.blk;have e:=X7c b.length (sL m a.length n) (sL q b.length t) ((a.length:Int) - 1) d f (sL A a.length B) ct;rw[Int.natCast_add]at e;rw[bn,e]
              have R:=a9.o.2;have H9:=O (And.intro (K.o.1.store a2 b9) (And.intro (show (M.setCell (J c (7+(i+1))) (U ((b.length:Int)+(i:Int)))).heap[w.heap.size]? =some (fB) by rw[a2.block _ (ltG K.o.2.1) (K.o.1.not _ _ _ _ K.o.2.1 (by decide))];exact K.o.2.1) (And.intro (K.o.2.2.1.trans (I.toBelow a2 (λk _ x=>by omega) K.o.2.2.1.size)) (A4 K.o.2.2.2 a2 (λg hg x=>by obtain⟨_,ac,hh⟩:=A9 K.o.2.2.2 g hg;exact K.o.1.not _ _ _ _ hh (by decide) x)))));clear a2 b9 R;go_roundw
              case rel=>exact⟨i+1,by omega,by go_num,H9⟩
              case measure=>simp[intOf];omega
           · have dk:i=5:=by omega
             subst dk;have ba:=A0e L.o ai.o (by rw[d7.o];exact F.o.1) (by have:=bf.o;omega) F.o.2.2.2;have c4:=O (V5b ba.1 ba.2);have bw:=O ba.1;have e7:=mkf;have l7:=(ltG F.o.1.blk);clear ba;go_wp2_with fail
             refine c4.o.mono ?_;clear c4;rintro e Y ⟨hk,bc,T⟩;have f9:=hk.2 _ _ _ _ F.o.2.1 (by decide) (by decide) (by decide) (by decide);have g0:Y.cell? (J w.heap.size 0)=some (U 0):=cr f9 rfl;have g1:Y.cell? (J w.heap.size 1)=some (U 0):=cr f9 rfl;have gz:∀o,Y.frozen? (J w.heap.size o)=false:=λo=>frozen_of_row Y _ o _ _ f9;have dx:=(ltG f9);have R:=a9.o.2;have au:Hid (Below w.heap.size w Y/\w.heap.size<=Y.heap.size):=⟨P6b bc F.o.2.2.1 F.o.2.2.1.size R.1 R.2.1 R.2.2,(P6b bc F.o.2.2.1 F.o.2.2.1.size R.1 R.2.1 R.2.2).size⟩;cases a7:ckP (cxP a b S) with
             |inl p=>
              obtain⟨h,ag⟩:=p;rw[a7]at T;have e0:e= .returned (.agg #[U h,U (atI a ag)]):=T;subst e0;have da:Hid (FtO s.data.toList h (atI a ag)):=⟨E1e a7,.inr ⟨a,b,ps,b0.o,L.o,.inr ⟨fs,S,ag,ai.o,a7,rfl⟩⟩⟩;clear hk bc T a7 f9 R F a9;generalize atI a ag=pa at *;have a2:I (λk=>k=w.heap.size) Y ((Y.setCell (J w.heap.size 0) (U h)).setCell (J w.heap.size 1) (U pa)):=I.trans (I.set Y (J w.heap.size 0) _) (I.set _ (J w.heap.size 1) _) (λ_ _ x=>x);have bk:Hid (RdC s.data.toList w (.returned (.tuple #[pV c,.agg #[U h,U pa]])) ((Y.setCell (J w.heap.size 0) (U h)).setCell (J w.heap.size 1) (U pa))):=⟨au.o.1.trans (I.toBelow a2 (λk _ x=>by omega) au.o.2),.inl ⟨h,pa,_,da.o,rfl⟩⟩;clear a2;go_wp2_with fail
              exact bodyPost_ret (v:= .tuple #[pV c,.agg #[U h,U pa]]) (by simp[results,results9,go_sem,g0,g1]) rfl bk.o
             |inr dv=>
              rw[a7]at T;obtain⟨e0,de,dw,hZ,hR,hC⟩:=T;subst e0;have bp:=J9d f9;have bk:Hid (RdC s.data.toList w (.returned (.tuple #[pV c,.agg #[U 0,U 0]])) ((Y.setCell (J w.heap.size 0) (U 0)).setCell (J w.heap.size 1) (U 0))):=⟨au.o.1.trans (I.toBelow bp (λ_ _ x=>x.elim) au.o.2),.inr ⟨a,b,S,dv,⟨ps,fs,b0.o,L.o,ai.o,a7⟩,wr,c,d,y,f,_,_,_,_,de,dw,F.o.2.2.1,R.1,R.2.1,R.2.2,bw.o,rfl,hZ,hR,hC.still bp,rfl⟩⟩;clear hk bc hZ hR hC a7 f9 R F a9 bp bw;go_wp2_with fail
              exact bodyPost_ret (v:= .tuple #[pV c,.agg #[U 0,U 0]]) (by simp[results,results9,go_sem,g0,g1]) rfl bk.o
def B5a(a:Of):Nat->List (Int×bZ)
 |0=>[]
 |j+1=>B5a a j++(match a[j]? with
  |some (some t)=>[((j:Int),txt' (wtr false t))]
  |_=>[])
theorem Z4a(a:Of):∀j,(B5a a j).length<=j
 |0=>vQ _
 |j+1=>by
  have:=Z4a a j;rw[B5a,qQ];split<;>simp<;>omega
def G8b(l:List (Int×bZ)):List Value:=l.flatMap λp=>[U p.1,.string ⟨p.2.toArray⟩]
theorem Y2b(l:List (Int×bZ))(p:Int×bZ):G8b (l++[p])=G8b l++[U p.1,.string ⟨p.2.toArray⟩]:=by simp[G8b]
theorem Tryz.infoTd:(prog.info? 32).map (λi=>(i.zero,i.size,i.bytes))=some (some (.agg #[U 0,.string ByteArray.empty]),2,24):=by kernel_rfl
def TdA(l:bZ)(w:lZ)(e:Ending)(f:lZ):Prop:=Below w.heap.size w f/\
 ((∃d p,FtO l d p/\e= .returned (.tuple #[sN,.agg #[U d,U p]]))\/
  ∃N T g a c b,Okd l N T g a/\e= .returned (.tuple #[.slice c (B5a a a.length).length b,.agg #[U 0,U 0]])/\f.ownsRow w.heap.size 32 2 (.slice c (B5a a a.length).length b) (B5a a a.length).length (G8b (B5a a a.length)))
theorem S6a(s:ByteArray)(w:lZ)(hs:s.size<=maxLen):Calls prog 6 #[.string s] w (TdA s.data.toList w):=by
 have P:=O (λb=>O1c s b hs);have W:=nW w (fB);obtain⟨i0,hi,b6,b7,b8⟩:=info_parts Tryz.infoTd;clear hs;go_enter func6,ntmps6;go_wp2_with fail
 refine(P.o _).mono ?_;clear P;rintro e b ⟨C,⟨B,p,a2,a5,rfl⟩|⟨N,a3,l2,a,am,w0,pb,lb,mb,qb,nv,yv,mn,fv,bb,c,ax,b4,b2,b3,hB,rfl,hZ,v,S,-⟩⟩
 · have i:b.heap[w.heap.size]? =some (fB):=by
    rw[C.block _ (by simp)];exact W
   have g0:b.cell? (J w.heap.size 0)=some (U 0):=cr i rfl;have g1:b.cell? (J w.heap.size 1)=some (U 0):=cr i rfl;have gz:∀o,b.frozen? (J w.heap.size o)=false:=λo=>frozen_of_row b _ o _ _ i;have gl:=(ltG i);have bd:(B !=0)=true:=by simp[a5.1]
   have D:Hid (Below w.heap.size w b):=(I.toBelow (I.alloc No w _) (λ_ _ x=>x.elim) (vQ _)).trans (C.mono (by simp));have ar:=O a5;clear a5 C W i;go_wp2_with fail
   go_region
   all_goals go_wp2_with fail
   all_goals
    have H:I (λk=>k=w.heap.size) b ((b.setCell (J w.heap.size 0) (U B)).setCell (J w.heap.size 1) (U p)):=I.trans (I.set b (J w.heap.size 0) _) (I.set _ (J w.heap.size 1) _) (λ_ _ x=>x);have v:TdA s.data.toList w (.returned (.tuple #[sN,.agg #[U B,U p]])) _:=⟨D.o.trans (I.toBelow (I.trans H (D3 (I.alloc No _ (.cells #[U B,U p] 26)) (I.drewN No _ 1)) (λ_ _ x=>x.elim)) (λk _ e=>by omega) D.o.size),.inl ⟨B,p,ar.o,rfl⟩⟩;exact bodyPost_ret (v:= .tuple #[sN,.agg #[U B,U p]]) (by simp[results,results6,go_sem,g0,g1,gl]) rfl v
 · have i:b.heap[w.heap.size]? =some (fB):=by
    rw[C.block _ (by simp)];exact W
   have gl:=(ltG i);have D:Hid (Below w.heap.size w b):=(I.toBelow (I.alloc No w _) (λ_ _ x=>x.elim) (vQ _)).trans (C.mono (by simp));have ab:Hid (∀z h f,Below w.heap.size w z->z.ownsRow w.heap.size 32 2 (.slice h (B5a a c.length).length f) (B5a a c.length).length (G8b (B5a a c.length))->TdA s.data.toList w (.returned (.tuple #[.slice h (B5a a c.length).length f,.agg #[U 0,U 0]])) z):=by
    have au:=O am;have e:c.length=a.length:=v.len;rw[e];exact λz h f hb Y=>⟨hb,.inr ⟨N,a3,l2,a,h,f,au.o,rfl,Y⟩⟩
   obtain⟨ps,fs,a7,V,ag,K⟩:=am;have aj:=J5d V ag V.tx;have T:CkI (cxP N a3 l2) a (cxP N a3 l2).N.length:=N8b _ _ a (vQ _) K;have hW:OfW a:=B3c aj _ a (vQ _) K;have hN:N.length<=1200:=V.lenN;have bg:c.length<=1200:=by rw[v.len,T.len];exact hN
   have af:Hid (∀(j:Nat) (y:j<c.length) (u:lZ),I No b u->(c[j]= -1/\B5a a (j+1)=B5a a j)\/∃(r:Nat) (x:bZ),c[j]=(r:Int)/\B5a a (j+1)=B5a a j++[((j:Int),x)]/\
    Calls prog 10 #[pV lb,U (r:Int)] u λe z=>e= .returned (.string ⟨x.toArray⟩)/\I No u z):=λj y u Z=>by
    have X:j<a.length:=by rw[<-v.len];exact y
    have l:=v.at' j a[j] (gQ X);have d:a[j]? =some a[j]:=gQ X;have n:c[j]? =some c[j]:=gQ y;cases Y:a[j] with
    |none=>
     rw[Y]at l d;simp only at l;rw[n]at l;refine .inl ⟨bY l, ?_⟩;rw[B5a,d];simp
    |some t=>
     rw[Y]at l d;simp only at l;obtain⟨r,h2,h3,R⟩:=l;rw[n]at h2;refine .inr ⟨r,txt' (wtr false t),bY h2,by rw[B5a,d], ?_⟩;obtain⟨ba,b5⟩:=(S.still Z).sho;have bi:sz t<=300:=T.sm j t (by rw[T.len]at X;exact X) d;have bm:=W1d (hW j t d);refine(P6c u b5 S.few r h3 (by rw[R];omega)).mono ?_;rintro e z ⟨rfl,hc⟩;refine⟨?_,hc⟩;unfold wtx;rw[R]
   obtain⟨oa,oc,bh,-,q0,q1,q2,q3,q4,q5,q6,qp,qo⟩:=S.cell;have ae:Hid (∀j (y:j<c.length),∃g,oa=some (J g 0)/\g<b.heap.size/\c.length<=oc/\oc<=maxLen/\b.cell? (J g j)=some (U c[j])):=λj y=>by
    obtain⟨g,l,h2,h3,R,h5,h6,_⟩:=qo j y;exact⟨g,l,h3,R,h5,h6⟩
   have aq:=O i;have C1:=O (I.alloc No b (fB));clear W C i aj T hW hB v S hZ V ag K a7 ax b4 b2 b3 hN q0 q1 q2 q4 q5 qp qo;go_wp2_with fail
   go_loopw [23,6] (λa2 u wr=>∃(j:Nat) (h:Option Addr) (f:Nat),j<=c.length/\a2=U (j:Int)/\u= .slice h (B5a a j).length f/\Hid (I No b wr)/\Hid (wr.ownsRow b.heap.size 32 2 (.slice h (B5a a j).length f) (B5a a j).length (G8b (B5a a j)))) (λa2 _ _=>c.length - (intOf a2).toNat)
   case atStart=>exact⟨0,none,0,wQ _,rfl,rfl,C1.o,kW _ _ _ _⟩
   case round=>
    obtain⟨j,h,f,y,rfl,rfl,m,A⟩:=hrel;have bn:b.heap.size<=wr.heap.size:=m.o.size;by_cases al:j<c.length
    · obtain⟨g2,b1,be,bf,b0,L⟩:=ae.o j al;subst b1;have an:=Z4a a j;unfold maxLen at b0;replace L:=A8 m.o L;have ay:=blt L;simp only at ay;rcases af.o j al wr m.o with ⟨d,n⟩|⟨r,x,d,n,ah⟩
      · rw[d]at L;have q:=O n;clear d n;obtain⟨E,G⟩:∃E,B5a a j=E:=⟨_,rfl⟩;rw[G]at A q an⊢;clear G;go_wp2_with fail
        go_roundw
        case rel=>exact⟨j+1,h,f,by omega,by go_num,by rw[q.o],m,by rw[q.o];exact A⟩
        case measure=>simp[intOf];omega
      · rw[d]at L;have q:=O n;have a9:=O ah;have b9:=A8 m.o q3;have a7:=blt b9;simp only at a7;clear d n ah;obtain⟨E,G⟩:∃E,B5a a j=E:=⟨_,rfl⟩;rw[G]at A q an⊢;clear G;have gr:((r:Int) != -1)=true:=by first|(simp;done)|(simp;omega)
        go_wp2_with fail
        refine a9.o.mono ?_;rintro e M ⟨rfl,a4⟩;have aa:=O ((A4 A.o a4 (λ_ _ x=>x)).alloc (.cells #[U (j:Int),.string ⟨x.toArray⟩] 32));have a8:=O (D3 m.o a4);have bk:b.heap.size<=M.heap.size:=a8.o.size;clear a4 a9;go_wp2_with (at_builtin;refine wpList_append_own _ rfl _ _ 23 rfl b.heap.size 32 i0 (.agg #[U 0,.string ByteArray.empty]) 2 24 underlying23 hi b6 b7 b8 rfl (by decide) _ _ _ rfl aa.o (J M.heap.size 0) 1 1 [U (j:Int),.string ⟨x.toArray⟩] rfl rfl ?c1 ?c2 ?c3 ?c4 ?c5 ?_)
        case c1=>exact World.news_of_block (cs:=#[U (j:Int),.string ⟨x.toArray⟩]) (t:=32) (fr:=(0,0)) (nW M _)
        case c2=>intro u Z;simp at Z;rcases Z with rfl|rfl<;>rfl
        case c3=>simp only[maxLen];omega
        case c4=>omega
        case c5=>simp;omega
        intro v' ao a6 ak _;obtain⟨aw,c4,rfl⟩:=B9 a6;have av:=O a6;have ai:I (λk=>b.heap.size<=k) M ao:=(I.alloc (λk=>b.heap.size<=k) M (.cells #[U (j:Int),.string ⟨x.toArray⟩] 32)).trans (I.grown ak) (λk K x=>(A9 aa.o k x.symm).1);have ap:Hid (I No b ao):=((a8.o.mono (S':=λk=>b.heap.size<=k) (λ_ _ x=>x.elim)).trans ai (λ_ _ x=>x)).mono (λk K x=>by omega);clear a6 ak ai;go_wp2_with fail
        go_roundw
        case rel=>exact⟨j+1,aw,c4,by omega,by go_num,by rw[q.o,qQ,List.length_singleton],ap,(show World.ownsRow _ _ _ _ _ _ _ from by rw[q.o,Y2b,qQ,List.length_singleton];exact av.o)⟩
        case measure=>simp[intOf];omega
    · have az:j=c.length:=by omega
      subst az;have F:wr.heap[w.heap.size]? =some (fB):=by
       rw[m.o.block _ gl (λx=>x)];exact aq.o
      have g0:wr.cell? (J w.heap.size 0)=some (U 0):=cr F rfl;have g1:wr.cell? (J w.heap.size 1)=some (U 0):=cr F rfl;have gz:∀o,wr.frozen? (J w.heap.size o)=false:=λo=>frozen_of_row wr _ o _ _ F;have bc:=(ltG F);have H:I (λk=>k=w.heap.size) wr ((wr.setCell (J w.heap.size 0) (U 0)).setCell (J w.heap.size 1) (U 0)):=I.trans (I.set wr (J w.heap.size 0) _) (I.set _ (J w.heap.size 1) _) (λ_ _ x=>x);have P:=O (ab.o _ h f ((D.o.trans (I.toBelow m.o (λ_ _ x=>x.elim) D.o.size)).trans (I.toBelow H (λk _ x=>by omega) (by omega))) (A4 (C9 A.o (by omega)) H (λg hg x=>by have:=(A.o.lt g hg).1;omega)));clear H F ab af ae;generalize (B5a a c.length).length=bl at *;go_wp2_with fail
      exact bodyPost_ret (v:= .tuple #[sL h bl f,.agg #[U 0,U 0]]) (by simp[results,results6,go_sem,g0,g1]) rfl P.o
def sC1:ByteArray:=⟨([112,114,105,110,116,32,49,32,43,32,116,114,117,101,59]).toArray⟩
def sC2:ByteArray:=⟨([112,114,105,110,116,32,91,49,44,32,116,114,117,101,93,59]).toArray⟩
theorem H5e:Okd sC2.data.toList nB2 [] [] oB2:=⟨pB2,[],R2d,P9d,B0e,B8e⟩
theorem I0e:FtO sC1.data.toList 9 6:=⟨by decide,.inr ⟨nB1,[],pB1,R3d,Q0d,.inr ⟨[],[],2,B2e,B9e,rfl⟩⟩⟩
theorem U1c(w:lZ):Calls prog 6 #[.string sC2] w λe b=>Below w.heap.size w b/\∃g a,e= .returned (.tuple #[.slice (some (J g 0)) 3 a,.agg #[U 0,U 0]])/\g<b.heap.size/\3<=a/\a<=maxLen/\b.cell? (J g 4)=some (U 2)/\b.cell? (J g 5)=some (.string ⟨([91,110,117,109,32,124,32,98,111,111,108,93]).toArray⟩):=by
 refine(S6a sC2 w (by decide)).mono ?_;rintro e b ⟨h,⟨o,p,k,rfl⟩|⟨N,T,q,r,n,a,m,rfl,d⟩⟩
 · exact absurd k H5e.not
 · obtain⟨rfl,rfl,rfl,rfl⟩:=m.one H5e;have f:B5a oB2 oB2.length=[(0,[110,117,109]),(1,[98,111,111,108]),(2,[91,110,117,109,32,124,32,98,111,111,108,93])]:=by kernel_rfl
   rw[f]at d⊢;obtain⟨g,rfl,_,l,i,j,c⟩:=F5 d (by decide);exact⟨h,g,a,rfl,l,i,j,c 4 _ rfl,c 5 _ rfl⟩
theorem U2c(w:lZ):Calls prog 6 #[.string sC1] w λe a=>Below w.heap.size w a/\∃v,e= .returned (.tuple #[v,.agg #[U 9,U 6]]):=by
 refine(S6a sC1 w (by decide)).mono ?_;rintro e a ⟨b,⟨h,p,c,rfl⟩|⟨N,T,j,k,g,f,d,rfl,i⟩⟩
 · obtain⟨rfl,rfl⟩:=c.one I0e;exact⟨b,_,rfl⟩
 · exact absurd I0e d.not
theorem X7d{w a:lZ}(h:Below w.heap.size w a):I No w a:=(I.below h).mono λ_ b x=>by omega
theorem D2b(w:lZ):Calls prog 4 #[] w λe u=>e= .returned (.bool true)/\Below w.heap.size w u:=by
 have i:=O U1c;have h:=O U2c;go_enter func4,ntmps4;go_wp2_with fail
 refine(i.o _).mono ?_;rintro e b ⟨d,g,y,rfl,A,z,r,o,p⟩;unfold maxLen at r;have s:=d.size;have j:=O d;have l:=nW b (fB);have k:Hid (∀a,I No (b.alloc (fB)) a->a.cell? (J b.heap.size 0)=some (U 0)/\a.cell? (J g 4)=some (U 2)/\a.cell? (J g 5)=some (.string ⟨([91,110,117,109,32,124,32,98,111,111,108,93]).toArray⟩)):=by
  intro a m;have n:=D3 (I.alloc No b (fB)) m;refine⟨A8 m ?_,A8 n o,A8 n p⟩;rw[cell_of_row _ _ 0 _ _ _ l];rfl
 clear l o p d i;go_wp2_with fail
 refine(h.o _).mono ?_;rintro e f ⟨c,v,rfl⟩;obtain⟨D,E,F⟩:=k.o f (X7d c);have t:=c.size;have q:=O (j.o.trans (I.toBelow (D3 (I.alloc No _ _) (X7d c)) (λ_ _ x=>x.elim) s));simp only[World.size_alloc]at t;have B:b.heap.size<f.heap.size:=by omega
 have C:g<f.heap.size:=by omega
 clear h j k c;go_wp2;go_ret;exact⟨rfl,q.o.alloc (by omega) _⟩
theorem I5e{w a:lZ}(h:Below w.heap.size w a):I No w a:=(I.below h).mono λ_ b x=>by omega
theorem Z3d{N:List Nd}{T:List Ty}{a:List Nt}(h:Prgm N T a):Trd N T a where
 ok:=h.ok
 ls i hi:=by have:=h.ls i hi;omega
 num i hi:=by have:=h.num i hi;omega
 main:=h.main
 gd p hp:=by have:=h.wn p hp;have b:=h.sz hp;exact⟨R5a p this.1,this.2.1,this.2.2,by omega⟩
 few:=by have:=h.few;have:=h.lenN;omega
 len:=h.len
theorem G9c{N:List Nd}{T:List Ty}{b c:List Nt}(h:Trd N T b)(k:Prgm N T c):b=c:=by
 obtain⟨f,d⟩:=h.main;obtain⟨_,e⟩:=k.main;exact H4c (λp a=>⟨(h.gd p a).1,(h.gd p a).2.1,(h.gd p a).2.2.1⟩) (λp a=>⟨R5a p (k.wn p a).1,(k.wn p a).2⟩) d e
theorem F8d(l:bZ):∀N T,PRes l (.inr (N,T))->∃a,Trd N T a:=λN T h=>by
 obtain⟨a,b⟩:=A5b h;exact⟨a,Z3d b⟩
def sB3:ByteArray:=⟨([108,101,116,32,120,61,40,49,43,50,41,42,51,59]).toArray⟩
def sB4:ByteArray:=⟨([40,110,117,109,41,124,116,101,120,116]).toArray⟩
theorem X3c(s:ByteArray)(i:s.size<=maxLen){N:List Nd}{T:List Ty}{c:List Nt}(h:PRes s.data.toList (.inr (N,T)))(g:Prgm N T c)(q:(I1 0 (prL 0 c)).length<=4000)(w:lZ)(j:Tab w w.heap.size):
 Calls prog 7 #[.string s] w λe d=>Below w.heap.size w d/\e= .returned (.tuple #[.string ⟨(I1 0 (prL 0 c)).toArray⟩,.agg #[U 0,U 0]]):=by
 refine(H9b s w i j (F8d _)).mono ?_;rintro e d ⟨f,⟨n,p,b,_⟩|⟨l,m,r,b,k,a⟩⟩
 · exact absurd (V5a b h) id
 · have:=b.one h;simp only[Sum.inr.injEq,Prod.mk.injEq]at this;obtain⟨rfl,rfl⟩:=this;obtain rfl:=G9c k g;rcases a with ⟨o,_⟩|⟨_,a⟩
   · omega
   · exact⟨f,a⟩
theorem E6b(w:lZ)(p:Tab w w.heap.size):Calls prog 5 #[] w λe s=>e= .returned (.bool true)/\Below w.heap.size w s:=by
 obtain⟨N,T,l,k⟩:=E6e;have d:=O (X3c sB3 (by decide) (N:=N) (T:=T) l k (by rw[L5c];decide));have h:=O (λb=>Q4b sB4 b (by decide) U8d);rw[L5c]at d;clear l k;go_enter func5,ntmps5;go_wp2_with fail
 refine(d.o _ p).mono ?_;rintro e b ⟨f,rfl⟩;have q:w.heap.size<=b.heap.size:=f.size;have g:=O f;clear f d;have j:=qY b (.cells #[U 0,U 0] 26);have i:Hid (∀a,I No (b.alloc (.cells #[U 0,U 0] 26)) a->a.cell? (J b.heap.size 0)=some (U 0)):=by
  intro a o;refine A8 o ?_;rw[cell_of_row _ _ 0 _ _ _ j];rfl
 clear j;go_wp2_with fail
 refine(h.o _).mono ?_;rintro e m ⟨rfl,c⟩;have u:=i.o m (I5e c);have r:=c.size;have n:=O (g.o.trans (I.toBelow (D3 (I.alloc No _ _) (I5e c)) (λ_ _ x=>x.elim) q));simp only[World.size_alloc]at r;have t:b.heap.size<m.heap.size:=by omega
 clear h g i c;go_wp2;go_ret;exact⟨rfl,n.o.alloc (by omega) _⟩
theorem V1c{w a:lZ}(h:Tab w w.heap.size)(c:I No w a):Tab a a.heap.size:=by
 obtain⟨d,g,e,f,b⟩:=H5a h c (λ_ _ x=>x);exact⟨d,g,e,b,b⟩
theorem checkSteady_any(s:ByteArray)(w:lZ)(k:s.size<=maxLen)(y:Tab w w.heap.size):Calls prog 3 #[.string s] w λe q=>e= .returned (.bool true)/\Below w.heap.size w q:=by
 refine Y9b (λl R=>∃N T c b,Okd l N T c b/\R=B5a b b.length) (λl=>∃d p,FtO l d p) ?_ ?_ ?_ s w k D2b (λa m=>E6b a (V1c y m)) (λs a k=>(S6a s a k).mono ?_) (λa m=>(H9b s a k (V1c y m) (F8d _)).mono ?_)
 · rintro l R L ⟨N,T,c,b,h,rfl⟩ ⟨A,C,S,V,F,rfl⟩;obtain⟨-,-,-,rfl⟩:=h.one F;rfl
 · rintro l R ⟨N,T,c,b,h,-⟩ ⟨d,p,i⟩;exact h.not i
 · rintro l R ⟨N,T,c,b,⟨z,t,j,g,f,n⟩,rfl⟩;have M:=Z4a b b.length;have u:b.length=N.length:=(N8b _ _ b (vQ _) n).len;have P:=g.lenN;omega
 · rintro e q ⟨f,⟨d,p,i,rfl⟩|⟨N,T,c,b,E,D,o,rfl,H⟩⟩
   · exact⟨f,.inl ⟨d,p,i.1,⟨d,p,i⟩,rfl⟩⟩
   · exact⟨f,.inr ⟨_,E,D,⟨N,T,c,b,o,rfl⟩,rfl,H⟩⟩
 · rintro e q ⟨f,⟨d,p,j,rfl⟩|⟨N,T,z,j,K,⟨v,rfl⟩|⟨v,rfl⟩⟩⟩
   · exact⟨f,_,d,p,rfl,λh=>absurd h j.1⟩
   · exact⟨f,_,2,0,rfl,λh=>absurd h (by decide)⟩
   · refine⟨f,_,0,0,rfl,λ_=>⟨by unfold maxLen;simp[ByteArray.size];omega, ?_⟩⟩;rintro R ⟨A,C,c,b,o,rfl⟩;obtain⟨W,t,x,g,G,n⟩:=o;have r:=j.one x;simp only[Sum.inr.injEq,Prod.mk.injEq]at r;obtain⟨rfl,rfl⟩:=r;obtain rfl:=G9c K g;obtain⟨B,u⟩:=Okd.anew ⟨z,t,x,g,G,n⟩ g v;exact⟨B,T,c,b,by simpa using u,rfl⟩
