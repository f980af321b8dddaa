/-
  A part of the proof.
-/
import Derived.Test.YtneelacbkianjaaGreatDoorDaw
set_option maxHeartbeats 16000000
set_option maxRecDepth 100000
namespace Go.Proofs.YtneelacbkianjaaGreatDoor
open Go.Proofs.Tryz
open Go.RowKit Go.Maps
section
variable{n w:lZ}{c:Cx}{b h j m:Nat}{k p f:Value}{o:Int}{Z:List Ty}{l:uZ}{a:Of}{i:Nat}{g:FuncId}{e:Array Value}{R:List (Int×Tr)->lZ->Prop}{d:Ending->lZ->Prop}
theorem I6e(s:Cbs n c b h j m k f)(A:Lks c Z l a i)(q:TlC n c b h j m k p o f Z l a i g e R d)(E:i<c.N.length)(F:c.N[i].kind=7)(D:(ofA a c.N[i].a).k=5\/((ofA a c.N[i].a).k=9/\c.N[i].list.length=(ofA a c.N[i].a).ks.tail.length))(v:R [] w):
 Calls prog 109 #[pV b,U (i:Int),.func (.func g) #[] e] w λr N=>((∃x y,r=gu x y)/\d r N)\/(r=rT/\∃L,O9 c a i=some L/\R L N):=by
 have a4:=q.cf;have t:=q.st _ _ v;obtain⟨oa,oc,a7,fz,q0,q1,q2,q3,q4,q5,q6,qp,qo⟩:=t.cell;obtain⟨a3,nc,K,M,a2,hg,a6,X,⟨x0,x1,x2,x3,x4,x5,x6,x7,x8⟩,G,-⟩:=(s.nrow t.chg).at (Below.refl _ _) i E;have a5:=s.ok.lenN;have z:Hid (∀u,I No w u->_):=λu H=>C6e s A q E F D K M (A4 G H (λ_ _ x=>x)) (q.still _ _ _ v H);unfold maxLen at X;clear qp qo t s A q v q1 q2 q3 q4 q5 q6 G D;unfold nvl at z;generalize Y:c.N[i]=nd at *;clear Y;obtain⟨kd,va,vb,vc,ls,tx,vn,vt,vp⟩:=nd;subst a2;simp only at *;subst F;have P:=O (I.alloc No w (ndC 7 va vb vc (.slice K ls.length M) tx vn vt vp));go_enter func109,ntmps109;go_wp2_with fail
 refine(z.o _ P.o).mono ?_;rintro r a8 (⟨⟨x,y,rfl⟩,W⟩|⟨rfl,L,B,C⟩)
 · have T:=O W;exact⟨rfl,.inl ⟨⟨x,y,rfl⟩,T.o⟩⟩
 · have V:=O C;have S:=O B;clear C B;go_wp2_with fail
   go_end0;exact .inr ⟨rfl,_,S.o,V.o⟩
theorem L1d(q:Cbs n c b h j m k f)(r:Lks c Z l a i)(t:TlC n c b h j m k p o f Z l a i g e R d)(u:i<c.N.length)(N:c.N[i].kind=7->(ofA a c.N[i].a).k=5\/((ofA a c.N[i].a).k=9/\c.N[i].list.length=(ofA a c.N[i].a).ks.tail.length))(M:c.N[i].kind=24->c.fn.getD i 0≠-1)(s:R [] w):
 Calls prog 109 #[pV b,U (i:Int),.func (.func g) #[] e] w λv H=>((∃x y,v=gu x y)/\d v H)\/(v=rT/\∃L,O9 c a i=some L/\R L H):=by
 by_cases B:c.N[i].kind=7
 · exact I6e q r t u B (N B) s
 by_cases D:c.N[i].kind=14
 · exact F3e q r t u D s
 by_cases z:c.N[i].kind=17/\c.N[i].ty≠-1
 · exact F2e q r t u z.1 z.2 s
 by_cases E:c.N[i].kind=18
 · exact F1e q r t u E s
 by_cases F:c.N[i].kind=19
 · exact F0e q r t u F s
 by_cases G:c.N[i].kind=20
 · exact E9e q r t u G s
 by_cases A:c.N[i].kind=24
 · exact E8e q r t u A (M A) s
 exact I7e q r t u ⟨B,D,λK=>by
  by_cases C:c.N[i].ty= -1
  · exact C
  · exact absurd ⟨K,C⟩ z,E,F,G,A⟩ s
end
section
variable{m w:lZ}{c:Cx}{b e d k:Nat}{j yv g:Value}{mn:Int}{Z:List Ty}{f:uZ}{of:Of}{i:Nat}
theorem R5c(v:Cbs m c b e d k j g)(h:Cst m w c b e d k j yv mn g Z f)(E:i<c.N.length){o n:Nat}(q:w.heap[o]? =some (.cells #[pV b] 34 (0,0)))(s:w.heap[n]? =some (.cells #[U (i:Int)] 3 (0,0)))
 (p:Nat) (F:Lk c Z f of (p:Int)) (a:Nat) (D:a<(tl c Z).length):
 Calls prog 110 #[U (p:Int),U (a:Int),pV o,pV n] w (FtQ m w c b e d k j yv mn g Z f i (F2 (ofA of (p:Int)) (tr (tl c Z) a))):=by
 obtain⟨K,r,G,u,z,H,A⟩:=F;have:p=K:=by omega
 subst this;have t:=O (X4d v h i E p G r z H a D);rw[A]at t;have M:w.cell? (J o 0)=some (pV b):=cr q rfl;have N:w.cell? (J n 0)=some (U (i:Int)):=cr s rfl;have P:=(ltG q);have R:=(ltG s);clear q s h v z A u;generalize F2 (ofA of (p:Int)) (tr (tl c Z) a)=L at *;go_enter func110,ntmps110;go_wp2_with fail
 refine t.o.mono ?_;rintro u S y;rcases FtQ.part y with ⟨rfl,rfl,l⟩|⟨rfl,rfl,l,x⟩
 · exact⟨rfl,l,rfl⟩
 · have B:=O l;have C:=O x;clear l x y;go_wp2_with fail
   go_end0;exact⟨B.o,rfl,C.o⟩
def RFa(m o:lZ)(c:Cx)(b e d k:Nat)(j yv:Value)(mn:Int)(g:Value)(Z:List Ty)(f:uZ)(of:Of)(i h a:Nat)(l:List (Int×Tr))(u:lZ):Prop:=
 I (λn=>n=d) o u/\Cst m u c b e d k j yv mn g Z f/\u.heap[h]? =some (.cells #[pV b] 34 (0,0))/\u.heap[a]? =some (.cells #[U (i:Int)] 3 (0,0))/\∀q∈l,F2 (ofA of q.1) q.2=true
theorem N6d(C:Cbs m c b e d k j g)(D:Lks c Z f of i)(F:i<c.N.length)(B:lZ)(y v:Nat):
 TlC m c b e d k j yv mn g Z f of i 110 #[pV y,pV v] (RFa m B c b e d k j yv mn g Z f of i y v) (λz u=>z=gu 9 (atI c.N i)/\I (λG=>G=d) B u/\U9 c of i=false) where
 cf _ _:=by go_simp
 st l u h:=h.2.1
 still l u t h n:=⟨h.1.trans n (λ_ _ x=>x.elim),h.2.1.still n,S9 n h.2.2.1,S9 n h.2.2.2.1,h.2.2.2.2⟩
 memo l u t h n r:=⟨h.1.trans n (λ_ _ x=>x),r,h.2.1.blk n h.2.2.1,h.2.1.blk n h.2.2.2.1,h.2.2.2.2⟩
 bad l u t h n hn:=⟨rfl,h.1.trans n (λ_ _ x=>x),by unfold U9;rw[hn]⟩
 tell l u L x p a h hx hp ha hL2 hm _:=by
  have A:=D.pe x hx;rw[hp]at A;refine(R5c (of:=of) C h.2.1 F h.2.2.1 h.2.2.2.1 p A a ha).mono ?_;intro z t o;rcases FtQ.part o with ⟨rfl,s,n⟩|⟨rfl,s,n,r⟩
  · refine .inl ⟨⟨_,_,rfl⟩,rfl,h.1.trans n (λ_ _ x=>x), ?_⟩;unfold U9;rw[hL2];simp only;rw[Bool.eq_false_iff];intro E;have:=List.all_eq_true.1 E _ hm;simp only[hp]at this;rw[s]at this;cases this
  · refine .inr ⟨rfl,⟨h.1.trans n (λ_ _ x=>x),r,h.2.1.blk n h.2.2.1,h.2.1.blk n h.2.2.2.1,λq o=> ?_⟩,h.2.1.kc n⟩;rcases qW.1 o with o|o
    · exact h.2.2.2.2 q o
    · simp only[zW]at o;subst o;simp only[hp];exact s
theorem V0b(n:Cbs m c b e d k j g)(o:Lks c Z f of i)(h:Cst m w c b e d k j yv mn g Z f)(z:i<c.N.length)(u:c.N[i].kind=7->(ofA of c.N[i].a).k=5\/((ofA of c.N[i].a).k=9/\c.N[i].list.length=(ofA of c.N[i].a).ks.tail.length))(t:c.N[i].kind=24->c.fn.getD i 0≠-1):
 Calls prog 73 #[pV b,U (i:Int)] w (FtQ m w c b e d k j yv mn g Z f i (U9 c of i)):=by
 have l:I No w ((w.alloc (.cells #[pV b] 34)).alloc (.cells #[U (i:Int)] 3)):=D3 (I.alloc _ _ _) (I.alloc _ _ _);have r:((w.alloc (.cells #[pV b] 34)).alloc (.cells #[U (i:Int)] 3)).heap[w.heap.size]? =some (.cells #[pV b] 34 (0,0)):=(Below.heap_alloc _ _ _ (by simp)).trans (qY w _);have s:((w.alloc (.cells #[pV b] 34)).alloc (.cells #[U (i:Int)] 3)).heap[w.heap.size+1]? =some (.cells #[U (i:Int)] 3 (0,0)):=by
  have:=qY (w.alloc (.cells #[pV b] 34)) (.cells #[U (i:Int)] 3);simpa using this
 have B:=O (L1d (w:=(w.alloc (.cells #[pV b] 34)).alloc (.cells #[U (i:Int)] 3)) n o (N6d (yv:=yv) (mn:=mn) n o z ((w.alloc (.cells #[pV b] 34)).alloc (.cells #[U (i:Int)] 3)) w.heap.size (w.heap.size+1)) z u t ⟨I.refl _ _,h.still l,r,s,λq E=>by simp at E⟩);have M:=mkf;have p:=O l;clear l r s h n o u t;go_enter func73,ntmps73;go_wp2_with fail
 refine B.o.mono ?_;rintro K G (⟨⟨x,y,D⟩,C⟩|⟨rfl,L,v,a⟩)
 · subst D;have H:=O C;exact⟨rfl,(p.o.mono (λ_ _ x=>x.elim)).trans H.o.2.1 (λ_ _ x=>x),by rw[H.o.2.2];exact H.o.1⟩
 · have A:Hid (FtQ m w c b e d k j yv mn g Z f i (U9 c of i) (rT) G):=by
    have F:U9 c of i=true:=by
     unfold U9;rw[v];exact List.all_eq_true.2 a.2.2.2.2
    rw[F];exact⟨(p.o.mono (λ_ _ x=>x.elim)).trans a.1 (λ_ _ x=>x),rfl,a.2.1⟩
   clear v a;go_wp2_with fail
   go_end0;exact A.o
theorem E3e(D:Cbs m c b e d k j g)(hL:Lks c Z f of i)(h:Cst m w c b e d k j yv mn g Z f)(y:i<c.N.length)(hk:c.N[i].kind=7):
 Calls prog 75 #[pV b,U (i:Int)] w (ExQ m w c b e d k j yv mn g Z f i (D0a c of i)):=by
 have hf:=D.ok.flat i y;obtain⟨oa,oc,ax,fz,q0,q1,q2,q3,q4,q5,S,qp,qo⟩:=h.cell;obtain⟨p,r,hp,ae,hr,E,a2⟩:=hL.pe _ (hf.k7 hk).1;obtain⟨go,rfl,au,av,bd,aw,A,-⟩:=qo p hp;rw[hr]at A;obtain⟨b7,nc,F,G,aq,hg,bc,ap,⟨x0,x1,x2,x3,x4,x5,x6,x7,x8⟩,-,-⟩:=(D.nrow h.chg).at (Below.refl _ _) i y;have bb:=D.ok.lenN;have hT:=h.ts;unfold maxLen at ap aw;obtain⟨b5,hs⟩:=h.sho;obtain⟨N,ct,fa,fc,ai,aj,z0,z1,z2,z3,z4,-,ab⟩:=G0d r w E hs;have HG:=O ab;have HW:Hid (∀u,I No w u->_):=λu hu=>L5a D (h.still hu) i y;have z:(tl c Z)[r].kind=(ofA of c.N[i].a).k:=by rw[<-a2,D7a hT E]
 have R:(tl c Z)[r].kind=9->(ofA of c.N[i].a).ks=tr (tl c Z) (tl c Z)[r].of'.toNat::(tl c Z)[r].list.map λx=>tr (tl c Z) x.toNat:=λa=>by
  rw[<-a2,M9a hT E,rY (.inr a),R7a hT E (by omega)];simp
 have M:Hid ((tl c Z)[r].kind=9->c.N[i].list.length=(tl c Z)[r].list.length->∀u,I No w u->_):=λa t u hu=>V0b D hL (h.still hu) y (λ_=> .inr ⟨by rw[<-z];exact a,by rw[R a,List.tail_cons,iZ];exact t⟩) (λb8=>by omega);have H0:=O h;have K:Hid ((tl c Z)[r].kind=5->D0a c of i=some (tr (tl c Z) r)):=λo=>by
  unfold D0a;simp only[F7 y];rw[rY (by rw[<-z];exact o),a2]
 have C:Hid ((tl c Z)[r].kind≠5->((tl c Z)[r].kind≠9\/c.N[i].list.length≠(tl c Z)[r].list.length)->D0a c of i=none):=λo hn=>by
  unfold D0a;simp only[F7 y];rw[yY (by rw[<-z];exact o),rY];by_cases a:(tl c Z)[r].kind=9
  · right;rw[R a,List.tail_cons,iZ];exact hn.resolve_left (λx=>x a)
  · left;rw[<-z];exact a
 have L:Hid ((tl c Z)[r].kind=9->c.N[i].list.length=(tl c Z)[r].list.length->(D0a c of i=if U9 c of i=true then some (tr (tl c Z) (tl c Z)[r].of'.toNat) else none)/\0<=(tl c Z)[r].of'/\(tl c Z)[r].of'<(r:Int)):=λa t=>by
  refine⟨?_,(hT r E).of (.inr a)⟩;unfold D0a;simp only[F7 y];rw[yY (by rw[<-z];omega),yY,R a]
  · rfl
  · rw[<-z,R a,List.tail_cons,iZ];simp[a,t]
 have a9:=O E;rw[ae]at x1;clear qp qo h hr hs D hL ae a2 hf ab z R;generalize U9 c of i=b6 at *;generalize D0a c of i=FT at *;generalize c.N[i]=nd at *;generalize (tl c Z)[r]=b2 at *;obtain⟨kd,va,W,X,v,V,Y,vt,vp⟩:=nd;obtain⟨H,tf,T,a4⟩:=b2;subst aq;simp only at *;subst hk;have l:=I.alloc No w (ndC 7 (p:Int) W X (.slice F v.length G) V Y vt vp);have nb:=qY w (ndC 7 (p:Int) W X (.slice F v.length G) V Y vt vp);have n1:(w.alloc (ndC 7 (p:Int) W X (.slice F v.length G) V Y vt vp)).cell? (J w.heap.size 1)=some (U (p:Int)):=cr nb rfl;have n4:(w.alloc (ndC 7 (p:Int) W X (.slice F v.length G) V Y vt vp)).cell? (J w.heap.size 4)=some (.slice F v.length G):=cr nb rfl;replace q3:=A8 l q3;replace S:=A8 l S;replace A:=A8 l A;replace z0:=A8 l z0;replace z1:=A8 l z1;replace z2:=A8 l z2;replace z3:=A8 l z3;replace z4:=A8 l z4;have af:=blt q3;have aa:=blt A;have ac:=blt z0;have ag:=blt z1;have ad:=blt n1;simp only at af aa ac ag ad;have a7:=O l;clear l nb;go_enter func75,ntmps75;go_wp2_with fail
 clear q0 q1 q2 q4 q5 fz x0 x1 x2 x3 x4 x5 x6 x7 x8 ax hg au av;generalize (w.alloc (ndC 7 (p:Int) W X (.slice F v.length G) V Y vt vp))=am at *;go_cut [6] (λv6 wc=>∃q:Nat,v6=pV q/\Hid (I No am wc)/\wc.cell? (J q 0)=some (U H)/\wc.cell? (J q 2)=some (.slice ai T.length aj)/\wc.cell? (J q 3)=some (U a4))
 case first=>
  go_region_held3 (λs=>s.cell? (J b 3)=some (pV e)/\s.cell? (J b 6)=some (.slice (some (J go 0)) f.length oc)/\s.cell? (J go p)=some (U (r:Int))/\s.cell? (J w.heap.size 1)=some (U (p:Int))/\
   s.cell? (J e 0)=some (.slice (some (J N 0)) (tl c Z).length ct)/\s.cell? (J N (r * 4))=some (U H)/\s.cell? (J N (r * 4+1))=some (.slice fa tf.length fc)/\s.cell? (J N (r * 4+2))=some (.slice ai T.length aj)/\s.cell? (J N (r * 4+3))=some (U a4))
   (go_keep)
   (first
    |((go_at_call 112;go_split_ands;refine(HG.o _ (by assumption) (by assumption) (by assumption) (by assumption) (by assumption)).mono ?_;rintro a5 s ⟨rfl,rfl⟩)))
  all_goals go_wp2_with fail
  all_goals go_meet
  all_goals exact⟨_,rfl,D3 (D3 (I.alloc No _ _) (I.alloc No _ _)) (I.drewN No _ 1),by simp[go_sem],by simp[go_sem],by simp[go_sem]⟩
 case rest=>
  obtain⟨q,rfl,B,t0,t2,t3⟩:=hcut;have n:=O (D3 a7.o B.o);replace S:=A8 B.o S;replace A:=A8 B.o A;replace n1:=A8 B.o n1;replace n4:=A8 B.o n4;have ay:=blt S;have ao:=blt A;have ar:=blt n1;have b0:=blt t0;simp only at ay ao ar b0;clear z0 z1 z2 z3 z4 af aa ac ag ad HG a7 B q3;by_cases o:H=5
  · have e5:=O (K.o o);subst o;clear K L C M;go_wp2_with fail
    go_quiet (fail)
    go_wp2_with fail
    go_ret;exact⟨(D3 n.o (I.drewN No _ _)).mono (λ_ _ x=>x.elim),by rw[e5.o];exact⟨H0.o.still (D3 n.o (I.drewN No _ _)),r,rfl,a9.o,rfl⟩⟩
  have b9:(H==5)=false:=by simpa using o
  by_cases a:H=9
  · by_cases t:v.length=T.length
    · obtain⟨e9,a3,ah⟩:=L.o a t;have a8:=O e9;have HF:=O (M.o a t _ n.o);subst a;have an:(((v.length:Nat):Int) !=((T.length:Nat):Int))=false:=by simp[t]
      have HQ:=O ah;have al:=O a3;clear K L C M e9 o t a3 ah;go_wp2_with fail
      refine HF.o.mono ?_;intro a5 bg hq;rcases FtQ.part hq with ⟨rfl,rfl,P⟩|⟨rfl,rfl,P,hC⟩
      · exact⟨rfl,(n.o.mono (λ_ _ x=>x.elim)).trans P (λ_ _ x=>x),by rw[a8.o];rfl⟩
      · have b3:=((H0.o.still n.o).kc P).cell t3;have az:=blt b3;simp only at az;have HC:=O ((n.o.mono (S':=λb1=>b1=d) (λ_ _ x=>x.elim)).trans P (λ_ _ x=>x));have ak:=O hC;have a3:=al.o;obtain⟨a6,rfl⟩:∃a6:Nat,a4=(a6:Int):=⟨a4.toNat,by omega⟩;clear P hC hq a3;go_wp2_with fail
        go_ret;have bf:=a9.o;have be:=HQ.o;exact⟨HC.o,by rw[a8.o];exact⟨ak.o,a6,rfl,by omega,by simp⟩⟩
    · have en:=O (C.o o (.inr t));have HX:=O (HW.o _ n.o);have an:(((v.length:Nat):Int) !=((T.length:Nat):Int))=true:=by simp;omega
      subst a;clear K L C M;go_wp2_with fail
      refine HX.o.mono ?_;rintro a5 b4 ⟨rfl,h7⟩;exact⟨rfl,(D3 n.o h7).mono (λ_ _ x=>x.elim),by rw[en.o];rfl⟩
  · have en:=O (C.o o (.inl a));have HX:=O (HW.o _ n.o);have ba:(H !=9)=true:=by simpa using a
    clear K L C M;go_wp2_with fail
    refine HX.o.mono ?_;rintro a5 b4 ⟨rfl,h7⟩;exact⟨rfl,(D3 n.o h7).mono (λ_ _ x=>x.elim),by rw[en.o];rfl⟩
theorem P8b(q:Cbs m c b e d k j g)(H:Lks c Z f of i)(h:Cst m w c b e d k j yv mn g Z f)(G:i<c.N.length)(W:c.N[i].kind≠7):
 Calls prog 44 #[pV b,U (i:Int)] w λo N=>(c.N[i].kind=24/\c.fn.getD i 0= -1/\o=gu 4 (atI c.N i)/\I No w N)\/(¬(c.N[i].kind=24/\c.fn.getD i 0= -1)/\FtQ m w c b e d k j yv mn g Z f i (U9 c of i) o N):=by
 obtain⟨oa,oc,ac,S,q0,q1,q2,q3,q4,q5,q6,qp,qo⟩:=h.cell;obtain⟨a4,nc,la,lc,Y,hg,ab,X,⟨x0,x1,x2,x3,x4,x5,x6,x7,x8⟩,-,-⟩:=(q.nrow h.chg).at (Below.refl _ _) i G;have aa:=q.ok.lenN;have D:=q.fn h.chg;obtain⟨fa,a3,L⟩:=B9 D;rw[L]at D q5;have a8:c.fn.length=c.N.length:=q.ok.fnl;have M:i<c.fn.length:=by omega
 obtain⟨gf,V,-,a9,a7,T,K⟩:=F5 D (by omega);have y0:=K i (U (c.fn.getD i 0)) (by rw[lQ,gQ M];simp[C8,M]);subst V;have R:atI c.N i=c.N[i].at':=by unfold atI;rw[lQ,gQ G];rfl
 have r:Hid (¬(c.N[i].kind=24/\c.fn.getD i 0= -1)->∀u,I No w u->_):=λl u hu=>V0b q H (h.still hu) G (λh=>absurd h W) (λp o=>l ⟨p,o⟩);have A:Hid (∀u,I No w u->_):=λu (_:I No w u)=>B1a u 4 c.N[i].at';unfold maxLen at X T;clear qp qo h q H D K q1 q2 q3 q4 q6 S;rw[R];generalize U9 c of i=a2 at *;generalize c.fn.getD i 0=B at *;generalize c.N[i]=nd at *;obtain⟨z,va,vb,vc,ls,tx,vn,vt,vp⟩:=nd;subst Y L;simp only at *;have n:=O (I.alloc No w (ndC z va vb vc (.slice la ls.length lc) tx vn vt vp));have gi:(i:Int)<(c.N.length:Int):=by omega
 by_cases p:z=24
 · by_cases C:B= -1
   · subst p C;have t:=O (A.o _ n.o);clear r A;go_enter func44,ntmps44;go_wp2_with fail
     refine t.o.mono ?_;rintro o P ⟨rfl,a⟩;exact⟨rfl,.inl ⟨by trivial,by trivial,rfl,D3 n.o a⟩⟩
   · have l:¬(z=24/\B= -1):=λx=>C x.2;have t:=O (r.o l _ n.o);have s:=O l;have a6:(B== -1)=false:=by simpa using C
     subst p;clear r A l C;go_enter func44,ntmps44;go_wp2_with fail
     refine t.o.mono ?_;intro o P y;rcases FtQ.part y with ⟨rfl,rfl,a⟩|⟨rfl,rfl,a,v⟩
     · exact⟨rfl,.inr ⟨s.o,(n.o.mono (λ_ _ x=>x.elim)).trans a (λ_ _ x=>x),rfl⟩⟩
     · have E:=O a;have F:=O v;clear a v y;go_wp2_with fail
       go_end0;exact .inr ⟨s.o,(n.o.mono (λ_ _ x=>x.elim)).trans E.o (λ_ _ x=>x),rfl,F.o⟩
 · have l:¬(z=24/\B= -1):=λx=>p x.1;have t:=O (r.o l _ n.o);have s:=O l;have a5:(z==24)=false:=by simpa using p
   clear r A l p;go_enter func44,ntmps44;go_wp2_with fail
   refine t.o.mono ?_;intro o P y;rcases FtQ.part y with ⟨rfl,rfl,a⟩|⟨rfl,rfl,a,v⟩
   · exact⟨rfl,.inr ⟨s.o,(n.o.mono (λ_ _ x=>x.elim)).trans a (λ_ _ x=>x),rfl⟩⟩
   · have E:=O a;have F:=O v;clear a v y;go_wp2_with fail
     go_end0;exact .inr ⟨s.o,(n.o.mono (λ_ _ x=>x.elim)).trans E.o (λ_ _ x=>x),rfl,F.o⟩
end
