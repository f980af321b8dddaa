/-
  A part of the proof.
-/
import Derived.Test.YtllclkcjdhoohaaGreatDoorCheckA
set_option maxHeartbeats 0
set_option linter.all false
set_option maxRecDepth 100000
namespace Go.Proofs.YtllclkcjdhoohaaGreatDoor
open Go renaming Value->υ,Calls->μ,maxLen->Δ
open Obj renaming cells->γ
open Go.Proofs.Tryz renaming prog->ε
open RowKit.Below renaming refl->ñ
open Value renaming slice->Y
open World renaming cell?->δ,alloc->ω
open I renaming alloc->ν,drewN->Ψ
open List renaming length->Q
open Option renaming some->C
open Go.Proofs.Tryz
open Go.RowKit Go.Maps
structure oU(w0:E)(c:Cx)(pb lb mb qb:Nat)(nv yv:υ)(mn:Int)(fv:υ)(Z:List Ty)(ofs:uZ)(of:Of)(i:Nat)(kf:FuncId)(cp:Array υ)(R:List (Int×Tr)->E->Prop)(Pn:Ending->E->Prop):Prop where
 cf:∀(args:Array υ) (ύ:E),(callFunc kf args).run ε ύ=.ok (.enter kf args) ύ
 st:∀l u,R l u->aW w0 u c pb lb mb qb nv yv mn fv Z ofs
 y:∀l u u',R l u->I No u u'->R l u'
 jg:∀l u u',R l u->I (λk=>k=mb) u u'->aW w0 u' c pb lb mb qb nv yv mn fv Z ofs->R l u'
 bad:∀l u u',R l u->I (λk=>k=mb) u u'->aN c of i=none->Pn (gu 9<|cW c.N i) u'
 tell:∀l u L (x:Int) (p a:Nat),R l u->Pe c.N i x->x=(p:Int)->a<Q (tl c Z)->aN c of i=C L->(x,tr (tl c Z) a)∈L->Q l<1200->
  μ ε kf (#[U (p:Int),U (a:Int)]++cp) u λe u'=>((∃x y,e=gu x y)/\Pn e u')\/(e=rT/\R (l++[(x,tr (tl c Z) a)]) u'/\KC u u')
section
variable{n w:E}{c:Cx}{b j k e:Nat}{l p g:υ}{o:Int}{Z:List Ty}{m:uZ}{a:Of}{i:Nat}{h:FuncId}{f:Array υ}{R:List (Int×Tr)->E->Prop}{d:Ending->E->Prop}
def A2f(D:dO n c b j k e l g)(F:gV c Z m a i)(r:oU n c b j k e l p o g Z m a i h f R d)(z)(s:c.N[i].x=14)(G:R [] w):
 μ ε 93 #[pV b,U i,.func (.func h) #[] f] w λq S=>((∃x y,q=gu x y)/\d q S)\/(q=rT/\∃L,aN c a i=C L/\R L S):=by
 have aa:=r.cf;have B:=r.st _ _ G;have H:=D.ok.ew i z;obtain⟨oa,oc,af,fz,q0,q1,q2,q3,q4,q5,q6,qp,qo⟩:=B.cell;obtain⟨a9,nc,la,lc,a8,hg,ad,a7,⟨x0,x1,x2,x3,x4,x5,x6,x7,x8⟩,ac,-⟩:=(D.fx B.P).at (ñ _ _) i z;unfold Δ at a7;have N:=(H.l6 s).1;obtain⟨P,ag,hp,M,-⟩:=F.pe _ N;obtain⟨v,a6,a4,a5⟩:=F.wt _<|(H.l6 s).2;have t:Hid (aN c a i=C [(c.N[i].a,tr (tl c Z) v)]):=by
  show _=_;unfold aN;simp only[B7 z];rw[a5];rw[wY W,yY s]
 have A:Hid (∀u,I No w u->_):=λu hu=>r.tell [] u _ c.N[i].a P v (r.y _ _ _ G hu) N M a4 t.u θ θ;rw[M]at x1;rw[a6]at x7;simp at t A;generalize ae:c.N[i]=nd at*;obtain⟨kd,va,vb,vc,ls,tx,vn,vt,vp⟩:=nd;subst a8;simp only at*;subst s;have T:=O<|ν No w<|aM 14 P vb vc (Y la (Q ls) lc) tx vn v vp;go_in;go_wp2;refine(A.u _ T.u).mono ?_;rintro q ah (⟨⟨x,y,rfl⟩,hP⟩|⟨rfl,a3,ab⟩)
 .have HP:=O hP;exact⟨K,.inl ⟨⟨x,y,K⟩,HP.u⟩⟩
 .have a2:=O a3;go_wp2;go_end0;exact .inr ⟨K,_,t.u,a2.u⟩
def A1f(D:dO n c b j k e l g)(F:gV c Z m a i)(r:oU n c b j k e l p o g Z m a i h f R d)(z)(s:c.N[i].x=17)(P:c.N[i].ty≠-1)(G:R [] w):
 μ ε 93 #[pV b,U i,.func (.func h) #[] f] w λq T=>((∃x y,q=gu x y)/\d q T)\/(q=rT/\∃L,aN c a i=C L/\R L T):=by
 have aa:=r.cf;have B:=r.st _ _ G;have H:=D.ok.ew i z;obtain⟨oa,oc,af,fz,q0,q1,q2,q3,q4,q5,q6,qp,qo⟩:=B.cell;obtain⟨a9,nc,la,lc,a8,hg,ad,a7,⟨x0,x1,x2,x3,x4,x5,x6,x7,x8⟩,ac,-⟩:=(D.fx B.P).at (ñ _ _) i z;unfold Δ at a7;have N:=(H.ly s).2;obtain⟨S,ag,hp,M,-⟩:=F.pe _ N;obtain⟨v,a6,a4,a5⟩:=F.wt _<|(H.ly s).1.resolve_left P;have t:Hid (aN c a i=C [(c.N[i].a,tr (tl c Z) v)]):=by
  show _=_;unfold aN;simp only[B7 z];rw[a5];rw[wY W,wY W,yY s,yY P]
 have A:Hid (∀u,I No w u->_):=λu hu=>r.tell [] u _ c.N[i].a S v (r.y _ _ _ G hu) N M a4 t.u θ θ;rw[M]at x1;rw[a6]at x7;simp at t A;generalize ae:c.N[i]=nd at*;obtain⟨kd,va,vb,vc,ls,tx,vn,vt,vp⟩:=nd;subst a8;simp only at*;subst s;have A1:=O<|ν No w<|aM 17 S vb vc (Y la (Q ls) lc) tx vn v vp;go_in;go_wp2;refine(A.u _ A1.u).mono ?_;rintro q ah (⟨⟨x,y,rfl⟩,hP⟩|⟨rfl,a3,ab⟩)
 .have HP:=O hP;exact⟨K,.inl ⟨⟨x,y,K⟩,HP.u⟩⟩
 .have a2:=O a3;go_wp2;go_end0;exact .inr ⟨K,_,t.u,a2.u⟩
def BH(B:dO n c b j k e l g)(_hL:gV c Z m a i)(F:oU n c b j k e l p o g Z m a i h f R d)(s)(t:c.N[i].x≠7/\c.N[i].x≠14/\(c.N[i].x=17->c.N[i].ty=-1)/\c.N[i].x≠18/\c.N[i].x≠19/\c.N[i].x≠20/\c.N[i].x≠24)(D:R [] w):
 μ ε 93 #[pV b,U i,.func (.func h) #[] f] w λr G=>((∃a2 a3,r=gu a2 a3)/\d r G)\/(r=rT/\∃L,aN c a i=C L/\R L G):=by
 have A:=F.st _ _ D;have hf:=B.ok.ew i s;obtain⟨oa,oc,a9,fz,q0,q1,q2,q3,q4,q5,q6,qp,qo⟩:=A.cell;obtain⟨a4,nc,T,lc,M,hg,a7,H,⟨x0,x1,x2,x3,x4,x5,x6,x7,x8⟩,a6,-⟩:=(B.fx A.P).at (ñ _ _) i s;unfold Δ at H;have y:Hid (aN c a i=C []):=by
  show _=_;unfold aN;simp only[B7 s];rw[wY t.1,wY t.2.1];by_cases q:c.N[i].x=17
  .grind
  .grind
 have z:Hid (∀u,I No w u->R [] u):=λu P=>F.y _ _ _ D P;generalize a8:c.N[i]=nd at*;obtain⟨v,va,vb,vc,ls,tx,vn,vt,vp⟩:=nd;subst M;simp only at*;obtain⟨k7,aa,S,ab,ac,ad,ae⟩:=t;have x:=O<|ν No w<|aM v va vb vc (Y T (Q ls) lc) tx vn vt vp;by_cases q:v=17
 .have N:=S q;subst q N;go_in;go_wp2;go_end0;exact .inr ⟨K,_,y.u,z.u _ x.u⟩
 .have a5:(v==17)=false:=by simpa using q
  go_in;go_wp2;go_end0;exact .inr ⟨K,_,y.u,z.u _ x.u⟩
theorem D2d{t u:Type}(r:List t)(s:List u){q}(v)(x:q<Q s):(r.zip s).take (q+1)=(r.zip s).take q++[(r[q],s[q])]:=by
 grind[List.length_zip,nQ]
def Sz(hB:dO n c b j k e l g)(hL:gV c Z m a i)(P:oU n c b j k e l p o g Z m a i h f R d)(hi)(hk:c.N[i].x=7)(hd:(bB a c.N[i].a).k=5\/((bB a c.N[i].a).k=9/\Q c.N[i].M=Q (bB a c.N[i].a).ks.tail))(z)(A)(au:w.ownsRow 0 3 1 (Y z (Q c.N[i].M) A) (Q c.N[i].M)<|C8 c.N[i].M)(hR:R [] w):
 μ ε 147 #[pV b,eE c.N[i] z A,.func (.func h) #[] f] w λB w'=>((∃x ae,B=gu x ae)/\d B w')\/(B=rT/\∃L,aN c a i=C L/\R L w'):=by
 have bi:=P.cf;have G:=P.st _ _ hR;have hf:=hB.ok.ew i hi;have S:=G.ts;obtain⟨oa,oc,bw,fz,q0,q1,q2,q3,q4,q5,q6,qp,qo⟩:=G.cell;obtain⟨v,r,hp,bd,hr,D,aa⟩:=hL.pe _ (hf.k7 hk).1;obtain⟨go,rfl,bt,bu,bv,bc,y0,-⟩:=qo v hp;rw[hr]at y0;obtain⟨bh,az⟩:=G.jr;obtain⟨fa,fc,be,bf,⟨-,av⟩,an⟩:=AG r w D az;have HG:=O an;have b5:(tl c Z)[r].x=(bB a c.N[i].a).k:=by rw[<-aa,jU S D]
 have HI:Hid (∀u,I No w u->_):=λu T=>YA (G.y T) v hp r hr D;have HR:Hid (∀u,I No w u->R [] u):=λu T=>P.y _ _ _ hR T;have a6:Hid ((tl c Z)[r].x=5->aN c a i=C []):=λh5=>by
  simp_all[aN,B7,yY]
 have aq:(tl c Z)[r].x=9->(bB a c.N[i].a).ks.tail=(tl c Z)[r].M.map λx=>tr (tl c Z) x.toNat:=λH=>by
  rw[<-aa,qP S D,yY<|.inr H,BW S D W];simp
 have a7:Hid ((tl c Z)[r].x=9->aN c a i=C (c.N[i].M.zip<|(tl c Z)[r].M.map λx=>tr (tl c Z) x.toNat)/\Q c.N[i].M=Q (tl c Z)[r].M):=λH=>by
  have e1:=aq H;constructor
  .unfold aN;grind[B7]
  grind
 have b4:(tl c Z)[r].x=5\/(tl c Z)[r].x=9:=by
  obtain hd|hd:=hd
  .omega
  .omega
 have af:=O (S r D).lg;have ai:=O (hf.k7 hk).2;have ak:Hid (∀ab u L (x:Int) (v F:Nat),R ab u->Pe c.N i x->x=(v:Int)->F<Q (tl c Z)->aN c a i=C L->(x,tr (tl c Z) F)∈L->_):=λab u L x v F=>P.tell ab u L x v F;have b2:=O D;have br:=hB.ok.ls i hi;have ag:=O au;have ah:=O av;have bj:=G.le;have bs:=D0f;unfold Δ at bc;clear qp qo G hB hL P hR hf an au av aq b5 hd hr aa fz q0 q1 q2 q4 q5 az S;unfold eE;generalize ba:c.N[i]=nd at*;clear ba;generalize (tl c Z)[r]=bg at*;obtain⟨kd,va,vb,vc,q,tx,vn,vt,vp⟩:=nd;obtain⟨bz,tf,t,c3⟩:=bg;simp only at*;subst hk bd;have M:=ν No w<|aM 7 (v:Int) vb vc (Y z (Q q) A) tx vn vt vp;have nb:=rY w<|aM 7 (v:Int) vb vc (Y z (Q q) A) tx vn vt vp;have n1:δ (w.alloc<|aM 7 (v:Int) vb vc (Y z (Q q) A) tx vn vt vp) (J w.heap.size 1)=C (U (v:Int)):=cr nb K;have n4:δ (w.alloc<|aM 7 (v:Int) vb vc (Y z (Q q) A) tx vn vt vp) (J w.heap.size 4)=C (Y z (Q q) A):=cr nb K;have a4:=A4 M q3;have ac:=A4 M q6;have a5:=A4 M y0;have N:=O M;clear M nb q3 q6 y0;obtain h5|H:=b4
 .have e5:=O<|a6.u h5;have a2:=O<|HI.u _ N.u;have RW:Hid (∀u,I No (w.alloc<|aM 7 (v:Int) vb vc (Y z (Q q) A) tx vn vt vp) u->R [] u):=λu T=>HR.u _<|B6 N.u T;subst h5;clear a6 a7 HG af ai ak;go_in;go_wp2_with fail;refine a2.u.mono ?_;rintro B b0 ⟨rfl,y⟩;have H5:=O<|RW.u _ y;clear y;go_wp2_with fail;refine bodyPost_ret (results_none K _ _ _) K ?_;exact .inr ⟨K,_,e5.u,H5.u⟩
 .obtain⟨e9,ar⟩:=a7.u H;have E9:=O e9;have b1:=O ar;have a2:=O<|HI.u _ N.u;subst H;clear a6 a7 e9 HI ar;go_in;go_wp2_with fail;refine a2.u.mono ?_;rintro B b0 ⟨rfl,y⟩;replace n1:=A4 y n1;replace n4:=A4 y n4;replace a4:=A4 y a4;replace ac:=A4 y ac;replace a5:=A4 y a5;have C5:=O<|B6 N.u y;have ay:=blt a4;have am:=blt a5;have ax:=blt n1;simp only at ay am ax;clear y N a2;go_wp2_with fail;go_cut [6] (λv6 wc=>v6=Y be (Q t) bf/\Hid (I No b0 wc));case first=>
   go_region_with (go_at_call 215;refine(HG.u _<|B6 C5.u<|Ψ _ _ 1).mono ?_;rintro B c4 ⟨rfl,rfl⟩);all_goals go_wp2_with fail
   all_goals go_meet
   all_goals exact⟨K,by first|exact B6 (ν No _ _) (Ψ No _ 1)|exact B6 (Ψ No _ 1)<|ν No _ _⟩
  case rest=>
   obtain⟨rfl,CW⟩:=hcut;have CX:=O<|B6 C5.u CW.u;replace n4:=A4 CW.u n4;have bb:=blt n4;simp only at bb;have R0:=O<|HR.u _ CX.u;have O1:=O<|A3 ag.u CX.u Ξ;have O2:=O<|A3 ah.u CX.u Ξ;clear ag ah HR C5 CX CW HG n1 a4 ac a5 ay am ax;go_wp2_with fail;go_loopw [30] (λad wr=>∃s:Nat,s<=Q q/\ad=U (s:Int)/\Hid (R ((q.zip<|t.map λx=>tr (tl c Z) x.toNat).take s) wr)/\Hid (KC wc wr)) (λad _=>Q q-(intOf ad).toNat);case atStart=>grind[KC.refl]
   case round=>
    obtain⟨s,hj,rfl,RR,KR⟩:=hrel;by_cases a8:s<Q q
    .obtain⟨g2,b8,bm,bp,b6,v0⟩:=D6 (KR.u.row O1.u) a8;subst b8;have ao:s<Q t:=by have:=b1.u;omega
     obtain⟨g3,b9,bn,bq,b7,v1⟩:=D6 (KR.u.row O2.u) ao;subst b9;have hx:=ai.u q[s]<|mQ a8;obtain⟨pj,a9,-⟩:=id hx;have ha:=af.u t[s]<|mQ ao;obtain⟨aj,a3⟩:∃F:Nat,t[s]=(F:Int):=⟨t[s].toNat,W⟩;have bx:=b2.u;have aw:(q[s],tr (tl c Z) aj)∈q.zip (t.map λx=>tr (tl c Z) x.toNat):=by
      have hz:s<Q (q.zip<|t.map λx=>tr (tl c Z) x.toNat):=by rw[List.length_zip,lZ];omega
      have:=mQ hz;rw[List.getElem_zip,List.getElem_map,a3,tQ]at this;exact this
     have HT:=O (ak.u _ wr _ q[s] pj aj RR.u hx a9 W E9.u aw η);have HZ:Hid ((q.zip<|t.map λx=>tr (tl c Z) x.toNat).take (s+1)=(q.zip<|t.map λx=>tr (tl c Z) x.toNat).take s++[(q[s],tr (tl c Z) aj)]):=by
      show _=_;rw[D2d _ _ a8 η,List.getElem_map,a3,tQ]
     rw[a9]at v0;rw[a3]at v1;have bo:(s:Int)<(Q t:Int):=W;unfold Δ at b6 b7;clear hx a9 ha a3 aw;go_wp2_with fail;refine HT.u.mono ?_;rintro B c5 (⟨⟨x,ae,rfl⟩,hP⟩|⟨rfl,al,ap⟩)
     .have HP:=O hP;exact⟨K,.inl ⟨⟨x,ae,K⟩,HP.u⟩⟩
     .have R7:=O al;have K7:=O<|KR.u.trans ap;clear al ap;go_wp2_with fail;go_roundw;case rel=>exact⟨s+1,W,ï,(show R _ _ from by rw[HZ.u];exact R7.u),K7.u⟩
      grind[intOf]
    .have b3:s=Q q:=W;subst b3;have HZ:Hid ((q.zip<|t.map λx=>tr (tl c Z) x.toNat).take (Q q)=q.zip (t.map λx=>tr (tl c Z) x.toNat)):=List.take_of_length_le η;go_wp2_with fail;go_end0;exact .inr ⟨K,_,E9.u,by rw[<-HZ.u];exact RR.u⟩
def A0f(A:dO n c b j k e l g)(hL:gV c Z m a i)(B:oU n c b j k e l p o g Z m a i h f R d)(N)(hk:c.N[i].x=18)(hR:R [] w):
 μ ε 93 #[pV b,U i,.func (.func h) #[] f] w λr w'=>((∃x y,r=gu x y)/\d r w')\/(r=rT/\∃a7,aN c a i=C a7/\R a7 w'):=by
 have az:=B.cf;have a2:=B.st _ _ hR;have hf:=A.ok.ew i N;obtain⟨oa,oc,b4,fz,q0,q1,q2,q3,q4,q5,q6,qp,qo⟩:=a2.cell;obtain⟨ay,nc,P,S,aq,hg,b3,ap,⟨x0,x1,x2,x3,x4,x5,x6,x7,x8⟩,b2,-⟩:=(A.fx a2.P).at (ñ _ _) i N;have b0:=A.ok.fp;unfold Δ at ap;have ac:=hf.k1 W;obtain⟨v,b6,hp,ad,-⟩:=hL.pe _ ac;have a5:aN c a i=(C<|Z5 c a<|c.ts.getD i 0).map λaw=>[(c.N[i].a,aw)]:=by
  unfold aN;simp only[B7 N];rw[wY W,wY W,wY W,yY hk];rfl
 obtain⟨F,af⟩:∃F,F=(C<|Z5 c a<|c.ts.getD i 0).getD iM:=⟨_,K⟩;obtain⟨G,ag⟩:∃G,G=c.N[i].a:=⟨_,K⟩;have RS:∀u,R [] u->aW n u c b j k e l p o g Z m:=λu s=>B.st _ _ s;obtain⟨H,a0,hj,am,au,aj,al,a9⟩:=hL.has _<|A.ok.mw.tg i N<|.inr hk;have a6:Hid (∀u,R [] u->(Instr.lookup 64 (.map<|C e) (U (i:Int)) false).run ε u=.ok (U (H:Int)) u):=λu s=>by
  have hm:=(A.nm (RS u s).P).get (i:Int) W;rw[hm];unfold lS;grind
 have HF:Hid (∀u,R [] u->μ ε 148 #[pV b,U (H:Int)] u λr z=>((∃x y,r=gu x y)/\d r z)\/∃q:Nat,r=.returned (U (q:Int))/\q<Q (tl c Z)/\C (Z5 c a<|c.ts.getD i 0)=C (tr (tl c Z) q)/\R [] z/\KC u z):=λu s=>by
  refine(OD A (RS u s) H am a9).mono ?_;rintro r z ⟨rfl,hc⟩;exact .inr ⟨a0,η,aj,η,B.y _ _ _ s hc,KC.y hc⟩
 have HT:Hid (∀(u:E) (q:Nat),q<Q (tl c Z)->C (Z5 c a<|c.ts.getD i 0)=C (tr (tl c Z) q)->R [] u->μ ε h (#[U (v:Int),U (q:Int)]++f) u λr z=>((∃x y,r=gu x y)/\d r z)\/(r=rT/\R [(G,F)] z/\KC u z)):=λu q a3 D s=>by
  have he:F=tr (tl c Z) q:=by rw[af,D];rfl
  have ak:aN c a i=C [(G,F)]:=by rw[a5,D,ag,he];rfl
  refine(B.tell [] u _ G v q s η W a3 ak η θ).mono ?_;grind
 have HA:Hid (∀q:Nat,C (Z5 c a<|c.ts.getD i 0)=C (tr (tl c Z) q)->aN c a i=C [(G,F)]):=λq D=>η;have M:Hid (∀u,I No w u->R [] u):=λu s=>B.y _ _ _ hR s;generalize C (Z5 c a<|c.ts.getD i 0)=FT at*;rw[ad]at x1;clear qp qo a2 A hL B hR hf ac ad af ag RS a5 fz a9 au al;generalize ab:c.N[i]=nd at*;have ax:=O ab;clear ab;obtain⟨kd,va,vb,vc,T,tx,vn,vt,vp⟩:=nd;subst aq;simp only at*;subst hk;have A1:=ν No w<|aM 18 (v:Int) vb vc (Y P (Q T) S) tx vn vt vp;have nb:=rY w<|aM 18 (v:Int) vb vc (Y P (Q T) S) tx vn vt vp;have n1:δ (w.alloc<|aM 18 (v:Int) vb vc (Y P (Q T) S) tx vn vt vp) (J w.heap.size 1)=C (U (v:Int)):=cr nb K;have a4:=A4 A1 q4;have L:=O A1;clear A1 nb;go_in;go_wp2_with fail;generalize (w.alloc<|aM 18 (v:Int) vb vc (Y P (Q T) S) tx vn vt vp)=t at*;have S0:Hid (δ t.drew (J w.heap.size 1)=C (U (v:Int))/\δ t.drew (J b 4)=C (.map<|C e)/\(Instr.lookup 64 (.map<|C e) (U (i:Int)) false).run ε t.drew=.ok (U (H:Int)) t.drew/\Hid (KC t t.drew/\R [] t.drew)):=⟨n1,a4,a6.u _<|M.u _<|B6 L.u<|Ψ _ _ 1,⟨KC.y<|Ψ _ _ 1,M.u _<|B6 L.u<|Ψ _ _ 1⟩⟩;have ah:=n1;have av:=a4;have ao:=blt ah;have ar:=blt av;simp only at ao ar;have b1:(Instr.lookup 64 (.map<|C e) (U (i:Int)) false).run ε t.drew=.ok (U (H:Int)) t.drew:=a6.u _<|M.u _<|B6 L.u<|Ψ _ _ 1;clear S0 n1 a4 q4;go_region_with (first
  |(go_at_call 148;refine(HF.u _<|M.u _<|B6 L.u<|Ψ _ _ 1).mono ?_;rintro r b7 (⟨⟨x,y,rfl⟩,hP⟩|⟨q,rfl,a3,D,ae,aa⟩);exact⟨K,.inl ⟨⟨x,y,K⟩,hP⟩⟩;have b5:=aa.cell ah)
  |(refine(HT.u _ q a3 D ae).mono ?_;rintro r b8 (⟨⟨x,y,rfl⟩,hP⟩|⟨rfl,a8,an⟩);exact⟨K,.inl ⟨⟨x,y,K⟩,hP⟩⟩));all_goals
  have H6:=O a8;have ai:=O<|HA.u q D;clear a8 an aa ae D;go_wp2_with fail;go_end0;exact .inr ⟨K,_,ai.u,H6.u⟩
def Mh(G:dO n c b j k e l g)(hL:gV c Z m a i)(v:oU n c b j k e l p o g Z m a i h f R d)(M)(hk:c.N[i].x=19)(hR:R [] w):
 μ ε 93 #[pV b,U i,.func (.func h) #[] f] w λr w'=>((∃x y,r=gu x y)/\d r w')\/(r=rT/\∃a5,aN c a i=C a5/\R a5 w'):=by
 have ax:=v.cf;have a3:=v.st _ _ hR;have hf:=G.ok.ew i M;obtain⟨oa,oc,b1,fz,q0,q1,q2,q3,q4,q5,q6,qp,qo⟩:=a3.cell;obtain⟨aw,nc,N,P,au,hg,b0,aq,⟨x0,x1,x2,x3,x4,x5,x6,x7,x8⟩,az,-⟩:=(G.fx a3.P).at (ñ _ _) i M;have ay:=G.ok.fp;unfold Δ at aq;have ae:=(hf.k2 W).2;obtain⟨z,b4,hp,af,-⟩:=hL.pe _ ae;have a2:aN c a i=(N9 a c.N[i]).map λak=>[(c.N[i].b,ak)]:=by
  unfold aN;simp only[B7 M];rw[wY W,wY W,wY W,wY W,yY hk]
 obtain⟨D,ah⟩:∃D,D=(N9 a c.N[i]).getD iM:=⟨_,K⟩;obtain⟨F,ai⟩:∃F,F=c.N[i].b:=⟨_,K⟩;have RS:∀u,R [] u->aW n u c b j k e l p o g Z m:=λu s=>v.st _ _ s;obtain⟨pa,ra,a9,aa,ab,ac,ad⟩:=hL.pe _ (hf.k2 W).1;have HF:Hid (∀u,R [] u->μ ε 149 #[pV b,U (i:Int)] u λr A=>((∃x y,r=gu x y)/\d r A)\/∃q:Nat,r=.returned (U (q:Int))/\q<Q (tl c Z)/\N9 a c.N[i]=C (tr (tl c Z) q)/\R [] A/\KC u A):=λu s=>by
  refine(XP G (RS u s) i M pa a9 aa ra ab ac ad.symm).mono ?_;rintro r A ⟨hc,B⟩;revert B;cases t:N9 a c.N[i] with
  |none=>
   intro B;refine .inl ⟨⟨_,_,B⟩,?_⟩;have ao:r=gu 9 (cW c.N i):=B;subst ao;have ar:aN c a i=none:=by rw[a2,t];rfl
   exact v.bad _ _ _ s hc ar
  |some ak=>
   intro B;obtain⟨hC,q,rfl,H,b2⟩:=B;exact .inr ⟨q,K,H,η,v.jg _ _ _ s hc hC,(RS u s).kc hc⟩
 have HT:Hid (∀(u:E) (q:Nat),q<Q (tl c Z)->N9 a c.N[i]=C (tr (tl c Z) q)->R [] u->μ ε h (#[U (z:Int),U (q:Int)]++f) u λr A=>((∃x y,r=gu x y)/\d r A)\/(r=rT/\R [(F,D)] A/\KC u A)):=λu q H t s=>by
  have he:D=tr (tl c Z) q:=by rw[ah,t];rfl
  have am:aN c a i=C [(F,D)]:=by rw[a2,t,ai,he];rfl
  refine(v.tell [] u _ F z q s η W H am η θ).mono ?_;grind
 have HA:Hid (∀q:Nat,N9 a c.N[i]=C (tr (tl c Z) q)->aN c a i=C [(F,D)]):=λq t=>η;have HR:Hid (∀u,I No w u->R [] u):=λu s=>v.y _ _ _ hR s;generalize N9 a c.N[i]=FT at*;rw[af]at x2;clear qp qo a3 G hL v hR hf ae af ah ai RS a2 fz a9 aa ab ac ad;generalize a8:c.N[i]=nd at*;have av:=O a8;clear a8;obtain⟨kd,va,vb,vc,S,T,vn,vt,vp⟩:=nd;subst au;simp only at*;subst hk;have A1:=ν No w<|aM 19 va (z:Int) vc (Y N (Q S) P) T vn vt vp;have nb:=rY w<|aM 19 va (z:Int) vc (Y N (Q S) P) T vn vt vp;have n1:δ (w.alloc<|aM 19 va (z:Int) vc (Y N (Q S) P) T vn vt vp) (J w.heap.size 2)=C (U (z:Int)):=cr nb K;have a4:=O A1;clear A1 nb;go_in;go_wp2_with fail;generalize (w.alloc<|aM 19 va (z:Int) vc (Y N (Q S) P) T vn vt vp)=L at*;have S0:Hid (L.drew.cell? (J w.heap.size 2)=C (U (z:Int))/\Hid (KC L L.drew/\R [] L.drew)):=⟨n1,⟨KC.y<|Ψ _ _ 1,HR.u _<|B6 a4.u<|Ψ _ _ 1⟩⟩;have aj:=n1;have ap:=blt aj;simp only at ap;clear S0 n1;go_region_with (first
  |(go_at_call 149;refine(HF.u _<|HR.u _<|B6 a4.u<|Ψ _ _ 1).mono ?_;rintro r b5 (⟨⟨x,y,rfl⟩,hP⟩|⟨q,rfl,H,t,ag,a7⟩);exact⟨K,.inl ⟨⟨x,y,K⟩,hP⟩⟩;have b3:=a7.cell aj)
  |(refine(HT.u _ q H t ag).mono ?_;rintro r b6 (⟨⟨x,y,rfl⟩,hP⟩|⟨rfl,a6,an⟩);exact⟨K,.inl ⟨⟨x,y,K⟩,hP⟩⟩));all_goals
  have H6:=O a6;have al:=O<|HA.u q t;clear a6 an a7 ag t;go_wp2_with fail;go_end0;exact .inr ⟨K,_,al.u,H6.u⟩
def Ml(G:dO n c b j k e l g)(N:gV c Z m a i)(v:oU n c b j k e l p o g Z m a i h f R d)(S)(L:c.N[i].x=20)(hR:R [] w):
 μ ε 93 #[pV b,U i,.func (.func h) #[] f] w λr w'=>((∃x y,r=gu x y)/\d r w')\/(r=rT/\∃a5,aN c a i=C a5/\R a5 w'):=by
 have b3:=v.cf;have a3:=v.st _ _ hR;have P:=G.ok.ew i S;obtain⟨oa,oc,b7,fz,q0,q1,q2,q3,q4,q5,q6,qp,qo⟩:=a3.cell;obtain⟨b2,nc,T,lc,az,hg,b6,ax,⟨x0,x1,x2,x3,x4,x5,x6,x7,x8⟩,b5,-⟩:=(G.fx a3.P).at (ñ _ _) i S;have b4:=G.ok.fp;unfold Δ at ax;have aj:=(P.ku L).2.2;obtain⟨z,ba,hp,ak,-⟩:=N.pe _ aj;have a2:aN c a i=(M3 a c.N[i]).map λap=>[(c.N[i].c,ap)]:=by
  unfold aN;simp only[B7 S];rw[wY W,wY W,wY W,wY W,wY W,yY L]
 obtain⟨D,am⟩:∃D,D=(M3 a c.N[i]).getD iM:=⟨_,K⟩;obtain⟨F,an⟩:∃F,F=c.N[i].c:=⟨_,K⟩;have RS:∀u,R [] u->aW n u c b j k e l p o g Z m:=λu s=>v.st _ _ s;obtain⟨pa,ra,a9,aa,ab,ac,ad⟩:=N.pe _ (P.ku L).1;obtain⟨b0,rc,ae,af,ag,ah,ai⟩:=N.pe _ (P.ku L).2.1;have HF:Hid (∀u,R [] u->μ ε 150 #[pV b,U (i:Int)] u λr A=>((∃x y,r=gu x y)/\d r A)\/∃q:Nat,r=.returned (U (q:Int))/\q<Q (tl c Z)/\M3 a c.N[i]=C (tr (tl c Z) q)/\R [] A/\KC u A):=λu s=>by
  refine(YV G (RS u s) i S pa a9 aa ra ab ac ad.symm b0 ae af rc ag ah ai.symm).mono ?_;rintro r A ⟨hc,B⟩;revert B;cases t:M3 a c.N[i] with
  |none=>
   intro B;refine .inl ⟨⟨_,_,B⟩,?_⟩;have av:r=gu 9 (cW c.N i):=B;subst av;have ay:aN c a i=none:=by rw[a2,t];rfl
   exact v.bad _ _ _ s hc ay
  |some ap=>
   intro B;obtain⟨hC,q,rfl,H,b8⟩:=B;exact .inr ⟨q,K,H,η,v.jg _ _ _ s hc hC,(RS u s).kc hc⟩
 have HT:Hid (∀(u:E) (q:Nat),q<Q (tl c Z)->M3 a c.N[i]=C (tr (tl c Z) q)->R [] u->μ ε h (#[U (z:Int),U (q:Int)]++f) u λr A=>((∃x y,r=gu x y)/\d r A)\/(r=rT/\R [(F,D)] A/\KC u A)):=λu q H t s=>by
  have he:D=tr (tl c Z) q:=by rw[am,t];rfl
  have ar:aN c a i=C [(F,D)]:=by rw[a2,t,an,he];rfl
  refine(v.tell [] u _ F z q s η W H ar η θ).mono ?_;grind
 have HA:Hid (∀q:Nat,M3 a c.N[i]=C (tr (tl c Z) q)->aN c a i=C [(F,D)]):=λq t=>η;have HR:Hid (∀u,I No w u->R [] u):=λu s=>v.y _ _ _ hR s;generalize M3 a c.N[i]=FT at*;rw[ak]at x3;clear qp qo a3 G N v hR P aj ak am an RS a2 fz a9 aa ab ac ad ae af ag ah ai;generalize a8:c.N[i]=nd at*;have b1:=O a8;clear a8;obtain⟨kd,va,vb,vc,ls,tx,vn,vt,vp⟩:=nd;subst az;simp only at*;subst L;have A1:=ν No w<|aM 20 va vb (z:Int) (Y T (Q ls) lc) tx vn vt vp;have nb:=rY w<|aM 20 va vb (z:Int) (Y T (Q ls) lc) tx vn vt vp;have n1:δ (w.alloc<|aM 20 va vb (z:Int) (Y T (Q ls) lc) tx vn vt vp) (J w.heap.size 3)=C (U (z:Int)):=cr nb K;have a4:=O A1;clear A1 nb;go_in;go_wp2_with fail;generalize (w.alloc<|aM 20 va vb (z:Int) (Y T (Q ls) lc) tx vn vt vp)=M at*;have S0:Hid (M.drew.cell? (J w.heap.size 3)=C (U (z:Int))/\Hid (KC M M.drew/\R [] M.drew)):=⟨n1,⟨KC.y<|Ψ _ _ 1,HR.u _<|B6 a4.u<|Ψ _ _ 1⟩⟩;have ao:=n1;have aw:=blt ao;simp only at aw;clear S0 n1;go_region_with (first
  |(go_at_call 150;refine(HF.u _<|HR.u _<|B6 a4.u<|Ψ _ _ 1).mono ?_;rintro r bb (⟨⟨x,y,rfl⟩,hP⟩|⟨q,rfl,H,t,al,a7⟩);exact⟨K,.inl ⟨⟨x,y,K⟩,hP⟩⟩;have b9:=a7.cell ao)
  |(refine(HT.u _ q H t al).mono ?_;rintro r bc (⟨⟨x,y,rfl⟩,hP⟩|⟨rfl,a6,au⟩);exact⟨K,.inl ⟨⟨x,y,K⟩,hP⟩⟩));all_goals
  have H6:=O a6;have aq:=O<|HA.u q t;clear a6 au a7 al t;go_wp2_with fail;go_end0;exact .inr ⟨K,_,aq.u,H6.u⟩
def Mt(F:dO n c b j k e l g)(hL:gV c Z m a i)(H:oU n c b j k e l p o g Z m a i h f R d)(hi)(hk:c.N[i].x=24)(b9:c.fn.getD i 0≠-1)(hR:R [] w):
 μ ε 93 #[pV b,U i,.func (.func h) #[] f] w λt w'=>((∃x y,t=gu x y)/\d t w')\/(t=rT/\∃au,aN c a i=C au/\R au w'):=by
 have cb:=H.cf;have N:=H.st _ _ hR;have hf:=F.ok.ew i hi;obtain⟨oa,oc,cl,fz,q0,q1,q2,q3,q4,q5,q6,qp,qo⟩:=N.cell;obtain⟨b5,nc,la,lc,b1,hg,ci,be,⟨x0,x1,x2,x3,x4,x5,x6,x7,x8⟩,ch,-⟩:=(F.fx N.P).at (ñ _ _) i hi;have cg:=F.ok.fp;unfold Δ at be;have aa:Pe c.N i c.N[i].a:=hf.k1 W;obtain⟨B,cn,hp,ab,-⟩:=hL.pe _ aa;have a5:aN c a i=(C<|lJ c.T<|aA c.N<|c.fn.getD i 0).map λbw=>[(c.N[i].a,bw)]:=by
  unfold aN;simp only[B7 hi];rw[wY W,wY W,wY W,wY W,wY W,wY W,yY hk];rfl
 obtain⟨L,ad⟩:∃L,L=(C<|lJ c.T<|aA c.N<|c.fn.getD i 0).getD iM:=⟨_,K⟩;obtain⟨M,P⟩:∃M,M=c.N[i].a:=⟨_,K⟩;have RS:∀u,R [] u->aW n u c b j k e l p o g Z m:=λu G=>H.st _ _ G;obtain⟨q,a8,a9⟩:∃q:Nat,c.fn.getD i 0=(q:Int)/\q<Q c.N:=by
  obtain t|t:=F.ok.uk i hi
  .exact absurd t b9
  .exact t
 obtain⟨a0,ac,b6,a7⟩:=hL.res<|c.fn.getD i 0;rw[a8,B7 a9]at ac a7;obtain⟨s,ae,a3,a4,a2,ce,cj,ck,⟨z0,z1,z2,z3,z4,z5,z6,z7,z8⟩,-,-⟩:=(F.fx N.P).at (ñ _ _) q a9;have bb:s=b5/\ae=nc:=by
  rw[b1]at a2;simp only[Value.slice.injEq,zQ,Addr.mk.injEq,and_true,true_and]at a2;exact⟨a2.1.symm,a2.2.symm⟩
 obtain⟨rfl,rfl⟩:=bb;have T:=F.fn N.P;obtain⟨fa,av,ay⟩:=B8 T;rw[ay]at T q5;have cd:Q c.fn=Q c.N:=F.ok.sv;have az:i<Q c.fn:=W;obtain⟨S,ba,-,cf,cc,b8,ax⟩:=D5 T W;have y0:=ax i (U (q:Int)) (by
  have e2:c.fn[i]=(q:Int):=by rw[<-a8,lQ,gQ az];rfl
  simp[C8,az,e2]);subst ba;unfold Δ at b8;have HF:Hid (∀u,R [] u->μ ε 151 #[pV b,eE c.N[q] a3 a4] u λt D=>((∃x y,t=gu x y)/\d t D)\/∃v:Nat,t=.returned (U (v:Int))/\v<Q (tl c Z)/\C (lJ c.T<|aA c.N<|c.fn.getD i 0)=C (tr (tl c Z) v)/\R [] D/\KC u D):=λu G=>by
  refine(VZ (RS u G) c.N[q] a3 a4).mono ?_;rintro t D ⟨rfl,hc⟩;exact .inr ⟨a0,by rw[ac],b6,by rw[a7,a8,B7 a9],H.y _ _ _ G hc,KC.y hc⟩
 have HT:Hid (∀(u:E) (v:Nat),v<Q (tl c Z)->C (lJ c.T<|aA c.N<|c.fn.getD i 0)=C (tr (tl c Z) v)->R [] u->μ ε h (#[U (B:Int),U (v:Int)]++f) u λt D=>((∃x y,t=gu x y)/\d t D)\/(t=rT/\R [(M,L)] D/\KC u D)):=λu v a6 A G=>by
  have he:L=tr (tl c Z) v:=by rw[ad,A];rfl
  have b7:aN c a i=C [(M,L)]:=by rw[a5,A,P,he];rfl
  refine(H.tell [] u _ M B v G (by rw[P];exact aa) (by rw[P];exact ab) a6 b7 (by rw[he];simp) θ).mono ?_;rintro t D (y|⟨y1,y2,y3⟩)
  .exact .inl y
  .exact .inr ⟨y1,by rw[he];exact y2,y3⟩
 have HA:Hid (∀v:Nat,C (lJ c.T<|aA c.N<|c.fn.getD i 0)=C (tr (tl c Z) v)->aN c a i=C [(M,L)]):=λv A=>by
  rw[a5,A,P,ad,A];rfl
 have HR:Hid (∀u,I No w u->R [] u):=λu G=>H.y _ _ _ hR G;generalize C (lJ c.T<|aA c.N<|c.fn.getD i 0)=FT at*;rw[ab]at x1;clear qp qo N F hL H hR hf aa ab ad P RS a5 fz ac a7 T ax;generalize bf:c.N[i]=nd at*;clear bf;obtain⟨kd,va,vb,vc,ls,tx,vn,vt,vp⟩:=nd;subst b1 ay;simp only at*;subst hk;have z:=ν No w<|aM 24 (B:Int) vb vc (Y la (Q ls) lc) tx vn vt vp;have nb:=rY w<|aM 24 (B:Int) vb vc (Y la (Q ls) lc) tx vn vt vp;have n1:δ (w.alloc<|aM 24 (B:Int) vb vc (Y la (Q ls) lc) tx vn vt vp) (J w.heap.size 1)=C (U (B:Int)):=cr nb K;have af:=A4 z q0;have ag:=A4 z q5;have ah:=A4 z y0;have ai:=A4 z z0;have aj:=A4 z z1;have ak:=A4 z z2;have al:=A4 z z3;have am:=A4 z z4;have an:=A4 z z5;have ao:=A4 z z6;have ap:=A4 z z7;have aq:=A4 z z8;have ar:=O z;clear z nb;go_in;go_wp2_with fail;generalize (w.alloc<|aM 24 (B:Int) vb vc (Y la (Q ls) lc) tx vn vt vp)=r at*;have S0:Hid (δ r.drew (J w.heap.size 1)=C (U (B:Int))/\δ r.drew (J b 0)=C (Y (C<|J s 0) (Q c.N) ae)/\δ r.drew (J b 5)=C (Y (C<|J S 0) (Q c.N) av)/\δ r.drew (J S i)=C (U (q:Int))/\δ r.drew (J s<|q*9)=C (U c.N[q].x)/\δ r.drew (J s<|q*9+1)=C (U c.N[q].a)/\δ r.drew (J s<|q*9+2)=C (U c.N[q].b)/\δ r.drew (J s<|q*9+3)=C (U c.N[q].c)/\δ r.drew (J s<|q*9+4)=C (Y a3 (Q c.N[q].M) a4)/\δ r.drew (J s<|q*9+5)=C (.string ⟨c.N[q].text.toArray⟩)/\δ r.drew (J s<|q*9+6)=C (U c.N[q].n)/\δ r.drew (J s<|q*9+7)=C (U c.N[q].ty)/\δ r.drew (J s<|q*9+8)=C (U c.N[q].at')/\Hid (KC r r.drew/\R [] r.drew)):=⟨n1,af,ag,ah,ai,aj,ak,al,am,an,ao,ap,aq,⟨KC.y<|Ψ _ _ 1,HR.u _<|B6 ar.u<|Ψ _ _ 1⟩⟩;have b3:δ r (J w.heap.size 1)=C (U (B:Int)):=n1;have bu:δ r (J b 0)=C (Y (C<|J s 0) (Q c.N) ae):=af;have bv:δ r (J b 5)=C (Y (C<|J S 0) (Q c.N) av):=ag;have bx:δ r (J S i)=C (U (q:Int)):=ah;have bz:δ r (J s<|q*9)=C (U c.N[q].x):=ai;have c3:δ r (J s<|q*9+1)=C (U c.N[q].a):=aj;have c4:δ r (J s<|q*9+2)=C (U c.N[q].b):=ak;have c5:δ r (J s<|q*9+3)=C (U c.N[q].c):=al;have c6:δ r (J s<|q*9+4)=C (Y a3 (Q c.N[q].M) a4):=am;have c7:δ r (J s<|q*9+5)=C (.string ⟨c.N[q].text.toArray⟩):=an;have c8:δ r (J s<|q*9+6)=C (U c.N[q].n):=ao;have c9:δ r (J s<|q*9+7)=C (U c.N[q].ty):=ap;have ca:δ r (J s<|q*9+8)=C (U c.N[q].at'):=aq;have bd:=blt b3;have bg:=blt bu;have bh:=blt bv;have bi:=blt bx;have bj:=blt bz;have bm:=blt c3;have bn:=blt c4;have bo:=blt c5;have bp:=blt c6;have bq:=blt c7;have br:=blt c8;have bs:=blt c9;have bt:=blt ca;simp only at bd bg bh bi bj bm bn bo bp bq br bs bt;clear S0 n1 af ag ah ai aj ak al am an ao ap aq q0 q5 y0 z0 z1 z2 z3 z4 z5 z6 z7 z8;go_region_with (first
  |(go_at_call 151;refine(HF.u _<|HR.u _<|B6 ar.u<|Ψ _ _ 1).mono ?_;rintro t cp (⟨⟨x,y,rfl⟩,hP⟩|⟨v,rfl,a6,A,b2,b0⟩);exact⟨K,.inl ⟨⟨x,y,K⟩,hP⟩⟩;have cm:=b0.cell b3)
  |(refine(HT.u _ v a6 A b2).mono ?_;rintro t cq (⟨⟨x,y,rfl⟩,hP⟩|⟨rfl,aw,bc⟩);exact⟨K,.inl ⟨⟨x,y,K⟩,hP⟩⟩));all_goals
  have H6:=O aw;have b4:=O<|HA.u v A;clear aw bc b0 b2 A;go_wp2_with fail;go_end0;exact .inr ⟨K,_,b4.u,H6.u⟩
def BG(v:dO n c b j k e l g)(T:gV c Z m a i)(r:oU n c b j k e l p o g Z m a i h f R d)(A)(B:c.N[i].x=7)(hd:(bB a c.N[i].a).k=5\/((bB a c.N[i].a).k=9/\Q c.N[i].M=Q (bB a c.N[i].a).ks.tail))(z:R [] w):
 μ ε 93 #[pV b,U i,.func (.func h) #[] f] w λq H=>((∃x y,q=gu x y)/\d q H)\/(q=rT/\∃L,aN c a i=C L/\R L H):=by
 have t:=r.st _ _ z;obtain⟨oa,oc,aa,fz,q0,q1,q2,q3,q4,q5,q6,qp,qo⟩:=t.cell;obtain⟨a7,nc,F,G,a6,hg,a8,a5,⟨x0,x1,x2,x3,x4,x5,x6,x7,x8⟩,a4,-⟩:=(v.fx t.P).at (ñ _ _) i A;have s:Hid (∀u,I No w u->_):=λu D=>Sz v T r A B hd F G (A3 a4 D Ξ)<|r.y _ _ _ z D;unfold Δ at a5;unfold eE at s;generalize a9:c.N[i]=nd at*;obtain⟨kd,va,vb,vc,ls,tx,vn,vt,vp⟩:=nd;subst a6;simp only at*;subst B;have M:=O<|ν No w<|aM 7 va vb vc (Y F (Q ls) G) tx vn vt vp;go_in;go_wp2_with fail;refine(s.u _ M.u).mono ?_;rintro q ab (⟨⟨x,y,rfl⟩,hP⟩|⟨rfl,L,a2,a3⟩)
 .have P:=O hP;exact⟨K,.inl ⟨⟨x,y,K⟩,P.u⟩⟩
 .have S:=O a3;have N:=O a2;go_wp2;go_end0;exact .inr ⟨K,_,N.u,S.u⟩
def Iv(q:dO n c b j k e l g)(r:gV c Z m a i)(t:oU n c b j k e l p o g Z m a i h f R d)(u)(P:c.N[i].x=7->(bB a c.N[i].a).k=5\/((bB a c.N[i].a).k=9/\Q c.N[i].M=Q (bB a c.N[i].a).ks.tail))(N:c.N[i].x=24->c.fn.getD i 0≠-1)(s:R [] w):
 μ ε 93 #[pV b,U i,.func (.func h) #[] f] w λv M=>((∃x y,v=gu x y)/\d v M)\/(v=rT/\∃L,aN c a i=C L/\R L M):=by
 by_cases A:c.N[i].x=7
 .exact BG q r t u A (P A) s
 by_cases B:c.N[i].x=14
 .exact A2f q r t u B s
 by_cases D:c.N[i].x=17/\c.N[i].ty≠-1
 .exact A1f q r t u D.1 D.2 s
 by_cases F:c.N[i].x=18
 .exact A0f q r t u F s
 by_cases G:c.N[i].x=19
 .exact Mh q r t u G s
 by_cases H:c.N[i].x=20
 .exact Ml q r t u H s
 by_cases z:c.N[i].x=24
 .exact Mt q r t u z (N z) s
 exact BH q r t u ⟨A,B,λS=>W,F,G,H,z⟩ s
end
section
variable{n w:E}{c:Cx}{b e f m:Nat}{k q j:υ}{o:Int}{Z:List Ty}{g:uZ}{d:Of}{i:Nat}
def B5d(B:dO n c b e f m k j)(h:aW n w c b e f m k q o j Z g)(G:i<Q c.N){s l}(z:w.heap[s]?=C (γ #[pV b] 63 (0,0)))(A:w.heap[l]?=C (γ #[U i] 3 (0,0)))
 (p:Nat) (H:Lk c Z g d p) (a) (F:a<Q (tl c Z)):
 μ ε 225 #[U p,U a,pV s,pV l] w (nI n w c b e f m k q o j Z g i<|F7 (bB d p)<|tr (tl c Z) a):=by
 obtain⟨S,r,L,y,N,P,R⟩:=H;have:p=S:=W;subst this;have u:=O<|Dc B h i G p L r N P a F;rw[R]at u;have a2:δ w (J s 0)=C (pV b):=cr z K;have a3:δ w (J l 0)=C (U (i:Int)):=cr A K;generalize F7 (bB d p) (tr (tl c Z) a)=T at*;go_in;go_wp2_with fail;refine u.u.mono ?_;rintro y a4 M;obtain⟨rfl,rfl,t⟩|⟨rfl,rfl,t,D⟩:=nI.part M
 .exact⟨K,t,K⟩
 .have v:=O t;have x:=O D;go_wp2;go_end0;exact⟨v.u,K,x.u⟩
def Xk(n s:E)(c:Cx)(b e f m:Nat)(k q:υ)(o:Int)(j:υ)(Z:List Ty)(g:uZ)(d:Of)(i p h:Nat)(l:List<|Int×Tr)(u:E):Prop:=
 I (λr=>r=f) s u/\aW n u c b e f m k q o j Z g/\u.heap[p]?=C (γ #[pV b] 63 (0,0))/\u.heap[h]?=C (γ #[U i] 3 (0,0))/\∀a∈l,F7 (bB d a.1) a.2=true
def A8e(F:dO n c b e f m k j)(G:gV c Z g d i)(M:i<Q c.N)(D)(z y):
 oU n c b e f m k q o j Z g d i 225 #[pV z,pV y] (Xk n D c b e f m k q o j Z g d i z y) (λA u=>A=gu 9 (cW c.N i)/\I (λN=>N=f) D u/\Y1 c d i=false) where
 cf _ _:=ũ;st l u h:=h.2.1;y l u v h r:=⟨h.1.trans r å,h.2.1.y r,D9 r h.2.2.1,D9 r h.2.2.2.1,h.2.2.2.2⟩;jg l u v h r t:=⟨h.1.trans r Ξ,t,h.2.1.blk r h.2.2.1,h.2.1.blk r h.2.2.2.1,h.2.2.2.2⟩;bad l u v h r hn:=⟨K,h.1.trans r Ξ,by grind[Y1]⟩;tell l u L x p a h hx hp ha hL2 hm _:=by
  have B:=G.pe x hx;rw[hp]at B;refine(B5d F h.2.1 M h.2.2.1 h.2.2.2.1 p B a ha).mono ?_;intro A v s;obtain⟨rfl,H,r⟩|⟨rfl,H,r,t⟩:=nI.part s
  .refine .inl ⟨⟨_,_,K⟩,K,h.1.trans r Ξ,?_⟩;grind[Y1]
  .refine .inr ⟨K,⟨h.1.trans r Ξ,t,h.2.1.blk r h.2.2.1,h.2.1.blk r h.2.2.2.1,λP s=>?_⟩,h.2.1.kc r⟩;obtain s|s:=qW.1 s
   .exact h.2.2.2.2 P s
   grind
def Jw(r:dO n c b e f m k j)(s:gV c Z g d i)(h:aW n w c b e f m k q o j Z g)(t)(D:c.N[i].x=7->(bB d c.N[i].a).k=5\/((bB d c.N[i].a).k=9/\Q c.N[i].M=Q (bB d c.N[i].a).ks.tail))(B:c.N[i].x=24->c.fn.getD i 0≠-1):
 μ ε 169 #[pV b,U i] w (nI n w c b e f m k q o j Z g i<|Y1 c d i):=by
 have l:I No w (ω (ω w<|γ #[pV b] 63)<|γ #[U i] 3):=B6 (ν _ _ _)<|ν _ _ _;have z:(ω (ω w<|γ #[pV b] 63)<|γ #[U i] 3).heap[w.heap.size]?=C (γ #[pV b] 63 (0,0)):=(Below.heap_alloc _ _ _ θ).trans<|rY w _;have A:(ω (ω w<|γ #[pV b] 63)<|γ #[U i] 3).heap[w.heap.size+1]?=C (γ #[U i] 3 (0,0)):=by
  have:=rY (ω w<|γ #[pV b] 63)<|γ #[U i] 3;simpa using this
 have v:=O (Iv r s (A8e r s t (ω (ω w<|γ #[pV b] 63)<|γ #[U i] 3) w.heap.size<|w.heap.size+1) t D B ⟨I.refl _ _,h.y l,z,A,λT S=>η⟩);have p:=O l;go_in;go_wp2_with fail;refine v.u.mono ?_;rintro R P (⟨⟨x,y,M⟩,G⟩|⟨rfl,L,F,a⟩)
 .subst M;have H:=O G;exact⟨K,(p.u.mono å).trans H.u.2.1 Ξ,by rw[H.u.2.2];exact H.u.1⟩
 .have u:Hid (nI n w c b e f m k q o j Z g i (Y1 c d i) (rT) P):=by
   have N:Y1 c d i=true:=by
    unfold Y1;rw[F];exact List.all_eq_true.2 a.2.2.2.2
   rw[N];exact⟨(p.u.mono å).trans a.1 Ξ,K,a.2.1⟩
  go_wp2;go_end0;exact u.u
def Pd(M:dO n c b e f m k j)(hL:gV c Z g d i)(h:aW n w c b e f m k q o j Z g)(hi)(hk:c.N[i].x=7):
 μ ε 170 #[pV b,U i] w (vH n w c b e f m k q o j Z g i<|nD c d i):=by
 have hf:=M.ok.ew i hi;obtain⟨oa,oc,bd,fz,q0,q1,q2,q3,q4,q5,P,qp,qo⟩:=h.cell;obtain⟨p,r,hp,ab,hr,B,a5⟩:=hL.pe _ (hf.k7 hk).1;obtain⟨go,rfl,ba,bb,bc,av,A,-⟩:=qo p hp;rw[hr]at A;obtain⟨b6,nc,D,F,aq,hg,b9,ap,⟨x0,x1,x2,x3,x4,x5,x6,x7,x8⟩,-,-⟩:=(M.fx h.P).at (ñ _ _) i hi;have hT:=h.ts;unfold Δ at ap av;obtain⟨b4,ac⟩:=h.jr;obtain⟨L,ct,fa,fc,ae,af,z0,z1,z2,z3,z4,-,aa⟩:=NO r w B ac;have HG:=O aa;have HW:Hid (∀u,I No w u->_):=λu hu=>zD M (h.y hu) i hi;have am:(tl c Z)[r].x=(bB d c.N[i].a).k:=by rw[<-a5,jU hT B]
 have an:(tl c Z)[r].x=9->(bB d c.N[i].a).ks=tr (tl c Z) (tl c Z)[r].fh.toNat::(tl c Z)[r].M.map λx=>tr (tl c Z) x.toNat:=λa=>by
  rw[<-a5,qP hT B,yY<|.inr a,BW hT B W];simp
 have a2:Hid ((tl c Z)[r].x=9->Q c.N[i].M=Q (tl c Z)[r].M->∀u,I No w u->_):=λa z u hu=>Jw M hL (h.y hu) hi (λ_=>.inr ⟨W,η⟩) (λb7=>W);have H0:=O h;have E5:Hid ((tl c Z)[r].x=5->nD c d i=C (tr (tl c Z) r)):=λy=>by
  simp_all[nD,B7,yY]
 have H:Hid ((tl c Z)[r].x≠5->((tl c Z)[r].x≠9\/Q c.N[i].M≠Q (tl c Z)[r].M)->nD c d i=none):=λy hn=>by
  unfold nD;grind[B7]
 have E9:Hid ((tl c Z)[r].x=9->Q c.N[i].M=Q (tl c Z)[r].M->(nD c d i=if Y1 c d i=true then C (tr (tl c Z) (tl c Z)[r].fh.toNat) else none)/\0<=(tl c Z)[r].fh/\(tl c Z)[r].fh<r):=λa z=>by
  refine⟨?_,(hT r B).of<|.inr a⟩;unfold nD;grind[B7]
 have a9:=O B;rw[ab]at x1;clear qp qo h hr ac M hL ab a5 hf aa am an;generalize Y1 c d i=b5 at*;generalize nD c d i=FT at*;generalize c.N[i]=nd at*;generalize (tl c Z)[r]=b1 at*;obtain⟨kd,va,vb,vc,v,T,vn,vt,vp⟩:=nd;obtain⟨R,tf,S,a3⟩:=b1;subst aq;simp only at*;subst hk;have t:=ν No w<|aM 7 p vb vc (Y D (Q v) F) T vn vt vp;have nb:=rY w<|aM 7 p vb vc (Y D (Q v) F) T vn vt vp;have n1:δ (w.alloc<|aM 7 p vb vc (Y D (Q v) F) T vn vt vp) (J w.heap.size 1)=C (U p):=cr nb K;have n4:δ (w.alloc<|aM 7 p vb vc (Y D (Q v) F) T vn vt vp) (J w.heap.size 4)=C (Y D (Q v) F):=cr nb K;replace q3:=A4 t q3;replace P:=A4 t P;replace A:=A4 t A;replace z0:=A4 t z0;replace z1:=A4 t z1;replace z2:=A4 t z2;replace z3:=A4 t z3;replace z4:=A4 t z4;have aw:=blt q3;have ak:=blt A;have ao:=blt z0;have b0:=blt z1;have ar:=blt n1;simp only at aw ak ao b0 ar;have ag:=O t;go_in;go_wp2;generalize (w.alloc<|aM 7 p vb vc (Y D (Q v) F) T vn vt vp)=ύ at*;go_cut [6] (λv6 wc=>∃N:Nat,v6=pV N/\Hid (I No ύ wc)/\δ wc (J N 0)=C (U R)/\δ wc (J N 2)=C (Y ae (Q S) af)/\δ wc (J N 3)=C (U a3));case first=>
  go_region_held3 (λs=>δ s (J b 3)=C (pV e)/\δ s (J b 6)=C (Y (C<|J go 0) (Q g) oc)/\δ s (J go p)=C (U r)/\δ s (J w.heap.size 1)=C (U p)/\
   δ s (J e 0)=C (Y (C<|J L 0) (Q (tl c Z)) ct)/\δ s (J L<|r*4)=C (U R)/\δ s (J L<|r*4+1)=C (Y fa (Q tf) fc)/\δ s (J L<|r*4+2)=C (Y ae (Q S) af)/\δ s (J L<|r*4+3)=C (U a3))
   (go_keep)
   (first
    |((go_at_call 215;go_split_ands;refine(HG.u _ W W W W W).mono ?_;rintro a4 s ⟨rfl,rfl⟩)));all_goals go_wp2
  all_goals go_meet
  all_goals exact⟨_,K,B6 (B6 (ν No _ _)<|ν No _ _)<|Ψ No _ 1,θ,θ,θ⟩
 case rest=>
  obtain⟨N,rfl,G,t0,t2,t3⟩:=hcut;have l:=O<|B6 ag.u G.u;replace P:=A4 G.u P;replace A:=A4 G.u A;replace n1:=A4 G.u n1;replace n4:=A4 G.u n4;have ax:=blt P;have al:=blt A;have au:=blt n1;have az:=blt t0;simp only at ax al au az;by_cases y:R=5
  .have e5:=O<|E5.u y;subst y;go_wp2;go_quiet (fail);go_wp2;go_ret;exact⟨(B6 l.u<|Ψ No _ _).mono å,by rw[e5.u];exact⟨H0.u.y<|B6 l.u<|Ψ No _ _,r,K,a9.u,K⟩⟩
  by_cases a:R=9
  .by_cases z:Q v=Q S
   .obtain⟨e9,a6,ad⟩:=E9.u a z;have a8:=O e9;have HF:=O<|a2.u a z _ l.u;subst a;have aj:((Q v:Int)!=(Q S:Int))=false:=by simp[z]
    have HQ:=O ad;have ai:=O a6;clear E5 E9 H a2 e9 y z a6 ad;go_wp2_with fail;refine HF.u.mono ?_;intro a4 bg hq;obtain⟨rfl,rfl,hc⟩|⟨rfl,rfl,hc,hC⟩:=nI.part hq
    .exact⟨K,(l.u.mono å).trans hc Ξ,by rw[a8.u];rfl⟩
    .have b2:=((H0.u.y l.u).kc hc).cell t3;have ay:=blt b2;simp only at ay;have HC:=O<|(l.u.mono å).trans hc Ξ;have ah:=O hC;have a6:=ai.u;obtain⟨a7,rfl⟩:∃a7:Nat,a3=a7:=⟨a3.toNat,W⟩;go_wp2_with fail;go_ret;have bf:=a9.u;have be:=HQ.u;exact⟨HC.u,by rw[a8.u];exact⟨ah.u,a7,K,W,θ⟩⟩
   .have en:=O<|H.u y<|.inr z;have HX:=O<|HW.u _ l.u;have aj:(((Q v:Nat):Int)!=((Q S:Nat):Int))=true:=â;subst a;clear E5 E9 H a2;go_wp2_with fail;refine HX.u.mono ?_;rintro a4 b3 ⟨rfl,h7⟩;exact⟨K,(B6 l.u h7).mono å,by rw[en.u];rfl⟩
  .have en:=O<|H.u y<|.inl a;have HX:=O<|HW.u _ l.u;have b8:(R !=9)=true:=by simpa using a
   clear E5 E9 H a2;go_wp2_with fail;refine HX.u.mono ?_;rintro a4 b3 ⟨rfl,h7⟩;exact⟨K,(B6 l.u h7).mono å,by rw[en.u];rfl⟩
def Sa(y:dO n c b e f m k j)(hL:gV c Z g d i)(h:aW n w c b e f m k q o j Z g)(H)(hk:c.N[i].x≠7):
 μ ε 110 #[pV b,U i] w λp R=>(c.N[i].x=24/\c.fn.getD i 0=-1/\p=gu 4 (cW c.N i)/\I No w R)\/(¬(c.N[i].x=24/\c.fn.getD i 0=-1)/\nI n w c b e f m k q o j Z g i (Y1 c d i) p R):=by
 obtain⟨oa,oc,af,fz,q0,q1,q2,q3,q4,q5,q6,qp,qo⟩:=h.cell;obtain⟨aa,nc,la,lc,a7,hg,ae,a6,⟨x0,x1,x2,x3,x4,x5,x6,x7,x8⟩,-,-⟩:=(y.fx h.P).at (ñ _ _) i H;have G:=y.fn h.P;obtain⟨fa,a9,P⟩:=B8 G;rw[P]at G q5;have ac:=y.ok.sv;obtain⟨gf,a5,-,ad,ab,a3,a4⟩:=D5 G W;have y0:=a4 i (U<|c.fn.getD i 0) (by grind[lQ,gQ,C8]);subst a5;have a2:cW c.N i=c.N[i].at':=by unfold cW;rw[lQ,gQ H];rfl
 have M:Hid (¬(c.N[i].x=24/\c.fn.getD i 0=-1)->∀u,I No w u->_):=λr u hu=>Jw y hL (h.y hu) H (λh=>absurd h hk) λv p=>r ⟨v,p⟩;have T:Hid (∀u,I No w u->_):=λu _=>zM u 4 c.N[i].at';unfold Δ at a6 a3;rw[a2];generalize Y1 c d i=a8 at*;generalize c.fn.getD i 0=D at*;generalize c.N[i]=nd at*;obtain⟨z,va,vb,vc,ls,tx,vn,vt,vp⟩:=nd;subst a7 P;simp only at*;have l:=O<|ν No w<|aM z va vb vc (Y la (Q ls) lc) tx vn vt vp;by_cases v:z=24
 .by_cases N:D=-1
  .subst v N;have t:=O<|T.u _ l.u;go_in;go_wp2_with fail;refine t.u.mono ?_;rintro p S ⟨rfl,a⟩;exact⟨K,.inl ⟨θ,θ,K,B6 l.u a⟩⟩
  .have r:¬(z=24/\D=-1):=λx=>N x.2;have t:=O<|M.u r _ l.u;have s:=O r;subst v;go_in;go_wp2_with fail;refine t.u.mono ?_;intro p S L;obtain⟨rfl,rfl,a⟩|⟨rfl,rfl,a,F⟩:=nI.part L
   .exact⟨K,.inr ⟨s.u,(l.u.mono å).trans a Ξ,K⟩⟩
   .have A:=O a;have B:=O F;go_wp2;go_end0;exact .inr ⟨s.u,(l.u.mono å).trans A.u Ξ,K,B.u⟩
 .have r:¬(z=24/\D=-1):=λx=>v x.1;have t:=O<|M.u r _ l.u;have s:=O r;go_in;go_wp2_with fail;refine t.u.mono ?_;intro p S L;obtain⟨rfl,rfl,a⟩|⟨rfl,rfl,a,F⟩:=nI.part L
  .exact⟨K,.inr ⟨s.u,(l.u.mono å).trans a Ξ,K⟩⟩
  .have A:=O a;have B:=O F;go_wp2;go_end0;exact .inr ⟨s.u,(l.u.mono å).trans A.u Ξ,K,B.u⟩
end
