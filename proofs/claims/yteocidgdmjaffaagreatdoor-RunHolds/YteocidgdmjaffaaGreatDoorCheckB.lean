/-
  A part of the proof.
-/
import Derived.Test.YteocidgdmjaffaaGreatDoorCheckA
set_option maxHeartbeats 0
set_option linter.all false
set_option maxRecDepth 100000
namespace Go.Proofs.YteocidgdmjaffaaGreatDoor
open Go.Proofs.Tryz
open Go.RowKit Go.Maps
structure mC(w0:E)(c:Cx)(pb lb mb qb:Nat)(nv yv:Value)(mn:Int)(fv:Value)(Z:List Ty)(ofs:bZ)(of:Of)(i:Nat)(kf:FuncId)(cp:Array Value)(R:List (Int×Tr)->E->Prop)(Pn:Ending->E->Prop):Prop where
 cf:∀(args:Array Value) (W:E),(callFunc kf args).run prog W=.ok (.enter kf args) W
 st:∀l u,R l u->aS w0 u c pb lb mb qb nv yv mn fv Z ofs
 y:∀l u u',R l u->I No u u'->R l u'
 gy:∀l u u',R l u->I (λk=>k=mb) u u'->aS w0 u' c pb lb mb qb nv yv mn fv Z ofs->R l u'
 bad:∀l u u',R l u->I (λk=>k=mb) u u'->aM c of i=none->Pn (gu 9 (cI c.N i)) u'
 tell:∀l u L (x:Int) (p a:Nat),R l u->Pe c.N i x->x=(p:Int)->a<(tl c Z).length->aM c of i=some L->(x,tr (tl c Z) a)∈L->l.length<1200->
  Calls prog kf (#[U (p:Int),U (a:Int)]++cp) u λe u'=>((∃x y,e=gu x y)/\Pn e u')\/(e=rT/\R (l++[(x,tr (tl c Z) a)]) u'/\KC u u')
section
variable{n w:E}{c:Cx}{b j k d:Nat}{l p g:Value}{o:Int}{Z:List Ty}{m:bZ}{a:Of}{i:Nat}{h:FuncId}{f:Array Value}{R:List (Int×Tr)->E->Prop}{e:Ending->E->Prop}
def Zo(D:cP n c b j k d l g)(F:fU c Z m a i)(r:mC n c b j k d l p o g Z m a i h f R e)(z)(s:c.N[i].x=14)(G:R [] w):
 Calls prog 29 #[pV b,U i,.func (.func h) #[] f] w λq S=>((∃x y,q=gu x y)/\e q S)\/(q=rT/\∃L,aM c a i=some L/\R L S):=by
 have a9:=r.cf;have B:=r.st _ _ G;have H:=D.ok.ep i z;obtain⟨oa,oc,ae,fz,q0,q1,q2,q3,q4,q5,q6,qp,qo⟩:=B.cell;obtain⟨a8,nc,la,lc,a7,hg,ac,a6,⟨x0,x1,x2,x3,x4,x5,x6,x7,x8⟩,ab,-⟩:=(D.fg B.P).at (Below.refl _ _) i z;unfold maxLen at a6;have N:=(H.ld s).1;obtain⟨P,af,hp,M,-⟩:=F.pe _ N;obtain⟨v,a5,a3,a4⟩:=F.wt _ ((H.ld s).2);have t:Hid (aM c a i=some [(c.N[i].a,tr (tl c Z) v)]):=by
  show _=_;unfold aM;simp only[B9 z];rw[a4];rw[zY (by omega),wY s]
 have A:Hid (∀u,I No w u->_):=λu hu=>r.tell [] u _ c.N[i].a P v (r.y _ _ _ G hu) N M a3 t.u (by simp) (by simp);rw[M]at x1;rw[a5]at x7;simp at t A;generalize ad:c.N[i]=nd at*;obtain⟨kd,va,vb,vc,ls,tx,vn,vt,vp⟩:=nd;subst a7;simp only at*;subst s;have T:=O (I.alloc No w (aL 14 P vb vc (.slice la ls.length lc) tx vn v vp));go_in;go_wp2;refine(A.u _ T.u).mono ?_;rintro q ag (⟨⟨x,y,rfl⟩,hP⟩|⟨rfl,a2,aa⟩)
 .have V:=O hP;exact⟨rfl,.inl ⟨⟨x,y,rfl⟩,V.u⟩⟩
 .have W:=O a2;go_wp2;go_end0;exact .inr ⟨rfl,_,t.u,W.u⟩
def Zq(D:cP n c b j k d l g)(F:fU c Z m a i)(r:mC n c b j k d l p o g Z m a i h f R e)(z)(s:c.N[i].x=17)(P:c.N[i].ty≠-1)(G:R [] w):
 Calls prog 29 #[pV b,U i,.func (.func h) #[] f] w λq T=>((∃x y,q=gu x y)/\e q T)\/(q=rT/\∃L,aM c a i=some L/\R L T):=by
 have aa:=r.cf;have B:=r.st _ _ G;have H:=D.ok.ep i z;obtain⟨oa,oc,af,fz,q0,q1,q2,q3,q4,q5,q6,qp,qo⟩:=B.cell;obtain⟨a9,nc,la,lc,a8,hg,ad,a7,⟨x0,x1,x2,x3,x4,x5,x6,x7,x8⟩,ac,-⟩:=(D.fg B.P).at (Below.refl _ _) i z;unfold maxLen at a7;have N:=(H.lq s).2;obtain⟨S,ag,hp,M,-⟩:=F.pe _ N;obtain⟨v,a6,a4,a5⟩:=F.wt _ ((H.lq s).1.resolve_left P);have t:Hid (aM c a i=some [(c.N[i].a,tr (tl c Z) v)]):=by
  show _=_;unfold aM;simp only[B9 z];rw[a5];rw[zY (by omega),zY (by omega),wY s,wY P]
 have A:Hid (∀u,I No w u->_):=λu hu=>r.tell [] u _ c.N[i].a S v (r.y _ _ _ G hu) N M a4 t.u (by simp) (by simp);rw[M]at x1;rw[a6]at x7;simp at t A;generalize ae:c.N[i]=nd at*;obtain⟨kd,va,vb,vc,ls,tx,vn,vt,vp⟩:=nd;subst a8;simp only at*;subst s;have V:=O (I.alloc No w (aL 17 S vb vc (.slice la ls.length lc) tx vn v vp));go_in;go_wp2;refine(A.u _ V.u).mono ?_;rintro q ah (⟨⟨x,y,rfl⟩,hP⟩|⟨rfl,a3,ab⟩)
 .have W:=O hP;exact⟨rfl,.inl ⟨⟨x,y,rfl⟩,W.u⟩⟩
 .have a2:=O a3;go_wp2;go_end0;exact .inr ⟨rfl,_,t.u,a2.u⟩
def Ls(B:cP n c b j k d l g)(_hL:fU c Z m a i)(F:mC n c b j k d l p o g Z m a i h f R e)(s)(t:c.N[i].x≠7/\c.N[i].x≠14/\(c.N[i].x=17->c.N[i].ty=-1)/\c.N[i].x≠18/\c.N[i].x≠19/\c.N[i].x≠20/\c.N[i].x≠24)(D:R [] w):
 Calls prog 29 #[pV b,U i,.func (.func h) #[] f] w λr G=>((∃a2 a3,r=gu a2 a3)/\e r G)\/(r=rT/\∃L,aM c a i=some L/\R L G):=by
 have A:=F.st _ _ D;have hf:=B.ok.ep i s;obtain⟨oa,oc,a9,fz,q0,q1,q2,q3,q4,q5,q6,qp,qo⟩:=A.cell;obtain⟨a4,nc,T,V,M,hg,a7,H,⟨x0,x1,x2,x3,x4,x5,x6,x7,x8⟩,a6,-⟩:=(B.fg A.P).at (Below.refl _ _) i s;unfold maxLen at H;have y:Hid (aM c a i=some []):=by
  show _=_;unfold aM;simp only[B9 s];rw[zY t.1,zY t.2.1];by_cases q:c.N[i].x=17
  .grind
  .grind
 have z:Hid (∀u,I No w u->R [] u):=λu P=>F.y _ _ _ D P;generalize a8:c.N[i]=nd at*;obtain⟨v,va,vb,vc,W,tx,vn,vt,vp⟩:=nd;subst M;simp only at*;obtain⟨k7,aa,S,ab,ac,ad,ae⟩:=t;have x:=O (I.alloc No w (aL v va vb vc (.slice T W.length V) tx vn vt vp));by_cases q:v=17
 .have N:=S q;subst q N;go_in;go_wp2;go_end0;exact .inr ⟨rfl,_,y.u,z.u _ x.u⟩
 .have a5:(v==17)=false:=by simpa using q
  go_in;go_wp2;go_end0;exact .inr ⟨rfl,_,y.u,z.u _ x.u⟩
theorem Mt{t u:Type}(r:List t)(s:List u){q}(v)(x:q<s.length):(r.zip s).take (q+1)=(r.zip s).take q++[(r[q],s[q])]:=by
 grind[List.length_zip,nQ]
def xm(hB:cP n c b j k d l g)(hL:fU c Z m a i)(P:mC n c b j k d l p o g Z m a i h f R e)(hi)(hk:c.N[i].x=7)(hd:(aX a c.N[i].a).k=5\/((aX a c.N[i].a).k=9/\c.N[i].M.length=(aX a c.N[i].a).ks.tail.length))(z)(A)(au:w.ownsRow 0 3 1 (.slice z c.N[i].M.length A) c.N[i].M.length (C7 c.N[i].M))(hR:R [] w):
 Calls prog 50 #[pV b,fE c.N[i] z A,.func (.func h) #[] f] w λB w'=>((∃x ae,B=gu x ae)/\e B w')\/(B=rT/\∃L,aM c a i=some L/\R L w'):=by
 have bh:=P.cf;have G:=P.st _ _ hR;have hf:=hB.ok.ep i hi;have S:=G.ts;obtain⟨oa,oc,bv,fz,q0,q1,q2,q3,q4,q5,q6,qp,qo⟩:=G.cell;obtain⟨v,r,hp,bc,hr,D,aa⟩:=hL.pe _ (hf.k7 hk).1;obtain⟨go,rfl,bs,bt,bu,bb,y0,-⟩:=qo v hp;rw[hr]at y0;obtain⟨bg,hs⟩:=G.jf;obtain⟨fa,fc,bd,be,⟨-,av⟩,an⟩:=Oy r w D hs;have HG:=O an;have b4:(tl c Z)[r].x=(aX a c.N[i].a).k:=by rw[<-aa,iH S D]
 have HI:Hid (∀u,I No w u->_):=λu T=>WI (G.y T) v hp r hr D;have HR:Hid (∀u,I No w u->R [] u):=λu T=>P.y _ _ _ hR T;have a6:Hid ((tl c Z)[r].x=5->aM c a i=some []):=λh5=>by
  simp_all[aM,B9,wY]
 have aq:(tl c Z)[r].x=9->(aX a c.N[i].a).ks.tail=(tl c Z)[r].M.map λx=>tr (tl c Z) x.toNat:=λH=>by
  rw[<-aa,oD S D,wY (.inr H),wR S D (by omega)];simp
 have a7:Hid ((tl c Z)[r].x=9->aM c a i=some (c.N[i].M.zip ((tl c Z)[r].M.map λx=>tr (tl c Z) x.toNat))/\c.N[i].M.length=(tl c Z)[r].M.length):=λH=>by
  have e1:=aq H;constructor
  .unfold aM;grind[B9]
  grind
 have b3:(tl c Z)[r].x=5\/(tl c Z)[r].x=9:=by
  obtain hd|hd:=hd
  .omega
  .omega
 have af:=O (S r D).kj;have ai:=O (hf.k7 hk).2;have ak:Hid (∀ab u L (x:Int) (v F:Nat),R ab u->Pe c.N i x->x=(v:Int)->F<(tl c Z).length->aM c a i=some L->(x,tr (tl c Z) F)∈L->_):=λab u L x v F=>P.tell ab u L x v F;have b1:=O D;have bq:=hB.ok.ls i hi;have ag:=O au;have ah:=O av;have bi:=G.le;have br:=Xq;unfold maxLen at bb;clear qp qo G hB hL P hR hf an au av aq b4 hd hr aa fz q0 q1 q2 q4 q5 hs S;unfold fE;generalize b9:c.N[i]=nd at*;clear b9;generalize (tl c Z)[r]=bf at*;obtain⟨kd,va,vb,vc,q,W,vn,vt,vp⟩:=nd;obtain⟨bx,tf,t,bz⟩:=bf;simp only at*;subst hk bc;have M:=I.alloc No w (aL 7 (v:Int) vb vc (.slice z q.length A) W vn vt vp);have nb:=yY w (aL 7 (v:Int) vb vc (.slice z q.length A) W vn vt vp);have n1:(w.alloc (aL 7 (v:Int) vb vc (.slice z q.length A) W vn vt vp)).cell? (J w.heap.size 1)=some (U (v:Int)):=cr nb rfl;have V:(w.alloc (aL 7 (v:Int) vb vc (.slice z q.length A) W vn vt vp)).cell? (J w.heap.size 4)=some (.slice z q.length A):=cr nb rfl;have a4:=A4 M q3;have ac:=A4 M q6;have a5:=A4 M y0;have N:=O M;clear M nb q3 q6 y0;obtain h5|H:=b3
 .have e5:=O (a6.u h5);have a2:=O (HI.u _ N.u);have RW:Hid (∀u,I No (w.alloc (aL 7 (v:Int) vb vc (.slice z q.length A) W vn vt vp)) u->R [] u):=λu T=>HR.u _ (B6 N.u T);subst h5;clear a6 a7 HG af ai ak;go_in;go_wp2_with fail;refine a2.u.mono ?_;rintro B az ⟨rfl,y⟩;have H5:=O (RW.u _ y);clear y;go_wp2_with fail;refine bodyPost_ret (results_none rfl _ _ _) rfl ?_;exact .inr ⟨rfl,_,e5.u,H5.u⟩
 .obtain⟨e9,ar⟩:=a7.u H;have E9:=O e9;have b0:=O ar;have a2:=O (HI.u _ N.u);subst H;clear a6 a7 e9 HI ar;go_in;go_wp2_with fail;refine a2.u.mono ?_;rintro B az ⟨rfl,y⟩;replace n1:=A4 y n1;replace V:=A4 y V;replace a4:=A4 y a4;replace ac:=A4 y ac;replace a5:=A4 y a5;have C5:=O (B6 N.u y);have ay:=blt a4;have am:=blt a5;have ax:=blt n1;simp only at ay am ax;clear y N a2;go_wp2_with fail;go_cut [6] (λv6 wc=>v6=.slice bd t.length be/\Hid (I No az wc));case first=>
   go_region_with (go_at_call 79;refine(HG.u _ (B6 C5.u (I.drewN _ _ 1))).mono ?_;rintro B c3 ⟨rfl,rfl⟩);all_goals go_wp2_with fail
   all_goals go_meet
   all_goals exact⟨rfl,by first|exact B6 (I.alloc No _ _) (I.drewN No _ 1)|exact B6 (I.drewN No _ 1) (I.alloc No _ _)⟩
  case rest=>
   obtain⟨rfl,CW⟩:=hcut;have CX:=O (B6 C5.u CW.u);replace V:=A4 CW.u V;have ba:=blt V;simp only at ba;have R0:=O (HR.u _ CX.u);have O1:=O (A3 ag.u CX.u (λ_ _ x=>x));have O2:=O (A3 ah.u CX.u (λ_ _ x=>x));clear ag ah HR C5 CX CW HG n1 a4 ac a5 ay am ax;go_wp2_with fail;go_loopw [30] (λad wr=>∃s:Nat,s<=q.length/\ad=U (s:Int)/\Hid (R ((q.zip (t.map λx=>tr (tl c Z) x.toNat)).take s) wr)/\Hid (KC wc wr)) (λad _=>q.length-(intOf ad).toNat);case atStart=>grind[KC.refl]
   case round=>
    obtain⟨s,hj,rfl,RR,KR⟩:=hrel;by_cases a8:s<q.length
    .obtain⟨g2,b7,bj,bo,b5,v0⟩:=D6 (KR.u.row O1.u) a8;subst b7;have ao:s<t.length:=by have:=b0.u;omega
     obtain⟨g3,b8,bm,bp,b6,v1⟩:=D6 (KR.u.row O2.u) ao;subst b8;have hx:=ai.u q[s] (mQ a8);obtain⟨pj,a9,-⟩:=id hx;have ha:=af.u t[s] (mQ ao);obtain⟨aj,a3⟩:∃F:Nat,t[s]=(F:Int):=⟨t[s].toNat,by omega⟩;have bw:=b1.u;have aw:(q[s],tr (tl c Z) aj)∈q.zip (t.map λx=>tr (tl c Z) x.toNat):=by
      have hz:s<(q.zip (t.map λx=>tr (tl c Z) x.toNat)).length:=by rw[List.length_zip,uZ];omega
      have:=mQ hz;rw[List.getElem_zip,List.getElem_map,a3,tQ]at this;exact this
     have HT:=O (ak.u _ wr _ q[s] pj aj RR.u hx a9 (by omega) E9.u aw (by grind));have HZ:Hid ((q.zip (t.map λx=>tr (tl c Z) x.toNat)).take (s+1)=(q.zip (t.map λx=>tr (tl c Z) x.toNat)).take s++[(q[s],tr (tl c Z) aj)]):=by
      show _=_;rw[Mt _ _ a8 (by grind),List.getElem_map,a3,tQ]
     rw[a9]at v0;rw[a3]at v1;have bn:(s:Int)<(t.length:Int):=by omega
     unfold maxLen at b5 b6;clear hx a9 ha a3 aw;go_wp2_with fail;refine HT.u.mono ?_;rintro B c4 (⟨⟨x,ae,rfl⟩,hP⟩|⟨rfl,al,ap⟩)
     .have HP:=O hP;exact⟨rfl,.inl ⟨⟨x,ae,rfl⟩,HP.u⟩⟩
     .have R7:=O al;have K7:=O (KR.u.trans ap);clear al ap;go_wp2_with fail;go_roundw;case rel=>exact⟨s+1,by omega,by go_num,(show R _ _ from by rw[HZ.u];exact R7.u),K7.u⟩
      grind[intOf]
    .have b2:s=q.length:=by omega
     subst b2;have HZ:Hid ((q.zip (t.map λx=>tr (tl c Z) x.toNat)).take q.length=q.zip (t.map λx=>tr (tl c Z) x.toNat)):=List.take_of_length_le (by grind);go_wp2_with fail;go_end0;exact .inr ⟨rfl,_,E9.u,by rw[<-HZ.u];exact RR.u⟩
def Zr(z:cP n c b j k d l g)(hL:fU c Z m a i)(A:mC n c b j k d l p o g Z m a i h f R e)(M)(hk:c.N[i].x=18)(hR:R [] w):
 Calls prog 29 #[pV b,U i,.func (.func h) #[] f] w λr w'=>((∃x y,r=gu x y)/\e r w')\/(r=rT/\∃a7,aM c a i=some a7/\R a7 w'):=by
 have az:=A.cf;have a2:=A.st _ _ hR;have hf:=z.ok.ep i M;obtain⟨oa,oc,b4,fz,q0,q1,q2,q3,q4,q5,q6,qp,qo⟩:=a2.cell;obtain⟨ay,nc,N,P,aq,hg,b3,ap,⟨x0,x1,x2,x3,x4,x5,x6,x7,x8⟩,b2,-⟩:=(z.fg a2.P).at (Below.refl _ _) i M;have b0:=z.ok.fh;unfold maxLen at ap;have ac:=hf.k1 (by omega);obtain⟨t,b6,hp,ad,-⟩:=hL.pe _ ac;have a5:aM c a i=(some (V9 c a (c.ts.getD i 0))).map λaw=>[(c.N[i].a,aw)]:=by
  unfold aM;simp only[B9 M];rw[zY (by omega),zY (by omega),zY (by omega),wY hk];rfl
 obtain⟨D,af⟩:∃D,D=(some (V9 c a (c.ts.getD i 0))).getD Z5:=⟨_,rfl⟩;obtain⟨F,ag⟩:∃F,F=c.N[i].a:=⟨_,rfl⟩;have RS:∀u,R [] u->aS n u c b j k d l p o g Z m:=λu s=>A.st _ _ s;obtain⟨G,a0,hj,am,au,aj,al,a9⟩:=hL.has _ (z.ok.ob.tg i M (.inr hk));have a6:Hid (∀u,R [] u->(Instr.lookup 46 (.map (some d)) (U (i:Int)) false).run prog u=.ok (U (G:Int)) u):=λu s=>by
  have hm:=(z.nm (RS u s).P).get (i:Int) (by omega);rw[hm];unfold mL;grind
 have HF:Hid (∀u,R [] u->Calls prog 51 #[pV b,U (G:Int)] u λr v=>((∃x y,r=gu x y)/\e r v)\/∃q:Nat,r=.returned (U (q:Int))/\q<(tl c Z).length/\some (V9 c a (c.ts.getD i 0))=some (tr (tl c Z) q)/\R [] v/\KC u v):=λu s=>by
  refine(LX z (RS u s) G am a9).mono ?_;rintro r v ⟨rfl,hc⟩;exact .inr ⟨a0,by grind,aj,by grind,A.y _ _ _ s hc,KC.y hc⟩
 have HT:Hid (∀(u:E) (q:Nat),q<(tl c Z).length->some (V9 c a (c.ts.getD i 0))=some (tr (tl c Z) q)->R [] u->Calls prog h (#[U (t:Int),U (q:Int)]++f) u λr v=>((∃x y,r=gu x y)/\e r v)\/(r=rT/\R [(F,D)] v/\KC u v)):=λu q a3 B s=>by
  have he:D=tr (tl c Z) q:=by rw[af,B];rfl
  have ak:aM c a i=some [(F,D)]:=by rw[a5,B,ag,he];rfl
  refine(A.tell [] u _ F t q s (by grind) (by omega) a3 ak (by grind) (by simp)).mono ?_;grind
 have HA:Hid (∀q:Nat,some (V9 c a (c.ts.getD i 0))=some (tr (tl c Z) q)->aM c a i=some [(F,D)]):=λq B=>by
  grind
 have L:Hid (∀u,I No w u->R [] u):=λu s=>A.y _ _ _ hR s;generalize some (V9 c a (c.ts.getD i 0))=FT at*;rw[ad]at x1;clear qp qo a2 z hL A hR hf ac ad af ag RS a5 fz a9 au al;generalize ab:c.N[i]=nd at*;have ax:=O ab;clear ab;obtain⟨kd,va,V,vc,S,T,vn,vt,vp⟩:=nd;subst aq;simp only at*;subst hk;have A1:=I.alloc No w (aL 18 (t:Int) V vc (.slice N S.length P) T vn vt vp);have nb:=yY w (aL 18 (t:Int) V vc (.slice N S.length P) T vn vt vp);have n1:(w.alloc (aL 18 (t:Int) V vc (.slice N S.length P) T vn vt vp)).cell? (J w.heap.size 1)=some (U (t:Int)):=cr nb rfl;have a4:=A4 A1 q4;have H:=O A1;clear A1 nb;go_in;go_wp2_with fail;generalize (w.alloc (aL 18 (t:Int) V vc (.slice N S.length P) T vn vt vp))=W at*;have S0:Hid (W.drew.cell? (J w.heap.size 1)=some (U (t:Int))/\W.drew.cell? (J b 4)=some (.map (some d))/\(Instr.lookup 46 (.map (some d)) (U (i:Int)) false).run prog W.drew=.ok (U (G:Int)) W.drew/\Hid (KC W W.drew/\R [] W.drew)):=⟨n1,a4,a6.u _ (L.u _ (B6 H.u (I.drewN _ _ 1))),⟨KC.y (I.drewN _ _ 1),L.u _ (B6 H.u (I.drewN _ _ 1))⟩⟩;have ah:=n1;have av:=a4;have ao:=blt ah;have ar:=blt av;simp only at ao ar;have b1:(Instr.lookup 46 (.map (some d)) (U (i:Int)) false).run prog W.drew=.ok (U (G:Int)) W.drew:=a6.u _ (L.u _ (B6 H.u (I.drewN _ _ 1)));clear S0 n1 a4 q4;go_region_with (first
  |(go_at_call 51;refine(HF.u _ (L.u _ (B6 H.u (I.drewN _ _ 1)))).mono ?_;rintro r b7 (⟨⟨x,y,rfl⟩,hP⟩|⟨q,rfl,a3,B,ae,aa⟩);exact⟨rfl,.inl ⟨⟨x,y,rfl⟩,hP⟩⟩;have b5:=aa.cell ah)
  |(refine(HT.u _ q a3 B ae).mono ?_;rintro r b8 (⟨⟨x,y,rfl⟩,hP⟩|⟨rfl,a8,an⟩);exact⟨rfl,.inl ⟨⟨x,y,rfl⟩,hP⟩⟩));all_goals
  have H6:=O a8;have ai:=O (HA.u q B);clear a8 an aa ae B;go_wp2_with fail;go_end0;exact .inr ⟨rfl,_,ai.u,H6.u⟩
def Zs(G:cP n c b j k d l g)(hL:fU c Z m a i)(v:mC n c b j k d l p o g Z m a i h f R e)(L)(hk:c.N[i].x=19)(hR:R [] w):
 Calls prog 29 #[pV b,U i,.func (.func h) #[] f] w λr w'=>((∃x y,r=gu x y)/\e r w')\/(r=rT/\∃a5,aM c a i=some a5/\R a5 w'):=by
 have ax:=v.cf;have a3:=v.st _ _ hR;have hf:=G.ok.ep i L;obtain⟨oa,oc,b1,fz,q0,q1,q2,q3,q4,q5,q6,qp,qo⟩:=a3.cell;obtain⟨aw,nc,M,N,au,hg,b0,aq,⟨x0,x1,x2,x3,x4,x5,x6,x7,x8⟩,az,-⟩:=(G.fg a3.P).at (Below.refl _ _) i L;have ay:=G.ok.fh;unfold maxLen at aq;have ae:=(hf.k2 (by omega)).2;obtain⟨z,b4,hp,af,-⟩:=hL.pe _ ae;have a2:aM c a i=(J7 a c.N[i]).map λak=>[(c.N[i].b,ak)]:=by
  unfold aM;simp only[B9 L];rw[zY (by omega),zY (by omega),zY (by omega),zY (by omega),wY hk]
 obtain⟨D,ah⟩:∃D,D=(J7 a c.N[i]).getD Z5:=⟨_,rfl⟩;obtain⟨F,ai⟩:∃F,F=c.N[i].b:=⟨_,rfl⟩;have RS:∀u,R [] u->aS n u c b j k d l p o g Z m:=λu s=>v.st _ _ s;obtain⟨pa,ra,a9,aa,ab,ac,ad⟩:=hL.pe _ (hf.k2 (by omega)).1;have HF:Hid (∀u,R [] u->Calls prog 52 #[pV b,U (i:Int)] u λr A=>((∃x y,r=gu x y)/\e r A)\/∃q:Nat,r=.returned (U (q:Int))/\q<(tl c Z).length/\J7 a c.N[i]=some (tr (tl c Z) q)/\R [] A/\KC u A):=λu s=>by
  refine(VQ G (RS u s) i L pa a9 aa ra ab ac ad.symm).mono ?_;rintro r A ⟨hc,B⟩;revert B;cases t:J7 a c.N[i] with
  |none=>
   intro B;refine .inl ⟨⟨_,_,B⟩,?_⟩;have ao:r=gu 9 (cI c.N i):=B;subst ao;have ar:aM c a i=none:=by rw[a2,t];rfl
   exact v.bad _ _ _ s hc ar
  |some ak=>
   intro B;obtain⟨hC,q,rfl,H,b2⟩:=B;exact .inr ⟨q,rfl,H,by grind,v.gy _ _ _ s hc hC,(RS u s).kc hc⟩
 have HT:Hid (∀(u:E) (q:Nat),q<(tl c Z).length->J7 a c.N[i]=some (tr (tl c Z) q)->R [] u->Calls prog h (#[U (z:Int),U (q:Int)]++f) u λr A=>((∃x y,r=gu x y)/\e r A)\/(r=rT/\R [(F,D)] A/\KC u A)):=λu q H t s=>by
  have he:D=tr (tl c Z) q:=by rw[ah,t];rfl
  have am:aM c a i=some [(F,D)]:=by rw[a2,t,ai,he];rfl
  refine(v.tell [] u _ F z q s (by grind) (by omega) H am (by grind) (by simp)).mono ?_;grind
 have HA:Hid (∀q:Nat,J7 a c.N[i]=some (tr (tl c Z) q)->aM c a i=some [(F,D)]):=λq t=>by
  grind
 have HR:Hid (∀u,I No w u->R [] u):=λu s=>v.y _ _ _ hR s;generalize J7 a c.N[i]=FT at*;rw[af]at x2;clear qp qo a3 G hL v hR hf ae af ah ai RS a2 fz a9 aa ab ac ad;generalize a8:c.N[i]=nd at*;have av:=O a8;clear a8;obtain⟨kd,T,vb,V,P,S,vn,vt,vp⟩:=nd;subst au;simp only at*;subst hk;have A1:=I.alloc No w (aL 19 T (z:Int) V (.slice M P.length N) S vn vt vp);have nb:=yY w (aL 19 T (z:Int) V (.slice M P.length N) S vn vt vp);have n1:(w.alloc (aL 19 T (z:Int) V (.slice M P.length N) S vn vt vp)).cell? (J w.heap.size 2)=some (U (z:Int)):=cr nb rfl;have a4:=O A1;clear A1 nb;go_in;go_wp2_with fail;generalize (w.alloc (aL 19 T (z:Int) V (.slice M P.length N) S vn vt vp))=W at*;have S0:Hid (W.drew.cell? (J w.heap.size 2)=some (U (z:Int))/\Hid (KC W W.drew/\R [] W.drew)):=⟨n1,⟨KC.y (I.drewN _ _ 1),HR.u _ (B6 a4.u (I.drewN _ _ 1))⟩⟩;have aj:=n1;have ap:=blt aj;simp only at ap;clear S0 n1;go_region_with (first
  |(go_at_call 52;refine(HF.u _ (HR.u _ (B6 a4.u (I.drewN _ _ 1)))).mono ?_;rintro r b5 (⟨⟨x,y,rfl⟩,hP⟩|⟨q,rfl,H,t,ag,a7⟩);exact⟨rfl,.inl ⟨⟨x,y,rfl⟩,hP⟩⟩;have b3:=a7.cell aj)
  |(refine(HT.u _ q H t ag).mono ?_;rintro r b6 (⟨⟨x,y,rfl⟩,hP⟩|⟨rfl,a6,an⟩);exact⟨rfl,.inl ⟨⟨x,y,rfl⟩,hP⟩⟩));all_goals
  have H6:=O a6;have al:=O (HA.u q t);clear a6 an a7 ag t;go_wp2_with fail;go_end0;exact .inr ⟨rfl,_,al.u,H6.u⟩
def Zu(G:cP n c b j k d l g)(M:fU c Z m a i)(v:mC n c b j k d l p o g Z m a i h f R e)(P)(L:c.N[i].x=20)(hR:R [] w):
 Calls prog 29 #[pV b,U i,.func (.func h) #[] f] w λr w'=>((∃x y,r=gu x y)/\e r w')\/(r=rT/\∃a5,aM c a i=some a5/\R a5 w'):=by
 have b3:=v.cf;have a3:=v.st _ _ hR;have N:=G.ok.ep i P;obtain⟨oa,oc,b7,fz,q0,q1,q2,q3,q4,q5,q6,qp,qo⟩:=a3.cell;obtain⟨b2,nc,S,T,az,hg,b6,ax,⟨x0,x1,x2,x3,x4,x5,x6,x7,x8⟩,b5,-⟩:=(G.fg a3.P).at (Below.refl _ _) i P;have b4:=G.ok.fh;unfold maxLen at ax;have aj:=(N.kl L).2.2;obtain⟨z,ba,hp,ak,-⟩:=M.pe _ aj;have a2:aM c a i=(J2 a c.N[i]).map λap=>[(c.N[i].c,ap)]:=by
  unfold aM;simp only[B9 P];rw[zY (by omega),zY (by omega),zY (by omega),zY (by omega),zY (by omega),wY L]
 obtain⟨D,am⟩:∃D,D=(J2 a c.N[i]).getD Z5:=⟨_,rfl⟩;obtain⟨F,an⟩:∃F,F=c.N[i].c:=⟨_,rfl⟩;have RS:∀u,R [] u->aS n u c b j k d l p o g Z m:=λu s=>v.st _ _ s;obtain⟨pa,ra,a9,aa,ab,ac,ad⟩:=M.pe _ (N.kl L).1;obtain⟨b0,rc,ae,af,ag,ah,ai⟩:=M.pe _ (N.kl L).2.1;have HF:Hid (∀u,R [] u->Calls prog 53 #[pV b,U (i:Int)] u λr A=>((∃x y,r=gu x y)/\e r A)\/∃q:Nat,r=.returned (U (q:Int))/\q<(tl c Z).length/\J2 a c.N[i]=some (tr (tl c Z) q)/\R [] A/\KC u A):=λu s=>by
  refine(WS G (RS u s) i P pa a9 aa ra ab ac ad.symm b0 ae af rc ag ah ai.symm).mono ?_;rintro r A ⟨hc,B⟩;revert B;cases t:J2 a c.N[i] with
  |none=>
   intro B;refine .inl ⟨⟨_,_,B⟩,?_⟩;have av:r=gu 9 (cI c.N i):=B;subst av;have ay:aM c a i=none:=by rw[a2,t];rfl
   exact v.bad _ _ _ s hc ay
  |some ap=>
   intro B;obtain⟨hC,q,rfl,H,b8⟩:=B;exact .inr ⟨q,rfl,H,by grind,v.gy _ _ _ s hc hC,(RS u s).kc hc⟩
 have HT:Hid (∀(u:E) (q:Nat),q<(tl c Z).length->J2 a c.N[i]=some (tr (tl c Z) q)->R [] u->Calls prog h (#[U (z:Int),U (q:Int)]++f) u λr A=>((∃x y,r=gu x y)/\e r A)\/(r=rT/\R [(F,D)] A/\KC u A)):=λu q H t s=>by
  have he:D=tr (tl c Z) q:=by rw[am,t];rfl
  have ar:aM c a i=some [(F,D)]:=by rw[a2,t,an,he];rfl
  refine(v.tell [] u _ F z q s (by grind) (by omega) H ar (by grind) (by simp)).mono ?_;grind
 have HA:Hid (∀q:Nat,J2 a c.N[i]=some (tr (tl c Z) q)->aM c a i=some [(F,D)]):=λq t=>by
  grind
 have HR:Hid (∀u,I No w u->R [] u):=λu s=>v.y _ _ _ hR s;generalize J2 a c.N[i]=FT at*;rw[ak]at x3;clear qp qo a3 G M v hR N aj ak am an RS a2 fz a9 aa ab ac ad ae af ag ah ai;generalize a8:c.N[i]=nd at*;have b1:=O a8;clear a8;obtain⟨kd,va,vb,vc,V,tx,vn,vt,vp⟩:=nd;subst az;simp only at*;subst L;have A1:=I.alloc No w (aL 20 va vb (z:Int) (.slice S V.length T) tx vn vt vp);have nb:=yY w (aL 20 va vb (z:Int) (.slice S V.length T) tx vn vt vp);have n1:(w.alloc (aL 20 va vb (z:Int) (.slice S V.length T) tx vn vt vp)).cell? (J w.heap.size 3)=some (U (z:Int)):=cr nb rfl;have a4:=O A1;clear A1 nb;go_in;go_wp2_with fail;generalize (w.alloc (aL 20 va vb (z:Int) (.slice S V.length T) tx vn vt vp))=W at*;have S0:Hid (W.drew.cell? (J w.heap.size 3)=some (U (z:Int))/\Hid (KC W W.drew/\R [] W.drew)):=⟨n1,⟨KC.y (I.drewN _ _ 1),HR.u _ (B6 a4.u (I.drewN _ _ 1))⟩⟩;have ao:=n1;have aw:=blt ao;simp only at aw;clear S0 n1;go_region_with (first
  |(go_at_call 53;refine(HF.u _ (HR.u _ (B6 a4.u (I.drewN _ _ 1)))).mono ?_;rintro r bb (⟨⟨x,y,rfl⟩,hP⟩|⟨q,rfl,H,t,al,a7⟩);exact⟨rfl,.inl ⟨⟨x,y,rfl⟩,hP⟩⟩;have b9:=a7.cell ao)
  |(refine(HT.u _ q H t al).mono ?_;rintro r bc (⟨⟨x,y,rfl⟩,hP⟩|⟨rfl,a6,au⟩);exact⟨rfl,.inl ⟨⟨x,y,rfl⟩,hP⟩⟩));all_goals
  have H6:=O a6;have aq:=O (HA.u q t);clear a6 au a7 al t;go_wp2_with fail;go_end0;exact .inr ⟨rfl,_,aq.u,H6.u⟩
end
