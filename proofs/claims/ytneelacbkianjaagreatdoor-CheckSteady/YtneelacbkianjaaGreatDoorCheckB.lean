/-
  A part of the proof.
-/
import Derived.Test.YtneelacbkianjaaGreatDoorCheckA
set_option maxHeartbeats 16000000
set_option maxRecDepth 100000
namespace Go.Proofs.YtneelacbkianjaaGreatDoor
open Go.Proofs.Tryz
open Go.RowKit Go.Maps
structure TlC(w0:lZ)(c:Cx)(pb lb mb qb:Nat)(nv yv:Value)(mn:Int)(fv:Value)(Z:List Ty)(ofs:uZ)(of:Of)(i:Nat)(kf:FuncId)(cp:Array Value)(R:List (Int×Tr)->lZ->Prop)(Pn:Ending->lZ->Prop):Prop where
 cf:∀(args:Array Value) (W:lZ),(callFunc kf args).run prog W= .ok (.enter kf args) W
 st:∀l u,R l u->Cst w0 u c pb lb mb qb nv yv mn fv Z ofs
 still:∀l u u',R l u->I No u u'->R l u'
 memo:∀l u u',R l u->I (λk=>k=mb) u u'->Cst w0 u' c pb lb mb qb nv yv mn fv Z ofs->R l u'
 bad:∀l u u',R l u->I (λk=>k=mb) u u'->O9 c of i=none->Pn (gu 9 (atI c.N i)) u'
 tell:∀l u L (x:Int) (p a:Nat),R l u->Pe c.N i x->x=(p:Int)->a<(tl c Z).length->O9 c of i=some L->(x,tr (tl c Z) a)∈L->l.length<1200->
  Calls prog kf (#[U (p:Int),U (a:Int)]++cp) u λe u'=>((∃x y,e=gu x y)/\Pn e u')\/(e=rT/\R (l++[(x,tr (tl c Z) a)]) u'/\KC u u')
section
variable{n w:lZ}{c:Cx}{b j k d:Nat}{l p g:Value}{o:Int}{Z:List Ty}{m:uZ}{a:Of}{i:Nat}{h:FuncId}{f:Array Value}{R:List (Int×Tr)->lZ->Prop}{e:Ending->lZ->Prop}
theorem F3e(t:Cbs n c b j k d l g)(B:Lks c Z m a i)(q:TlC n c b j k d l p o g Z m a i h f R e)(E:i<c.N.length)(v:c.N[i].kind=14)(C:R [] w):
 Calls prog 109 #[pV b,U (i:Int),.func (.func h) #[] f] w λs S=>((∃x y,s=gu x y)/\e s S)\/(s=rT/\∃L,O9 c a i=some L/\R L S):=by
 have a9:=q.cf;have A:=q.st _ _ C;have D:=t.ok.flat i E;obtain⟨oa,oc,ad,fz,q0,q1,q2,q3,q4,q5,q6,qp,qo⟩:=A.cell;obtain⟨a7,nc,la,lc,a5,hg,ac,a4,⟨x0,x1,x2,x3,x4,x5,x6,x7,x8⟩,ab,-⟩:=(t.nrow A.chg).at (Below.refl _ _) i E;have aa:=t.ok.lenN;unfold maxLen at a4;have G:Pe c.N i c.N[i].a:=(D.k14 v).1;obtain⟨P,ae,hp,F,-⟩:=B.pe _ G;obtain⟨r,a2,Y,M⟩:=B.wt _ ((D.k14 v).2);have z:Hid (O9 c a i=some [(c.N[i].a,tr (tl c Z) r)]):=by
  show _=_;unfold O9;simp only[F7 E];rw[M];rw[yY (by omega),rY v]
 have H:Hid (∀u,I No w u->_):=λu hu=>q.tell [] u _ c.N[i].a P r (q.still _ _ _ C hu) G F Y z.o (by simp) (by simp);rw[F]at x1;rw[a2]at x7;simp only[F,lY]at z H;clear qp qo A t B q C q1 q2 q3 q4 q5 q6 D M G;generalize N:c.N[i]=nd at *;have a6:=O N;clear N;obtain⟨kd,va,vb,vc,ls,tx,vn,vt,vp⟩:=nd;subst a5;simp only at *;subst v;have T:=O (I.alloc No w (ndC 14 (P:Int) vb vc (.slice la ls.length lc) tx vn (r:Int) vp));have a8:((r:Int) != -1)=true:=by first|(simp;done)|(simp;omega)
 go_enter func109,ntmps109;go_wp2_with fail
 refine(H.o _ T.o).mono ?_;rintro s af (⟨⟨x,y,rfl⟩,X⟩|⟨rfl,K,a3⟩)
 · have V:=O X;exact⟨rfl,.inl ⟨⟨x,y,rfl⟩,V.o⟩⟩
 · have W:=O K;clear K a3;go_wp2_with fail
   go_end0;exact .inr ⟨rfl,_,z.o,W.o⟩
theorem F2e(t:Cbs n c b j k d l g)(B:Lks c Z m a i)(q:TlC n c b j k d l p o g Z m a i h f R e)(E:i<c.N.length)(v:c.N[i].kind=17)(P:c.N[i].ty≠-1)(C:R [] w):
 Calls prog 109 #[pV b,U (i:Int),.func (.func h) #[] f] w λs T=>((∃x y,s=gu x y)/\e s T)\/(s=rT/\∃L,O9 c a i=some L/\R L T):=by
 have aa:=q.cf;have A:=q.st _ _ C;have D:=t.ok.flat i E;obtain⟨oa,oc,ae,fz,q0,q1,q2,q3,q4,q5,q6,qp,qo⟩:=A.cell;obtain⟨a8,nc,la,lc,a6,hg,ad,a5,⟨x0,x1,x2,x3,x4,x5,x6,x7,x8⟩,ac,-⟩:=(t.nrow A.chg).at (Below.refl _ _) i E;have ab:=t.ok.lenN;unfold maxLen at a5;have G:Pe c.N i c.N[i].a:=(D.k17 v).2;obtain⟨S,af,hp,F,-⟩:=B.pe _ G;obtain⟨r,a3,a2,M⟩:=B.wt _ ((D.k17 v).1.resolve_left P);have z:Hid (O9 c a i=some [(c.N[i].a,tr (tl c Z) r)]):=by
  show _=_;unfold O9;simp only[F7 E];rw[M];rw[yY (by omega),yY (by omega),rY v,rY P]
 have H:Hid (∀u,I No w u->_):=λu hu=>q.tell [] u _ c.N[i].a S r (q.still _ _ _ C hu) G F a2 z.o (by simp) (by simp);rw[F]at x1;rw[a3]at x7;simp only[F,lY]at z H;clear qp qo A t B q C q1 q2 q3 q4 q5 q6 D M G;generalize N:c.N[i]=nd at *;have a7:=O N;clear N;obtain⟨kd,va,vb,vc,ls,tx,vn,vt,vp⟩:=nd;subst a6;simp only at *;subst v;have V:=O (I.alloc No w (ndC 17 (S:Int) vb vc (.slice la ls.length lc) tx vn (r:Int) vp));have a9:((r:Int) != -1)=true:=by first|(simp;done)|(simp;omega)
 go_enter func109,ntmps109;go_wp2_with fail
 refine(H.o _ V.o).mono ?_;rintro s ag (⟨⟨x,y,rfl⟩,Y⟩|⟨rfl,K,a4⟩)
 · have W:=O Y;exact⟨rfl,.inl ⟨⟨x,y,rfl⟩,W.o⟩⟩
 · have X:=O K;clear K a4;go_wp2_with fail
   go_end0;exact .inr ⟨rfl,_,z.o,X.o⟩
theorem I7e(t:Cbs n c b j k d l g)(_hL:Lks c Z m a i)(v:TlC n c b j k d l p o g Z m a i h f R e)(A:i<c.N.length)(r:c.N[i].kind≠7/\c.N[i].kind≠14/\(c.N[i].kind=17->c.N[i].ty= -1)/\c.N[i].kind≠18/\c.N[i].kind≠19/\c.N[i].kind≠20/\c.N[i].kind≠24)(z:R [] w):
 Calls prog 109 #[pV b,U (i:Int),.func (.func h) #[] f] w λx E=>((∃a2 a3,x=gu a2 a3)/\e x E)\/(x=rT/\∃L,O9 c a i=some L/\R L E):=by
 have ab:=v.cf;have y:=v.st _ _ z;have F:=t.ok.flat i A;obtain⟨oa,oc,af,fz,q0,q1,q2,q3,q4,q5,q6,qp,qo⟩:=y.cell;obtain⟨a4,nc,la,lc,K,hg,ae,G,⟨x0,x1,x2,x3,x4,x5,x6,x7,x8⟩,ad,-⟩:=(t.nrow y.chg).at (Below.refl _ _) i A;have ac:=t.ok.lenN;unfold maxLen at G;have C:Hid (O9 c a i=some []):=by
  show _=_;unfold O9;simp only[F7 A];rw[yY r.1,yY r.2.1];by_cases s:c.N[i].kind=17
  · rw[rY s,yY (by simp[r.2.2.1 s])]
  · rw[yY s,yY r.2.2.2.1,yY r.2.2.2.2.1,yY r.2.2.2.2.2.1,yY r.2.2.2.2.2.2]
 have D:Hid (∀u,I No w u->R [] u):=λu N=>v.still _ _ _ z N;clear qp qo y t v z q1 q2 q3 q4 q5 q6 F;generalize H:c.N[i]=nd at *;clear H;obtain⟨q,va,vb,vc,ls,tx,vn,vt,vp⟩:=nd;subst K;simp only at *;obtain⟨Y,P,S,T,V,W,X⟩:=r;have g7:(q==7)=false:=by simpa using Y
 have a5:(q==14)=false:=by simpa using P
 have a7:(q==18)=false:=by simpa using T
 have a8:(q==19)=false:=by simpa using V
 have a9:(q==20)=false:=by simpa using W
 have aa:(q==24)=false:=by simpa using X
 have B:=O (I.alloc No w (ndC q va vb vc (.slice la ls.length lc) tx vn vt vp));by_cases s:q=17
 · have M:=S s;subst s M;go_enter func109,ntmps109;go_wp2_with fail
   go_end0;exact .inr ⟨rfl,_,C.o,D.o _ B.o⟩
 · have a6:(q==17)=false:=by simpa using s
   go_enter func109,ntmps109;go_wp2_with fail
   go_end0;exact .inr ⟨rfl,_,C.o,D.o _ B.o⟩
theorem S7c{u v:Type}(r:List u)(s:List v){q:Nat}(x:q<r.length)(y:q<s.length):(r.zip s).take (q+1)=(r.zip s).take q++[(r[q],s[q])]:=by
 have t:q<(r.zip s).length:=by rw[List.length_zip];omega
 rw[nQ t,List.getElem_zip]
theorem C6e(hB:Cbs n c b j k d l g)(hL:Lks c Z m a i)(N:TlC n c b j k d l p o g Z m a i h f R e)(hi:i<c.N.length)(S:c.N[i].kind=7)(y:(ofA a c.N[i].a).k=5\/((ofA a c.N[i].a).k=9/\c.N[i].list.length=(ofA a c.N[i].a).ks.tail.length))(A:Option Addr)(B:Nat)(au:w.ownsRow 0 3 1 (.slice A c.N[i].list.length B) c.N[i].list.length (C8 c.N[i].list))(hR:R [] w):
 Calls prog 159 #[pV b,nvl c.N[i] A B,.func (.func h) #[] f] w λC w'=>((∃x af,C=gu x af)/\e C w')\/(C=rT/\∃L,O9 c a i=some L/\R L w'):=by
 have bg:=N.cf;have F:=N.st _ _ hR;have hf:=hB.ok.flat i hi;have P:=F.ts;obtain⟨oa,oc,bt,fz,q0,q1,q2,q3,q4,q5,q6,qp,qo⟩:=F.cell;obtain⟨v,r,hp,bb,hr,D,ab⟩:=hL.pe _ (hf.k7 S).1;obtain⟨go,rfl,bq,br,bs,ba,y0,-⟩:=qo v hp;rw[hr]at y0;obtain⟨bf,hs⟩:=F.sho;obtain⟨fa,fc,bc,bd,⟨-,av⟩,ao⟩:=H9e r w D hs;have HG:=O ao;have H:(tl c Z)[r].kind=(ofA a c.N[i].a).k:=by rw[<-ab,D7a P D]
 have HI:Hid (∀u,I No w u->_):=λu T=>S4d (F.still T) v hp r hr D;have HR:Hid (∀u,I No w u->R [] u):=λu T=>N.still _ _ _ hR T;have a6:Hid ((tl c Z)[r].kind=5->O9 c a i=some []):=λh5=>by
  unfold O9;simp only[F7 hi];rw[rY S,rY (by rw[<-H];exact h5)]
 have aq:(tl c Z)[r].kind=9->(ofA a c.N[i].a).ks.tail=(tl c Z)[r].list.map λx=>tr (tl c Z) x.toNat:=λG=>by
  rw[<-ab,M9a P D,rY (.inr G),R7a P D (by omega)];simp
 have a7:Hid ((tl c Z)[r].kind=9->O9 c a i=some (c.N[i].list.zip ((tl c Z)[r].list.map λx=>tr (tl c Z) x.toNat))/\c.N[i].list.length=(tl c Z)[r].list.length):=λG=>by
  have e1:=aq G;constructor
  · unfold O9;simp only[F7 hi];rw[rY S,yY (by rw[<-H];omega),e1]
  · rcases y with y|y
    · rw[<-H]at y;omega
    · rw[y.2,e1,iZ]
 have b3:(tl c Z)[r].kind=5\/(tl c Z)[r].kind=9:=by
  rcases y with y|y
  · exact .inl (by rw[H];exact y)
  · exact .inr (by rw[H];exact y.1)
 have ag:=O (P r D).lst;have ak:=O (hf.k7 S).2;have al:Hid (∀ac u L (x:Int) (v E:Nat),R ac u->Pe c.N i x->x=(v:Int)->E<(tl c Z).length->O9 c a i=some L->(x,tr (tl c Z) E)∈L->_):=λac u L x v E=>N.tell ac u L x v E;have b1:=O D;have bo:=hB.ok.ls i hi;have ah:=O au;have ai:=O av;have bh:=F.le;have bp:=G7e;unfold maxLen at ba;clear qp qo F hB hL N hR hf ao au av aq H y hr ab fz q0 q1 q2 q4 q5 hs P;unfold nvl;generalize b8:c.N[i]=nd at *;clear b8;generalize (tl c Z)[r]=be at *;obtain⟨kd,va,X,Y,q,W,vn,vt,vp⟩:=nd;obtain⟨bv,tf,t,bw⟩:=be;simp only at *;subst S bb;have K:=I.alloc No w (ndC 7 (v:Int) X Y (.slice A q.length B) W vn vt vp);have nb:=qY w (ndC 7 (v:Int) X Y (.slice A q.length B) W vn vt vp);have n1:(w.alloc (ndC 7 (v:Int) X Y (.slice A q.length B) W vn vt vp)).cell? (J w.heap.size 1)=some (U (v:Int)):=cr nb rfl;have V:(w.alloc (ndC 7 (v:Int) X Y (.slice A q.length B) W vn vt vp)).cell? (J w.heap.size 4)=some (.slice A q.length B):=cr nb rfl;have a4:=A8 K q3;have ad:=A8 K q6;have a5:=A8 K y0;have M:=O K;clear K nb q3 q6 y0;rcases b3 with h5|G
 · have e5:=O (a6.o h5);have a2:=O (HI.o _ M.o);have RW:Hid (∀u,I No (w.alloc (ndC 7 (v:Int) X Y (.slice A q.length B) W vn vt vp)) u->R [] u):=λu T=>HR.o _ (D3 M.o T);subst h5;clear a6 a7 HG ag ak al;go_enter func159,ntmps159;go_wp2_with fail
   refine a2.o.mono ?_;rintro C az ⟨rfl,z⟩;have H5:=O (RW.o _ z);clear z;go_wp2_with fail
   refine bodyPost_ret (results_none rfl _ _ _) rfl ?_;exact .inr ⟨rfl,_,e5.o,H5.o⟩
 · obtain⟨e9,ar⟩:=a7.o G;have E9:=O e9;have b0:=O ar;have a2:=O (HI.o _ M.o);subst G;clear a6 a7 e9 HI ar;go_enter func159,ntmps159;go_wp2_with fail
   refine a2.o.mono ?_;rintro C az ⟨rfl,z⟩;replace n1:=A8 z n1;replace V:=A8 z V;replace a4:=A8 z a4;replace ad:=A8 z ad;replace a5:=A8 z a5;have C5:=O (D3 M.o z);have ay:=blt a4;have an:=blt a5;have ax:=blt n1;simp only at ay an ax;clear z M a2;go_wp2_with fail
   go_cut [6] (λv6 wc=>v6= .slice bc t.length bd/\Hid (I No az wc))
   case first=>
    go_region_with (go_at_call 112;refine(HG.o _ (D3 C5.o (I.drewN _ _ 1))).mono ?_;rintro C bx ⟨rfl,rfl⟩)
    all_goals go_wp2_with fail
    all_goals go_meet
    all_goals exact⟨rfl,by first|exact D3 (I.alloc No _ _) (I.drewN No _ 1)|exact D3 (I.drewN No _ 1) (I.alloc No _ _)⟩
   case rest=>
    obtain⟨rfl,CW⟩:=hcut;have CX:=O (D3 C5.o CW.o);replace V:=A8 CW.o V;have b9:=blt V;simp only at b9;have R0:=O (HR.o _ CX.o);have O1:=O (A4 ah.o CX.o (λ_ _ x=>x));have O2:=O (A4 ai.o CX.o (λ_ _ x=>x));clear ah ai HR C5 CX CW HG n1 a4 ad a5 ay an ax;go_wp2_with fail
    go_loopw [30] (λae wr=>∃s:Nat,s<=q.length/\ae=U (s:Int)/\Hid (R ((q.zip (t.map λx=>tr (tl c Z) x.toNat)).take s) wr)/\Hid (KC wc wr)) (λae _=>q.length - (intOf ae).toNat)
    case atStart=>exact⟨0,wQ _,rfl,R0.o,KC.refl _⟩
    case round=>
     obtain⟨s,hj,rfl,RR,KR⟩:=hrel;by_cases a8:s<q.length
     · obtain⟨g2,b6,bi,bm,b4,v0⟩:=D9 (KR.o.row O1.o) a8;subst b6;have a9:s<t.length:=by have:=b0.o;omega
       obtain⟨g3,b7,bj,bn,b5,v1⟩:=D9 (KR.o.row O2.o) a9;subst b7;have hx:=ak.o q[s] (mQ a8);obtain⟨pj,aa,-⟩:=id hx;have ha:=ag.o t[s] (mQ a9);obtain⟨aj,a3⟩:∃E:Nat,t[s]=(E:Int):=⟨t[s].toNat,by omega⟩;have bu:=b1.o;have aw:(q[s],tr (tl c Z) aj)∈q.zip (t.map λx=>tr (tl c Z) x.toNat):=by
        have hz:s<(q.zip (t.map λx=>tr (tl c Z) x.toNat)).length:=by rw[List.length_zip,iZ];omega
        have:=mQ hz;rw[List.getElem_zip,List.getElem_map,a3,tQ]at this;exact this
       have HT:=O (al.o _ wr _ q[s] pj aj RR.o hx aa (by omega) E9.o aw (by rw[List.length_take];omega));have HZ:Hid ((q.zip (t.map λx=>tr (tl c Z) x.toNat)).take (s+1)=(q.zip (t.map λx=>tr (tl c Z) x.toNat)).take s++[(q[s],tr (tl c Z) aj)]):=by
        show _=_;rw[S7c _ _ a8 (by rw[iZ];exact a9),List.getElem_map,a3,tQ]
       rw[aa]at v0;rw[a3]at v1;have bk:(s:Int)<(t.length:Int):=by omega
       unfold maxLen at b4 b5;clear hx aa ha a3 aw;go_wp2_with fail
       refine HT.o.mono ?_;rintro C bz (⟨⟨x,af,rfl⟩,hP⟩|⟨rfl,am,ap⟩)
       · have HP:=O hP;exact⟨rfl,.inl ⟨⟨x,af,rfl⟩,HP.o⟩⟩
       · have R7:=O am;have K7:=O (KR.o.trans ap);clear am ap;go_wp2_with fail
         go_roundw
         case rel=>exact⟨s+1,by omega,by go_num,(show R _ _ from by rw[HZ.o];exact R7.o),K7.o⟩
         case measure=>simp[intOf];omega
     · have b2:s=q.length:=by omega
       subst b2;have HZ:Hid ((q.zip (t.map λx=>tr (tl c Z) x.toNat)).take q.length=q.zip (t.map λx=>tr (tl c Z) x.toNat)):=List.take_of_length_le (by rw[List.length_zip];omega);go_wp2_with fail
       go_end0;exact .inr ⟨rfl,_,E9.o,by rw[<-HZ.o];exact RR.o⟩
theorem F1e(A:Cbs n c b j k d l g)(hL:Lks c Z m a i)(B:TlC n c b j k d l p o g Z m a i h f R e)(K:i<c.N.length)(hk:c.N[i].kind=18)(hR:R [] w):
 Calls prog 109 #[pV b,U (i:Int),.func (.func h) #[] f] w λr w'=>((∃x y,r=gu x y)/\e r w')\/(r=rT/\∃aa,O9 c a i=some aa/\R aa w'):=by
 have ay:=B.cf;have a3:=B.st _ _ hR;have hf:=A.ok.flat i K;obtain⟨oa,oc,b3,fz,q0,q1,q2,q3,q4,q5,q6,qp,qo⟩:=a3.cell;obtain⟨ax,nc,L,M,aq,hg,b2,ap,⟨x0,x1,x2,x3,x4,x5,x6,x7,x8⟩,b1,-⟩:=(A.nrow a3.chg).at (Below.refl _ _) i K;have az:=A.ok.lenN;unfold maxLen at ap;have a5:Pe c.N i c.N[i].a:=hf.k1 (by omega);obtain⟨v,b5,hp,a6,-⟩:=hL.pe _ a5;have a2:O9 c a i=(some (W8 c a (c.ts.getD i 0))).map λav=>[(c.N[i].a,av)]:=by
  unfold O9;simp only[F7 K];rw[yY (by omega),yY (by omega),yY (by omega),rY hk];rfl
 obtain⟨C,a7⟩:∃C,C=(some (W8 c a (c.ts.getD i 0))).getD B3a:=⟨_,rfl⟩;obtain⟨D,E⟩:∃D,D=c.N[i].a:=⟨_,rfl⟩;have RS:∀u,R [] u->Cst n u c b j k d l p o g Z m:=λu s=>B.st _ _ s;obtain⟨F,a0,hj,am,ag,ak,ac,ad⟩:=hL.has _ (A.ok.nms.tg i K (.inr hk));have a9:Hid (∀u,R [] u->(Instr.lookup 42 (.map (some d)) (U (i:Int)) false).run prog u= .ok (U (F:Int)) u):=λu s=>by
  have hm:=(A.nm (RS u s).chg).get (i:Int) (by omega);rw[hm];unfold nmM;rw[rY ⟨by omega,by omega,by rw[tQ,hj];omega⟩,tQ,hj];rfl
 have HF:Hid (∀u,R [] u->Calls prog 74 #[pV b,U (F:Int)] u λr z=>((∃x y,r=gu x y)/\e r z)\/∃q:Nat,r= .returned (U (q:Int))/\q<(tl c Z).length/\some (W8 c a (c.ts.getD i 0))=some (tr (tl c Z) q)/\R [] z/\KC u z):=λu s=>by
  refine(F7d A (RS u s) F am ad).mono ?_;rintro r z ⟨rfl,hc⟩;exact .inr ⟨a0,by rw[ag],ak,by rw[ac],B.still _ _ _ s hc,KC.still hc⟩
 have HT:Hid (∀(u:lZ) (q:Nat),q<(tl c Z).length->some (W8 c a (c.ts.getD i 0))=some (tr (tl c Z) q)->R [] u->Calls prog h (#[U (v:Int),U (q:Int)]++f) u λr z=>((∃x y,r=gu x y)/\e r z)\/(r=rT/\R [(D,C)] z/\KC u z)):=λu q a4 t s=>by
  have he:C=tr (tl c Z) q:=by rw[a7,t];rfl
  have al:O9 c a i=some [(D,C)]:=by rw[a2,t,E,he];rfl
  refine(B.tell [] u _ D v q s (by rw[E];exact a5) (by rw[E];exact a6) a4 al (by rw[he];simp) (by simp)).mono ?_;rintro r z (y|⟨y1,y2,y3⟩)
  · exact .inl y
  · exact .inr ⟨y1,by rw[he];exact y2,y3⟩
 have HA:Hid (∀q:Nat,some (W8 c a (c.ts.getD i 0))=some (tr (tl c Z) q)->O9 c a i=some [(D,C)]):=λq t=>by
  rw[a2,t,E,a7,t];rfl
 have H:Hid (∀u,I No w u->R [] u):=λu s=>B.still _ _ _ hR s;generalize some (W8 c a (c.ts.getD i 0))=FT at *;rw[a6]at x1;clear qp qo a3 A hL B hR hf a5 a6 a7 E RS a2 fz ad ag ac;generalize af:c.N[i]=nd at *;have aw:=O af;clear af;obtain⟨kd,va,S,T,N,P,V,Y,X⟩:=nd;subst aq;simp only at *;subst hk;have A1:=I.alloc No w (ndC 18 (v:Int) S T (.slice L N.length M) P V Y X);have nb:=qY w (ndC 18 (v:Int) S T (.slice L N.length M) P V Y X);have n1:(w.alloc (ndC 18 (v:Int) S T (.slice L N.length M) P V Y X)).cell? (J w.heap.size 1)=some (U (v:Int)):=cr nb rfl;have a8:=A8 A1 q4;have G:=O A1;clear A1 nb;go_enter func109,ntmps109;go_wp2_with fail
 generalize (w.alloc (ndC 18 (v:Int) S T (.slice L N.length M) P V Y X))=W at *;have S0:Hid (W.drew.cell? (J w.heap.size 1)=some (U (v:Int))/\W.drew.cell? (J b 4)=some (.map (some d))/\(Instr.lookup 42 (.map (some d)) (U (i:Int)) false).run prog W.drew= .ok (U (F:Int)) W.drew/\Hid (KC W W.drew/\R [] W.drew)):=⟨n1,a8,a9.o _ (H.o _ (D3 G.o (I.drewN _ _ 1))),⟨KC.still (I.drewN _ _ 1),H.o _ (D3 G.o (I.drewN _ _ 1))⟩⟩;have ai:W.cell? (J w.heap.size 1)=some (U (v:Int)):=n1;have au:W.cell? (J b 4)=some (.map (some d)):=a8;have ao:=blt ai;have ar:=blt au;simp only at ao ar;have b0:(Instr.lookup 42 (.map (some d)) (U (i:Int)) false).run prog W.drew= .ok (U (F:Int)) W.drew:=a9.o _ (H.o _ (D3 G.o (I.drewN _ _ 1)));clear S0 n1 a8 q4;go_region_with (first
  |(go_at_call 74;refine(HF.o _ (H.o _ (D3 G.o (I.drewN _ _ 1)))).mono ?_;rintro r b6 (⟨⟨x,y,rfl⟩,hP⟩|⟨q,rfl,a4,t,ah,ae⟩);exact⟨rfl,.inl ⟨⟨x,y,rfl⟩,hP⟩⟩;have b4:=ae.cell ai)
  |(refine(HT.o _ q a4 t ah).mono ?_;rintro r b7 (⟨⟨x,y,rfl⟩,hP⟩|⟨rfl,ab,an⟩);exact⟨rfl,.inl ⟨⟨x,y,rfl⟩,hP⟩⟩))
 all_goals
  have H6:=O ab;have aj:=O (HA.o q t);clear ab an ae ah t;go_wp2_with fail
  go_end0;exact .inr ⟨rfl,_,aj.o,H6.o⟩
theorem F0e(E:Cbs n c b j k d l g)(hL:Lks c Z m a i)(A:TlC n c b j k d l p o g Z m a i h f R e)(K:i<c.N.length)(hk:c.N[i].kind=19)(hR:R [] w):
 Calls prog 109 #[pV b,U (i:Int),.func (.func h) #[] f] w λr w'=>((∃x y,r=gu x y)/\e r w')\/(r=rT/\∃a7,O9 c a i=some a7/\R a7 w'):=by
 have aw:=A.cf;have a2:=A.st _ _ hR;have hf:=E.ok.flat i K;obtain⟨oa,oc,b0,fz,q0,q1,q2,q3,q4,q5,q6,qp,qo⟩:=a2.cell;obtain⟨av,nc,L,M,aq,hg,az,ao,⟨x0,x1,x2,x3,x4,x5,x6,x7,x8⟩,ay,-⟩:=(E.nrow a2.chg).at (Below.refl _ _) i K;have ax:=E.ok.lenN;unfold maxLen at ao;have a3:Pe c.N i c.N[i].b:=(hf.k2 (by omega)).2;obtain⟨v,b2,hp,a4,-⟩:=hL.pe _ a3;have H:O9 c a i=(N9 a c.N[i]).map λai=>[(c.N[i].b,ai)]:=by
  unfold O9;simp only[F7 K];rw[yY (by omega),yY (by omega),yY (by omega),yY (by omega),rY hk]
 obtain⟨C,a5⟩:∃C,C=(N9 a c.N[i]).getD B3a:=⟨_,rfl⟩;obtain⟨D,G⟩:∃D,D=c.N[i].b:=⟨_,rfl⟩;have RS:∀u,R [] u->Cst n u c b j k d l p o g Z m:=λu t=>A.st _ _ t;obtain⟨pa,ra,ab,ac,ad,ae,af⟩:=hL.pe _ (hf.k2 (by omega)).1;have HF:Hid (∀u,R [] u->Calls prog 76 #[pV b,U (i:Int)] u λr z=>((∃x y,r=gu x y)/\e r z)\/∃q:Nat,r= .returned (U (q:Int))/\q<(tl c Z).length/\N9 a c.N[i]=some (tr (tl c Z) q)/\R [] z/\KC u z):=λu t=>by
  refine(K3c E (RS u t) i K pa ab ac ra ad ae af.symm).mono ?_;rintro r z ⟨hc,B⟩;revert B;cases s:N9 a c.N[i] with
  |none=>
   intro B;refine .inl ⟨⟨_,_,B⟩, ?_⟩;have am:r=gu 9 (atI c.N i):=B;subst am;have ap:O9 c a i=none:=by rw[H,s];rfl
   exact A.bad _ _ _ t hc ap
  |some ai=>
   intro B;obtain⟨hC,q,rfl,F,ar⟩:=B;exact .inr ⟨q,rfl,F,by rw[ar],A.memo _ _ _ t hc hC,(RS u t).kc hc⟩
 have HT:Hid (∀(u:lZ) (q:Nat),q<(tl c Z).length->N9 a c.N[i]=some (tr (tl c Z) q)->R [] u->Calls prog h (#[U (v:Int),U (q:Int)]++f) u λr z=>((∃x y,r=gu x y)/\e r z)\/(r=rT/\R [(D,C)] z/\KC u z)):=λu q F s t=>by
  have he:C=tr (tl c Z) q:=by rw[a5,s];rfl
  have ak:O9 c a i=some [(D,C)]:=by rw[H,s,G,he];rfl
  refine(A.tell [] u _ D v q t (by rw[G];exact a3) (by rw[G];exact a4) F ak (by rw[he];simp) (by simp)).mono ?_;rintro r z (y|⟨y1,y2,y3⟩)
  · exact .inl y
  · exact .inr ⟨y1,by rw[he];exact y2,y3⟩
 have HA:Hid (∀q:Nat,N9 a c.N[i]=some (tr (tl c Z) q)->O9 c a i=some [(D,C)]):=λq s=>by
  rw[H,s,G,a5,s];rfl
 have HR:Hid (∀u,I No w u->R [] u):=λu t=>A.still _ _ _ hR t;generalize N9 a c.N[i]=FT at *;rw[a4]at x2;clear qp qo a2 E hL A hR hf a3 a4 a5 G RS H fz ab ac ad ae af;generalize aa:c.N[i]=nd at *;have au:=O aa;clear aa;obtain⟨kd,S,vb,T,N,P,V,Y,X⟩:=nd;subst aq;simp only at *;subst hk;have A1:=I.alloc No w (ndC 19 S (v:Int) T (.slice L N.length M) P V Y X);have nb:=qY w (ndC 19 S (v:Int) T (.slice L N.length M) P V Y X);have n1:(w.alloc (ndC 19 S (v:Int) T (.slice L N.length M) P V Y X)).cell? (J w.heap.size 2)=some (U (v:Int)):=cr nb rfl;have a6:=O A1;clear A1 nb;go_enter func109,ntmps109;go_wp2_with fail
 generalize (w.alloc (ndC 19 S (v:Int) T (.slice L N.length M) P V Y X))=W at *;have S0:Hid (W.drew.cell? (J w.heap.size 2)=some (U (v:Int))/\Hid (KC W W.drew/\R [] W.drew)):=⟨n1,⟨KC.still (I.drewN _ _ 1),HR.o _ (D3 a6.o (I.drewN _ _ 1))⟩⟩;have ah:W.cell? (J w.heap.size 2)=some (U (v:Int)):=n1;have an:=blt ah;simp only at an;clear S0 n1;go_region_with (first
  |(go_at_call 76;refine(HF.o _ (HR.o _ (D3 a6.o (I.drewN _ _ 1)))).mono ?_;rintro r b3 (⟨⟨x,y,rfl⟩,hP⟩|⟨q,rfl,F,s,ag,a9⟩);exact⟨rfl,.inl ⟨⟨x,y,rfl⟩,hP⟩⟩;have b1:=a9.cell ah)
  |(refine(HT.o _ q F s ag).mono ?_;rintro r b4 (⟨⟨x,y,rfl⟩,hP⟩|⟨rfl,a8,al⟩);exact⟨rfl,.inl ⟨⟨x,y,rfl⟩,hP⟩⟩))
 all_goals
  have H6:=O a8;have aj:=O (HA.o q s);clear a8 al a9 ag s;go_wp2_with fail
  go_end0;exact .inr ⟨rfl,_,aj.o,H6.o⟩
theorem E9e(E:Cbs n c b j k d l g)(L:Lks c Z m a i)(A:TlC n c b j k d l p o g Z m a i h f R e)(N:i<c.N.length)(G:c.N[i].kind=20)(hR:R [] w):
 Calls prog 109 #[pV b,U (i:Int),.func (.func h) #[] f] w λr w'=>((∃x y,r=gu x y)/\e r w')\/(r=rT/\∃a7,O9 c a i=some a7/\R a7 w'):=by
 have b2:=A.cf;have a2:=A.st _ _ hR;have M:=E.ok.flat i N;obtain⟨oa,oc,b6,fz,q0,q1,q2,q3,q4,q5,q6,qp,qo⟩:=a2.cell;obtain⟨b1,nc,P,S,ax,hg,b5,av,⟨x0,x1,x2,x3,x4,x5,x6,x7,x8⟩,b4,-⟩:=(E.nrow a2.chg).at (Below.refl _ _) i N;have b3:=E.ok.lenN;unfold maxLen at av;have a3:Pe c.N i c.N[i].c:=(M.k20 G).2.2;obtain⟨v,b8,hp,a4,-⟩:=L.pe _ a3;have K:O9 c a i=(M8 a c.N[i]).map λan=>[(c.N[i].c,an)]:=by
  unfold O9;simp only[F7 N];rw[yY (by omega),yY (by omega),yY (by omega),yY (by omega),yY (by omega),rY G]
 obtain⟨C,a5⟩:∃C,C=(M8 a c.N[i]).getD B3a:=⟨_,rfl⟩;obtain⟨D,H⟩:∃D,D=c.N[i].c:=⟨_,rfl⟩;have RS:∀u,R [] u->Cst n u c b j k d l p o g Z m:=λu t=>A.st _ _ t;obtain⟨pa,ra,ab,ac,ad,ae,af⟩:=L.pe _ (M.k20 G).1;obtain⟨az,rc,ag,ah,ai,aj,ak⟩:=L.pe _ (M.k20 G).2.1;have HF:Hid (∀u,R [] u->Calls prog 77 #[pV b,U (i:Int)] u λr z=>((∃x y,r=gu x y)/\e r z)\/∃q:Nat,r= .returned (U (q:Int))/\q<(tl c Z).length/\M8 a c.N[i]=some (tr (tl c Z) q)/\R [] z/\KC u z):=λu t=>by
  refine(I2c E (RS u t) i N pa ab ac ra ad ae af.symm az ag ah rc ai aj ak.symm).mono ?_;rintro r z ⟨hc,B⟩;revert B;cases s:M8 a c.N[i] with
  |none=>
   intro B;refine .inl ⟨⟨_,_,B⟩, ?_⟩;have ar:r=gu 9 (atI c.N i):=B;subst ar;have aw:O9 c a i=none:=by rw[K,s];rfl
   exact A.bad _ _ _ t hc aw
  |some an=>
   intro B;obtain⟨hC,q,rfl,F,ay⟩:=B;exact .inr ⟨q,rfl,F,by rw[ay],A.memo _ _ _ t hc hC,(RS u t).kc hc⟩
 have HT:Hid (∀(u:lZ) (q:Nat),q<(tl c Z).length->M8 a c.N[i]=some (tr (tl c Z) q)->R [] u->Calls prog h (#[U (v:Int),U (q:Int)]++f) u λr z=>((∃x y,r=gu x y)/\e r z)\/(r=rT/\R [(D,C)] z/\KC u z)):=λu q F s t=>by
  have he:C=tr (tl c Z) q:=by rw[a5,s];rfl
  have ap:O9 c a i=some [(D,C)]:=by rw[K,s,H,he];rfl
  refine(A.tell [] u _ D v q t (by rw[H];exact a3) (by rw[H];exact a4) F ap (by rw[he];simp) (by simp)).mono ?_;rintro r z (y|⟨y1,y2,y3⟩)
  · exact .inl y
  · exact .inr ⟨y1,by rw[he];exact y2,y3⟩
 have HA:Hid (∀q:Nat,M8 a c.N[i]=some (tr (tl c Z) q)->O9 c a i=some [(D,C)]):=λq s=>by
  rw[K,s,H,a5,s];rfl
 have HR:Hid (∀u,I No w u->R [] u):=λu t=>A.still _ _ _ hR t;generalize M8 a c.N[i]=FT at *;rw[a4]at x3;clear qp qo a2 E L A hR M a3 a4 a5 H RS K fz ab ac ad ae af ag ah ai aj ak;generalize aa:c.N[i]=nd at *;have b0:=O aa;clear aa;obtain⟨kd,X,Y,vc,T,V,vn,vt,vp⟩:=nd;subst ax;simp only at *;subst G;have A1:=I.alloc No w (ndC 20 X Y (v:Int) (.slice P T.length S) V vn vt vp);have nb:=qY w (ndC 20 X Y (v:Int) (.slice P T.length S) V vn vt vp);have n1:(w.alloc (ndC 20 X Y (v:Int) (.slice P T.length S) V vn vt vp)).cell? (J w.heap.size 3)=some (U (v:Int)):=cr nb rfl;have a6:=O A1;clear A1 nb;go_enter func109,ntmps109;go_wp2_with fail
 generalize (w.alloc (ndC 20 X Y (v:Int) (.slice P T.length S) V vn vt vp))=W at *;have S0:Hid (W.drew.cell? (J w.heap.size 3)=some (U (v:Int))/\Hid (KC W W.drew/\R [] W.drew)):=⟨n1,⟨KC.still (I.drewN _ _ 1),HR.o _ (D3 a6.o (I.drewN _ _ 1))⟩⟩;have am:W.cell? (J w.heap.size 3)=some (U (v:Int)):=n1;have au:=blt am;simp only at au;clear S0 n1;go_region_with (first
  |(go_at_call 77;refine(HF.o _ (HR.o _ (D3 a6.o (I.drewN _ _ 1)))).mono ?_;rintro r b9 (⟨⟨x,y,rfl⟩,hP⟩|⟨q,rfl,F,s,al,a9⟩);exact⟨rfl,.inl ⟨⟨x,y,rfl⟩,hP⟩⟩;have b7:=a9.cell am)
  |(refine(HT.o _ q F s al).mono ?_;rintro r ba (⟨⟨x,y,rfl⟩,hP⟩|⟨rfl,a8,aq⟩);exact⟨rfl,.inl ⟨⟨x,y,rfl⟩,hP⟩⟩))
 all_goals
  have H6:=O a8;have ao:=O (HA.o q s);clear a8 aq a9 al s;go_wp2_with fail
  go_end0;exact .inr ⟨rfl,_,ao.o,H6.o⟩
end
