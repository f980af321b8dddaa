/-
  A part of the proof.
-/
import Derived.Test.YtneelacbkianjaaGreatDoorCheckB
set_option maxHeartbeats 16000000
set_option maxRecDepth 100000
namespace Go.Proofs.YtneelacbkianjaaGreatDoor
open Go.Proofs.Tryz
open Go.RowKit Go.Maps
section
variable{n w:lZ}{c:Cx}{a h j m:Nat}{k p f:Value}{o:Int}{Z:List Ty}{l:uZ}{b:Of}{i:Nat}{g:FuncId}{e:Array Value}{R:List (Int×Tr)->lZ->Prop}{d:Ending->lZ->Prop}
theorem E8e(C:Cbs n c a h j m k f)(hL:Lks c Z l b i)(E:TlC n c a h j m k p o f Z l b i g e R d)(N:i<c.N.length)(hk:c.N[i].kind=24)(b6:c.fn.getD i 0≠-1)(hR:R [] w):
 Calls prog 109 #[pV a,U (i:Int),.func (.func g) #[] e] w λs w'=>((∃x y,s=gu x y)/\d s w')\/(s=rT/\∃ap,O9 c b i=some ap/\R ap w'):=by
 have c7:=E.cf;have H:=E.st _ _ hR;have hf:=C.ok.flat i N;obtain⟨oa,oc,ch,fz,q0,q1,q2,q3,q4,q5,q6,qp,qo⟩:=H.cell;obtain⟨b2,nc,S,V,ay,hg,ce,bb,⟨x0,x1,x2,x3,x4,x5,x6,x7,x8⟩,cd,-⟩:=(C.nrow H.chg).at (Below.refl _ _) i N;have cc:=C.ok.lenN;unfold maxLen at bb;have a7:Pe c.N i c.N[i].a:=hf.k1 (by omega);obtain⟨A,cj,hp,a8,-⟩:=hL.pe _ a7;have a2:O9 c b i=(some (J8a c.T (ndx c.N (c.fn.getD i 0)))).map λbs=>[(c.N[i].a,bs)]:=by
  unfold O9;simp only[F7 N];rw[yY (by omega),yY (by omega),yY (by omega),yY (by omega),yY (by omega),yY (by omega),rY hk];rfl
 obtain⟨F,aa⟩:∃F,F=(some (J8a c.T (ndx c.N (c.fn.getD i 0)))).getD B3a:=⟨_,rfl⟩;obtain⟨G,K⟩:∃G,G=c.N[i].a:=⟨_,rfl⟩;have RS:∀u,R [] u->Cst n u c a h j m k p o f Z l:=λu D=>E.st _ _ D;obtain⟨q,a5,a6⟩:∃q:Nat,c.fn.getD i 0=(q:Int)/\q<c.N.length:=by
  rcases C.ok.fnr i N with s|s
  · exact absurd s b6
  · exact s
 obtain⟨a0,a9,b3,a4⟩:=hL.res (c.fn.getD i 0);rw[a5,F7 a6]at a9 a4;obtain⟨r,ab,T,X,P,ca,cf,cg,⟨z0,z1,z2,z3,z4,z5,z6,z7,z8⟩,-,-⟩:=(C.nrow H.chg).at (Below.refl _ _) q a6;have b8:r=b2/\ab=nc:=by
  rw[ay]at P;simp only[Value.slice.injEq,zQ,Addr.mk.injEq,and_true,true_and]at P;exact⟨P.1.symm,P.2.symm⟩
 obtain⟨rfl,rfl⟩:=b8;have M:=C.fn H.chg;obtain⟨fa,aq,av⟩:=B9 M;rw[av]at M q5;have c9:c.fn.length=c.N.length:=C.ok.fnl;have aw:i<c.fn.length:=by omega
 obtain⟨L,b7,-,cb,c8,b5,au⟩:=F5 M (by omega);have y0:=au i (U (q:Int)) (by
  have e2:c.fn[i]=(q:Int):=by rw[<-a5,lQ,gQ aw];rfl
  simp[C8,aw,e2])
 subst b7;unfold maxLen at b5;have HF:Hid (∀u,R [] u->Calls prog 108 #[pV a,nvl c.N[q] T X] u λs B=>((∃x y,s=gu x y)/\d s B)\/∃t:Nat,s= .returned (U (t:Int))/\t<(tl c Z).length/\some (J8a c.T (ndx c.N (c.fn.getD i 0)))=some (tr (tl c Z) t)/\R [] B/\KC u B):=λu D=>by
  refine(R2b (RS u D) c.N[q] T X).mono ?_;rintro s B ⟨rfl,hc⟩;exact .inr ⟨a0,by rw[a9],b3,by rw[a4,a5,F7 a6],E.still _ _ _ D hc,KC.still hc⟩
 have HT:Hid (∀(u:lZ) (t:Nat),t<(tl c Z).length->some (J8a c.T (ndx c.N (c.fn.getD i 0)))=some (tr (tl c Z) t)->R [] u->Calls prog g (#[U (A:Int),U (t:Int)]++e) u λs B=>((∃x y,s=gu x y)/\d s B)\/(s=rT/\R [(G,F)] B/\KC u B)):=λu t a3 z D=>by
  have he:F=tr (tl c Z) t:=by rw[aa,z];rfl
  have b4:O9 c b i=some [(G,F)]:=by rw[a2,z,K,he];rfl
  refine(E.tell [] u _ G A t D (by rw[K];exact a7) (by rw[K];exact a8) a3 b4 (by rw[he];simp) (by simp)).mono ?_;rintro s B (y|⟨y1,y2,y3⟩)
  · exact .inl y
  · exact .inr ⟨y1,by rw[he];exact y2,y3⟩
 have HA:Hid (∀t:Nat,some (J8a c.T (ndx c.N (c.fn.getD i 0)))=some (tr (tl c Z) t)->O9 c b i=some [(G,F)]):=λt z=>by
  rw[a2,z,K,aa,z];rfl
 have HR:Hid (∀u,I No w u->R [] u):=λu D=>E.still _ _ _ hR D;generalize some (J8a c.T (ndx c.N (c.fn.getD i 0)))=FT at *;rw[a8]at x1;clear qp qo H C hL E hR hf a7 a8 aa K RS a2 fz a9 a4 M au;generalize bc:c.N[i]=nd at *;clear bc;obtain⟨kd,va,vb,vc,Y,tx,vn,vt,vp⟩:=nd;subst ay av;simp only at *;subst hk;have v:=I.alloc No w (ndC 24 (A:Int) vb vc (.slice S Y.length V) tx vn vt vp);have nb:=qY w (ndC 24 (A:Int) vb vc (.slice S Y.length V) tx vn vt vp);have n1:(w.alloc (ndC 24 (A:Int) vb vc (.slice S Y.length V) tx vn vt vp)).cell? (J w.heap.size 1)=some (U (A:Int)):=cr nb rfl;have ac:=A8 v q0;have ad:=A8 v q5;have ae:=A8 v y0;have af:=A8 v z0;have ag:=A8 v z1;have ah:=A8 v z2;have ai:=A8 v z3;have aj:=A8 v z4;have ak:=A8 v z5;have al:=A8 v z6;have am:=A8 v z7;have an:=A8 v z8;have ao:=O v;clear v nb;go_enter func109,ntmps109;go_wp2_with fail
 generalize (w.alloc (ndC 24 (A:Int) vb vc (.slice S Y.length V) tx vn vt vp))=W at *;have S0:Hid (W.drew.cell? (J w.heap.size 1)=some (U (A:Int))/\W.drew.cell? (J a 0)=some (.slice (some (J r 0)) c.N.length ab)/\W.drew.cell? (J a 5)=some (.slice (some (J L 0)) c.N.length aq)/\W.drew.cell? (J L i)=some (U (q:Int))/\W.drew.cell? (J r (q * 9))=some (U c.N[q].kind)/\W.drew.cell? (J r (q * 9+1))=some (U c.N[q].a)/\W.drew.cell? (J r (q * 9+2))=some (U c.N[q].b)/\W.drew.cell? (J r (q * 9+3))=some (U c.N[q].c)/\W.drew.cell? (J r (q * 9+4))=some (.slice T c.N[q].list.length X)/\W.drew.cell? (J r (q * 9+5))=some (.string ⟨c.N[q].text.toArray⟩)/\W.drew.cell? (J r (q * 9+6))=some (U c.N[q].n)/\W.drew.cell? (J r (q * 9+7))=some (U c.N[q].ty)/\W.drew.cell? (J r (q * 9+8))=some (U c.N[q].at')/\Hid (KC W W.drew/\R [] W.drew)):=⟨n1,ac,ad,ae,af,ag,ah,ai,aj,ak,al,am,an,⟨KC.still (I.drewN _ _ 1),HR.o _ (D3 ao.o (I.drewN _ _ 1))⟩⟩;have b0:W.cell? (J w.heap.size 1)=some (U (A:Int)):=n1;have bq:W.cell? (J a 0)=some (.slice (some (J r 0)) c.N.length ab):=ac;have br:W.cell? (J a 5)=some (.slice (some (J L 0)) c.N.length aq):=ad;have bt:W.cell? (J L i)=some (U (q:Int)):=ae;have bu:W.cell? (J r (q * 9))=some (U c.N[q].kind):=af;have bv:W.cell? (J r (q * 9+1))=some (U c.N[q].a):=ag;have bw:W.cell? (J r (q * 9+2))=some (U c.N[q].b):=ah;have bx:W.cell? (J r (q * 9+3))=some (U c.N[q].c):=ai;have bz:W.cell? (J r (q * 9+4))=some (.slice T c.N[q].list.length X):=aj;have c3:W.cell? (J r (q * 9+5))=some (.string ⟨c.N[q].text.toArray⟩):=ak;have c4:W.cell? (J r (q * 9+6))=some (U c.N[q].n):=al;have c5:W.cell? (J r (q * 9+7))=some (U c.N[q].ty):=am;have c6:W.cell? (J r (q * 9+8))=some (U c.N[q].at'):=an;have ba:=blt b0;have bd:=blt bq;have be:=blt br;have bf:=blt bt;have bg:=blt bu;have bh:=blt bv;have bi:=blt bw;have bj:=blt bx;have bk:=blt bz;have bm:=blt c3;have bn:=blt c4;have bo:=blt c5;have bp:=blt c6;simp only at ba bd be bf bg bh bi bj bk bm bn bo bp;clear S0 n1 ac ad ae af ag ah ai aj ak al am an q0 q5 y0 z0 z1 z2 z3 z4 z5 z6 z7 z8;go_region_with (first
  |(go_at_call 108;refine(HF.o _ (HR.o _ (D3 ao.o (I.drewN _ _ 1)))).mono ?_;rintro s ck (⟨⟨x,y,rfl⟩,hP⟩|⟨t,rfl,a3,z,az,ax⟩);exact⟨rfl,.inl ⟨⟨x,y,rfl⟩,hP⟩⟩;have ci:=ax.cell b0)
  |(refine(HT.o _ t a3 z az).mono ?_;rintro s cl (⟨⟨x,y,rfl⟩,hP⟩|⟨rfl,ar,b9⟩);exact⟨rfl,.inl ⟨⟨x,y,rfl⟩,hP⟩⟩))
 all_goals
  have H6:=O ar;have b1:=O (HA.o t z);clear ar b9 ax az z;go_wp2_with fail
  go_end0;exact .inr ⟨rfl,_,b1.o,H6.o⟩
end
