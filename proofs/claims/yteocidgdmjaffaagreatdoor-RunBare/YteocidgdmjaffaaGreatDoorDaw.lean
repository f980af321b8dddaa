/-
  A part of the proof.
-/
import Derived.Test.YteocidgdmjaffaaGreatDoorCheckB
set_option maxHeartbeats 0
set_option linter.all false
set_option maxRecDepth 100000
namespace Go.Proofs.YteocidgdmjaffaaGreatDoor
open Go.Proofs.Tryz
open Go.RowKit Go.Maps
section
variable{n w:E}{c:Cx}{a h j m:Nat}{k p f:Value}{o:Int}{Z:List Ty}{l:bZ}{b:Of}{i:Nat}{g:FuncId}{e:Array Value}{R:List (Int×Tr)->E->Prop}{d:Ending->E->Prop}
def Zw(D:cP n c a h j m k f)(hL:fU c Z l b i)(G:mC n c a h j m k p o f Z l b i g e R d)(T)(hk:c.N[i].x=24)(b8:c.fn.getD i 0≠-1)(hR:R [] w):
 Calls prog 29 #[pV a,U i,.func (.func g) #[] e] w λs w'=>((∃x y,s=gu x y)/\d s w')\/(s=rT/\∃ar,aM c b i=some ar/\R ar w'):=by
 have ca:=G.cf;have M:=G.st _ _ hR;have hf:=D.ok.ep i T;obtain⟨oa,oc,ck,fz,q0,q1,q2,q3,q4,q5,q6,qp,qo⟩:=M.cell;obtain⟨b4,nc,la,lc,b0,hg,ch,bd,⟨x0,x1,x2,x3,x4,x5,x6,x7,x8⟩,cg,-⟩:=(D.fg M.P).at (Below.refl _ _) i T;have cf:=D.ok.fh;unfold maxLen at bd;have a9:Pe c.N i c.N[i].a:=hf.k1 (by omega);obtain⟨A,cm,hp,aa,-⟩:=hL.pe _ a9;have a4:aM c b i=(some (jJ c.T (aC c.N (c.fn.getD i 0)))).map λbv=>[(c.N[i].a,bv)]:=by
  unfold aM;simp only[B9 T];rw[zY (by omega),zY (by omega),zY (by omega),zY (by omega),zY (by omega),zY (by omega),wY hk];rfl
 obtain⟨H,ac⟩:∃H,H=(some (jJ c.T (aC c.N (c.fn.getD i 0)))).getD Z5:=⟨_,rfl⟩;obtain⟨L,N⟩:∃L,L=c.N[i].a:=⟨_,rfl⟩;have RS:∀u,R [] u->aS n u c a h j m k p o f Z l:=λu F=>G.st _ _ F;obtain⟨q,a7,a8⟩:∃q:Nat,c.fn.getD i 0=(q:Int)/\q<c.N.length:=by
  obtain s|s:=D.ok.r8 i T
  .exact absurd s b8
  .exact s
 obtain⟨a0,ab,b5,a6⟩:=hL.res (c.fn.getD i 0);rw[a7,B9 a8]at ab a6;obtain⟨r,ad,a2,a3,V,cd,ci,cj,⟨z0,z1,z2,z3,z4,z5,z6,z7,z8⟩,-,-⟩:=(D.fg M.P).at (Below.refl _ _) q a8;have ba:r=b4/\ad=nc:=by
  rw[b0]at V;simp only[Value.slice.injEq,zQ,Addr.mk.injEq,and_true,true_and]at V;exact⟨V.1.symm,V.2.symm⟩
 obtain⟨rfl,rfl⟩:=ba;have S:=D.fn M.P;obtain⟨fa,au,ax⟩:=B8 S;rw[ax]at S q5;have cc:c.fn.length=c.N.length:=D.ok.rq;have ay:i<c.fn.length:=by omega
 obtain⟨P,b9,-,ce,cb,b7,aw⟩:=D4 S (by omega);have y0:=aw i (U (q:Int)) (by
  have e2:c.fn[i]=(q:Int):=by rw[<-a7,lQ,gQ ay];rfl
  simp[C7,ay,e2]);subst b9;unfold maxLen at b7;have HF:Hid (∀u,R [] u->Calls prog 54 #[pV a,fE c.N[q] a2 a3] u λs B=>((∃x y,s=gu x y)/\d s B)\/∃t:Nat,s=.returned (U (t:Int))/\t<(tl c Z).length/\some (jJ c.T (aC c.N (c.fn.getD i 0)))=some (tr (tl c Z) t)/\R [] B/\KC u B):=λu F=>by
  refine(SY (RS u F) c.N[q] a2 a3).mono ?_;rintro s B ⟨rfl,hc⟩;exact .inr ⟨a0,by rw[ab],b5,by rw[a6,a7,B9 a8],G.y _ _ _ F hc,KC.y hc⟩
 have HT:Hid (∀(u:E) (t:Nat),t<(tl c Z).length->some (jJ c.T (aC c.N (c.fn.getD i 0)))=some (tr (tl c Z) t)->R [] u->Calls prog g (#[U (A:Int),U (t:Int)]++e) u λs B=>((∃x y,s=gu x y)/\d s B)\/(s=rT/\R [(L,H)] B/\KC u B)):=λu t a5 z F=>by
  have he:H=tr (tl c Z) t:=by rw[ac,z];rfl
  have b6:aM c b i=some [(L,H)]:=by rw[a4,z,N,he];rfl
  refine(G.tell [] u _ L A t F (by rw[N];exact a9) (by rw[N];exact aa) a5 b6 (by rw[he];simp) (by simp)).mono ?_;rintro s B (y|⟨y1,y2,y3⟩)
  .exact .inl y
  .exact .inr ⟨y1,by rw[he];exact y2,y3⟩
 have HA:Hid (∀t:Nat,some (jJ c.T (aC c.N (c.fn.getD i 0)))=some (tr (tl c Z) t)->aM c b i=some [(L,H)]):=λt z=>by
  rw[a4,z,N,ac,z];rfl
 have HR:Hid (∀u,I No w u->R [] u):=λu F=>G.y _ _ _ hR F;generalize some (jJ c.T (aC c.N (c.fn.getD i 0)))=FT at*;rw[aa]at x1;clear qp qo M D hL G hR hf a9 aa ac N RS a4 fz ab a6 S aw;generalize be:c.N[i]=nd at*;clear be;obtain⟨kd,va,vb,vc,ls,tx,vn,vt,vp⟩:=nd;subst b0 ax;simp only at*;subst hk;have v:=I.alloc No w (aL 24 (A:Int) vb vc (.slice la ls.length lc) tx vn vt vp);have nb:=yY w (aL 24 (A:Int) vb vc (.slice la ls.length lc) tx vn vt vp);have n1:(w.alloc (aL 24 (A:Int) vb vc (.slice la ls.length lc) tx vn vt vp)).cell? (J w.heap.size 1)=some (U (A:Int)):=cr nb rfl;have ae:=A4 v q0;have af:=A4 v q5;have ag:=A4 v y0;have ah:=A4 v z0;have ai:=A4 v z1;have aj:=A4 v z2;have ak:=A4 v z3;have al:=A4 v z4;have am:=A4 v z5;have an:=A4 v z6;have ao:=A4 v z7;have ap:=A4 v z8;have aq:=O v;clear v nb;go_in;go_wp2_with fail;generalize (w.alloc (aL 24 (A:Int) vb vc (.slice la ls.length lc) tx vn vt vp))=W at*;have S0:Hid (W.drew.cell? (J w.heap.size 1)=some (U (A:Int))/\W.drew.cell? (J a 0)=some (.slice (some (J r 0)) c.N.length ad)/\W.drew.cell? (J a 5)=some (.slice (some (J P 0)) c.N.length au)/\W.drew.cell? (J P i)=some (U (q:Int))/\W.drew.cell? (J r (q*9))=some (U c.N[q].x)/\W.drew.cell? (J r (q*9+1))=some (U c.N[q].a)/\W.drew.cell? (J r (q*9+2))=some (U c.N[q].b)/\W.drew.cell? (J r (q*9+3))=some (U c.N[q].c)/\W.drew.cell? (J r (q*9+4))=some (.slice a2 c.N[q].M.length a3)/\W.drew.cell? (J r (q*9+5))=some (.string ⟨c.N[q].text.toArray⟩)/\W.drew.cell? (J r (q*9+6))=some (U c.N[q].n)/\W.drew.cell? (J r (q*9+7))=some (U c.N[q].ty)/\W.drew.cell? (J r (q*9+8))=some (U c.N[q].at')/\Hid (KC W W.drew/\R [] W.drew)):=⟨n1,ae,af,ag,ah,ai,aj,ak,al,am,an,ao,ap,⟨KC.y (I.drewN _ _ 1),HR.u _ (B6 aq.u (I.drewN _ _ 1))⟩⟩;have b2:W.cell? (J w.heap.size 1)=some (U (A:Int)):=n1;have bt:W.cell? (J a 0)=some (.slice (some (J r 0)) c.N.length ad):=ae;have bu:W.cell? (J a 5)=some (.slice (some (J P 0)) c.N.length au):=af;have bw:W.cell? (J P i)=some (U (q:Int)):=ag;have bx:W.cell? (J r (q*9))=some (U c.N[q].x):=ah;have bz:W.cell? (J r (q*9+1))=some (U c.N[q].a):=ai;have c3:W.cell? (J r (q*9+2))=some (U c.N[q].b):=aj;have c4:W.cell? (J r (q*9+3))=some (U c.N[q].c):=ak;have c5:W.cell? (J r (q*9+4))=some (.slice a2 c.N[q].M.length a3):=al;have c6:W.cell? (J r (q*9+5))=some (.string ⟨c.N[q].text.toArray⟩):=am;have c7:W.cell? (J r (q*9+6))=some (U c.N[q].n):=an;have c8:W.cell? (J r (q*9+7))=some (U c.N[q].ty):=ao;have c9:W.cell? (J r (q*9+8))=some (U c.N[q].at'):=ap;have bc:=blt b2;have bf:=blt bt;have bg:=blt bu;have bh:=blt bw;have bi:=blt bx;have bj:=blt bz;have bm:=blt c3;have bn:=blt c4;have bo:=blt c5;have bp:=blt c6;have bq:=blt c7;have br:=blt c8;have bs:=blt c9;simp only at bc bf bg bh bi bj bm bn bo bp bq br bs;clear S0 n1 ae af ag ah ai aj ak al am an ao ap q0 q5 y0 z0 z1 z2 z3 z4 z5 z6 z7 z8;go_region_with (first
  |(go_at_call 54;refine(HF.u _ (HR.u _ (B6 aq.u (I.drewN _ _ 1)))).mono ?_;rintro s cn (⟨⟨x,y,rfl⟩,hP⟩|⟨t,rfl,a5,z,b1,az⟩);exact⟨rfl,.inl ⟨⟨x,y,rfl⟩,hP⟩⟩;have cl:=az.cell b2)
  |(refine(HT.u _ t a5 z b1).mono ?_;rintro s cp (⟨⟨x,y,rfl⟩,hP⟩|⟨rfl,av,bb⟩);exact⟨rfl,.inl ⟨⟨x,y,rfl⟩,hP⟩⟩));all_goals
  have H6:=O av;have b3:=O (HA.u t z);clear av bb az b1 z;go_wp2_with fail;go_end0;exact .inr ⟨rfl,_,b3.u,H6.u⟩
end
