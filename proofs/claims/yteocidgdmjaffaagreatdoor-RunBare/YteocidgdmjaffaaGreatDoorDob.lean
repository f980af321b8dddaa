/-
  A part of the proof.
-/
import Derived.Test.YteocidgdmjaffaaGreatDoorUnionA
set_option maxHeartbeats 0
set_option linter.all false
set_option maxRecDepth 100000
namespace Go.Proofs.YteocidgdmjaffaaGreatDoor
open Go.Proofs.Tryz
open Go.RowKit Go.Maps
section
variable{e w:E}{c:Cx}{d b f j:Nat}{i l h:Value}{k:Int}{Z:List Ty}{a:bZ}{g:Of}
def iV(c:Cx)(a:bZ)(x:Int):Y×Int:=((aC c.N x).text,a.getD (aC c.N x).a.toNat 0)
def Gs(hB:cP e c d b f j i h)(T:aS e w c d b f j i l k h Z a)(s)(ab:∀x∈s.M,∃n:Nat,x=(n:Int)/\∃hj,Lk c Z a g c.N[n].a/\Q8 c.N[n].text)(au:(s.M.map λx=>(aC c.N x).text).Nodup)(hn:s.M.length<=1200)(A)(B)(ar:w.ownsRow 0 3 1 (.slice A s.M.length B) s.M.length (C7 s.M))(hN:(tl c Z).length+1<=4000):
 Calls prog 75 #[pV d,fE s A B] w (lL e w c d b f j i l k h Z a (wA c.N g s)):=by
 unfold wA fE;obtain⟨kd,va,vb,vc,m,tx,vn,vt,vp⟩:=s;simp only at*;obtain⟨i0,b8,bj,bm,bn⟩:=info_parts Tryz.jw;have hT:=T.ts;have H0:=O T;have HO:=O ar;have HL:=O ab;have a9:∀x∈m,0<=(iV c a x).2/\(iV c a x).2<((tl c Z).length:Int)/\tr (tl c Z) (iV c a x).2.toNat=aX g (aC c.N x).a/\Q8 (iV c a x).1:=λx hx=>by
  obtain⟨n,rfl,hj,⟨p,r,V,y,hr,bi,ac⟩,bd⟩:=ab x hx;have z:aC c.N (n:Int)=c.N[n]:=B9 hj;have e2:(iV c a (n:Int)).2=(r:Int):=by
   unfold iV;rw[z,y];show a.getD (Int.toNat (p:Int)) 0=_;rw[tQ,lQ,gQ V];exact hr
  refine⟨by omega,by omega,?_,?_⟩
  .rw[e2,tQ,z];exact ac
  .unfold iV;rw[z];exact bd
 have al:Hid (dP ⟨7,m.map (iV c a),[],0⟩ (tl c Z).length):=.inr (.inl ⟨rfl,rfl,by rw[List.map_map];exact au,λp V=>by
  obtain⟨x,hx,rfl⟩:=qZ.1 V;obtain⟨a1,a2,_,a4⟩:=a9 x hx;exact⟨a4,a1,a2⟩⟩);have b3:Hid (tr (tl c Z++[⟨7,m.map (iV c a),[],0⟩]) (tl c Z).length=.nd 7 (m.map λx=>(aC c.N x).text) (m.map λx=>aX g (aC c.N x).a)):=by
  show _=_;rw[sJ hT al.u];have z:(m.map (iV c a)).map (λp=>tr (tl c Z) p.2.toNat)=m.map λx=>aX g (aC c.N x).a:=by
   rw[List.map_map];exact List.map_congr_left λx hx=>(a9 x hx).2.2.1
  have e2:(m.map (iV c a)).map (·.1)=m.map λx=>(aC c.N x).text:=by
   rw[List.map_map];rfl
  simp only[z,e2];simp
 obtain⟨oa,oc,c9,fz,q0,q1,q2,q3,q4,q5,q6,qp,qo⟩:=T.cell;have b1:=O q3;have ak:=O qo;have aj:=O (hB.fg T.P);have bz:=hB.ok.fh;have A1:=I.alloc No w (aL kd va vb vc (.slice A m.length B) tx vn vt vp);have nb:=yY w (aL kd va vb vc (.slice A m.length B) tx vn vt vp);have n4:(w.alloc (aL kd va vb vc (.slice A m.length B) tx vn vt vp)).cell? (J w.heap.size 4)=some (.slice A m.length B):=cr nb rfl;have ah:=O A1;have b0:=O q0;have b2:=O q6;have bs:Hid (I (SW e d b f) e w):=T.P;clear T ar ab a9 qp qo q1 q2 q3 q4 q5 fz A1 nb hT q0 q6 au;go_in;go_wp2_with fail;have hz:=yY (w.alloc (aL kd va vb vc (.slice A m.length B) tx vn vt vp)) (.cells #[U 7,sN,sN,U 0] 81);have Z0:=O hz;have C3:=O (B6 ah.u (I.alloc No (w.alloc (aL kd va vb vc (.slice A m.length B) tx vn vt vp)) (.cells #[U 7,sN,sN,U 0] 81)));simp only[Array.size_push,World.alloc]at Z0;clear hz ah;go_loopw [13] (λaf wr=>∃(n:Nat) (t:Option Addr) (u:Nat),n<=m.length/\af=U (n:Int)/\Hid (I No w wr)/\Hid (wr.heap[w.heap.size+1]?=some (.cells #[U 7,.slice t n u,sN,U 0] 81 (0,0)))/\Hid (wr.ownsRow w.heap.size 137 2 (.slice t n u) n (G0 ((m.take n).map (iV c a))))) (λaf _=>m.length-(intOf af).toNat);case atStart=>exact⟨0,none,0,wQ _,rfl,C3.u,Z0.u,kW _ _ _ _⟩
 case round=>
  clear Z0 C3 n4;obtain⟨n,t,u,hj,rfl,CR,v,D⟩:=hrel;have ca:w.heap.size<=wr.heap.size:=CR.u.size;have bh:=(aI v.u);by_cases a8:n<m.length
  .obtain⟨g2,bb,bv,bx,ba,v0⟩:=D6 (A3 HO.u CR.u (λ_ _ x=>x)) a8;subst bb;obtain⟨jj,y,ap,⟨p,r,V,ea,hr,bi,ac⟩,-⟩:=HL.u m[n] (mQ a8);obtain⟨go,bg,c5,c6,c7,bf,y0,-⟩:=ak.u p V;subst bg;rw[hr]at y0;have HT:Hid ((m.take (n+1)).map (iV c a)=(m.take n).map (iV c a)++[(c.N[jj].text,(r:Int))]):=by
    show _=_;rw[nQ a8,iY,List.map_singleton,y];unfold iV;rw[show aC c.N (jj:Int)=c.N[jj] from B9 ap,ea,tQ,lQ,gQ V,hr];rfl
   obtain⟨a6,ao⟩:∃a6,a6=(m.take n).map (iV c a):=⟨_,rfl⟩;rw[<-ao]at D HT;clear ao;have bo:=A4 CR.u b0.u;have ae:=A4 CR.u b2.u;have ag:=A4 CR.u y0;obtain⟨a7,nc,G,H,be,hg,c4,bc,⟨x0,x1,x2,x3,x4,x5,x6,x7,x8⟩,-,-⟩:=aj.u.at (CR.u.ek (λ_ _ x=>x.elim) (vQ _)) jj ap;generalize c.N[jj]=s at*;obtain⟨F,cd,M,N,L,q,P,S,R⟩:=s;subst be;simp only at*;subst ea;rw[y]at v0;have d0:wr.cell? (J (w.heap.size+1) 1)=some (.slice t n u):=cr v.u rfl;have zf:∀o,wr.frozen? (J (w.heap.size+1) o)=false:=λo=>frozen_of_row wr _ o _ _ v.u;have av:Value.ownBlock (.slice t n u)≠some (w.heap.size+1):=M4 D.u v.u (by decide);unfold maxLen at ba bc bf;have c8:(p:Int)<(a.length:Int):=by omega
   have bw:(jj:Int)<(c.N.length:Int):=by omega
   have b7:=blt ag;have aa:=blt ae;simp only at b7 aa;clear y hr ac y0 HL ak HO;have A2:=I.alloc No wr (aL F (p:Int) M N (.slice G L.length H) q P S R);have ad:=yY wr (aL F (p:Int) M N (.slice G L.length H) q P S R);have z:=cell_of_row _ _ 1 _ _ _ ad;have e5:=cell_of_row _ _ 5 _ _ _ ad;replace z:(wr.alloc (aL F (p:Int) M N (.slice G L.length H) q P S R)).cell? (J wr.heap.size 1)=some (U (p:Int)):=z.trans rfl;replace e5:(wr.alloc (aL F (p:Int) M N (.slice G L.length H) q P S R)).cell? (J wr.heap.size 5)=some (.string ⟨q.toArray⟩):=e5.trans rfl;have cc:=A4 A2 ae;have ce:=A4 A2 ag;have am:=A4 A2 d0;have br:∀o,(wr.alloc (aL F (p:Int) M N (.slice G L.length H) q P S R)).frozen? (J (w.heap.size+1) o)=false:=λo=>S6 bh (zf o);have ax:(wr.alloc (aL F (p:Int) M N (.slice G L.length H) q P S R)).heap.size=wr.heap.size+1:=Array.size_push _;have ai:=O A2;clear A2 ad zf;go_wp2_with fail;clear x0 x1 x2 x3 x4 x5 x6 x7 x8 v0 bo ae ag d0;generalize (wr.alloc (aL F (p:Int) M N (.slice G L.length H) q P S R))=W at*;have b5:=O (((A3 D.u ai.u (λ_ _ x=>x)).drew).alloc (.cells #[.string ⟨q.toArray⟩,U (r:Int)] 137));have ay:(W.drew.alloc (.cells #[.string ⟨q.toArray⟩,U (r:Int)] 137)).heap[wr.heap.size+1]?=some (.cells #[.string ⟨q.toArray⟩,U (r:Int)] 137 (0,0)):=by
    have:=yY W.drew (.cells #[.string ⟨q.toArray⟩,U (r:Int)] 137);rw[show W.drew.heap.size=wr.heap.size+1 from ax]at this;exact this
   have b4:=O ay;have bu:(W.alloc (.cells #[.string ⟨q.toArray⟩,U (r:Int)] 137)).cell? (J (w.heap.size+1) 1)=some (.slice t n u):=I4 (by rw[ax];omega) am;clear ay;go_region_law (
    refine step_append_lies _ (by rfl) _ _ _ (by rfl) w.heap.size 137 i0 _ 2 24 underlying79 b8 bj bm bn rfl (by omega) (.slice t n u) n (G0 a6) (by rfl) b5.u (J (wr.heap.size+1) 0) 1 1 [.string ⟨q.toArray⟩,U (r:Int)] (by rfl) (by rfl) (World.news_of_block (cs:=#[.string ⟨q.toArray⟩,U (r:Int)]) (t:=137) (fr:=(0,0)) b4.u) (by simp[Value.oneCell']) (by omega) (by simp only[maxLen];omega) (by omega) (by simp;omega) (W.heap.size+1) (by simp) ?_;intro gg bt az aw a3 b6 c3;have z4:az.cell? (J (w.heap.size+1) 1)=some (.slice t n u):=by rw[a3.cell_far _ (by simp;omega) (Ne.symm av)];exact I4 (w:=W.drew) (by simp;omega) am
    have y4:az.frozen? (J (w.heap.size+1) 1)=false:=by rw[a3.frozen_far _ (by simp;omega) (Ne.symm av)];exact S6 (w:=W.drew) (by simp;omega) (br 1));all_goals
    have HP:=O (zV (o:=1) (n0:=w.heap.size) (w:=w) v.u (by omega) D.u (by decide) (I.ek CR.u (λ_ _ x=>x.elim) (vQ _)) (vQ _) (B6 ai.u (B6 (I.drewN No W 1) (I.alloc No W.drew (.cells #[.string ⟨q.toArray⟩,U (r:Int)] 137)))) a3 aw);clear aw a3 b6;go_wp2_with fail;go_roundw;case rel=>exact⟨n+1,_,_,by omega,by go_num,(I.below HP.u.2.2.2.1).mono (λcb hk x=>by omega),HP.u.2.2.2.2.2.1,(show World.ownsRow _ _ _ _ _ _ _ from by rw[HT.u,GW];exact HP.u.2.2.2.2.1)⟩
    case measure=>simp[intOf];omega
  .have b9:n=m.length:=by omega
   subst b9;rw[jZ]at D;have bp:=A4 CR.u b1.u;have aa:=blt bp;simp only at aa;have d0:wr.cell? (J (w.heap.size+1) 0)=some (U 7):=cr v.u rfl;have d1:wr.cell? (J (w.heap.size+1) 1)=some (.slice t m.length u):=cr v.u rfl;have d2:wr.cell? (J (w.heap.size+1) 2)=some (sN):=cr v.u rfl;have d3:wr.cell? (J (w.heap.size+1) 3)=some (U 0):=cr v.u rfl;have HP:Hid (∀a5,I No wr a5->Calls prog 25 #[pV b,.agg #[U 7,.slice t m.length u,sN,U 0]] a5 λy w'=>y=.returned (U ((tl c Z).length:Int))/\aS e w' c d b f j i l k h (Z++[⟨7,m.map (iV c a),[],0⟩]) a/\KG a5 w'):=λa5 hu=>
    FX (H0.u.y (B6 CR.u hu)) ⟨7,m.map (iV c a),[],0⟩ t none m.length u 0 0 (by
     have:=C8 (A3 D.u hu (λ_ _ x=>x)) (wQ _);rw[uZ];exact this) (kW _ _ _ _) (H0.u.re (KG.y (B6 CR.u hu)) (λa7 hg=>(D.u.lt a7 hg).1)) (λ_ _ a7 hg=>by simp[Value.ownBlock]at hg) al.u ⟨by simp,by rw[uZ];omega⟩ hN;clear HL HO aj;go_wp2_with fail;go_region_with (go_at_call 25;refine(HP.u _ (I.drewN _ _ 1)).mono ?_;rintro y bq ⟨rfl,an,aq⟩);all_goals
    have HQ:Hid (lL e w c d b f j i l k h Z a (.nd 7 (m.map λx=>(aC c.N x).text) (m.map λx=>aX g (aC c.N x).a)) (.returned (U ((tl c Z).length:Int))) bq):=by
     refine⟨(tl c Z).length,[⟨7,m.map (iV c a),[],0⟩],rfl,by simp,by rw[<-nL,qQ,List.length_singleton];omega,by rw[<-nL];exact b3.u,an,(KG.y (B6 CR.u (I.drewN _ _ 1))).trans aq⟩
    clear an aq;go_wp2_with fail;go_ret;exact HQ.u
end
