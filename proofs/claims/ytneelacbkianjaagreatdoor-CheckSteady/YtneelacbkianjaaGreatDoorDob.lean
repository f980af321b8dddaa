/-
  A part of the proof.
-/
import Derived.Test.YtneelacbkianjaaGreatDoorUnionA
set_option maxHeartbeats 16000000
set_option maxRecDepth 100000
namespace Go.Proofs.YtneelacbkianjaaGreatDoor
open Go.Proofs.Tryz
open Go.RowKit Go.Maps
section
variable{e w:lZ}{c:Cx}{d b f j:Nat}{i l h:Value}{k:Int}{Z:List Ty}{a:uZ}{g:Of}
def fdw(c:Cx)(a:uZ)(x:Int):bZ×Int:=((ndx c.N x).text,a.getD (ndx c.N x).a.toNat 0)
theorem Y8c(hB:Cbs e c d b f j i h)(R:Cst e w c d b f j i l k h Z a)(t:Nd)(ab:∀x∈t.list,∃n:Nat,x=(n:Int)/\∃hj:n<c.N.length,Lk c Z a g c.N[n].a/\S4 c.N[n].text)(au:(t.list.map λx=>(ndx c.N x).text).Nodup)(hn:t.list.length<=1200)(B:Option Addr)(C:Nat)(ar:w.ownsRow 0 3 1 (.slice B t.list.length C) t.list.length (C8 t.list))(hN:(tl c Z).length+1<=4000):
 Calls prog 78 #[pV d,nvl t B C] w (GrQ e w c d b f j i l k h Z a (S7b c.N g t)):=by
 unfold S7b nvl;obtain⟨kd,va,vb,vc,m,tx,vn,vt,vp⟩:=t;simp only at *;obtain⟨i0,b8,bj,bk,bm⟩:=info_parts Tryz.infoField;have hT:=R.ts;have H0:=O R;have HO:=O ar;have HL:=O ab;have a9:∀x∈m,0<=(fdw c a x).2/\(fdw c a x).2<((tl c Z).length:Int)/\tr (tl c Z) (fdw c a x).2.toNat=ofA g (ndx c.N x).a/\S4 (fdw c a x).1:=λx hx=>by
  obtain⟨n,rfl,hj,⟨p,r,S,z,Y,bi,ac⟩,bd⟩:=ab x hx;have A:ndx c.N (n:Int)=c.N[n]:=F7 hj;have e2:(fdw c a (n:Int)).2=(r:Int):=by
   unfold fdw;rw[A,z];show a.getD (Int.toNat (p:Int)) 0=_;rw[tQ,lQ,gQ S];exact Y
  refine⟨by omega,by omega, ?_, ?_⟩
  · rw[e2,tQ,A];exact ac
  · unfold fdw;rw[A];exact bd
 have al:Hid (TyOk ⟨7,m.map (fdw c a),[],0⟩ (tl c Z).length):= .inr (.inl ⟨rfl,rfl,by rw[List.map_map];exact au,λp S=>by
  obtain⟨x,hx,rfl⟩:=jZ.1 S;obtain⟨a1,a2,_,a4⟩:=a9 x hx;exact⟨a4,a1,a2⟩⟩)
 have b3:Hid (tr (tl c Z++[⟨7,m.map (fdw c a),[],0⟩]) (tl c Z).length= .nd 7 (m.map λx=>(ndx c.N x).text) (m.map λx=>ofA g (ndx c.N x).a)):=by
  show _=_;rw[N5a hT al.o];have A:(m.map (fdw c a)).map (λp=>tr (tl c Z) p.2.toNat)=m.map λx=>ofA g (ndx c.N x).a:=by
   rw[List.map_map];exact List.map_congr_left λx hx=>(a9 x hx).2.2.1
  have e2:(m.map (fdw c a)).map (·.1)=m.map λx=>(ndx c.N x).text:=by
   rw[List.map_map];rfl
  simp only[A,e2];simp
 obtain⟨oa,oc,c8,fz,q0,q1,q2,q3,q4,q5,q6,qp,qo⟩:=R.cell;have b1:=O q3;have ak:=O qo;have aj:=O (hB.nrow R.chg);have bx:=hB.ok.lenN;have A1:=I.alloc No w (ndC kd va vb vc (.slice B m.length C) tx vn vt vp);have nb:=qY w (ndC kd va vb vc (.slice B m.length C) tx vn vt vp);have n4:(w.alloc (ndC kd va vb vc (.slice B m.length C) tx vn vt vp)).cell? (J w.heap.size 4)=some (.slice B m.length C):=cr nb rfl;have ah:=O A1;have b0:=O q0;have b2:=O q6;have br:Hid (I (SW e d b f) e w):=R.chg;clear R ar ab a9 qp qo q1 q2 q3 q4 q5 fz A1 nb hT q0 q6 au;go_enter func78,ntmps78;go_wp2_with fail
 have hz:=qY (w.alloc (ndC kd va vb vc (.slice B m.length C) tx vn vt vp)) (.cells #[U 7,sN,sN,U 0] 76);have Z0:=O hz;have C3:=O (D3 ah.o (I.alloc No (w.alloc (ndC kd va vb vc (.slice B m.length C) tx vn vt vp)) (.cells #[U 7,sN,sN,U 0] 76)));simp only[Array.size_push,World.alloc]at Z0;clear hz ah;go_loopw [13] (λaf wr=>∃(n:Nat) (u:Option Addr) (v:Nat),n<=m.length/\af=U (n:Int)/\Hid (I No w wr)/\Hid (wr.heap[w.heap.size+1]? =some (.cells #[U 7,.slice u n v,sN,U 0] 76 (0,0)))/\Hid (wr.ownsRow w.heap.size 131 2 (.slice u n v) n (G5 ((m.take n).map (fdw c a))))) (λaf _=>m.length - (intOf af).toNat)
 case atStart=>exact⟨0,none,0,wQ _,rfl,C3.o,Z0.o,kW _ _ _ _⟩
 case round=>
  clear Z0 C3 n4;obtain⟨n,u,v,hj,rfl,s,y,D⟩:=hrel;have c9:w.heap.size<=wr.heap.size:=s.o.size;have bh:=(ltG y.o);by_cases a8:n<m.length
  · obtain⟨g2,bb,bu,bw,ba,v0⟩:=D9 (A4 HO.o s.o (λ_ _ x=>x)) a8;subst bb;obtain⟨T,z,ap,⟨p,r,S,ea,Y,bi,ac⟩,-⟩:=HL.o m[n] (mQ a8);obtain⟨go,bg,c4,c5,c6,bf,y0,-⟩:=ak.o p S;subst bg;rw[Y]at y0;have HT:Hid ((m.take (n+1)).map (fdw c a)=(m.take n).map (fdw c a)++[(c.N[T].text,(r:Int))]):=by
     show _=_;rw[nQ a8,wY,List.map_singleton,z];unfold fdw;rw[show ndx c.N (T:Int)=c.N[T] from F7 ap,ea,tQ,lQ,gQ S,Y];rfl
    obtain⟨a6,ao⟩:∃a6,a6=(m.take n).map (fdw c a):=⟨_,rfl⟩;rw[<-ao]at D HT;clear ao;have bn:=A8 s.o b0.o;have ae:=A8 s.o b2.o;have ag:=A8 s.o y0;obtain⟨a7,nc,F,G,be,hg,c3,bc,⟨x0,x1,x2,x3,x4,x5,x6,x7,x8⟩,-,-⟩:=aj.o.at (s.o.toBelow (λ_ _ x=>x.elim) (vQ _)) T ap;generalize c.N[T]=t at *;obtain⟨E,cc,K,L,H,q,M,P,N⟩:=t;subst be;simp only at *;subst ea;rw[z]at v0;have d0:wr.cell? (J (w.heap.size+1) 1)=some (.slice u n v):=cr y.o rfl;have zf:∀o,wr.frozen? (J (w.heap.size+1) o)=false:=λo=>frozen_of_row wr _ o _ _ y.o;have av:Value.ownBlock (.slice u n v)≠some (w.heap.size+1):=Q6 D.o y.o (by decide);unfold maxLen at ba bc bf;have c7:(p:Int)<(a.length:Int):=by omega
    have bv:(T:Int)<(c.N.length:Int):=by omega
    have b7:=blt ag;have aa:=blt ae;simp only at b7 aa;clear z Y ac y0 HL ak HO;have V:=I.alloc No wr (ndC E (p:Int) K L (.slice F H.length G) q M P N);have ad:=qY wr (ndC E (p:Int) K L (.slice F H.length G) q M P N);have A:=cell_of_row _ _ 1 _ _ _ ad;have e5:=cell_of_row _ _ 5 _ _ _ ad;replace A:(wr.alloc (ndC E (p:Int) K L (.slice F H.length G) q M P N)).cell? (J wr.heap.size 1)=some (U (p:Int)):=A.trans rfl;replace e5:(wr.alloc (ndC E (p:Int) K L (.slice F H.length G) q M P N)).cell? (J wr.heap.size 5)=some (.string ⟨q.toArray⟩):=e5.trans rfl;have cb:=A8 V ae;have cd:=A8 V ag;have am:=A8 V d0;have bq:∀o,(wr.alloc (ndC E (p:Int) K L (.slice F H.length G) q M P N)).frozen? (J (w.heap.size+1) o)=false:=λo=>X8 bh (zf o);have ax:(wr.alloc (ndC E (p:Int) K L (.slice F H.length G) q M P N)).heap.size=wr.heap.size+1:=Array.size_push _;have ai:=O V;clear V ad zf;go_wp2_with fail
    clear x0 x1 x2 x3 x4 x5 x6 x7 x8 v0 bn ae ag d0;generalize (wr.alloc (ndC E (p:Int) K L (.slice F H.length G) q M P N))=W at *;have b5:=O (((A4 D.o ai.o (λ_ _ x=>x)).drew).alloc (.cells #[.string ⟨q.toArray⟩,U (r:Int)] 131));have ay:(W.drew.alloc (.cells #[.string ⟨q.toArray⟩,U (r:Int)] 131)).heap[wr.heap.size+1]? =some (.cells #[.string ⟨q.toArray⟩,U (r:Int)] 131 (0,0)):=by
     have:=qY W.drew (.cells #[.string ⟨q.toArray⟩,U (r:Int)] 131);rw[show W.drew.heap.size=wr.heap.size+1 from ax]at this;exact this
    have b4:=O ay;have bt:(W.alloc (.cells #[.string ⟨q.toArray⟩,U (r:Int)] 131)).cell? (J (w.heap.size+1) 1)=some (.slice u n v):=I5 (by rw[ax];omega) am;clear ay;go_region_law (
     refine step_append_lies _ (by rfl) _ _ _ (by rfl) w.heap.size 131 i0 _ 2 24 underlying74 b8 bj bk bm rfl (by omega) (.slice u n v) n (G5 a6) (by rfl) b5.o (J (wr.heap.size+1) 0) 1 1 [.string ⟨q.toArray⟩,U (r:Int)] (by rfl) (by rfl) (World.news_of_block (cs:=#[.string ⟨q.toArray⟩,U (r:Int)]) (t:=131) (fr:=(0,0)) b4.o) (by simp[Value.oneCell']) (by omega) (by simp only[maxLen];omega) (by omega) (by simp;omega) (W.heap.size+1) (by simp) ?_;intro gg bs az aw a3 b6 bz;have z4:az.cell? (J (w.heap.size+1) 1)=some (.slice u n v):=by rw[a3.cell_far _ (by simp;omega) (Ne.symm av)];exact I5 (w:=W.drew) (by simp;omega) am
     have y4:az.frozen? (J (w.heap.size+1) 1)=false:=by rw[a3.frozen_far _ (by simp;omega) (Ne.symm av)];exact X8 (w:=W.drew) (by simp;omega) (bq 1))
    all_goals
     have X:=O (X3a (o:=1) (n0:=w.heap.size) (w:=w) y.o (by omega) D.o (by decide) (I.toBelow s.o (λ_ _ x=>x.elim) (vQ _)) (vQ _) (D3 ai.o (D3 (I.drewN No W 1) (I.alloc No W.drew (.cells #[.string ⟨q.toArray⟩,U (r:Int)] 131)))) a3 aw);clear aw a3 b6;go_wp2_with fail
     go_roundw
     case rel=>exact⟨n+1,_,_,by omega,by go_num,(I.below X.o.2.2.2.1).mono (λca hk x=>by omega),X.o.2.2.2.2.2.1,(show World.ownsRow _ _ _ _ _ _ _ from by rw[HT.o,O7a];exact X.o.2.2.2.2.1)⟩
     case measure=>simp[intOf];omega
  · have b9:n=m.length:=by omega
    subst b9;rw[xZ]at D;have bo:=A8 s.o b1.o;have aa:=blt bo;simp only at aa;have d0:wr.cell? (J (w.heap.size+1) 0)=some (U 7):=cr y.o rfl;have d1:wr.cell? (J (w.heap.size+1) 1)=some (.slice u m.length v):=cr y.o rfl;have d2:wr.cell? (J (w.heap.size+1) 2)=some (sN):=cr y.o rfl;have d3:wr.cell? (J (w.heap.size+1) 3)=some (U 0):=cr y.o rfl;have X:Hid (∀a5,I No wr a5->Calls prog 21 #[pV b,.agg #[U 7,.slice u m.length v,sN,U 0]] a5 λz w'=>z= .returned (U ((tl c Z).length:Int))/\Cst e w' c d b f j i l k h (Z++[⟨7,m.map (fdw c a),[],0⟩]) a/\KG a5 w'):=λa5 hu=>
     W9c (H0.o.still (D3 s.o hu)) ⟨7,m.map (fdw c a),[],0⟩ u none m.length v 0 0 (by
      have:=C9 (A4 D.o hu (λ_ _ x=>x)) (wQ _);rw[iZ];exact this) (kW _ _ _ _) (H0.o.far (KG.still (D3 s.o hu)) (λa7 hg=>(D.o.lt a7 hg).1)) (λ_ _ a7 hg=>by simp[Value.ownBlock]at hg) al.o ⟨by simp,by rw[iZ];omega⟩ hN
    clear HL HO aj;go_wp2_with fail
    go_region_with (go_at_call 21;refine(X.o _ (I.drewN _ _ 1)).mono ?_;rintro z bp ⟨rfl,an,aq⟩)
    all_goals
     have HQ:Hid (GrQ e w c d b f j i l k h Z a (.nd 7 (m.map λx=>(ndx c.N x).text) (m.map λx=>ofA g (ndx c.N x).a)) (.returned (U ((tl c Z).length:Int))) bp):=by
      refine⟨(tl c Z).length,[⟨7,m.map (fdw c a),[],0⟩],rfl,by simp,by rw[<-D9a,qQ,List.length_singleton];omega,by rw[<-D9a];exact b3.o,an,(KG.still (D3 s.o (I.drewN _ _ 1))).trans aq⟩
     clear an aq;go_wp2_with fail
     go_ret;exact HQ.o
end
