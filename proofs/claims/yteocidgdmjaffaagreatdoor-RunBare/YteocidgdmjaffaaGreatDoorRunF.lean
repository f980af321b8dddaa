/-
  A part of the proof.
-/
import Derived.Test.YteocidgdmjaffaaGreatDoorRunE
import Derived.Test.YteocidgdmjaffaaGreatDoorEndA
set_option maxHeartbeats 0
set_option linter.all false
set_option maxRecDepth 100000
namespace Go.Proofs.YteocidgdmjaffaaGreatDoor
open Go.RowKit Go.Maps
section
variable{b w h:E}{mb a e gq z:Nat}{d:Value}{G:Int->Option Int}{c:Cx}{s:Ms}{g f:Gh}
def Mq{k}(t:eN b c a e d)(v:fD b mb a gq G c k)(y:∀A,A<k->fD b mb a gq G c A)(D:lB b mb a gq G c k)(H:CE b mb a gq G c (gC c 10) λi m=>rn c.N (aP c) G (k+1) (.e i) m):CE b mb a gq G c (lU c) λi m=>rn c.N (aP c) G (k+1) (.e i) m:=by
 have F:LI b mb a gq G c k:=λw s g z j a3 W V B T S o r R p M L P q=>Yu t D o r R p M L P q;intro w s g z m i o r u x q;have p:∀n:Int,(aC c.N i).x=n->gC c n i:=λn l=>⟨x.1,x.2.1,l⟩;obtain⟨Z,a2⟩:=x.2.2;have N:(aC c.N i).x=1\/(aC c.N i).x=2\/(aC c.N i).x=3\/(aC c.N i).x=4\/(aC c.N i).x=5\/(aC c.N i).x=6\/(aC c.N i).x=7\/(aC c.N i).x=8\/(aC c.N i).x=9\/(aC c.N i).x=10\/(aC c.N i).x=11\/(aC c.N i).x=12\/(aC c.N i).x=13\/(aC c.N i).x=14:=by omega
 obtain l|l|l|l|l|l|l|l|l|l|l|l|l|l:=N
 .exact Mz t w s g z m i o r u (p _ l) q
 .exact uv t w s g z m i o r u (p _ l) q
 .exact uh t w s g z m i o r u (p _ l) q
 .exact uo t w s g z m i o r u (p _ l) q
 .exact Og t w s g z m i o r u (p _ l) q
 .exact DO t w s g z m i o r u (p _ l) q
 .exact uk t v y F w s g z m i o r u (p _ l) q
 .exact Mx t v w s g z m i o r u (p _ l) q
 .exact DP t v w s g z m i o r u (p _ l) q
 .exact H w s g z m i o r u (p _ l) q
 .exact Mv t y w s g z m i o r u (p _ l) q
 .exact Oa t v w s g z m i o r u (p _ l) q
 .exact Nv t v w s g z m i o r u (p _ l) q
 .exact DQ t v w s g z m i o r u (p _ l) q
def Vo{k}(t:eN b c a e d)(u:fD b mb a gq G c k)(F:∀v,v<k->fD b mb a gq G c v)(A:lB b mb a gq G c k)(B:∀v,v<k->lB b mb a gq G c v)(D:nI b mb a gq G c 20 λi y=>rn c.N (aP c) G (k+1) (.s i) y):CT b mb a gq G c 60 (DM c) λi y=>rn c.N (aP c) G (k+1) (.s i) y:=by
 intro w s g z j i m r o x q;have p:∀n:Int,(aC c.N i).x=n->gC c n i:=λn l=>⟨x.1,x.2.1,l⟩;obtain⟨L,M⟩:=x.2.2;have H:(aC c.N i).x=17\/(aC c.N i).x=18\/(aC c.N i).x=19\/(aC c.N i).x=20\/(aC c.N i).x=21\/(aC c.N i).x=22\/(aC c.N i).x=23\/(aC c.N i).x=24\/(aC c.N i).x=25:=by omega
 obtain l|l|l|l|l|l|l|l|l:=H
 .exact Vv t u w s g z j i m r o (p _ l) q
 .exact Wj t u w s g z j i m r o (p _ l) q
 .exact Vz t u w s g z j i m r o (p _ l) q
 .exact D w s g z j i m r o (p _ l) q
 .exact Wl t u w s g z j i m r o (p _ l) q
 .exact CU t u A w s g z j i m r o (p _ l) q
 .exact Wq t F B w s g z j i m r o (p _ l) q
 .exact Wd t u w s g z j i m r o (p _ l) q
 .exact CY t u w s g z j i m r o (p _ l) q
def Rk(q:eN b c a e d)(A:∀k,(∀l,l<=k->fD b mb a gq G c l)->CE b mb a gq G c (gC c 10) λi m=>rn c.N (aP c) G (k+1) (.e i) m)(y:∀k,fD b mb a gq G c k->nI b mb a gq G c 20 λi m=>rn c.N (aP c) G (k+1) (.s i) m)(k):
 (CE b mb a gq G c (lU c) λi m=>rn c.N (aP c) G k (.e i) m)/\fD b mb a gq G c k/\(CT b mb a gq G c 60 (DM c) λi m=>rn c.N (aP c) G k (.s i) m)/\lB b mb a gq G c k:=by
 induction k using Nat.strongRecOn with
 |ind k p=>
  cases k with
  |zero=>exact⟨λw s g z m i n u x r o=>absurd rfl o,λw s g z m i n u x r o=>absurd rfl o,λw s g z j i n u D r o=>absurd rfl o,λw s g z m i n u x r o=>absurd rfl o⟩
  |succ k=>
   obtain⟨B,t,F,v⟩:=p k (by omega);exact⟨Mq q t (λl n=>(p l (by omega)).2.1) v (A k λl n=>(p l (by omega)).2.1),Yx q.ok B,Vo q t (λl n=>(p l (by omega)).2.1) v (λl n=>(p l (by omega)).2.2.2) (y k t),Yr q λl n=>(p l (by omega)).2.2.1⟩
end
open Go.Proofs.Tryz
section
variable{b w h:E}{a e j d z:Nat}{i:Value}{G:Int->Option Int}{N:List C}{c:Cx}{s:Ms}{g f:Gh}
def Rm.py{q}(l:Rm b w a e d G N s g z)(v:I (λk=>k=q) w h)(L:b.heap.size<=q)(P:q≠a)(M:q≠d)(R:g.ow q=none)(A:∀o p u,w.heap[q]?≠some (.cells o p u)):Rm b h a e d G N s g z:=by
 have B:∀k r,g.ow k=some r->¬k=q:=λk r n x=>by
  grind
 refine l.gen (d:=0) v (λk m (x:k=q)=>by omega) (l.rows v λk m (x:k=q)=>⟨by omega,λo p u y=>absurd (x ▸ y) (A o p u)⟩) ⟨List.prefix_refl _,List.prefix_refl _,λ_ _=>rfl⟩ l.tl l.sl (λk r m n=>?_) (λk r n x=>(B k r n x).elim) l.ok (by omega) (λH t F=>.inl ⟨F,λk m=>?_⟩) (λH q D=>.inl ⟨D,λk m=>?_⟩)
 .have:=(l.low k r n).2;omega
 .grind
 grind
def aH.nr(l:aH b a w g h f){k}(m:k<w.heap.size)(u:∀n o p,w.heap[k]?≠some (.cells n o p))(q:g.ow k=none)(t:k≠a):h.heap[k]?=w.heap[k]?/\f.ow k=none:=by
 refine⟨l.P.block k m λx=>?_,l.no m q⟩;obtain x|⟨r,x,_⟩|⟨_,cs',e',fz',y,_⟩:=x<;>grind
def Ek{l}{k}(m:l.length=k.length)(x)(v):parts (l++[x]) (k++[v])=λy=>if y=x then some v else parts l k y:=by
 simp_all[parts,List.zip_append,List.foldl_append]
theorem EK{c}:∀(o) (m),(∀v∈m,bF c v)->∀x v,parts o m x=some v->bF c v:=by
 intro o m q x v t;have A:∀(l:List (Y×Vl)) (k:Y->Option Vl),(∀p∈l,bF c p.2)->(∀y u,k y=some u->bF c u)->∀y u,l.foldl (λk p y=>if y=p.1 then some p.2 else k y) k y=some u->bF c u:=by
  intro l;induction l with
  |nil=>simp
  |cons p l F=>
   intro k n D y u r;rw[List.foldl_cons]at r;grind
 exact A _ _ (λp n=>q _ (List.of_mem_zip (a:=p.1) (b:=p.2) n).2) (λ_ _ B=>by grind) x v t
theorem Kw{N}{n}{F:List Vl->X (List Vl)}(k)(p)(l:bZ)(o)(m)(s):
 ((rn N n G (k+1) (.vs (p::l)) o).bd λq=>F (m++q)) s=((rn N n G k (.v p) o).bd λr=>(rn N n G k (.vs l) o).bd λq=>F ((m++[r1 r])++q)) s:=by
 rw[rn];simp only[KS];congr 2;funext r;congr 1;funext q;show F (m++r1 r::q)=_;simp
theorem oM{m n}(l)(k:m->X n):(aE l).bd k=k l:=rfl
def qA(k:Int)(n:List Y)(m:List Vl):X (List Vl):=(bX k).bd λ_=>(dZ ⟨16,parts n m,[],0,none⟩).bd λl=>aE [⟨16,0,[],some l⟩]
def fM.nc{k}{w}{q m}{p}(r:fM k w q m p):∀l n o,w.heap[q]?≠some (.cells l n o):=λl n o y=>by
 obtain⟨u,t,v⟩:=r.isMap;grind
theorem fM.lt{k}{w}{q m}{l}(n:fM k w q m l):q<w.heap.size:=by
 obtain⟨p,o,r⟩:=n.isMap;grind
def Lu{K}(P:eN b c e j i)(hV:∀k,k<K->fD b a e d G c k)(y:Rm b w a e d G c.N s g z)(hz:z+4000<=1000000000){B}(ax:hY s.c B){p}(ar:p<c.N.length)(bd:c.N[p].x=10){R}
 (hR:R=((rn c.N (aP c) G K (.vs (c.N[p].M.map λx=>(aC c.N x).a)) B).bd λvs=>qA p (c.N[p].M.map λx=>(aC c.N x).text) vs) s) (bg:R≠.stk):
 Calls prog 182 #[pV a,U p,.pointer (pad g.sb B)] w (RP b a e d G c.N (z+3000) w g s Kv R):=by
 obtain⟨bp,-,-⟩:=(P.ok.ep p ar).l6 bd;have c8:=P.ok.ls p ar;have ct:=P.ok.fh;obtain⟨fz,lt,m0,m1,m2,m3,m4⟩:=y.mc;obtain⟨gn,nc,la,lc,q0,q1,q2,q3,q4,q5,⟨x0,x1,x2,x3,x4,x5,x6,x7,x8⟩,ho⟩:=P.node y ar;obtain⟨b6,c4,ca⟩:=gV w (.cells #[U 0,.int .i32 0,.string ⟨#[]⟩,.pointer none] 150) (.map #[] 0);have av:fM 9 ((w.alloc (.cells #[U 0,.int .i32 0,.string ⟨#[]⟩,.pointer none] 150)).alloc (.map #[] 0)) (w.heap.size+1) 0 (λ_=>none):=by
  have:=fM.new 9 (w.alloc (.cells #[U 0,.int .i32 0,.string ⟨#[]⟩,.pointer none] 150)) 0;simpa using this
 have c6:=y.gs.lt;have bf:(λ_=>none)=kG (parts [] []) g.tb:=by
  funext cd;cases cd<;>rfl
 rw[bf]at av;have an:=O (⟨y.new (vQ _),y.mc.2.1,y.P.size,y.new (Nat.le_succ _),c6⟩:g.ow w.heap.size=none/\a<w.heap.size/\b.heap.size<=w.heap.size/\g.ow (w.heap.size+1)=none/\d<w.heap.size);have ba:=aH.y (wB:=b) (mb:=a) (g:=g) ca;have HX:Hid (∀b0 t r,Rm b b0 a e d G c.N t r z->∀l (A:l<c.N.length),_):=λb0 t r (L:Rm b b0 a e d G c.N t r z) l A=>(⟨L.mc,P.node L A⟩:_/\_);have bw:Hid (∀x∈c.N[p].M,∃l:Nat,x=l/\∃A:l<c.N.length,lU c c.N[l].a/\c.N[l].text.length<=1000000):=λx hx=>by
  obtain⟨l,rfl,_,A,hk⟩:=bp x hx;exact⟨l,rfl,A,J3 ((P.ok.ep l A).k1 (by omega)),by have:=P.ok.tx c.N[l] (mQ A);omega⟩
 have bv:=O (λ(f:Gh) (hp:g.sb<+:f.sb)=>J6 hp (o:=B) λl m=>by rw[y.sl];exact ax l m);have bx:Hid (R=((rn c.N (aP c) G K (.vs ((c.N[p].M.drop 0).map λx=>(aC c.N x).a)) B).bd λq=>qA (p:Int) (c.N[p].M.map λx=>(aC c.N x).text) ([]++q)) s):=hR;have R0:=O (y.y ca);have F0:=O ba;have bu:=O av;have bs:=O (⟨b6,y.new (vQ _)⟩:_/\g.ow w.heap.size=none);have am:=O bg;have HV:=O hV;have bz:=O ax;have HL:=O ho;have cq:(p:Int)<(c.N.length:Int):=by omega
 have cv:=@run_makeMap prog;generalize pad g.sb B=cg at*;generalize c.N[p].M=o at*;clear P hV y hR bg bp ax ca ho b6 c4 ba av bf bd;go_in;go_wp2_with fail;go_loopw [25] (λaz wr=>∃(n k:Nat) (v:List Vl) (t:Ms) (r:Gh),n<=o.length/\az=U (n:Int)/\v.length=n/\k<=K/\Hid (R=((rn c.N (aP c) G k (.vs ((o.drop n).map λx=>(aC c.N x).a)) B).bd λq=>qA (p:Int) (o.map λx=>(aC c.N x).text) (v++q)) t)/\Hid (Rm b wr a e d G c.N t r z)/\Hid (aH b a w g wr r)/\Hid (wr.heap[w.heap.size]?=some (.cells #[U 0,.int .i32 0,.string ⟨#[]⟩,.pointer none] 150 (0,0))/\r.ow w.heap.size=none)/\Hid (Gr s.c t.c)/\Hid (∀u∈v,bF t.c u)/\Hid (fM 9 wr (w.heap.size+1) n (kG (parts ((o.take n).map λx=>(aC c.N x).text) v) r.tb)/\r.ow (w.heap.size+1)=none)) (λaz _=>o.length-(intOf az).toNat);case atStart=>exact⟨0,K,[],s,g,wQ _,rfl,rfl,vQ _,bx,R0,F0,bs,Gr.refl _,(λ_ hu=>by grind),bu,an.u.2.2.2.1⟩
 case round=>
  obtain⟨n,k,v,t,r,cw,rfl,b5,hk,a8,F,T,a6,a5,HA,ac⟩:=hrel;by_cases au:n<o.length
  .obtain⟨k,rfl⟩:∃l,k=l+1:=by
    cases k with
    |zero=>exact absurd (a8.u.trans rfl) am.u
    |succ l=>simp
   obtain⟨l,ay,A,bo,bj⟩:=bw.u o[n] (mQ au);have aw:aC c.N o[n]=c.N[l]:=by rw[ay,B9 A]
   have ab:=a8.u;rw[List.drop_eq_getElem_cons au,xZ,Kw,aw]at ab;have bh:=K8 (by rw[<-ab];exact am.u);have b8:=A3 HL.u F.u.P λ_ _ x=>x;obtain⟨gl,c7,-,cp,cn,c5,b7⟩:=D4 b8 (by omega);subst c7;have v0:=b7 n (U o[n]) (by grind[C7]);rw[ay]at v0;obtain⟨⟨cl,cz,n0,n1,n2,n3,n4⟩,cm,d4,bq,br,o0,o1,o2,o3,o4,o5,⟨y0,y1,y2,y3,y4,y5,y6,y7,y8⟩,-⟩:=HX.u wr t r F.u l A;have cb:=I.alloc No wr (.cells #[U c.N[l].x,U c.N[l].a,U c.N[l].b,U c.N[l].c,.slice bq c.N[l].M.length br,.string ⟨c.N[l].text.toArray⟩,U c.N[l].n,U c.N[l].ty,U c.N[l].at'] 85);have bn:∀ae,I No (wr.alloc (.cells #[U c.N[l].x,U c.N[l].a,U c.N[l].b,U c.N[l].c,.slice bq c.N[l].M.length br,.string ⟨c.N[l].text.toArray⟩,U c.N[l].n,U c.N[l].ty,U c.N[l].at'] 85)) ae->Calls prog 93 #[pV a,U c.N[l].a,.pointer cg] ae λm D=>(∃ps,m=.panicked ps/\RP b a e d G c.N (z+3000) w g s Kv R (.panicked ps) D)\/∃ug un ut up S,m=.returned (.agg #[U ug,.int .i32 un,.string ut,.pointer up])/\(D.cell? (J wr.heap.size 5)=some (.string ⟨c.N[l].text.toArray⟩)/\wr.heap.size<D.heap.size)/\(Instr.mapUpdate 171 (.map (some (w.heap.size+1))) (.string ⟨c.N[l].text.toArray⟩) (.agg #[U ug,.int .i32 un,.string ut,.pointer up])).run prog D=.ok () S/\
    Hid (∃k' a7 s4 V,a7.length=n+1/\k'<=K/\R=((rn c.N (aP c) G k' (.vs ((o.drop (n+1)).map λx=>(aC c.N x).a)) B).bd λq=>qA (p:Int) (o.map λx=>(aC c.N x).text) (a7++q)) s4/\Rm b S a e d G c.N s4 V z/\aH b a w g S V/\(S.heap[w.heap.size]?=some (.cells #[U 0,.int .i32 0,.string ⟨#[]⟩,.pointer none] 150 (0,0))/\V.ow w.heap.size=none)/\Gr s.c s4.c/\(∀u∈a7,bF s4.c u)/\fM 9 S (w.heap.size+1) (n+1) (kG (parts ((o.take (n+1)).map λx=>(aC c.N x).text) a7) V.tb)/\V.ow (w.heap.size+1)=none):=by
    intro ae hW;have bb:=aH.y (wB:=b) (mb:=a) (g:=r) (B6 cb hW);have bm:=HV.u k (by omega) ae t r z B c.N[l].a (F.u.y (B6 cb hW)) (by omega) (bz.u.gr a5.u) bo bh;rw[bv.u r T.u.sb]at bm;refine bm.mono ?_;rintro m D hq;obtain⟨ps,rfl,hh⟩|⟨ck,s3,g3,al,rfl,e1,-,H,r3,b3,u,rfl,hu,rfl⟩:=RP.cut (K':=Kv) (λch=>(rn c.N (aP c) G k (.vs ((o.drop (n+1)).map λx=>(aC c.N x).a)) B).bd λq=>qA (p:Int) (o.map λx=>(aC c.N x).text) ((v++[r1 ch])++q)) hq
    .refine .inl ⟨ps,rfl,?_⟩;rw[ab];exact((hh.pre (T.u.trans bb) a5.u)).more (by omega)
    .have af:=bb.trans H;obtain⟨Z,ak⟩:=ac.u;obtain⟨aj,a9⟩:=af.nr Z.lt Z.nc ak (by omega);have bi:=af.et a6.u.1 a6.u.2 (by omega) (by decide) (by decide);have hA3:=λa4 hy=>(HA.u a4 hy).gr b3;have W:=Z.P aj;rw[<-EG af.tb (EK _ _ HA.u) F.u.tl]at W;obtain⟨L,M⟩:=RZ (parts ((o.take n).map λx=>(aC c.N x).text) v) g3.tb c.N[l].text u;obtain⟨S,c9,aa,aq⟩:=W.put wJ underlying171 (xT c.N[l].text bj) (show WideAt.IsKeyLit (.string c.N[l].text) from trivial) (by omega) (bN g3.tb u) _ L M;have cc:parts ((o.take (n+1)).map λx=>(aC c.N x).text) (v++[u])=λa4=>if a4=c.N[l].text then some u else parts ((o.take n).map λx=>(aC c.N x).text) v a4:=by
      rw[nQ au,iY,xZ,List.map_nil,aw];exact Ek (by grind) _ _
     rw[<-cc]at aa;have b9:=((aH.y (wB:=b) (mb:=a) (g:=r) hW).trans H).et (yY wr _) (F.u.new (vQ _)) (by omega) (by decide) (by decide);refine .inr ⟨u.g,u.n,⟨u.t.toArray⟩,pad g3.tb u.h,S,rfl,⟨(cell_of_row _ _ 5 _ _ _ b9.1).trans rfl,(aI b9.1)⟩,c9,k,v++[u],s3,g3,by grind,by omega,ab.trans e1,r3.py aq (by have:=an.u;omega) (by omega) (by omega) a9 W.nc,(T.u.trans af).fresh aq (λa4 hy (m:a4=w.heap.size+1)=>by omega),⟨?_,bi.2⟩,a5.u.trans b3,λa4 hy=>?_,aa,a9⟩
     .rw[aq.block _ (aI bi.1) (λ(m:w.heap.size=w.heap.size+1)=>by omega)];grind
     grind
   have c3:=O bn;have cj:=O b5;unfold maxLen at c5;have cu:(n:Int)<(o.length:Int):=by omega
   have cs:(l:Int)<(c.N.length:Int):=by omega
   clear bn b7 b8 ab bh a8 b5 bo bj aw ay ac a6 F T a5 HA cb hk;generalize c.N[l]=cf at*;obtain⟨kd,va,vb,vc,cy,tx,vn,vt,vp⟩:=cf;simp only at*;go_wp2_with fail;go_region_with (go_at_call 93;refine(c3.u _ (I.drewN No _ 1)).mono ?_;rintro m D (⟨ps,rfl,hh⟩|⟨ug,un,ut,up,S,rfl,⟨t1,t2⟩,e3,E4⟩);exact⟨rfl,hh⟩);all_goals go_wp2_with fail
   all_goals
    obtain⟨k',a7,s4,V,L,M,h3,h4,h5,h6,h7,h8,h9⟩:=E4.u;exact⟨⟨n+1,k',a7,s4,V,by omega,by go_num,L,M,h3,h4,h5,h6,h7,h8,h9⟩,by grind[intOf]⟩
  .have be:n=o.length:=by omega
   have ag:=a8.u;rw[be,List.drop_length,List.map_nil]at ag;have b4:R=qA (p:Int) (o.map λx=>(aC c.N x).text) v t:=by
    cases k with
    |zero=>exact absurd (ag.trans rfl) am.u
    |succ k=>
     rw[ag,rn,oM,lY]
   obtain⟨Z,ak⟩:=ac.u;rw[be,jZ]at Z;have b1:=O (BP F.u (p:Int));have ad:=O Z;have b2:=O ak;have ao:=O b4;have cx:¬(n:Int)<(o.length:Int):=by omega
   have HN:=O (show o.length<=1200 from c8);clear ag b4 Z ak a8 ac;go_wp2_with fail;refine b1.u.mono ?_;rintro m D ⟨H,⟨L,M,rfl,r3⟩|⟨L,M,rfl,r3⟩⟩
   .exact⟨rfl,by rw[ao.u];unfold qA;rw[I1 M];exact⟨r,[],rfl,T.u.trans H,r3.more (by omega)⟩⟩
   have ah:=ao.u;unfold qA at ah;rw[I5 M]at ah;obtain⟨a2,a3⟩:=H.et a6.u.1 a6.u.2 (by omega) (by decide) (by decide);obtain⟨aj,a9⟩:=H.nr ad.u.lt ad.u.nc b2.u (by omega);have W:=ad.u.P aj;obtain⟨d0,d1,ce,d2,d3⟩:=an.u;have ap:=I.alloc No D (.cells #[.map (some (w.heap.size+1)),sN,U 0,.pointer none] 174);have aa:=W.P (w':=D.alloc (.cells #[.map (some (w.heap.size+1)),sN,U 0,.pointer none] 174)) (Below.heap_alloc _ _ _ W.lt);obtain⟨y0,y1,y2,y3,yz,yl⟩:=dU a2 ap;have ai:Gr t.c (cS t t.c.ca (t.c.th+1)).c:=⟨λ_ ci ht=>⟨ci,ht,rfl⟩,vQ _⟩;have bc:=LN (t:=⟨16,parts (o.map λx=>(aC c.N x).text) v,[],0,none⟩) (mq:=o.length) (qm:=w.heap.size+1) (pv:=.map (some (w.heap.size+1))) (la:=none) (lc:=0) a2 a3 (vQ _) (by omega) ce (λ_ m=>by cases m) (λ_=>by omega) (T.u.trans H) r3 (a5.u.trans ai) ⟨.inl rfl,λx al m=>((EK _ _ HA.u x al m).gr ai).gr (pY _),(λ_ m=>by cases m),(λ_ m=>by cases m),by simp,λm=>absurd (show (16:Int)=64 from m) (by decide)⟩ ap (vQ _) (yY _ _) (by rw[wY rfl];exact⟨rfl,by omega,a9,by omega,aa⟩) (kW _ _ _ _) (λ_ m=>by cases m) (λx al m=>(EK _ _ HA.u x al m).gr ai) (λ_ m=>by cases m) (by omega) ah;have bt:=O bc;clear bc ah a2 a3 aj a9 W aa ap H r3 ai M b1 ao ad b2 HA a5 T F a6;go_wp2;refine bodyPost_ret (by simp[results,results182,go_sem,y0,y1,y2,y3];rfl) rfl ?_;exact bt.u
end
section
variable{a w j:E}{b d h e z:Nat}{f:Value}{G:Int->Option Int}{c:Cx}{s:Ms}{g i:Gh}
def Ni{k}(r:eN a c d h f)(F:∀M,M<k->fD a b d e G c M):CE a b d e G c (gC c 10) λl t=>rn c.N (aP c) G (k+1) (.e l) t:=by
 intro w s g z t l m a6 L hi y;obtain⟨a5,a7,o⟩:=hi;obtain⟨l,rfl⟩:=Int.eq_ofNat_of_zero_le a5;have p:l<c.N.length:=by omega
 rw[B9 p]at o;have a4:=r.ok.ep l p;obtain⟨R,n⟩:∃R,R=rn c.N (aP c) G (k+1) (.e l) t s:=⟨_,rfl⟩;simp only[<-n]at y⊢;rw[kU]at n;simp only[B9 p,o]at n;simp at n;obtain⟨fz,lt,m0,m1,m2,m3,m4⟩:=m.mc;obtain⟨gn,nc,N,P,q0,q1,q2,q3,q4,q5,⟨x0,x1,x2,x3,x4,x5,x6,x7,x8⟩,ho⟩:=r.node m p;obtain⟨v,a3,u⟩:=gV w (.cells #[U 0,.int .i32 0,.string ⟨#[]⟩,.pointer none] 150) (.cells #[U c.N[l].x,U c.N[l].a,U c.N[l].b,U c.N[l].c,.slice N c.N[l].M.length P,.string ⟨c.N[l].text.toArray⟩,U c.N[l].n,U c.N[l].ty,U c.N[l].at'] 85);have x:=aH.y (wB:=a) (mb:=b) (g:=g) u;have A:=m.y u;have q:g.ow w.heap.size=none/\b<w.heap.size/\a.heap.size<=w.heap.size:=⟨m.new (vQ _),m.mc.2.1,m.P.size⟩;have V:=O q;have Z:=λB g2 (hf:aH a b ((w.alloc (.cells #[U 0,.int .i32 0,.string ⟨#[]⟩,.pointer none] 150)).alloc (.cells #[U c.N[l].x,U c.N[l].a,U c.N[l].b,U c.N[l].c,.slice N c.N[l].M.length P,.string ⟨c.N[l].text.toArray⟩,U c.N[l].n,U c.N[l].ty,U c.N[l].at'] 85)) g B g2)=>hf.et v q.1 (by omega) (by decide) (by decide);have H:=(Lu r F A a6 L p o n y).mono λa2 B hq=>Rv.of v q.1 (vQ _) (by omega) q.2.2 x hq;have D:=O H;have T:=O x;have R0:=O A;have W:=O n;rw[o]at x0;rw[o]at D;generalize pad g.sb t=ps at*;generalize c.N[l]=nd at*;obtain⟨kd,va,vb,vc,ls,tx,vn,vt,vp⟩:=nd;simp only at*;subst o;clear r m n y a4 u ho v a3 x A L q F H W Z V R0 T;go_in;go_wp2_with fail;refine D.u.mono ?_;rintro a2 B (⟨a8,rfl,hh⟩|⟨vg,a9,ab,aa,rfl,y0,y1,y2,y3,yz,yl,S⟩)
 .exact⟨rfl,hh⟩
 go_wp2;refine bodyPost_ret (by simp[results,results133,go_sem,y0,y1,y2,y3];rfl) rfl ?_;exact S.u
end
def iu(q)(c i)(a b)(d)(w:E)(g:w.cell? (J q 0)=some a)(n:w.cell? (J q 1)=some b)(s:∀o,w.frozen? (J q o)=false):
 CallsD prog 33 #[pV q] (.panicking ({v:=.iface 64 (.agg #[U c,U i]),recovered:=false}::d)) w λe j k=>
  e=rT/\j=.panicking ({v:=.iface 64 (.agg #[U c,U i]),recovered:=true}::d)/\k=((w.setCell (J q 0) (U c)).setCell (J q 1) (U i)).alloc (.cells #[U c,U i] 64):=by
 refine callsD_of_wpS func33 rfl λm l h=>?_;apply wpS_seq;apply wpS_region;simp[wpOpsS,go_sem,recoverD,h,ntmps33,Exit.thenS];refine wpS_of_wp ?_;have r:∀w:E,(Instr.typeAssert (.iface 64 (.agg #[U c,U i])) 20 64 true).run prog w=.ok (.tuple #[.agg #[U c,U i],.bool true]) w:=λ_=>by kernel_rfl
 have f:(#[pV q]++((Array.replicate 14 undef).setIfInBounds 3 (.iface 64 (.agg #[U c,U i]))).setIfInBounds 0 (.iface 64 (.agg #[U c,U i])):Array Value)=#[pV q,.iface 64 (.agg #[U c,U i]),undef,undef,.iface 64 (.agg #[U c,U i]),undef,undef,undef,undef,undef,undef,undef,undef,undef,undef]:=rfl;rw[f];have p:=World.block_lt_of_cell? w _ g;go_wp2;exact⟨rfl,_,rfl,_,by simp[results,results33],rfl,rfl,rfl⟩
def Oe(q)(w:E):
 CallsD prog 33 #[pV q] .returning w λe d f=>
  e=rT/\d=.returning/\I No w f:=by
 refine callsD_of_wpS func33 rfl λb g a=>?_;apply wpS_seq;apply wpS_region;simp[wpOpsS,go_sem,recoverD,a,ntmps33,Exit.thenS];refine wpS_of_wp ?_;have h:∀w:E,(Instr.typeAssert .nilIface 20 64 true).run prog w=.ok (.tuple #[.agg #[U 0,U 0],.bool false]) w:=λ_=>by kernel_rfl
 have c:(#[pV q]++((Array.replicate 14 undef).setIfInBounds 3 .nilIface).setIfInBounds 0 .nilIface:Array Value)=#[pV q,.nilIface,undef,undef,.nilIface,undef,undef,undef,undef,undef,undef,undef,undef,undef,undef]:=rfl;rw[c];go_wp2;cases b;simp only at a;subst a;exact⟨rfl,_,rfl,_,by simp[results,results33],rfl,rfl,I.alloc _ _ _⟩
section
variable{b w i:E}{a d k h z:Nat}{j:Value}{G:Int->Option Int}{c:Cx}{s:Ms}{g f:Gh}
def Ho(r:Rr (List Vl))(l m:Int)(n:Ms):Prop:=match r with
 |.ok _ s=>l=1/\m=-1/\n=s
 |.over e o s=>l=e/\m=o/\n=s
 |_=>False
def Rm.lp(n:Rm b w a d h G c.N s g z){q}{m}(t:w.heap[q]?=some (.cells m 64 (0,0)))(r:g.ow q=none)(o:b.heap.size<=q)(p:q≠a)(e l):Rm b ((w.setCell (J q 0) e).setCell (J q 1) l) a d h G c.N s g z:=
 n.calm ((I.set w (J q 0) e).trans (I.set _ (J q 1) l) λ_ _ x=>x) λu _ x=>by
  grind
def aH.lp{l}{f}(e:aH b a w g l f){q}(v:w.heap.size<=q)(p r):aH b a w g ((l.setCell (J q 0) p).setCell (J q 1) r) f:=by
 have n:∀{m:E} o (x:Value),I (yC b a w g) w m->I (yC b a w g) w (m.setCell (J q o) x):=λo x t=>t.trans (I.set _ (J q o) x) λA u y=>by
  grind
 exact⟨n 1 r (n 0 p e.P),e.ow,e.tb,e.sb⟩
def Zb{Z}(hB:lB b a d h G c Z)(t:Rm b w a d h G c.N s g z)(hz:z<=1000000000)(af:w.cell? (J d 2)=some (U (c.N.length-1)))(ag:d<w.heap.size)(hk:gC c 26 (c.N.length-1)){R}(hR:R=rn c.N (aP c) G Z (.b (c.N.length-1)) none s)(ab:R≠.stk)(aa:∀v m,R≠.back v m):
 Calls prog 19 #[pV a] w λe i=>∃V nd m f,Ho R V nd m/\e=.returned (.agg #[U V,U nd])/\aH b a w g i f/\Rm b i a d h G c.N m f z:=by
 obtain⟨fz,lt,m0,m1,m2,m3,m4⟩:=t.mc;have a6:=yY w (.cells #[U 0,U 0] 64);have T:=I.alloc No w (.cells #[U 0,U 0] 64);have a9:=aH.y (wB:=b) (mb:=a) (g:=g) T;have u:=O (⟨t.new (vQ _),t.mc.2.1,t.P.size⟩:g.ow w.heap.size=none/\a<w.heap.size/\b.heap.size<=w.heap.size);have a7:=lB.at hB (t.y T) hz (λ_ e=>by grind) hk hR ab;have a4:=O a7;have P:Hid (∀q n,aH b a (w.alloc (.cells #[U 0,U 0] 64)) g q n->_):=λq n hf=>hf.et a6 u.u.1 (by omega) (by decide) (by decide);have N:=O a9;have a5:=O aa;generalize c.N.length-1=mn at*;go_enter_defers func19,ntmps19;go_wp2_with fail;refine a4.u.mono ?_;rintro e q F;cases R with
 |stk=>exact F.elim
 |back v m=>exact absurd rfl (a5.u v m)
 |over x H m=>
  obtain⟨n,qs,rfl,r,M⟩:=F;obtain⟨l,y⟩:=P.u q n r;obtain⟨n1,n2,L⟩:=u.u;have A:=cell_of_row _ _ 0 _ _ _ l;have B:=cell_of_row _ _ 1 _ _ _ l;have cl:=(aI l);unfold ov;refine leaves_cons (by simp) (by rfl) ?_;refine(iu w.heap.size x H _ _ _ q A B (λo=>frozen_of_row _ _ o _ _ l)).mono ?_;rintro e' u' ac ⟨rfl,rfl,rfl⟩;have a8:(qs.map λp=>({p with goexit:=false}:PanicEntry)).dropWhile (λp=>!p.goexit)=[]:=by
   induction qs with
   |nil=>rfl
   |cons p ah ih=>simp_all
  simp only[Leaves,settle,a8];refine⟨.agg #[U x,U H],?_,x,H,m,n,⟨rfl,rfl,rfl⟩,rfl,((N.u.trans r).lp (vQ _) _ _).trans (aH.y (I.alloc _ _ _)),(M.lp l y L (by omega) _ _).y (I.alloc _ _ _)⟩;simp[results,results19,go_sem,A,B,cl]
 |ok ad m=>
  obtain⟨n,v,rfl,r,M,ae,rfl⟩:=F;obtain⟨l,y⟩:=P.u q n r;obtain⟨n1,n2,L⟩:=u.u;have A:=cell_of_row _ _ 0 _ _ _ l;have B:=cell_of_row _ _ 1 _ _ _ l;have cz:=λo=>frozen_of_row _ _ o _ _ l;have F2:=O ((N.u.trans r).lp (vQ _) (U 1) (U (-1)));have R2:=O (M.lp l y L (by omega) (U 1) (U (-1)));have hs:=heap_setCell_same _ w.heap.size 1 _ _ (U (-1)) (heap_setCell_same q w.heap.size 0 _ _ (U 1) l);have S:=O hs;go_wp2;refine leaves_cons (by simp) (by rfl) ?_;refine(Oe w.heap.size _).mono ?_;rintro e' u' ac ⟨rfl,rfl,D⟩;have W:=(D.block _ (aI S.u) (λx=>x)).trans S.u;have z0:=(cell_of_row _ _ 0 _ _ _ W).trans rfl;have z1:=(cell_of_row _ _ 1 _ _ _ W).trans rfl;simp only[Leaves,settle];refine⟨.agg #[U 1,U (-1)],?_,1,-1,m,n,⟨rfl,rfl,rfl⟩,rfl,F2.u.trans (aH.y D),R2.u.y D⟩;simp[results,results19,go_sem,z0,z1]
end
section
variable{j w:E}{c e b g:Nat}{f m d:Value}{h:Int}{Z:List Ty}{n:bZ}{l:Y}{N:List C}{T:List Ty}{a:List (Nat×Int)}{i:Of}
def Fj(p:gF l N T a i)(o:cP j (bM N T a) c e b g f d)(k:aS j w (bM N T a) c e b g f m h d Z n)(u:Tbl w):eN w (bM N T a) c g f:=by
 obtain⟨y,x,_,q,_,_⟩:=p;obtain⟨ov,D,r,_⟩:=k.st;exact⟨o.ok,o.fg k.P,o.nm k.P,⟨m,h,e,d,ov,r⟩,u,λv s t=>q.qg v s t⟩
theorem Bt(k)(o:(cQ (List.replicate N.length (-1)) a).getD k 0≠-1)(p:k<N.length):aP (bM N T a) k=(cQ (List.replicate N.length (-1)) a).getD k 0:=by
 unfold aP mL;grind[bM]
def A4e(p:∀o∈N,o.text.length<=30)(k):(aC N k).text.length<=30:=by
 unfold aC;grind[iM]
def A5e(o:∀k (p:k<N.length),N[k].M.length<=1200)(k):(aC N k).M.length<=1200:=by
 unfold aC;grind[iM]
def VP(x:gF l N T a i)(t:jD (bM N T a))(G)(o):
 rn N (aP (bM N T a)) G (8*o+20) (.b (N.length-1)) none (fC o)≠.stk/\(∀v H,rn N (aP (bM N T a)) G (8*o+20) (.b (N.length-1)) none (fC o)≠.back v H)/\∃r,jY N (aP (bM N T a)) G o=some r/\rH r.2.2:=by
 obtain⟨F,P,_,s,u,y⟩:=x;have B:∀k:Nat,(cQ (List.replicate N.length (-1)) a).getD k 0≠-1->N.length<=k->(cQ (List.replicate N.length (-1)) a).getD k 0=0:=λk _ q=>by
  grind[lQ,List.getElem?_eq_none,uS]
 refine Iq s u (λk q=>?_) (λp D L=>?_) (λk q A=>((YY t y).dn k q).ret A) (A4e t.tx) (A5e t.ls) G o
 .by_cases S:k<N.length
  .grind[Bt]
  .rw[B k q (by omega)];unfold aP mL;grind[bM]
 .have z:Em N 0 0 (.nd 26 [] 0 F):=⟨[],[],by simp[s.fe],rfl⟩;obtain⟨W,V,_⟩:=((IK _ [] 0 0 (lT s.wn) z (λM R=>by grind)) _ _ u).tg p D|>.2;omega
def Eh{v w}{b c s}{G:Int->Option Int}{N:List C}{p:Nat}(y:I No v w)(A:v.heap.size<=b)(z:eK w s 5000 G)(x:w.heap[b]?=some (.cells #[pV c,.map (some s),U (p:Int),U 0,U 0,sN,sN] 67 (0,0))):Rm v w b c s G N (fC p) ⟨[],[],λ_=>none⟩ (4000*p) where
 P:=y;ju:=⟨A,rfl,rfl⟩;gs:=z;eo:=⟨_,_,x,kW _ _ _ _,kW _ _ _ _⟩;tl:=rfl;sl:=rfl;low k r o:=by grind
 ty k r o:=by grind
 ok:=⟨(λu t o=>by grind[fC]),(λu q o=>by grind[fC]),by simp[fC],by simp[fC]⟩;mem:=⟨0,by simp[fC],(λu t o=>by grind[fC]),λu q o=>by grind[fC]⟩
def fW:List (Int×Int)->Int->Option Int
 |[],_=>none
 |p::l,k=>match fW l k with
  |some t=>some t
  |none=>if k=p.1 then some p.2 else none
theorem zg(l)(p):fW (l++[p])=λk=>if k=p.1 then some p.2 else fW l k:=by
 funext k;induction l<;>grind[fW]
end
def oA(l:List (Int×Int)):List Value:=l.flatMap λp=>[U p.1,U p.2]
def xP:∀(l) (j) (h),(oA l)[j*2]?=some (U l[j].1)/\(oA l)[j*2+1]?=some (U l[j].2)
 |[],j,h=>by grind
 |p::l,0,_=>by simp[oA]
 |p::l,j+1,h=>by
  have a:=xP l j (by grind);grind[oA]
def Px(w:E)(g:Nat->E->Prop)(i:List (Int×Int))(h:Nat)(e:Ending)(c:E):Prop:=∃f a b d,g f a/\Below w.heap.size w a/\e=.returned (pV b)/\I No a c/\a.heap.size<=b/\eK c d 5000 (fW i)/\c.heap[b]?=some (.cells #[pV f,.map (some d),U h,U 0,U 0,sN,sN] 67 (0,0))
def Hq{s}{w:E}{y}{a}{l}{h M fu:Nat}(a4:Calls prog 14 #[.string s] w λe b=>∃g,e=.returned (.tuple #[pV g,.agg #[U 0,U 0]])/\Below w.heap.size w b/\y g b)(i:w.ownsRow M 37 2 (.slice l a.length h) a.length (oA a))(t:a.length<=5000)(Z:∀p∈a,(0<=p.1/\p.1<=1000000)/\0<=p.2/\p.2<=1000000):
 Calls prog 18 #[.string s,.slice l a.length h,U fu] w (Px w y a fu):=by
 have L:=O a4;have F:=O i;have G:=O Z;have ae:=@run_makeMap prog;go_in;go_wp2_with fail;refine L.u.mono ?_;rintro e b ⟨g,rfl,S,R⟩;have H:=O R;have j:=O S;go_wp2;obtain⟨c,m⟩:∃a7,a7=Obj.cells #[pV g,.map (some (b.heap.size+1)),U fu,U 0,U 0,sN,sN] 67:=⟨_,rfl⟩;have a9:Hid (I No b (((b.alloc (.cells #[U 0,U 0] 26)).alloc (.map #[] 0)).alloc c)/\eK (((b.alloc (.cells #[U 0,U 0] 26)).alloc (.map #[] 0)).alloc c) (b.heap.size+1) 0 (fW [])/\(((b.alloc (.cells #[U 0,U 0] 26)).alloc (.map #[] 0)).alloc c).heap[b.heap.size+1+1]?=some c):=by
  refine⟨B6 (B6 (I.alloc _ _ _) (I.alloc _ _ _)) (I.alloc _ _ _),?_,?_⟩
  .have:=(eK.new (b.alloc (.cells #[U 0,U 0] 26))).P (I.alloc No _ c) (λx=>x);simp_all[fW]
  .have:=yY ((b.alloc (.cells #[U 0,U 0] 26)).alloc (.map #[] 0)) c;simp_all
 have D:Hid (∀wr,I No b wr->∀n (t:n<a.length),∃d,l=some (J d 0)/\d<wr.heap.size/\a.length<=h/\h<=maxLen/\wr.cell? (J d (n*2))=some (U a[n].1)/\wr.cell? (J d (n*2+1))=some (U a[n].2)):=λwr T n t=>by
  obtain⟨d,e1,_,i,N,P,ac⟩:=D4 F.u (by omega);obtain⟨aa,ab⟩:=xP a n t;have hb:=(T.block d (yQ i j.u.size) (λx=>x)).trans (j.u.block d i);grind[yQ,kQ,World.cell?]
 rw[<-m];go_loopw [24] (λu wr=>∃n:Nat,n<=a.length/\u=U n/\Hid (I No b wr/\eK wr (b.heap.size+1) n (fW (a.take n))/\wr.heap[b.heap.size+1+1]?=some c)) (λu _=>a.length-(intOf u).toNat);case atStart=>grind
 case round=>
  obtain⟨n,af,rfl,f⟩:=hrel;by_cases q:n<a.length
  .obtain⟨d,V,ah,ai,a6,k4,k5⟩:=D.u wr f.u.1 n q;subst V;obtain⟨a2,a3⟩:=G.u a[n] (mQ q);have r:=f.u.2.2;rw[m]at r;have m1:=(cell_of_row _ _ 1 _ _ _ r).trans rfl;have B:=(aI r);obtain⟨v,a5,ad,A⟩:=(f.u.2.1.P (B6 (I.alloc No wr (.cells #[U a[n].1,U a[n].2] 37)) (I.drewN No _ 1)) (λx=>x)).put a[n].1 a[n].2 a2 (by omega) a3;change Sem.run _ _ (World.drew _)=_ at a5;have a8:Hid (I No b v/\eK v (b.heap.size+1) (n+1) (fW (a.take (n+1)))/\v.heap[b.heap.size+1+1]?=some c):=by
    have o:=B6 (I.alloc No wr (.cells #[U a[n].1,U a[n].2] 37)) (I.drewN No _ 1);refine⟨(B6 f.u.1 o).trans A λag hi e=>by omega,?_,?_⟩
    .rw[nQ q,zg];omega
    .have N:=o.block _ B (λx=>x);have P:=A.block (b.heap.size+1+1) (yQ B o.size) (λ(e:b.heap.size+1+1=b.heap.size+1)=>by omega);grind
   unfold maxLen at a6;generalize a[n].1=aj at*;generalize a[n].2=ak at*;go_wp2;go_region;all_goals go_wp2
   grind[intOf]
  .have W:n=a.length:=by omega
   have z:=f.u;rw[W,jZ,m]at z;have k:=O z;go_wp2;go_ret;exact⟨g,b,b.heap.size+1+1,b.heap.size+1,H.u,j.u,rfl,k.u.1,by omega,k.u.2.1.more (by omega),k.u.2.2⟩
section
variable{a w h:E}{b e k d z:Nat}{j:Value}{G:Int->Option Int}{N:List C}{c:Cx}{s:Ms}{g f:Gh}
def Rm.m8(p:Rm a w b e d G N s g z){u}{t}(T:s.c.T[u]?=some t){A}{pv}{la la'}{lc lc'}{l}{S}(Z:g.tb[u]?=some A)(e3:w.heap[A]?=some (.cells #[pv,.slice la t.l.length lc,U t.nd,.pointer (pad g.sb t.sc)] 174 (0,0)))(R:I S w h)(hS:∀m,m<w.heap.size->S m->m=A\/g.ow m=some (.l u))
 (hb:h.heap[A]?=some (.cells #[pv,.slice la' l.length lc',U t.nd,.pointer (pad g.sb t.sc)] 174 (0,0))) (ho:h.ownsRow a.heap.size 150 4 (.slice la' l.length lc') l.length (l.flatMap (fJ g.tb))) {ow'} (a6:∀m,m<w.heap.size->ow' m=g.ow m\/(S m/\ow' m=none/\g.ow m=some (.l u))) (ab:∀m r,w.heap.size<=m->ow' m=some r->m<h.heap.size/\∀L n P,h.heap[m]?=some (.cells L n P)->n≠9/\n≠40) (hw:∀a8,la'=some a8->ow' a8.block=some (.l u)) (hT:iP N (tS s u {t with l:=l}).c {t with l:=l}) (ag:∀m,g.ow m=some (.l u)->ow' m=some (.l u)->S m->∀L n P,h.heap[m]?=some (.cells L n P)->n≠9/\n≠40):
 Rm a h b e d G N (tS s u {t with l:=l}) ⟨g.tb,g.sb,ow'⟩ z/\aH a b w g h ⟨g.tb,g.sb,ow'⟩:=by
 have af:=(List.getElem?_eq_some_iff.1 T).1;have e2:g.ow A=some (.t u):=by
  obtain⟨ak,_,a2,_⟩:=p.mem;obtain⟨b',_,_,_,H,ae,_⟩:=a2 u t T;rw[Z]at H;cases H;exact ae
 have v:=λm o x=>(hS m o x).imp (λn=>n ▸ e2) id;have ad:∀m r,g.ow m=some r->(∀i,r≠.l i)->ow' m=some r:=λm r n D=>by
  obtain y|⟨_,_,y⟩:=a6 m (p.low m r n).2<;>grind
 have a5:∀m,m<w.heap.size->g.ow m=none->ow' m=none:=λm o n=>by
  grind
 obtain⟨_,_,b1,_⟩:=p.eo;refine⟨p.o6 (d:=0) R (λm o x=>?_) (p.rows R λm o x=>?_) ⟨List.prefix_refl _,List.prefix_refl _,λm r n=>?_⟩ ⟨a5 b (aI b1) p.ju.2.1,a5 d p.gs.lt p.ju.2.2⟩ (by simp[tS,p.tl]) p.sl (λm r n v=>?_) (λm r o aa x=>?_) (p.ok.ko T rfl hT) (by grind[tS]) (λi am F=>?_) (λi q hq=>.inl ⟨hq,λm o x=>?_⟩),⟨R.mono λm o x=>.inr (.inl ?_),λm r o n=>?_,List.prefix_refl _,List.prefix_refl _⟩⟩
 .obtain n|n:=v m o x;all_goals
   refine⟨(p.low m _ n).1,λB=>?_⟩;have:=p.ju.2.2;rw[<-B,n]at this;cases this
 .obtain n|n:=v m o x;all_goals
   refine⟨λB=>?_,p.ty m _ n⟩;have:=p.ju.2.1;rw[<-B,n]at this;cases this
 .obtain y|⟨y,y2,_⟩:=a6 m (p.low m r n).2
  .exact .inl (y.trans n)
  .exact .inr ⟨y,y2⟩
 .obtain D|D:=Nat.lt_or_ge m w.heap.size
  .have ac:ow' m=some r:=v;rw[a5 m D n]at ac;cases ac
  .exact⟨⟨kQ p.P.size D,(ab m r D v).1⟩,(ab m r D v).2⟩
 .obtain n|n:=hS m (p.low m r o).2 x
  .subst n;intro L n P y;rw[hb]at y;simp at y;rw[<-y.2.1];decide
  .have W:=aa;rw[o]at n;cases n;exact ag m o aa x
 .simp only[tS]at F;by_cases a3:u=i
  .subst a3;rw[List.getElem?_set_self af,zQ]at F;subst F;refine .inr λm0 m' ah hd a2=>?_;obtain⟨b',al,ai,aj,H,ae,a7,V,k5,k6⟩:=a2 u t T;rw[Z]at H;cases H;rw[e3]at a7;simp at a7;obtain⟨rfl,rfl,rfl⟩:=a7;refine⟨A,pv,la',lc',Z,ad A _ e2 (λ_ n=>by cases n),hb,?_,ho,hw⟩;by_cases a9:t.k=16
   .rw[wY a9]at V⊢;obtain⟨q,rfl,M,f6⟩:=V;refine⟨q,rfl,ad q _ M (λ_ n=>by cases n),(f6.P (R.block q (p.low q _ M).2 λx=>?_)).more (by omega)⟩;obtain n|n:=v q (p.low q _ M).2 x<;>(rw[M]at n;cases n)
   .rw[zY a9]at V⊢;exact V
  .rw[List.getElem?_set_ne a3]at F;refine .inl ⟨F,λm o x=>?_⟩;have a4:m<w.heap.size:=by obtain o|o|o:=o<;>exact(p.low m _ o).2
   obtain n|n:=v m a4 x<;>obtain o|o|o:=o<;>(rw[n]at o;simp at o)<;>exact a3 o
 .have a4:m<w.heap.size:=by obtain o|o:=o<;>exact(p.low m _ o).2
  obtain n|n:=v m a4 x<;>obtain o|o:=o<;>(rw[n]at o;cases o)
 .obtain n|n:=v m o x
  .exact⟨_,n,λ_ B=>by cases B⟩
  .exact⟨_,n,λ_ B=>by cases B⟩
 .obtain y|⟨_,y,_⟩:=a6 m o
  .exact y.symm.trans n
  .have W:ow' m=some r:=n;rw[y]at W;cases W
def Rm.qv(y:Rm a w b e d G N s g z){p}{t}(B:s.c.T[p]?=some t){n}(S:g.tb[p]?=some n){x}(hx:x<t.l.length){v}(hv:bF s.c v):
 ∃i u,w.cell? (J n 1)=some (.slice (some (J i 0)) t.l.length u)/\n<w.heap.size/\i<w.heap.size/\t.l.length<=u/\u<=maxLen/\(∃D F H L,w.cell? (J i (x*4))=some D/\w.cell? (J i (x*4+1))=some F/\w.cell? (J i (x*4+2))=some H/\w.cell? (J i (x*4+3))=some L)/\(∀o,w.frozen? (J i o)=false)/\
  Rm a ((((w.setCell (J i (x*4)) (U v.g)).setCell (J i (x*4+1)) (.int .i32 v.n)).setCell (J i (x*4+2)) (.string ⟨v.t.toArray⟩)).setCell (J i (x*4+3)) (.pointer (pad g.tb v.h))) b e d G N (tS s p {t with l:=t.l.set x v}) g z/\
  aH a b w g ((((w.setCell (J i (x*4)) (U v.g)).setCell (J i (x*4+1)) (.int .i32 v.n)).setCell (J i (x*4+2)) (.string ⟨v.t.toArray⟩)).setCell (J i (x*4+3)) (.pointer (pad g.tb v.h))) g:=by
 obtain⟨ah,_,hT,_⟩:=y.mem;obtain⟨b',pv,la,u,a2,ag,r,k4,R,k6⟩:=hT p t B;rw[S]at a2;cases a2;obtain⟨i,a6,ae,a5,a3,a4,A⟩:=D4 R (by omega);subst a6;have a8:=k6 _ rfl;have a7:n≠i:=λm=>by
  grind
 obtain⟨D,F,H,L⟩:=LL (tb:=g.tb) (gQ hx);obtain⟨_,ad,V⟩:=A9 R i rfl;have P:=y.ok.T p t B;have M:=rK (u:={t with l:=t.l.set x v}) B rfl;have af:=Iu R hx v;have T:I (λq=>q=i) w ((((w.setCell (J i (x*4)) (U v.g)).setCell (J i (x*4+1)) (.int .i32 v.n)).setCell (J i (x*4+2)) (.string ⟨v.t.toArray⟩)).setCell (J i (x*4+3)) (.pointer (pad g.tb v.h))):=
  (((I.set w (J i (x*4)) _).trans (I.set _ (J i (x*4+1)) _) λ_ _ m=>m).trans (I.set _ (J i (x*4+2)) _) λ_ _ m=>m).trans (I.set _ (J i (x*4+3)) _) λ_ _ m=>m;have W:(t.l.set x v).length=t.l.length:=List.length_set;have Z:=y.m8 B S r T (λq _ m=>.inr (m ▸ a8)) (by rw[W];exact(T.block n (aI r) a7).trans r) (by grind) (λ_ _=>.inl rfl) (λq a9 hk hr=>by have:=(y.low q a9 hr).2;omega) (λac m=>by grind)
  (RA P M (λaa hu=>by
   obtain m|m:=List.mem_or_eq_of_mem_set hu
   .exact(P.l aa m).gr M
   .rw[m];exact hv.gr M) (by rw[W];exact P.fq))
  (λq _ _ m cs ty fz ab=>by
   subst m;rw[heap_setCell_same _ _ _ _ _ _ (heap_setCell_same _ _ _ _ _ _ (heap_setCell_same _ _ _ _ _ _ (heap_setCell_same w _ _ _ _ _ V)))]at ab;grind);exact⟨i,u,cr r rfl,(aI r),a5,a3,a4,⟨_,_,_,_,A _ _ D,A _ _ F,A _ _ H,A _ _ L⟩,λo=>frozen_of_row _ _ o _ _ V,Z.1,Z.2⟩
def Rm.qw(B:Rm a w b e d G N s g z){p}{t}(H:s.c.T[p]?=some t){o}(T:g.tb[p]?=some o){v}(hv:bF s.c v)(ab:t.l.length+1<=1200+s.c.th){R}{S}(P:w.cell? (J o 1)=some (.slice R t.l.length S)){r}{n q}(ah:r.ownsRow a.heap.size 150 4 (.slice (some (J n 0)) (t.l.length+1) q) (t.l.length+1) (t.l.flatMap (fJ g.tb)++fJ g.tb v))(V:I (λi=>(Value.slice R t.l.length S).ownBlock=some i) w r)(ak:(Value.slice R t.l.length S).ownBlock=some n\/w.heap.size<=n):
 ∃f,Rm a (r.setCell (J o 1) (.slice (some (J n 0)) (t.l.length+1) q)) b e d G N (tS s p {t with l:=t.l++[v]}) f z/\aH a b w g (r.setCell (J o 1) (.slice (some (J n 0)) (t.l.length+1) q)) f:=by
 obtain⟨an,_,hT,_⟩:=B.mem;obtain⟨b',pv,x,A,a3,ai,L,k4,k5,k6⟩:=hT p t H;rw[T]at a3;cases a3;have e1:w.cell? (J o 1)=some (.slice x t.l.length A):=cr L rfl;rw[e1]at P;simp at P;obtain⟨rfl,rfl⟩:=P;have ag:∀i,(Value.slice x t.l.length A).ownBlock=some i->g.ow i=some (.l p):=λi m=>by
  cases x with
  |none=>grind[Value.ownBlock]
  |some a5=>
   grind[Value.ownBlock]
 have a8:=(aI L);have af:¬(Value.slice x t.l.length A).ownBlock=some o:=λm=>by
  grind
 have a7:=(V.block o a8 af).trans L;obtain⟨al,a6,aa⟩:=A9 ah n rfl;have ac:n≠o:=λm=>by
  grind
 have a2:=B.ok.T p t H;have M:=rK (u:={t with l:=t.l++[v]}) H rfl;have a9:I (λi=>i=o\/(Value.slice x t.l.length A).ownBlock=some i) w (r.setCell (J o 1) (.slice (some (J n 0)) (t.l.length+1) q)):=(V.mono λ_ _ m=>.inr m).trans (I.set _ (J o 1) _) λ_ _ m=>.inl m;have am:=heap_setCell_same r o 1 _ _ (.slice (some (J n 0)) (t.l.length+1) q) a7;have ad:(r.setCell (J o 1) (.slice (some (J n 0)) (t.l.length+1) q)).heap[n]?=some (.cells a6 150 (0,0)):=(heap_setCell_other _ _ _ _ ac).trans aa;have ae:(t.l++[v]).length=t.l.length+1:=by simp
 have Z:=B.m8 H (la':=some (J n 0)) (lc':=q) (ow':=λi=>if i=n then some (.l p) else if (Value.slice x t.l.length A).ownBlock=some i then none else g.ow i) T L a9 (λi _ m=>m.imp id (ag i)) (by grind)
  (by grind[A3,I.set,Value.ownBlock,zQ])
  (λi D=>by
   grind)
  (λi a4 D u=>by
   have u:(if i=n then some (Rl.l p) else if _ then none else g.ow i)=some a4:=u;split at u
   .grind
   .split at u
    .cases u
    .have:=(B.low i a4 u).2;omega)
  (λa5 m=>by cases m;simp)
  (RA a2 M (λaj hu=>by
   obtain m|m:=qW.1 hu
   .exact(a2.l aj m).gr M
   .rw[zW]at m;rw[m];exact hv.gr M) (by rw[ae];exact ab))
  (λi D F m cs ty fz y=>by
   obtain m|m:=m
   .subst m;rw[ai]at D;cases D
   .by_cases W:i=n
    .subst W;rw[ad]at y;simp at y;rw[<-y.2.1];decide
    .have F:(if i=n then some (Rl.l p) else if _ then none else g.ow i)=_:=F;rw[zY W,wY m]at F;cases F);exact⟨_,Z.1,Z.2⟩
theorem Rh{i}{o l v}(m:¬(o.g=32/\l.g=1)):jV i o l v s=.over 3 i s:=by
 unfold jV;grind[I5,W6,I1,oF]
def Qz{i}{o m v:Vl}(n:o.g=32/\m.g=1){p}{t}(q:o.h=some p)(r:s.c.T[p]?=some t):jV i o m v s=(if 0<=m.n/\m.n.toNat<t.l.length then fK o {t with l:=t.l.set m.n.toNat v} else if m.n=t.l.length then (bX i).bd λ_=>fK o {t with l:=t.l++[v]} else bU λ_=>.over 0 i) s:=by
 unfold jV;rw[I5 (W6 n.1),I5 (W6 n.2),I5 (uB q r)]
theorem QX{o}{t}{i}(l:o.h=some i):fK o t s=.ok () (tS s i t):=by
 simp only[fK,bU,l,Option.getD_some];rfl
def Rm.qy(F:Rm a w b e d G N s g z){y}{t}(L:s.c.T[y]?=some t){i}(H:g.tb[y]?=some i){v}(hv:bF s.c v)(V:t.l.length+1<=1200+s.c.th):
 ∃m n,w.cell? (J i 1)=some (.slice m t.l.length n)/\i<w.heap.size/\(∀o,w.frozen? (J i o)=false)/\(some i≠(Value.slice m t.l.length n).ownBlock)/\∀W,I No w W->W.ownsRow a.heap.size 150 4 (.slice m t.l.length n) t.l.length (t.l.flatMap (fJ g.tb))/\
  ∀p r q,q.ownsRow a.heap.size 150 4 (.slice (some (J p 0)) (t.l.length+1) r) (t.l.length+1) (t.l.flatMap (fJ g.tb)++fJ g.tb v)->W.grownBy q (Value.slice m t.l.length n).ownBlock->((Value.slice m t.l.length n).ownBlock=some p\/p=W.heap.size)->
   ∃f,Rm a (q.setCell (J i 1) (.slice (some (J p 0)) (t.l.length+1) r)) b e d G N (tS s y {t with l:=t.l++[v]}) f z/\aH a b w g (q.setCell (J i 1) (.slice (some (J p 0)) (t.l.length+1) r)) f:=by
 obtain⟨a5,_,S,_⟩:=F.mem;obtain⟨b',pv,m,n,M,a4,A,k4,P,k6⟩:=S y t L;rw[H]at M;cases M;have D:w.cell? (J i 1)=some (.slice m t.l.length n):=cr A rfl;refine⟨m,n,D,(aI A),λo=>frozen_of_row _ _ o _ _ A,λB=>?_,λW u=>⟨A3 P u λ_ _ x=>x,λp r q ho Z T=>?_⟩⟩
 .obtain⟨_,a3,a6⟩:=A9 P i B.symm;grind
 .obtain⟨f,a1,R⟩:=(F.y u).qw L H hv V ((World.cell?_of_block (u.block i (aI A) id)).trans D) ho ((I.grown Z).mono λ_ _ x=>x.symm) (T.imp id λB=>by omega);exact⟨f,a1,(aH.y u).trans R⟩
def Ys{aa}(hS:eN a c e k j)(hV:fD a b e d G c aa)(a8:Rm a w b e d G c.N s g z)(hz:z<=1000000000){F i}(hj:F<s.c.S.length)(bs:i<c.N.length)(ay:c.N[i].x=20){a6:Rr (List Vl)}
 (hR:a6=((rn c.N (aP c) G aa (.v c.N[i].a) (some F)).bd λao=>(rn c.N (aP c) G aa (.v c.N[i].b) (some F)).bd λa7=>(rn c.N (aP c) G aa (.v c.N[i].c) (some F)).bd λab=>(jV (i:Int) (r1 ao) (r1 a7) (r1 ab)).bd λ_=>aE []) s) (bw:a6≠.stk):
 Calls prog 96 #[pV b,U i,.pointer (pad g.sb (some F))] w (RP a b e d G c.N (z+1) w g s Kn a6):=by
 have aw:=hS.ok.ep i bs;have c5:=J3 (aw.kl ay).1;have c6:=J3 (aw.kl ay).2.1;have c7:=J3 (aw.kl ay).2.2;obtain⟨i0,cn,cw,cx,cy⟩:=info_parts Tryz.mj;obtain⟨fz,lt,m0,m1,m2,m3,m4⟩:=a8.mc;obtain⟨gn,nc,la,lc,q0,q1,q2,q3,q4,q5,⟨x0,x1,x2,x3,x4,x5,x6,x7,x8⟩,ho⟩:=hS.node a8 bs;have ca:=I.alloc No w (.cells #[U c.N[i].x,U c.N[i].a,U c.N[i].b,U c.N[i].c,.slice la c.N[i].M.length lc,.string ⟨c.N[i].text.toArray⟩,U c.N[i].n,U c.N[i].ty,U c.N[i].at'] 85);have ap:=O (aH.y (wB:=a) (mb:=b) (g:=g) ca);have bm:=O (hV.at (a8.y ca) hz (sc:=some F) (λj' q=>by grind) c5 (K8 (by rw[<-hR];omega)));have ac:Hid (∀a3 H,aH a b _ g a3 H->_):=λa3 H R=>nV (w':=a3) (g':=H) (kd:=c.N[i].x) (va:=c.N[i].a) (vb:=c.N[i].b) (vc:=c.N[i].c) (lv:=.slice la c.N[i].M.length lc) (tx:=⟨c.N[i].text.toArray⟩) (vn:=c.N[i].n) (vt:=c.N[i].ty) (vp:=c.N[i].at') a8 R;have ad:=O (λ(f:Gh) (hp:g.sb<+:f.sb)=>J6 hp (o:=some F) λj' q=>by cases q;rw[a8.sl];omega);have HR:=O hR;have bj:=O bw;have HV:=O hV;have ck:=O c6;have cl:=O c7;have HJ:=O hj;have d5:=O a8.P.size;have d9:(i:Int)<(c.N.length:Int):=by omega
 generalize pad g.sb (some F)=pj at*;generalize c.N[i]=nd at*;obtain⟨kd,va,vb,vc,ls,tx,vn,vt,vp⟩:=nd;simp only at*;subst ay;clear hS hV a8 hR bw c5 c6 c7 aw ca ho hj;go_in;go_wp2_with fail;refine bm.u.mono ?_;rintro q a3 T;obtain⟨ps,rfl,hh⟩|⟨a7,s2,H,v,rfl,M,-,ba,r2,bd,u,rfl,hu,rfl⟩:=RP.cut (K':=Kn) (λao=>(rn c.N (aP c) G aa (.v vb) (some F)).bd λa7=>(rn c.N (aP c) G aa (.v vc) (some F)).bd λab=>(jV (i:Int) (r1 ao) (r1 a7) (r1 ab)).bd λ_=>aE []) T
 .exact⟨rfl,by rw[HR.u];exact(hh.pre ap.u (Gr.refl _)).more (by omega)⟩
 have P:r1 [u]=u:=rfl;have ar:=HR.u;rw[M,P]at ar;have cb:=I.alloc No a3 (.cells #[U u.g,.int .i32 u.n,.string ⟨u.t.toArray⟩,.pointer (pad H.tb u.h)] 150);have fb:=ba.trans (aH.y (wB:=a) (mb:=b) (g:=H) cb);have b9:=O (HV.u.at (r2.y cb) hz (sc:=some F) (λj' q=>by cases q;exact yQ HJ.u bd.S) ck.u (K8 (by rw[<-ar];exact bj.u)));rw[ad.u H ba.sb]at b9;obtain⟨x0,x1,x2,x3,x4,x5,x6,x7,x8,xl⟩:=ac.u _ H fb;have bu:H.ow a3.heap.size=none/\b<a3.heap.size:=⟨r2.new (vQ _),r2.mc.2.1⟩;have ah:Hid (∀a4 L,aH a b _ H a4 L->_):=λa4 L (R:aH a b (a3.alloc (.cells #[U u.g,.int .i32 u.n,.string ⟨u.t.toArray⟩,.pointer (pad H.tb u.h)] 150)) H a4 L)=>dU (R.et (yY a3 _) bu.1 (by omega) (by decide) (by decide)).1 (I.refl No _);have F2:=O fb;have G2:=O bd;have b7:=O ar;have HU:=O hu;have ci:=O r2.tl;clear T M ba r2 bd hu ar bm fb cb bu P;unfold bN;go_wp2_with fail;refine b9.u.mono ?_;rintro q a4 T;obtain⟨ps,rfl,hh⟩|⟨a7,s3,L,v,rfl,M,-,bb,r3,aq,y,rfl,hy,rfl⟩:=RP.cut (K':=Kn) (λa7=>(rn c.N (aP c) G aa (.v vc) (some F)).bd λab=>(jV (i:Int) u (r1 a7) (r1 ab)).bd λ_=>aE []) T
 .exact⟨rfl,by rw[b7.u];exact((hh.pre F2.u G2.u).pre ap.u (Gr.refl _)).more (by omega)⟩
 have P:r1 [y]=y:=rfl;have au:=b7.u;rw[M,P]at au;have cb:=I.alloc No a4 (.cells #[U y.g,.int .i32 y.n,.string ⟨y.t.toArray⟩,.pointer (pad L.tb y.h)] 150);have bc:=bb.trans (aH.y (wB:=a) (mb:=b) (g:=L) cb);have fb:=F2.u.trans bc;have af:=O (HV.u.at (r3.y cb) hz (sc:=some F) (λj' q=>by cases q;exact yQ HJ.u (G2.u.trans aq).S) cl.u (K8 (by rw[<-au];exact bj.u)));rw[ad.u L (F2.u.sb.trans bb.sb)]at af;obtain⟨x0,x1,x2,x3,x4,x5,x6,x7,x8,xl⟩:=ac.u _ L fb;have bv:L.ow a4.heap.size=none/\b<a4.heap.size:=⟨r3.new (vQ _),r3.mc.2.1⟩;have ai:Hid (∀t o,aH a b _ L t o->_):=λt o (R:aH a b (a4.alloc (.cells #[U y.g,.int .i32 y.n,.string ⟨y.t.toArray⟩,.pointer (pad L.tb y.h)] 150)) L t o)=>dU (R.et (yY a4 _) bv.1 (by omega) (by decide) (by decide)).1 (I.refl No _);have F3:=O fb;have bf:=O bc;have G3:=O (G2.u.trans aq);have cf:=O aq;have ae:=O au;have HY:=O hy;have d7:=O r3.tl;clear T M bb r3 aq hy au b9 fb bc cb bv P b7;unfold bN;go_wp2_with fail;refine af.u.mono ?_;rintro q t T;obtain⟨ps,rfl,hh⟩|⟨a7,p,o,v,rfl,M,-,f4,B,ag,v,rfl,hv,rfl⟩:=RP.cut (K':=Kn) (λab=>(jV (i:Int) u y (r1 ab)).bd λ_=>aE []) T
 .exact⟨rfl,by rw[ae.u];exact((hh.pre F3.u G3.u).pre ap.u (Gr.refl _)).more (by omega)⟩
 have P:r1 [v]=v:=rfl;have D:=ae.u;rw[M,P]at D;have cv:=I.alloc No t (.cells #[U v.g,.int .i32 v.n,.string ⟨v.t.toArray⟩,.pointer (pad o.tb v.h)] 150);have CV:=O cv;obtain⟨t0,t1,t2,t3,tz,tl⟩:=ah.u t o (bf.u.trans f4);obtain⟨y0,y1,y2,y3,yz,yl⟩:=ai.u t o f4;have ak:=HU.u.gr (cf.u.trans ag);have cu:=HY.u.2.1;have al:=(J6 (bf.u.tb.trans f4.tb) (λi q=>by rw[ci.u];exact HU.u.lt i q)).symm;rw[al]at t3;have F4:=O (ap.u.trans (F3.u.trans f4));have G4:=O (G3.u.trans ag);have aj:o.ow t.heap.size=none/\b<t.heap.size:=⟨B.new (vQ _),B.mc.2.1⟩;have a9:=yY t (.cells #[U v.g,.int .i32 v.n,.string ⟨v.t.toArray⟩,.pointer (pad o.tb v.h)] 150);have cg:=O (λh=>dU (w':=h) a9);have HP:=O (λi vg vn ug vt ut vp up w=>VV i vg vn ug y.n vt ut vp up w cu);by_cases hg:u.g=32/\y.g=1
 .obtain⟨jt,r,Z,cz,z1,W,z3,z4,z5,-,-⟩:=B.jy ak (by omega);have S:=Qz (i:=(i:Int)) (v:=v) hg z1 W;have az:=B.ok.T jt r W;have be:=B.ok.th;have d8:=az.fq;rw[z5]at t3;have b8:Hid (∀m,I No t m->∃la lc,m.cell? (J Z 1)=some (.slice la r.l.length lc)/\Z<m.heap.size):=λm x=>by
   obtain⟨cz,_,hT,_⟩:=(B.y x).mem;obtain⟨b',pv,la,lc,b4,c8,c9,k4,A,k6⟩:=hT jt r W;rw[z4]at b4;cases b4;exact⟨la,lc,cr c9 rfl,(aI c9)⟩
  have HH:=O RK;by_cases hx:0<=y.n/\y.n.toNat<r.l.length
  .rw[wY hx]at S;rw[I5 (S.trans (QX z1))]at D;have HE:Hid (∀m,I No t m->_):=λm x=>(B.y x).qv W z4 hx.2 hv;have b5:Hid (∀m,I No t m->∀n,aH a b m o n o->Rm a n b e d G c.N (tS p jt {r with l:=r.l.set y.n.toNat v}) o z->RP a b e d G c.N (z+1) w g s Kn a6 (rT) n):=λm x n b4 c8=>by
    rw[D];exact⟨o,_,rfl,F4.u.trans ((aH.y x).trans b4),c8.more (by omega),G4.u.trans (rK W rfl),rfl⟩
   clear T M f4 B ag hv ak cv D af ah ai P aj a9 al ac ad HV ae HR S z1 W z3 z4 z5 az be;have hd:decide (0<=y.n/\y.n<(r.l.length:Int))=true:=by simp;omega
   obtain⟨cq,cs⟩:=hx;generalize u.g=ug at*;generalize y.g=yg at*;obtain⟨rfl,rfl⟩:=hg;generalize y.n=yn at*;obtain⟨d4,rfl⟩:=Int.eq_ofNat_of_zero_le cq;simp only[tQ]at cs HE b5;unfold bN;go_wp2_with fail;refine(HP.u _ _ _ _ _ _ _ _ _).mono ?_;rintro q m ⟨A,rfl⟩;simp only[and_self,if_true];obtain⟨am,an,q1,q2⟩:=b8.u m (B6 CV.u A);have H1:=O (HH.u Z am _ an (d4:Int) m q1);have cd:=B6 (B6 CV.u A) (I.drewN No _ 1);obtain⟨gl,de,cc,ce,p3,p4,p5,⟨d0,d1,d2,d3,bo,bp,bq,c3⟩,p6,p7,p8⟩:=HE.u (World.drew m) cd;have hp:=b5.u _ cd _ p8 p7;replace cc:m.cell? (J Z 1)=_:=cc;replace ce:Z<m.heap.size:=ce;replace p3:gl<m.heap.size:=p3;replace p6:∀ao,m.frozen? (J gl ao)=false:=p6;replace bo:m.cell? _=_:=bo;replace bp:m.cell? _=_:=bp;replace bq:m.cell? _=_:=bq;replace c3:m.cell? _=_:=c3;obtain⟨b0,b1,b2,b3,bz,bl⟩:=cg.u m A;have b6:=O hp;unfold maxLen at p5;clear q1 cd hp p7 p8 HE b5 A;go_wp2_with fail;refine H1.u.mono ?_;rintro q n ⟨rfl,rfl⟩;rw[hd];go_wp2_with fail;go_region;all_goals go_wp2_with fail
   all_goals go_end0
   all_goals exact b6.u
  .rw[zY hx]at S;have hd:decide (0<=y.n/\y.n<(r.l.length:Int))=false:=by simp;omega
   by_cases hy:y.n=(r.l.length:Int)
   .rw[wY hy]at S;have cp:=hv;have bi:=O (λm (x:I No t m)=>BP (B.y x) (i:Int));have HO:Hid (∀m n,I No t m->aH a b m o n o->p.c.th=2000->bX (i:Int) p=.over 6 (i:Int) p->Rm a n b e d G c.N p o z->RP a b e d G c.N (z+1) w g s Kn a6 (ov 6 (i:Int) []) n):=λm n x R h2 hm V=>by
     rw[D,I1 (S.trans (I1 hm))];exact⟨o,[],rfl,F4.u.trans ((aH.y x).trans R),V.more (by omega)⟩
    have HG:Hid (∀m n,I No t m->aH a b m o n o->bX (i:Int) p=.ok () (cS p p.c.ca (p.c.th+1))->Rm a n b e d G c.N (cS p p.c.ca (p.c.th+1)) o z->∀a5,(∃f,Rm a a5 b e d G c.N (tS (cS p p.c.ca (p.c.th+1)) jt {r with l:=r.l++[v]}) f z/\aH a b n o a5 f)->RP a b e d G c.N (z+1) w g s Kn a6 (rT) a5):=λm n x R hm V a5 ⟨f,a1,a2⟩=>by
     rw[D,I5 (S.trans ((I5 hm).trans (QX z1)))];exact⟨f,_,rfl,F4.u.trans ((aH.y x).trans (R.trans a2)),a1.more (by omega),(G4.u.trans (LU p.c _ _)).trans (rK (c:=(cS p p.c.ca (p.c.th+1)).c) W rfl),rfl⟩
    have bh:Hid (∀n,Rm a n b e d G c.N (cS p p.c.ca (p.c.th+1)) o z->_):=λn V=>V.qy (t:=r) W z4 (hv.gr (LU p.c _ _)) (by grind[cS]);have bg:Hid (∀m n,I No (t.alloc (.cells #[U v.g,.int .i32 v.n,.string ⟨v.t.toArray⟩,.pointer (pad o.tb v.h)] 150)) m->aH a b m o n o->_):=λm n x R=>dU (R.et ((x.block _ (aI a9) id).trans a9) aj.1 (by omega) (by decide) (by decide)).1 (I.refl No _);have d6:Hid (a.heap.size<=t.heap.size):=B.P.size;have ct:(y.n==(r.l.length:Int))=true:=by simpa using hy
    have da:r.l.length<=3200:=by omega
    clear T M f4 B ag hv ak cv D af ah ai P aj a9 al ac ad HV ae HR S z1 W z3 z4 z5 az be hx cp;generalize u.g=ug at*;generalize y.g=yg at*;obtain⟨rfl,rfl⟩:=hg;generalize y.n=yn at*;subst hy;unfold bN;go_wp2_with fail;refine(HP.u _ _ _ _ _ _ _ _ _).mono ?_;rintro q m ⟨A,rfl⟩;simp only[and_self,if_true];obtain⟨am,an,q1,q2⟩:=b8.u m (B6 CV.u A);have H1:=O (HH.u Z am _ an (r.l.length:Int) m q1);have K5:=O (B6 CV.u A);have bn:=O A;have M5:=O (bi.u m K5.u);clear A;go_wp2_with fail;refine H1.u.mono ?_;rintro q m ⟨rfl,rfl⟩;rw[hd];go_wp2_with fail;refine M5.u.mono ?_;rintro q n ⟨av,⟨h2,hm,rfl,V⟩|⟨h2,hm,rfl,V⟩⟩
    .exact⟨rfl,HO.u _ _ K5.u av h2 hm V⟩
    obtain⟨la,lc,l1,l2,l3,l4,l5⟩:=bh.u n V;obtain⟨b0,b1,b2,b3,bz,bl⟩:=bg.u m n bn.u av;have GG:=O (HG.u m n K5.u av hm V);have cA:I No n (n.drew.alloc (.cells #[U v.g,.int .i32 v.n,.string ⟨v.t.toArray⟩,.pointer (pad o.tb v.h)] 150)):=B6 (I.drewN No n 1) (I.alloc No _ _);have CA:=O cA;have L5:=O (l5 _ cA);have cj:Hid (a.heap.size<=n.heap.size):=V.P.size;have dc:=cj.u;clear cA l5 V hm av h2 HO HG bh bg bi M5 H1 K5 bn q1 q2 t0 t1 t2 t3 y0 y1 y2 y3;go_wp2_with fail;go_region_law (
     refine step_append_lies _ (by rfl) _ _ _ (by rfl) a.heap.size 150 i0 _ 4 40 underlying172 cn cw cx cy rfl (by omega) (.slice la r.l.length lc) r.l.length (r.l.flatMap (fJ o.tb)) (by rfl) L5.u.1 (J n.heap.size 0) 1 1 [U v.g,.int .i32 v.n,.string ⟨v.t.toArray⟩,.pointer (pad o.tb v.h)] (by rfl) (by rfl) (World.news_of_block (cs:=#[U v.g,.int .i32 v.n,.string ⟨v.t.toArray⟩,.pointer (pad o.tb v.h)]) (t:=150) (fr:=(0,0)) (yY n.drew _)) (by simp[Value.oneCell']) (by omega) (by grind[maxLen]) (by omega) (by simp;omega) (n.heap.size+1) (by simp) ?_;intro gg cm a5 c4 ax br db;have z4:a5.cell? (J Z 1)=some (.slice la r.l.length lc):=by rw[ax.cell_far _ (by simp;omega) l4];exact A4 CA.u l1
     have y4:a5.frozen? (J Z 1)=false:=by rw[ax.frozen_far _ (by simp;omega) l4];exact S6 (w:=n.drew) l2 (l3 1));all_goals
     have b6:=O (GG.u _ (L5.u.2 gg cm a5 c4 ax (br.imp id λq=>by rw[q];simp)));clear c4 ax br L5 GG;go_wp2_with fail;go_end0;exact b6.u
   .rw[zY hy]at S;have bx:jV (i:Int) u y v p=.over 3 (i:Int) p:=S;rw[I1 bx]at D;have HE:Hid (∀m,I No t m->RP a b e d G c.N (z+1) w g s Kn a6 (ov 3 (i:Int) []) m):=λm x=>by
     rw[D];exact⟨o,[],rfl,F4.u.trans (aH.y x),(B.y x).more (by omega)⟩
    have ch:=O uI;clear T M f4 B ag hv ak cv D af ah ai P aj a9 al ac ad HV ae HR S bx z1 W z3 z4 z5 az be hx;have ct:(y.n==(r.l.length:Int))=false:=by simpa using hy
    generalize u.g=ug at*;generalize y.g=yg at*;obtain⟨rfl,rfl⟩:=hg;generalize y.n=yn at*;unfold bN;go_wp2_with fail;refine(HP.u _ _ _ _ _ _ _ _ _).mono ?_;rintro q m ⟨A,rfl⟩;simp only[and_self,if_true];obtain⟨am,an,q1,q2⟩:=b8.u m (B6 CV.u A);have H1:=O (HH.u Z am _ an yn m q1);have K5:=O (B6 CV.u A);clear A;go_wp2_with fail;refine H1.u.mono ?_;rintro q n ⟨rfl,rfl⟩;rw[hd];go_wp2_with fail;refine(ch.u _ _ _).mono ?_;rintro q a5 ⟨rfl,rfl⟩;exact⟨rfl,HE.u _ K5.u⟩
 .rw[I1 (Rh hg)]at D;have HE:Hid (∀m,I No t m->RP a b e d G c.N (z+1) w g s Kn a6 (ov 3 (i:Int) []) m):=λm x=>by
   rw[D];exact⟨o,[],rfl,F4.u.trans (aH.y x),(B.y x).more (by omega)⟩
  clear T M f4 B ag hv ak cv D af ah ai P aj a9 al ac ad HV ae HR;unfold bN;go_wp2_with fail;refine(HP.u _ _ _ _ _ _ _ _ _).mono ?_;rintro q m ⟨A,rfl⟩;rw[zY hg];exact⟨rfl,HE.u _ (B6 CV.u A)⟩
end
section
variable{a w j:E}{b d h e z:Nat}{f:Value}{G:Int->Option Int}{c:Cx}{s:Ms}{g i:Gh}
def Vr{k}(r:eN a c d h f)(v:fD a b d e G c k):nI a b d e G c 20 λl sc=>rn c.N (aP c) G (k+1) (.s l) sc:=by
 intro w s g z A l o N H Z x;obtain⟨a2,a3,n⟩:=Z;obtain⟨l,rfl⟩:=Int.eq_ofNat_of_zero_le a2;have p:l<c.N.length:=by omega
 rw[B9 p]at n;have F:=r.ok.ep l p;have M:=J3 (F.kl n).1;obtain⟨R,m⟩:∃R,R=rn c.N (aP c) G (k+1) (.s l) (some A) s:=⟨_,rfl⟩;simp only[<-m]at x⊢;rw[pC]at m;simp only[B9 p,n]at m;simp at m;obtain⟨fz,lt,m0,m1,m2,m3,m4⟩:=o.mc;obtain⟨gn,nc,la,lc,q0,q1,q2,q3,q4,q5,⟨x0,x1,x2,x3,x4,x5,x6,x7,x8⟩,ho⟩:=r.node o p;have q:=I.alloc No w (.cells #[U c.N[l].x,U c.N[l].a,U c.N[l].b,U c.N[l].c,.slice la c.N[l].M.length lc,.string ⟨c.N[l].text.toArray⟩,U c.N[l].n,U c.N[l].ty,U c.N[l].at'] 85);have L:=v _ s g z (some A) c.N[l].a (o.y q) N (λj' V=>by grind) M (K8 (by rw[<-m];omega));have D:=aH.y (wB:=a) (mb:=b) (g:=g) q;have W:=Ys r v (o.y q) N H p n m x;have B:=O L;have P:=O D;have T:=O m;rw[n]at x0 B;have t:=O W;rw[n]at t;try generalize pad g.sb (some A)=pj at*
 generalize c.N[l]=nd at*;obtain⟨kd,va,vb,vc,ls,tx,vn,vt,vp⟩:=nd;simp only at*;subst n;clear r v o m x M F q ho H L D B T;go_in;go_wp2_with fail;refine t.u.mono ?_;rintro V a4 u;have y:=RP.pre P.u (Gr.refl _) u;have S:=O y;obtain⟨ps,rfl⟩|rfl:=u.ends
 .exact⟨rfl,y⟩
 .clear y u t;go_wp2;go_end0;exact S.u
end
def Tbl.below{B}{w c:E}(h:Tbl w)(a:Below B w c)(d:w.heap.size<=B):Tbl c:=by
 obtain⟨i,g,e,b⟩:=h;have f:=a.block g (yQ b d);refine⟨?_,g,e,yQ b a.size⟩;grind[Lib.TabIs,World.var?]
def WD(l:Y)(w:E)(F:Int->Int->Prop)(c:Cx->Of->List (Int×Int))(e:Ending)(h:E):Prop:=Below w.heap.size w h/\
 ((∃d p,d≠0/\F d p/\e=.returned (.tuple #[sN,.agg #[U d,U p]]))\/
  ∃N T a b g f,gF l N T a b/\e=.returned (.tuple #[.slice g (c (bM N T a) b).length f,.agg #[U 0,U 0]])/\h.ownsRow w.heap.size 37 2 (.slice g (c (bM N T a) b).length f) (c (bM N T a) b).length (oA (c (bM N T a) b)))
def tX(l:Y)(w:E)(F:Int->Int->Prop)(o:Cx->Of->List (Int×Int))(n:Nat)(e:Ending)(d:E):Prop:=Below w.heap.size w d/\
 ((∃b p,b≠0/\F b p/\e=.returned (.tuple #[.agg #[sN,U 0,U 0,sN],.agg #[U b,U p]]))\/
  ∃N T c m h k a i j f g,gF l N T c m/\jY N (aP (bM N T c)) (fW (o (bM N T c) m)) n=some (h,k,a)/\e=.returned (.tuple #[.agg #[.slice i a.ln.length j,U h,U k,.slice f a.ev.length g],.agg #[U 0,U 0]])/\
   d.ownsRow w.heap.size 9 1 (.slice i a.ln.length j) a.ln.length (strs a.ln)/\d.ownsRow w.heap.size 40 2 (.slice f a.ev.length g) a.ev.length (jN a.ev))
def RC(s:ByteArray)(c:Cx)(w:E):Prop:=Calls prog 14 #[.string s] w λe b=>∃a,e=.returned (.tuple #[pV a,.agg #[U 0,U 0]])/\Below w.heap.size w b/\∃f d,eN b c a f d/\b.cell? (J a 2)=some (U (c.N.length-1))/\a<b.heap.size
def yb{N}{c}{G}{b}{d f}{g}(h:Ho (rn N c G (8*b+20) (.b (N.length-1)) none (fC b)) d f g):jY N c G b=some (d,f,g):=by
 unfold jY;cases e:rn N c G (8*b+20) (.b (N.length-1)) none (fC b) with
 |ok a s=>rw[e]at h;obtain⟨rfl,rfl,rfl⟩:=h;rfl
 |over x i s=>rw[e]at h;obtain⟨rfl,rfl,rfl⟩:=h;rfl
 |back v s=>rw[e]at h;exact h.elim
 |stk=>rw[e]at h;exact h.elim
def CI(w:E)(o):Below w.heap.size w (w.alloc o):=(I.alloc No w o).ek (λ_ _ x=>x.elim) (vQ _)
def aH.jg{a w c}{b j e z}{G}{N}{s}{g d}(h:Rm a w b j e G N s g z)(f:aH a b w g c d):Below a.heap.size w c:=f.P.ek (λi _ x=>by
 obtain x|⟨r,x,_⟩|⟨x,_⟩:=x
 .have:=h.ju.1;omega
 .exact(h.low i r x).1
 omega) h.P.size
def VD(a)(q r)(b c d e f g):I (λk=>k=q\/k=r) a ((((((a.setCell (J q 0) b).setCell (J q 1) c).setCell (J q 2) d).setCell (J q 3) e).setCell (J r 0) f).setCell (J r 1) g):=
 ((((((I.refl _ a).put (.inl rfl)).put (.inl rfl)).put (.inl rfl)).put (.inl rfl)).put (.inr rfl)).put (.inr rfl)
def UX{w a:E}(h:Below w.heap.size w a)(j:w.heap.size<=a.heap.size)(b c d e f g)(o):Below w.heap.size w (World.drew (World.alloc ((((((a.setCell (J w.heap.size 0) b).setCell (J w.heap.size 1) c).setCell (J w.heap.size 2) d).setCell (J w.heap.size 3) e).setCell (J (w.heap.size+1) 0) f).setCell (J (w.heap.size+1) 1) g) o)):=
 h.trans (I.ek ((((VD a _ _ b c d e f g).trans (I.alloc (λk=>k=w.heap.size\/k=w.heap.size+1) _ o) λ_ _ x=>x)).trans (I.drewN (λk=>k=w.heap.size\/k=w.heap.size+1) _ 1) λ_ _ x=>x) (λi _ x=>by omega) j)
def kJ{a:E}{n}{e}{b m}{v}{j}(h:a.ownsRow (n+2) e b v m j)(c d f i l p)(o):(World.drew (World.alloc ((((((a.setCell (J n 0) c).setCell (J n 1) d).setCell (J n 2) f).setCell (J n 3) i).setCell (J (n+1) 0) l).setCell (J (n+1) 1) p) o)).ownsRow n e b v m j:=
 C8 (A3 h ((((VD a _ _ c d f i l p).trans (I.alloc (λk=>k=n\/k=n+1) _ o) λ_ _ x=>x)).trans (I.drewN (λk=>k=n\/k=n+1) _ 1) λ_ _ x=>x) λg q x=>by
  have:=(A9 h g q).1;omega) (by omega)
def A3d{N}{T}{a}{i}{l}(h:gF l N T a i):gC (bM N T a) 26 (N.length-1):=by
 obtain⟨b,j,_,c,_,_⟩:=h;have f:Em N 0 0 (.nd 26 [] 0 b):=⟨[],[],by simp[c.fe],rfl⟩;obtain⟨_,g,e⟩:=f.parts;have k:N.length=aA b+1:=by
  have:=congrArg List.length c.fe;rw[uZ,P8,nN]at this;exact this
 have d:(bM N T a).N=N:=rfl;refine⟨by omega,by grind,?_⟩;rw[d,show N.length-1=((0+aA b:Nat):Int) by omega,B9 g];exact(congrArg C.x e).trans (O8 _ _ _ _)
def El{N}{T}{u}{a2}{l}(v:gF l N T u a2){b w}{q qb c r f:Nat}{Z}{G}(a3:f<=100000)(m:eN b (bM N T u) q qb Z)(P:b.cell? (J q 2)=some (U (N.length-1)))(S:q<b.heap.size)
 (t:I No b w) (M:b.heap.size<=c) (L:eK w r 5000 G) (F:w.heap[c]?=some (.cells #[pV q,.map (some r),U f,U 0,U 0,sN,sN] 67 (0,0))):
 Calls prog 19 #[pV c] w λe d=>∃j p a n o g i,jY N (aP (bM N T u)) G f=some (j,p,a)/\e=.returned (.agg #[U j,U p])/\Below b.heap.size w d/\c<d.heap.size/\d.cell? (J c 5)=some (.slice n a.ln.length o)/\d.cell? (J c 6)=some (.slice g a.ev.length i)/\
  d.ownsRow b.heap.size 9 1 (.slice n a.ln.length o) a.ln.length (strs a.ln)/\d.ownsRow b.heap.size 40 2 (.slice g a.ev.length i) a.ev.length (jN a.ev):=by
 have x:=Eh (N:=N) t M L F;obtain⟨A,B,_⟩:=VP v m.ok G f;have D:=(Rk (mb:=c) (gq:=r) (G:=G) m (λk h=>Ni m λW hk=>h W (by omega)) (λk h=>Vr m h) (8*f+20)).2.2.2;refine(Zb D x (by omega) (A4 t P) (yQ S t.size) (A3d v) rfl A B).mono ?_;rintro e d ⟨j,p,a,g',R,rfl,H,V⟩;obtain⟨a4,ev,s,y,z⟩:=V.eo;obtain⟨n,o,rfl⟩:=B8 y;obtain⟨g,i,rfl⟩:=B8 z;exact⟨j,p,a,n,o,g,i,yb R,rfl,H.jg x,(aI s),(cell_of_row _ _ 5 _ _ _ s).trans rfl,(cell_of_row _ _ 6 _ _ _ s).trans rfl,y,z⟩
def Yn{s}{w}{al}{a6}{G}{F:Nat}(b3:∀q N T d f,gF s.data.toList N T d f->Tbl q->RC s (bM N T d) q)(ht:Tbl w)(az:F<=100000)(hg:∀q,I No w q->Calls prog 17 #[.string s,U al] q (WD s.data.toList q a6 G))
 (b2:∀N T d f,gF s.data.toList N T d f->(G (bM N T d) f).length<=5000/\∀p∈G (bM N T d) f,(0<=p.1/\p.1<=1000000)/\0<=p.2/\p.2<=1000000):
 Calls prog 8 #[.string s,U al,U F] w (tX s.data.toList w a6 G F):=by
 obtain⟨i,au⟩:∃o,o=Obj.cells #[sN,U 0,U 0,sN] 32:=⟨_,rfl⟩;obtain⟨k,av⟩:∃o,o=Obj.cells #[U 0,U 0] 26:=⟨_,rfl⟩;have aw:=((I.alloc No (w.alloc i) k).block _ (by simp) (λx=>x)).trans (yY w i);have ax:((w.alloc i).alloc k).heap[w.heap.size+1]?=some k:=by simpa using yY (w.alloc i) k
 have ae:I No w ((w.alloc i).alloc k):=B6 (I.alloc _ _ _) (I.alloc _ _ _);have HG:=O (hg _ ae);have HB:Hid (∀a,Below ((w.alloc i).alloc k).heap.size ((w.alloc i).alloc k) a->a.heap[w.heap.size]?=some i/\a.heap[w.heap.size+1]?=some k/\Below w.heap.size w a/\w.heap.size+2<=a.heap.size):=λa H=>
  ⟨(H.block _ (by simp;omega)).trans aw,(H.block _ (by simp)).trans ax,(ae.ek (λ_ _ x=>x.elim) (vQ _)).trans (H.mono (by simp;omega)),by have:=H.size;simp_all⟩;have ar:=O ht;have an:=O b2;have aq:=O b3;subst au av;go_in;go_wp2_with fail;refine HG.u.mono ?_;rintro e a ⟨ab,⟨er,p,ay,hF,rfl⟩|⟨N,T,d,f,ad,ac,a5,rfl,b4⟩⟩
 .obtain⟨l,b,bl,bs⟩:=HB.u a ab;have c:∀j v,#[Value.slice none 0 0,U 0,U 0,sN][j]?=some v->a.cell? (J w.heap.size j)=some v:=λj v e=>(cell_of_row _ _ j _ _ _ l).trans e;have S:=c 0 _ rfl;have V:=c 1 _ rfl;have W:=c 2 _ rfl;have Z:=c 3 _ rfl;have e0:=cell_of_row _ _ 0 _ _ _ b;have e1:=cell_of_row _ _ 1 _ _ _ b;have dz:=λo=>frozen_of_row _ _ o _ _ l;have ez:=λo=>frozen_of_row _ _ o _ _ b;have a3:w.heap.size<a.heap.size:=by omega
  have a4:w.heap.size+1<a.heap.size:=by omega
  have B:=O bl;have HF:=O hF;go_wp2;go_region;all_goals go_wp2
  all_goals have R:=O (UX B.u (by omega) (sN) (U 0) (U 0) (sN) (U er) (U p) (.cells #[U er,U p] 26))
  all_goals exact bodyPost_ret (by simp[results,results8,go_sem,S,V,W,Z,e0,e1,a3,a4]) rfl ⟨R.u,.inl ⟨er,p,ay,HF.u,rfl⟩⟩
 .obtain⟨l,b,bl,bs⟩:=HB.u a ab;have b5:=A3 b4 (I.alloc No a (.cells #[U 0,U 0] 26)) (λ_ _ x=>x);have b8:Tbl (a.alloc (.cells #[U 0,U 0] 26)):=(ar.u.below bl (vQ _)).below (CI a _) (vQ _);obtain⟨b0,b1⟩:=an.u N T d f a5;have a8:=O (Hq (fu:=F) (aq.u _ N T d f a5 b8) b5 b0 b1);have a9:=O a5;have B:=O bl;have P:=O (And.intro l b);go_wp2_with fail;refine a8.u.mono ?_;clear a8;rintro e ak ⟨pb,M,mb,gq,⟨qb,nv,hS,ah,ai⟩,a2,rfl,L,ag,af,y⟩;have D:=O (El a9.u az hS ah ai L ag af y);have a7:Hid (Below a.heap.size a ak/\a.heap.size+1<=M.heap.size/\M.heap.size<=ak.heap.size):=by
   have h1:=(CI a (.cells #[U 0,U 0] 26)).trans (a2.mono (by simp));have h2:=a2.size;simp only[World.size_alloc]at h2;exact⟨h1.trans (L.ek (λ_ _ x=>x.elim) h1.size),h2,L.size⟩
  clear hS ah ai a2 L ag af y;go_wp2_with fail;refine D.u.mono ?_;clear D;rintro e h ⟨m,n,g,z,A,r,t,aj,rfl,aa,bb,m5,m6,o1,o2⟩;obtain⟨y,b9,ba⟩:=a7.u;have u:=y.trans (aa.mono (by omega));have bc:=u.size;have l:=(u.block w.heap.size (by omega)).trans P.u.1;have b:=(u.block (w.heap.size+1) (by omega)).trans P.u.2;have c:∀j v,#[Value.slice none 0 0,U 0,U 0,sN][j]?=some v->h.cell? (J w.heap.size j)=some v:=λj v e=>(cell_of_row _ _ j _ _ _ l).trans e;have S:h.cell? (J w.heap.size 0)=some (sN):=c 0 _ rfl;have V:h.cell? (J w.heap.size 1)=some (U 0):=c 1 _ rfl;have W:h.cell? (J w.heap.size 2)=some (U 0):=c 2 _ rfl;have Z:h.cell? (J w.heap.size 3)=some (sN):=c 3 _ rfl;have e0:h.cell? (J (w.heap.size+1) 0)=some (U 0):=cell_of_row _ _ 0 _ _ _ b;have e1:h.cell? (J (w.heap.size+1) 1)=some (U 0):=cell_of_row _ _ 1 _ _ _ b;have dz:=λo=>frozen_of_row _ _ o _ _ l;have ez:=λo=>frozen_of_row _ _ o _ _ b;have a3:w.heap.size<h.heap.size:=by omega
  have a4:w.heap.size+1<h.heap.size:=by omega
  have am:=O (B.u.trans (u.mono (by omega)));have HO:=O (And.intro (C8 o1 (show w.heap.size+2<=M.heap.size by omega)) (C8 o2 (show w.heap.size+2<=M.heap.size by omega)));have D:=O aj;clear y aa u l b c o1 o2 aj a7 P B;go_wp2_with fail;go_region;all_goals go_wp2
  all_goals have R:=O (UX am.u (by omega) (.slice z g.ln.length A) (U m) (U n) (.slice r g.ev.length t) (U 0) (U 0) (.cells #[U m,U n] 64))
  all_goals have ao:=O (kJ HO.u.1 (.slice z g.ln.length A) (U m) (U n) (.slice r g.ev.length t) (U 0) (U 0) (.cells #[U m,U n] 64))
  all_goals have ap:=O (kJ HO.u.2 (.slice z g.ln.length A) (U m) (U n) (.slice r g.ev.length t) (U 0) (U 0) (.cells #[U m,U n] 64))
  all_goals exact bodyPost_ret (v:=.tuple #[.agg #[.slice z g.ln.length A,U m,U n,.slice r g.ev.length t],.agg #[U 0,U 0]]) (by simp[results,results8,go_sem,S,V,W,Z,e0,e1,a3,a4]) rfl ⟨R.u,.inr ⟨N,T,d,f,m,n,g,z,A,r,t,a9.u,D.u,rfl,ao.u,ap.u⟩⟩
def Yy(w:E)(g:Int)(P:Option Addr->Nat->Nat->Int->Int->E->Prop)(e:Ending)(f:E):Prop:=∃b n c a p d,P b n c a p d/\I (λk=>k=w.heap.size) d f/\e=.returned (if a≠0 then .tuple #[sN,.agg #[U a,U p]] else if g=1 then .tuple #[sN,.agg #[U 0,U 0]] else .tuple #[.slice b n c,.agg #[U 0,U 0]])
def Ic{s}{w}{h}(D:h=1\/h=2){P}(A:∀g,I No w g->w.heap.size<g.heap.size->Calls prog 7 #[.string s] g λe a=>∃c n d b p,e=.returned (.tuple #[.slice c n d,.agg #[U b,U p]])/\Below g.heap.size g a/\P c n d b p a):
 Calls prog 17 #[.string s,U h] w (Yy w h P):=by
 have u:=yY w (.cells #[U 0,U 0] 26);have r:=O (A _ (I.alloc No w (.cells #[U 0,U 0] 26)) (by simp));clear A;go_in;go_wp2_with fail;refine r.u.mono ?_;rintro e a ⟨c,n,d,b,p,rfl,v,t⟩;have f:=(v.block _ (by simp)).trans u;have l:a.cell? (J w.heap.size 0)=some (U 0):=cell_of_row _ _ 0 _ _ _ f;have m:a.cell? (J w.heap.size 1)=some (U 0):=cell_of_row _ _ 1 _ _ _ f;have F:=λo=>frozen_of_row _ _ o _ _ f;have q:=(aI f);have j:=O t;have i:∀(x y:Value) (o:Obj),I (λk=>k=w.heap.size) a (((a.setCell (J w.heap.size 0) x).setCell (J w.heap.size 1) y).alloc o):=λx y o=>((I.set a (J w.heap.size 0) x).trans (I.set _ (J w.heap.size 1) y) λ_ _ e=>e).trans (I.alloc No _ o) λ_ _ e=>e.elim;have B:∀(x y:Value) (o:Obj),I (λk=>k=w.heap.size) a (World.drew (((a.setCell (J w.heap.size 0) x).setCell (J w.heap.size 1) y).alloc o)):=λx y o=>(i x y o).trans (I.drewN No _ 1) λ_ _ e=>e.elim;clear r t v u f;by_cases z:b=0
 .subst z;obtain rfl|rfl:=D
  .go_wp2;exact bodyPost_ret (v:=.tuple #[sN,.agg #[U 0,U 0]]) (by simp[results,results17,go_sem,l,m,q]) rfl ⟨c,n,d,0,p,a,j.u,i _ _ _,by simp⟩
  .go_wp2;exact bodyPost_ret (v:=.tuple #[.slice c n d,.agg #[U 0,U 0]]) (by simp[results,results17,go_sem,l,m,q]) rfl ⟨c,n,d,0,p,a,j.u,i _ _ _,by simp⟩
 .have G:(b==0)=false:=by simp[z]
  go_wp2_with fail;go_region;all_goals go_wp2
  all_goals exact bodyPost_ret (v:=.tuple #[sN,.agg #[U b,U p]]) (by simp[results,results17,go_sem,l,m,q]) rfl ⟨c,n,d,b,p,a,j.u,B _ _ _,by grind⟩
def Kb(s)(w:E)(A:s.size<=maxLen){l}(u:l=1\/l=2):
 Calls prog 17 #[.string s,U l] w (WD s.data.toList w (jU s.data.toList) λc a=>if l=1 then [] else iJ c a):=by
 refine(Ic (P:=λm n o f p k=>Below w.heap.size w k/\((jU s.data.toList f p/\f≠0)\/(f=0/\∃N T d a,gF s.data.toList N T d a/\n=(iJ (bM N T d) a).length/\k.ownsRow (w.heap.size+1) 37 2 (.slice m n o) n (Z4 (iJ (bM N T d) a))))) u λB h G=>(GY s B A).mono ?_).mono ?_
 .have t:=h.ek (λ_ _ x=>x.elim) (vQ _);rintro e k ⟨b,⟨f,p,q,rfl⟩|⟨N,T,d,a,F,D,r,rfl,j⟩⟩
  .exact⟨_,_,_,f,p,rfl,b,t.trans (b.mono h.size),.inl ⟨q,q.1⟩⟩
  .exact⟨_,_,_,0,0,rfl,b,t.trans (b.mono h.size),.inr ⟨rfl,N,T,d,a,r,rfl,C8 j (by omega)⟩⟩
 .rintro e L ⟨m,n,o,f,p,k,⟨b,v⟩,h,rfl⟩;have y:=b.trans (h.ek (λi _ x=>by omega) b.size);refine⟨y,?_⟩;obtain⟨q,H⟩|⟨rfl,N,T,d,a,r,rfl,j⟩:=v
  .grind
  .refine .inr ⟨N,T,d,a,?_⟩;obtain rfl|rfl:=u
   .grind[oA,kW]
   .refine⟨m,o,r,by simp,?_⟩;simp;exact C8 (A3 j h λg z x=>by
     have:=(A9 j g z).1;omega) (by omega)
def Uz(s)(w)(k:s.size<=maxLen)(m:Tbl w){N}{T}{b}{o}(a:gF s.data.toList N T b o):RC s (bM N T b) w:=by
 refine(YB s w k).mono ?_;rintro e a2 ⟨f,⟨x,p,v,h,-⟩|⟨t,u,L,S,j,W,q,M,P,r,n,yv,R,y,Z,V,B,H,F,G,g,rfl,A,z,c,i⟩⟩
 .exact absurd h a.not
 .obtain⟨rfl,rfl,rfl,rfl⟩:=a.one j;have l:=Fj a g c (m.below f (vQ _));obtain⟨ov,D,d,_⟩:=c.st;refine⟨q,rfl,f,r,n,l,?_,(aI d)⟩;rw[cell_of_row _ _ 2 _ _ _ d,show (bM N T b).N=N from rfl,<-i];rfl
