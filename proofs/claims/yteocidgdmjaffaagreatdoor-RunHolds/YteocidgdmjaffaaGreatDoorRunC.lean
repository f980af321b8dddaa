/-
  A part of the proof.
-/
import Derived.Test.YteocidgdmjaffaaGreatDoorRunB
set_option maxHeartbeats 0
set_option linter.all false
set_option maxRecDepth 100000
namespace Go.Proofs.YteocidgdmjaffaaGreatDoor
open Go.Proofs.Tryz
open Go.RowKit Go.Maps
section
variable{d w a:E}{b f j e z:Nat}{i:Value}{G:Int->Option Int}{N:List C}{c:Cx}{s:Ms}{g h:Gh}
def tS(s:Ms)(k:Nat)(t:Th):Ms:={s with c:={s.c with T:=s.c.T.set k t}}
def RZ(l)(k)(x)(v):kG (λy=>if y=x then some v else l y) k (.string x)=some (bN k v)/\∀u,u≠.string x->kG (λy=>if y=x then some v else l y) k u=kG l k u:=by
 refine⟨by simp[kG],λu m=>?_⟩;cases u<;>try rfl
 grind[kG]
def Rm.qk(l:Rm d w b f e G N s g z){m}{t}(q:s.c.T[m]?=some t)(L:t.k=16){x}(hx:x.length<=1000000){v}(hv:bF s.c v)(hz:z<=1000000000):
 ∃n r,g.tb[m]?=some n/\n<w.heap.size/\w.cell? (J n 0)=some (.map (some r))/\∃a,(Instr.mapUpdate 171 (.map (some r)) (.string ⟨x.toArray⟩) (bN g.tb v)).run prog w=.ok () a/\
  Rm d a b f e G N (tS s m {t with p:=λy=>if y=x then some v else t.p y}) g (z+1)/\aH d b w g a g:=by
 obtain⟨am,e8,hT,_⟩:=l.mem;obtain⟨n,pv,la,lc,P,V,B,W,e5,e6⟩:=hT m t q;rw[wY L]at W;obtain⟨r,rfl,R,Z⟩:=W;obtain⟨h1,h2⟩:=RZ t.p g.tb x v;obtain⟨a,a9,hm,D⟩:=Z.put wJ underlying171 (xT x hx) (show WideAt.IsKeyLit (.string x) from trivial) (by omega) (bN g.tb v) _ h1 h2;obtain⟨es,cl,ag⟩:=Z.isMap;obtain⟨ad,ac,ah⟩:=hm.isMap;have A:=l.ok.T m t q;have H:=rK (u:={t with p:=λy=>if y=x then some v else t.p y}) q rfl;have a8:=(List.getElem?_eq_some_iff.1 q).1;refine⟨n,r,P,(aI B),cr B rfl,a,a9,?_,⟨D.mono λk _ y=>.inr (.inl ⟨.p m,(show k=r from y) ▸ R,λ_ o=>by grind⟩),λ_ _ _ o=>o,List.prefix_refl _,List.prefix_refl _⟩⟩;refine l.gen (d:=1) D (λk _ y=>?_) (l.rows D λk _ y=>?_) ⟨List.prefix_refl _,List.prefix_refl _,λ_ _=>rfl⟩ (by simp[tS,l.tl]) l.sl (λk r L hr=>?_) (λk r' hr y=>?_) (l.ok.ko q rfl ⟨A.k,λy u M=>?_,λu F=>(A.l u F).gr H,A.sc.gr H,A.fq,A.nd⟩) (by grind[tS]) (λa2 u F=>?_) (λa2 aa hq=>.inl ⟨hq,λk L y=>?_⟩)
 .have T:=y;subst T;refine⟨(l.low k _ R).1,λo=>?_⟩;have:=l.ju.2.2;grind
 .have T:=y;subst T;refine⟨λo=>?_,λcs o fz y=>?_⟩
  .have:=l.ju.2.1;grind
  grind
 .have:=(l.low k r hr).2;omega
 .grind
 .dsimp only at M;split at M
  .cases M;exact hv.gr H
  .exact(A.p y u M).gr H
 .simp only[tS]at F;by_cases a7:m=a2
  .subst a7;rw[List.getElem?_set_self a8,zQ]at F;subst F;refine .inr λm0 m' af hd a5=>?_;obtain⟨b',an,ak,al,a3,aj,S,k4,k5,k6⟩:=a5 m t q;rw[P]at a3;cases a3;rw[B]at S;simp at S;obtain⟨rfl,rfl,rfl⟩:=S;have a6:∀{k:Nat} {a4:Rl},g.ow k=some a4->a4≠.p m->k≠r:=λae ai o=>by
    grind
   refine⟨n,.map (some r),la,lc,P,V,(D.block n (aI B) (a6 V (by simp))).trans B,?_,A3 e5 D λaa hq y=>?_,e6⟩
   .rw[wY L];exact⟨r,rfl,R,hm.more (by omega)⟩
   .cases la with
    |none=>grind[Value.ownBlock]
    |some ab=>
     grind[Value.ownBlock]
  grind
 grind
theorem XC(m)(v):∀(l:List Vl) (k),k<l.length->((((l.flatMap (fJ m)).set (k*4) (U v.g)).set (k*4+1) (.int .i32 v.n)).set (k*4+2) (.string ⟨v.t.toArray⟩)).set (k*4+3) (.pointer (pad m v.h))=(l.set k v).flatMap (fJ m)
 |[],k,p=>by rfl
 |n::r,0,_=>by rfl
 |n::r,k+1,p=>by
  have q:=XC m v r k (by grind);have o:(k+1)*4=k*4+1+1+1+1:=by omega
  rw[o,iZ,List.flatMap_cons,List.flatMap_cons,<-q];rfl
def Iu{p m o}{n}{l:List Vl}(t:w.ownsRow p 150 4 (.slice (some (J m 0)) l.length o) l.length (l.flatMap (fJ n))){k}(H:k<l.length)(v):
 ((((w.setCell (J m (k*4)) (U v.g)).setCell (J m (k*4+1)) (.int .i32 v.n)).setCell (J m (k*4+2)) (.string ⟨v.t.toArray⟩)).setCell (J m (k*4+3)) (.pointer (pad n v.h))).ownsRow p 150 4 (.slice (some (J m 0)) l.length o) l.length ((l.set k v).flatMap (fJ n)):=by
 obtain⟨B,_⟩|⟨h,A,r,q,u,F,y,x,D,M⟩:=t.2
 .omega
 .simp at q;obtain⟨rfl,rfl⟩:=q;have L:∀l:List Vl,(l.flatMap (fJ n)).length=l.length*4:=λl=>by
   induction l<;>grind[qQ,jQ,fJ]
  refine⟨by grind,.inr ⟨m,o,(((r.setIfInBounds (k*4) (U v.g)).setIfInBounds (k*4+1) (.int .i32 v.n)).setIfInBounds (k*4+2) (.string ⟨v.t.toArray⟩)).setIfInBounds (k*4+3) (.pointer (pad n v.h)),rfl,u,?_,y,x,by grind,?_⟩⟩<;>grind[heap_setCell_same,Array.toList_setIfInBounds,List.take_set,XC]
def RA{t}{l}{c k}(m:iP N c t)(n:Gr c k)(p:∀u∈l,bF k u)(q:l.length<=1200+k.th):iP N k {t with l:=l}:=⟨m.k,λx v o=>(m.p x v o).gr n,p,m.sc.gr n,q,m.nd⟩
end
section
variable{e w a:E}{f h b z:Nat}{G:Int->Option Int}{N:List C}{s:Ms}{g:Gh}
def Rm.o6{S}{j}{n}{L d}(l:Rm e w f h b G N s g z)(u:I S w a)(R:∀k,k<w.heap.size->S k->e.heap.size<=k/\k≠b)
 (hb:∃V M,a.heap[f]?=some (.cells #[pV h,.map (some b),U j.fu,U j.c.ca,U j.c.th,V,M] 67 (0,0))/\
  a.ownsRow e.heap.size 9 1 V j.ln.length (strs j.ln)/\a.ownsRow e.heap.size 40 2 M j.ev.length (jN j.ev))
 (v:g.tb<+:n.tb/\g.sb<+:n.sb/\∀k r,g.ow k=some r->n.ow k=some r\/(S k/\n.ow k=none)) (a3:n.ow f=none/\n.ow b=none) (a7:n.tb.length=j.c.T.length) (a6:n.sb.length=j.c.S.length)
 (a8:∀k r,g.ow k=none->n.ow k=some r->(e.heap.size<=k/\k<a.heap.size)/\∀B c D,a.heap[k]?=some (.cells B c D)->c≠9/\c≠40)
 (a9:∀k r,g.ow k=some r->n.ow k=some r->S k->∀B c D,a.heap[k]?=some (.cells B c D)->c≠9/\c≠40)
 (a4:gX N j.c) (hz:d+j.ln.length+j.ev.length+4000*j.fu+z<=L+s.ln.length+s.ev.length+4000*s.fu)
 (hT:∀i t,j.c.T[i]?=some t->(s.c.T[i]?=some t/\∀k,g.ow k=some (.t i)\/g.ow k=some (.p i)\/g.ow k=some (.l i)->¬S k)\/∀m A,m+s.ln.length+s.ev.length+4000*s.fu=z->m+d<=A->(∀i t,s.c.T[i]?=some t->oV e.heap.size w g m i t)->oV e.heap.size a n A i t)
 (a2:∀i q,j.c.S[i]?=some q->(s.c.S[i]?=some q/\∀k,g.ow k=some (.s i)\/g.ow k=some (.o i)->¬S k)\/∀m A,m+s.ln.length+s.ev.length+4000*s.fu=z->m+d<=A->(∀i q,s.c.S[i]?=some q->qG w g m i q)->qG a n A i q):Rm e a f h b G N j n L:=by
 obtain⟨m,T,Z,W⟩:=l.mem;have P:∀k r,n.ow k=some r->(k<w.heap.size/\g.ow k=some r)\/g.ow k=none:=λk r y=>by
  cases c:g.ow k with
  |none=>simp
  |some r'=>
   obtain this|⟨_,this⟩:=v.2.2 k r' c
   .rw[y]at this;cases this;exact .inl ⟨(l.low k _ c).2,rfl⟩
   grind
 refine⟨l.P.trans u λk o x=>?_,⟨l.ju.1,a3⟩,l.gs.P u λx=>(R b l.gs.lt x).2 rfl,hb,a7,a6,λk r y=>?_,λk r y=>?_,a4,L-(j.ln.length+j.ev.length+4000*j.fu),by omega,λi t ht=>?_,λi q hq=>?_⟩
 .have:=(R k (yQ o l.P.size) x).1;omega
 .obtain⟨p,c⟩|p:=P k r y
  .exact⟨(l.low k r c).1,yQ p u.size⟩
  grind
 .obtain⟨p,c⟩|p:=P k r y
  .by_cases hx:S k
   .grind
   .rw[u.block k p hx];exact l.ty k r c
  grind
 .obtain⟨c,H⟩|F:=hT i t ht
  .refine(Z i t c).up (l.ok.T i t c) l.tl l.sl v.1 v.2.1 (by omega) λk o=>?_;have p:k<w.heap.size:=by obtain o|o|o:=o<;>exact(l.low k _ o).2
   exact⟨u.block k p (H k o),by grind⟩
  .exact F m _ T (by omega) Z
 .obtain⟨c,H⟩|F:=a2 i q hq
  .refine(W i q c).up (l.ok.S i q c).1 (λa5 e1=>?_) l.tl v.1 v.2.1 (by omega) λk o=>?_
   .have:=(l.ok.S i q c).2 a5 e1;have h4:=(List.getElem?_eq_some_iff.1 c).1;rw[l.sl];omega
   .have p:k<w.heap.size:=by obtain o|o:=o<;>exact(l.low k _ o).2
    exact⟨u.block k p (H k o),by grind⟩
  .exact F m _ T (by omega) W
def Rm.j6(j:Rm e w f h b G N s g z){t}{Z}(ht:iP N {s.c with T:=s.c.T++[t]} t){l q}{H}{n:Option Addr}{o}(D:I No w a)(hb:w.heap.size<=l)(cb:a.heap[l]?=some (.cells #[H,.slice n t.l.length o,U t.nd,.pointer (pad g.sb t.sc)] 174 (0,0)))
 (m:if t.k=16 then H=.map (some q)/\e.heap.size<=q/\g.ow q=none/\q≠b/\fM 9 a q Z (kG t.p g.tb) else H=.map none) (ho:a.ownsRow e.heap.size 150 4 (.slice n t.l.length o) t.l.length (t.l.flatMap (fJ g.tb))) (hl:∀p,n=some p->g.ow p.block=none) (hv:∀x v,t.p x=some v->bF s.c v) (af:∀v∈t.l,bF s.c v):
 ∃B,Rm e a f h b G N {s with c:={s.c with T:=s.c.T++[t]}} B (z+Z)/\B.sb=g.sb/\g.tb<+:B.tb/\pad B.tb (some s.c.T.length)=some (J l 0)/\(∀k r,g.ow k=some r->B.ow k=some r)/\∀k,g.ow k=none->k≠l->(t.k=16->k≠q)->(Value.slice n t.l.length o).ownBlock≠some k->B.ow k=none:=by
 obtain⟨_,_,L,_⟩:=j.eo;have a5:=(aI L);have a7:=(aI cb);have a6:=A9 ho;have F:g.tb<+:g.tb++[l]:=List.prefix_append _ _;let A:Nat->Option Rl:=λk=>match g.ow k with
  |some r=>some r
  |none=>if k=l then some (.t s.c.T.length) else if t.k=16/\k=q then some (.p s.c.T.length) else if (Value.slice n t.l.length o).ownBlock=some k then some (.l s.c.T.length) else none;have h1:∀k r,g.ow k=some r->A k=some r:=λk r d=>by grind
 have V:∀k,g.ow k=none->k≠l->(t.k=16->k≠q)->(Value.slice n t.l.length o).ownBlock≠some k->A k=none:=λk d a1 a2 a3=>by
  grind
 have a9:=j.new hb;have ab:A l=some (.t s.c.T.length):=by simp only[A,a9,if_true]
 have aa:∀k,(Value.slice n t.l.length o).ownBlock=some k->k≠l:=λk d e2=>by
  grind
 refine⟨⟨g.tb++[l],g.sb,A⟩,?_,rfl,F,by simp[pad,lQ,j.tl],h1,V⟩;refine j.o6 (d:=Z) D (λk _ x=>x.elim) (j.rows D λk _ x=>x.elim) ⟨F,List.prefix_refl _,λk r d=>.inl (h1 k r d)⟩ ⟨V f j.ju.2.1 (by omega) ?_ ?_,V b j.ju.2.2 ?_ ?_ ?_⟩ (by simp[j.tl]) j.sl (λk r hk W=>?_) (λk r _ _ x=>x.elim) (j.ok.j6 ht) (by grind) (λi ak u=>?_) (λi q' ac=>.inl ⟨ac,λk _ x=>x.elim⟩)
 .intro S d;rw[wY S]at m;obtain⟨R,M,y⟩:=m.2.2.2.2.isMap;rw[<-d,D.block f a5 id,L]at y;grind
 .intro d;obtain⟨_,a8,y⟩:=a6 f d;rw[D.block f a5 id,L]at y;grind
 .have:=j.gs.lt;omega
 .grind
 .intro d;obtain⟨_,a8,y⟩:=a6 b d;rw[D.block b j.gs.lt id]at y;exact j.gs.eu y
 .simp only[A,hk]at W;split at W
  .rename_i d;subst d;refine⟨⟨kQ j.P.size hb,a7⟩,λcs d fz y=>?_⟩;grind
  .split at W
   .rename_i d;rw[wY d.1]at m;obtain⟨R,M,y⟩:=m.2.2.2.2.isMap;grind
   grind
 .simp only at u;obtain a4|a4:=Nat.lt_or_ge i s.c.T.length
  .grind
  .rw[List.getElem?_append_right a4]at u;obtain d|d:=Nat.eq_zero_or_pos (i-s.c.T.length)
   .have hi:i=s.c.T.length:=by omega
    subst hi;rw[d]at u;simp at u;subst u;refine .inr λai m' _ hm _=>⟨l,H,n,o,by simp[j.tl],ab,cb,?_,?_,λp ha=>?_⟩
    .by_cases S:t.k=16
     .rw[wY S]at m⊢;obtain⟨ag,aj,p3,p4,p5⟩:=m;refine⟨q,ag,?_,?_⟩
      .have ah:q≠l:=λP=>by
        obtain⟨R,M,y⟩:=p5.isMap;grind
       grind
      .rw[EG F hv j.tl];exact p5.more (by omega)
     grind
    .rw[GU λv ae=>(sY F (af v ae) j.tl).2];omega
    .subst ha;have P:(Value.slice (some p) t.l.length o).ownBlock=some p.block:=rfl;have ad:¬(t.k=16/\p.block=q):=λx=>by
      rw[wY x.1]at m;obtain⟨R,M,y⟩:=m.2.2.2.2.isMap;grind
     simp only[A,hl p rfl];rw[zY (aa _ P),zY ad,wY P]
   .rw[List.getElem?_eq_none (by simp;omega)]at u;cases u
end
section
variable{d w b:E}{a e j f z:Nat}{i:Value}{G:Int->Option Int}{N:List C}{c:Cx}{s:Ms}{g h:Gh}
theorem fD.at{k}(n:fD d a e f G c k)(m:Rm d w a e f G c.N s g z)(r:z<=1000000000){sc}(q:hY s.c sc){l}(o:lU c l)(p:rn c.N (aP c) G k (.v l) sc s≠.stk):
 Calls prog 93 #[pV a,U l,.pointer (pad g.sb sc)] w (RP d a e f G c.N z w g s Kv (rn c.N (aP c) G k (.v l) sc s)):=n w s g z sc l m r q o p
def Yz{a8}(hS:eN d c e j i)(hV:fD d a e f G c a8)(L:Rm d w a e f G c.N s g z)(hz:z<=1000000000){v k}(hj:v<s.c.S.length)(ae:k<c.N.length)(b5:c.N[k].x=19){R:Rr (List Vl)}
 (hR:R=((rn c.N (aP c) G a8 (.v c.N[k].a) (some v)).bd λag=>(rn c.N (aP c) G a8 (.v c.N[k].b) (some v)).bd λr=>(lC (k:Int) c.N[k].text (r1 ag) (r1 r)).bd λ_=>aE []) s) (an:R≠.stk):
 Calls prog 95 #[pV a,U k,.pointer (pad g.sb (some v))] w (RP d a e f G c.N (z+1) w g s Kn R):=by
 have ad:=hS.ok.ep k ae;have ap:=J3 (ad.k2 (by omega)).1;have aq:=J3 (ad.k2 (by omega)).2;have b6:c.N[k].text.length<=1000000:=by have:=hS.ok.tx c.N[k] (mQ ae);omega
 obtain⟨fz,lt,m0,m1,m2,m3,m4⟩:=L.mc;obtain⟨gn,nc,la,lc,q0,q1,q2,q3,q4,q5,⟨x0,x1,x2,x3,x4,x5,x6,x7,x8⟩,ho⟩:=hS.node L ae;have ca:=I.alloc No w (.cells #[U c.N[k].x,U c.N[k].a,U c.N[k].b,U c.N[k].c,.slice la c.N[k].M.length lc,.string ⟨c.N[k].text.toArray⟩,U c.N[k].n,U c.N[k].ty,U c.N[k].at'] 85);have a3:=O (aH.y (wB:=d) (mb:=a) (g:=g) ca);have ak:=O (hV.at (L.y ca) hz (sc:=some v) (λj' q=>by grind) ap (K8 (by rw[<-hR];omega)));have a4:Hid (∀A o,aH d a _ g A o->_):=λA o hf=>nV (w':=A) (g':=o) (kd:=c.N[k].x) (va:=c.N[k].a) (vb:=c.N[k].b) (vc:=c.N[k].c) (lv:=.slice la c.N[k].M.length lc) (tx:=⟨c.N[k].text.toArray⟩) (vn:=c.N[k].n) (vt:=c.N[k].ty) (vp:=c.N[k].at') L hf;have ax:=O (λ(h:Gh) (hp:g.sb<+:h.sb)=>J6 hp (o:=some v) λj' q=>by cases q;rw[L.sl];omega);have HR:=O hR;have aw:=O an;have HV:=O hV;have az:=O aq;have HJ:=O hj;have HD:=O sM;have bb:(k:Int)<(c.N.length:Int):=by omega
 generalize pad g.sb (some v)=pj at*;generalize c.N[k]=nd at*;obtain⟨kd,va,vb,vc,ls,T,vn,vt,vp⟩:=nd;simp only at*;subst b5;clear hS hV L hR an ap aq ad ca ho hj;go_in;go_wp2_with fail;refine ak.u.mono ?_;rintro q A P;obtain⟨ps,rfl,hh⟩|⟨b4,s2,o,b9,rfl,F,-,aa,S,ab,u,rfl,hu,rfl⟩:=RP.cut (K':=Kn) (λag=>(rn c.N (aP c) G a8 (.v vb) (some v)).bd λr=>(lC (k:Int) T (r1 ag) (r1 r)).bd λ_=>aE []) P
 .exact⟨rfl,by rw[HR.u];exact(hh.pre a3.u (Gr.refl _)).more (by omega)⟩
 have M:r1 [u]=u:=rfl;have a7:=HR.u;rw[F,M]at a7;have cb:=I.alloc No A (.cells #[U u.g,.int .i32 u.n,.string ⟨u.t.toArray⟩,.pointer (pad o.tb u.h)] 150);have fb:=aa.trans (aH.y (wB:=d) (mb:=a) (g:=o) cb);have a5:=O (HV.u.at (S.y cb) hz (sc:=some v) (λj' q=>by cases q;exact yQ HJ.u ab.S) az.u (K8 (by rw[<-a7];exact aw.u)));rw[ax.u o aa.sb]at a5;obtain⟨x0,x1,x2,x3,x4,x5,x6,x7,x8,xl⟩:=a4.u _ o fb;have al:o.ow A.heap.size=none/\a<A.heap.size:=⟨S.new (vQ _),S.mc.2.1⟩;have a2:Hid (∀n m,aH d a _ o n m->_):=λn m (hf:aH d a (A.alloc (.cells #[U u.g,.int .i32 u.n,.string ⟨u.t.toArray⟩,.pointer (pad o.tb u.h)] 150)) o n m)=>dU (hf.et (yY A _) al.1 (by omega) (by decide) (by decide)).1 (I.refl No _);have R2:=O S;have F2:=O fb;have G2:=O ab;have aj:=O a7;have HU:=O hu;have ay:=O S.tl;clear P F aa S ab hu a7 ak fb cb al M;unfold bN;go_wp2_with fail;refine a5.u.mono ?_;rintro q n P;obtain⟨ps,rfl,hh⟩|⟨b4,s3,m,b9,rfl,F,-,H,D,a6,y,rfl,hy,rfl⟩:=RP.cut (K':=Kn) (λr=>(lC (k:Int) T u (r1 r)).bd λ_=>aE []) P
 .exact⟨rfl,by rw[aj.u];exact((hh.pre F2.u G2.u).pre a3.u (Gr.refl _)).more (by omega)⟩
 have M:r1 [y]=y:=rfl;have B:=aj.u;rw[F,M]at B;obtain⟨t0,t1,t2,t3,tz,tl⟩:=a2.u n m H;have af:=HU.u.gr a6;have cc:=I.alloc No n (.cells #[U y.g,.int .i32 y.n,.string ⟨y.t.toArray⟩,.pointer (pad m.tb y.h)] 150);have Z:=O cc;have ao:=(J6 H.tb (λk q=>by rw[ay.u];exact HU.u.lt k q)).symm;have F3:=O (F2.u.trans H);have av:=O H;have G3:=O (G2.u.trans a6);have am:m.ow n.heap.size=none/\a<n.heap.size:=⟨D.new (vQ _),D.mc.2.1⟩;have ac:=yY n (.cells #[U y.g,.int .i32 y.n,.string ⟨y.t.toArray⟩,.pointer (pad m.tb y.h)] 150);have ah:=O (λb=>dU (w':=b) ac);by_cases V:u.g=16
 .obtain⟨jt,th,bt,bc,z1,z2,z3,z4,z5,-,-⟩:=D.jy af (by omega);have W:lC (k:Int) T u y s3=.ok () (tS s3 jt {th with p:=λau=>if au=T then some y else th.p au}):=by
   unfold lC;rw[I5 (W6 V),I5 (uB z1 z2)];simp only[fK,bU,z1,Option.getD_some];rfl
  rw[I5 W]at B;have ai:Hid (∀b,I No n b->∃r l,bt<b.heap.size/\b.cell? (J bt 0)=some (.map (some r))/\(Instr.mapUpdate 171 (.map (some r)) (.string ⟨T.toArray⟩) (.agg #[U y.g,.int .i32 y.n,.string ⟨y.t.toArray⟩,.pointer (pad m.tb y.h)])).run prog b=.ok () l/\RP d a e f G c.N (z+1) w g s Kn R (rT) l):=λb t=>by
   obtain⟨ba,r,ar,b7,b8,l,x,k5,k6⟩:=(D.y t).qk z2 (z3.trans V) b6 hy hz;rw[z4]at ar;cases ar;refine⟨r,l,b7,b8,x,?_⟩;rw[B];exact⟨m,_,rfl,a3.u.trans (F3.u.trans ((aH.y t).trans k6)),k5,G3.u.trans (rK z2 rfl),rfl⟩
  obtain⟨n0,n1,n2,n3,n4,n5,n6,n7,n8,nl⟩:=a4.u n m F3.u;have HN:=O (λb (t:I No n b)=>a4.u b m (F3.u.trans (aH.y t)));have a9:=O (λb (t:I No n b)=>a2.u b m (av.u.trans (aH.y t)));rw[ao,z5]at t3 a9;clear P F H D a6 hy af cc B W z1 z2 z3 z4 a5 a2 M am ac ao z5;generalize u.g=ug at*;subst V;unfold bN;go_wp2_with fail;refine(HD.u _ _ _ _ _ _ _).mono ?_;rintro q l ⟨x,rfl⟩;simp only[if_true];obtain⟨r,bd,l1,l2,l3,l4⟩:=ai.u (World.drew l) (B6 (B6 Z.u x) (I.drewN No _ 1));replace l1:bt<l.heap.size:=l1;replace l2:l.cell? (J bt 0)=some (.map (some r)):=l2;obtain⟨-,-,-,-,-,o5,-,-,-,ol⟩:=HN.u l (B6 Z.u x);obtain⟨b0,b1,b2,b3,-,bl⟩:=a9.u l (B6 Z.u x);obtain⟨d0,d1,d2,d3,-,dl⟩:=ah.u l x;have L4:=O l4;clear l4 x ai HN a9 ah a4;go_wp2_with fail;go_region;all_goals go_wp2_with fail
  all_goals go_end0
  all_goals exact L4.u
 .have W:lC (k:Int) T u y s3=.over 3 (k:Int) s3:=by
   unfold lC;exact I1 (oF V)
  rw[I1 W]at B;have HP:Hid (∀l,I No n l->RP d a e f G c.N (z+1) w g s Kn R (ov 3 (k:Int) []) l):=λl t=>by
   rw[B];exact⟨m,[],rfl,a3.u.trans (F3.u.trans (aH.y t)),(D.y t).more (by omega)⟩
  clear P F H D a6 hy af cc B W a5 a2 M am ac;unfold bN;go_wp2_with fail;refine(HD.u _ _ _ _ _ _ _).mono ?_;rintro q l ⟨x,rfl⟩;rw[zY V];exact⟨rfl,HP.u _ (B6 Z.u x)⟩
end
section
variable{a w j:E}{b d h e z:Nat}{f:Value}{G:Int->Option Int}{c:Cx}{s:Ms}{g i:Gh}
def CU{k}(v:eN a c d h f)(x:fD a b d e G c k)(H:lB a b d e G c k):nI a b d e G c 22 λl sc=>rn c.N (aP c) G (k+1) (.s l) sc:=by
 intro w s g z D l o P M hi y;obtain⟨a4,a5,n⟩:=hi;obtain⟨l,rfl⟩:=Int.eq_ofNat_of_zero_le a4;have r:l<c.N.length:=by omega
 rw[B9 r]at n;have q:=v.ok.ep l r;have B:=J3 (q.oe n).1;obtain⟨R,m⟩:∃R,R=rn c.N (aP c) G (k+1) (.s l) (some D) s:=⟨_,rfl⟩;simp only[<-m]at y⊢;rw[pC]at m;simp only[B9 r,n]at m;simp at m;obtain⟨fz,lt,m0,m1,m2,m3,m4⟩:=o.mc;obtain⟨gn,nc,S,T,q0,q1,q2,q3,q4,q5,⟨x0,x1,x2,x3,x4,x5,x6,x7,x8⟩,ho⟩:=v.node o r;have p:=I.alloc No w (.cells #[U c.N[l].x,U c.N[l].a,U c.N[l].b,U c.N[l].c,.slice S c.N[l].M.length T,.string ⟨c.N[l].text.toArray⟩,U c.N[l].n,U c.N[l].ty,U c.N[l].at'] 85);have N:=x _ s g z (some D) c.N[l].a (o.y p) P (λj' a2=>by grind) B (K8 (by rw[<-m];omega));have L:=aH.y (wB:=a) (mb:=b) (g:=g) p;have a3:=Lm x H (o.y p) P M (kd:=c.N[l].x) (lv:=.slice S c.N[l].M.length T) (tx:=⟨c.N[l].text.toArray⟩) (vn:=c.N[l].n) (vt:=c.N[l].ty) (vp:=c.N[l].at') B (EL (q.oe n).2.1) ((q.oe n).2.2.imp id EL) m y;have F:=O N;have V:=O L;have Z:=O m;rw[n]at x0 F;have t:=O a3;rw[n]at t;try generalize pad g.sb (some D)=pj at*
 generalize c.N[l]=nd at*;obtain⟨kd,va,vb,vc,ls,tx,vn,vt,vp⟩:=nd;simp only at*;subst n;clear v x o m y B q p ho M N L H F Z;go_in;go_wp2_with fail;refine t.u.mono ?_;rintro a2 a6 u;have A:=(RP.pre V.u (Gr.refl _) u).more (show z<=z+1 by omega);have W:=O A;obtain⟨ps,rfl⟩|rfl:=u.ends
 .exact⟨rfl,A⟩
 .clear A u t;go_wp2;go_end0;exact W.u
end
def vP(a:Nat)(w:E):Nat:=match w.cell? (J a 2) with
 |some (.int _ n)=>n.toNat
 |_=>0
section
variable{b w j:E}{a d i e z:Nat}{h:Value}{G:Int->Option Int}{N:List C}{c:Cx}{s:Ms}{g f:Gh}
theorem Rm.pq(k:Rm b w a d e G N s g z):vP a w=s.fu:=by
 obtain⟨-,-,-,-,m2,-⟩:=k.mc;grind[vP]
def Wq{k}(hS:eN b c d i h)(hV:∀n,n<k->fD b a d e G c n)(hB:∀n,n<k->lB b a d e G c n):nI b a d e G c 23 λl sc=>rn c.N (aP c) G (k+1) (.s l) sc:=by
 intro w s g z m l A hz hj hi aa;obtain⟨b0,b4,v⟩:=hi;obtain⟨l,rfl⟩:=Int.eq_ofNat_of_zero_le b0;have M:l<c.N.length:=by omega
 rw[B9 M]at v;have a9:=hS.ok.ep l M;have hx:=J3 (a9.od v).1;obtain⟨R,B⟩:∃R,R=rn c.N (aP c) G (k+1) (.s l) (some m) s:=⟨_,rfl⟩;simp only[<-B]at aa⊢;rw[pC]at B;simp only[B9 M,v]at B;simp at B;obtain⟨fz,lt,m0,m1,m2,m3,m4⟩:=A.mc;obtain⟨gn,nc,la,lc,q0,q1,q2,q3,q4,q5,⟨x0,x1,x2,x3,x4,x5,x6,x7,x8⟩,ho⟩:=hS.node A M;have ca:=I.alloc No w (.cells #[U c.N[l].x,U c.N[l].a,U c.N[l].b,U c.N[l].c,.slice la c.N[l].M.length lc,.string ⟨c.N[l].text.toArray⟩,U c.N[l].n,U c.N[l].ty,U c.N[l].at'] 85);have am:=aH.y (wB:=b) (mb:=a) (g:=g) ca;have a3:=O am;have HR:=O B;rw[v]at x0;have H0:=O (A.y ca);have ae:Hid (∀ao r,aH b a _ g ao r->_):=λao r hf=>nV (kd:=23) (va:=c.N[l].a) (vb:=c.N[l].b) (vc:=c.N[l].c) (lv:=.slice la c.N[l].M.length lc) (tx:=⟨c.N[l].text.toArray⟩) (vn:=c.N[l].n) (vt:=c.N[l].ty) (vp:=c.N[l].at') A hf;have av:=O hx;have aw:=O (EL (a9.od v).2);have HV:=O hV;have HB:=O hB;have a4:=O aa;have HJ:=O hj;have af:=O (λ(f:Gh) (hp:g.sb<+:f.sb)=>J6 hp (o:=some m) λj' q=>by cases q;rw[A.sl];omega);have HW:Hid (∀k p,rn c.N (aP c) G (k+1) (.w (l:Int)) (some m) p=((rn c.N (aP c) G k (.v c.N[l].a) (some m)).bd λac=>if (r1 ac).j3 then (rn c.N (aP c) G k (.b c.N[l].b) (some m)).bd λ_=>rn c.N (aP c) G k (.w (l:Int)) (some m) else aE []) p):=λk p=>by rw[rn,B9 M]
 rw[v]at H0;try generalize pad g.sb (some m)=pj at*
 generalize c.N[l]=nd at*;obtain⟨kd,va,vb,vc,ls,tx,vn,vt,vp⟩:=nd;simp only at*;subst v;clear hS hV A B aa hx a9 ca ho hj am hB;go_in;go_wp2_with fail;go_loopw [94] (λ_ wr=>∃(o:Nat) (p:Ms) (r:Gh),o<=k/\Hid (R=rn c.N (aP c) G o (.w (l:Int)) (some m) p)/\Hid (Rm b wr a d e G c.N p r z)/\Hid (aH b a (w.alloc (aL 23 va vb vc (.slice la ls.length lc) tx vn vt vp)) g wr r)/\Hid (Gr s.c p.c)) (λ_ wr=>vP a wr);case atStart=>exact⟨k,s,g,vQ _,HR,H0,aH.y (I.refl _ _),Gr.refl _⟩
 case round=>
  obtain⟨o,p,r,b5,a5,HM,F,S⟩:=hrel;obtain⟨o,rfl⟩:∃n,o=n+1:=by
   cases o with
   |zero=>exact absurd (a5.u.trans rfl) a4.u
   |succ n=>simp
  have V:=a5.u;rw[HW.u]at V;have a6:=O V;have an:hY p.c (some m):=λj' q=>by cases q;exact yQ HJ.u S.u.S
  have a7:=O (HV.u o (by omega) wr p r z (some m) va HM.u hz an av.u (K8 (by rw[<-V];exact a4.u)));rw[af.u r F.u.sb]at a7;obtain⟨y0,y1,y2,y3,y4,y5,y6,y7,y8,yl⟩:=ae.u wr r F.u;have ap:Hid (vP a wr=p.fu):=HM.u.pq;clear V an a5;go_wp2_with fail;refine a7.u.mono ?_;rintro q b2 hq;obtain⟨ps,rfl,hh⟩|⟨ax,Z,y,b1,rfl,H,L,ai,r3,ak,u,rfl,hu,rfl⟩:=RP.cut (K':=Kn) (λac=>if (r1 ac).j3 then (rn c.N (aP c) G o (.b vb) (some m)).bd λ_=>rn c.N (aP c) G o (.w (l:Int)) (some m) else aE []) hq
  .exact⟨rfl,by rw[a6.u];exact((hh.pre F.u S.u).pre a3.u (Gr.refl _)).more (by omega)⟩
  have W:=a6.u;rw[H]at W;have hM:r1 [u]=u:=rfl;rw[hM]at W;have D:=O (FJ y.tb u b2);have R3:=O r3;have F3:=O (F.u.trans ai);have P:=O (S.u.trans ak);have ag:=O W;have ar:=O (Vt L);obtain⟨u',ab⟩:∃ay,ay=u.j3:=⟨_,rfl⟩;rw[<-ab]at D;have HU:=O ab;clear hq H L r3 ai ak hu W ab a7 hM a6 HM F S y0 y1 y2 y3 y4 y5 y6 y7 y8 yl;unfold bN at*;cases u' with
  |true=>
   go_wp2_with fail;refine D.u.mono ?_;rintro q a2 ⟨rfl,x⟩;have r4:=R3.u.y x;have T:=F3.u.trans (aH.y (wB:=b) (mb:=a) (g:=y) x);have t:=ag.u;rw[<-HU.u,wY rfl]at t;obtain⟨x0,x1,x2,x3,x4,x5,x6,x7,x8,xl⟩:=ae.u a2 y T;have hb:=HB.u o (by omega) a2 Z y z (some m) vb r4 hz (λj' q=>by cases q;exact yQ HJ.u P.u.S) aw.u (K8 (by rw[<-t];exact a4.u));rw[af.u y T.sb]at hb;have ad:=O hb;have F4:=O T;have ah:=O t;clear r4 T t x D hb;go_wp2_with fail;refine ad.u.mono ?_;rintro q b3 h5;obtain⟨ps,rfl,hh⟩|⟨ax,s5,g5,b1,rfl,H,L,aj,r5,al,rfl⟩:=RP.cut (K':=Kn) (λ_=>rn c.N (aP c) G o (.w (l:Int)) (some m)) h5
   .exact⟨rfl,by rw[ah.u];exact((hh.pre F4.u P.u).pre a3.u (Gr.refl _)).more (by omega)⟩
   .have a8:=ah.u;rw[H]at a8;have au:=O a8;have R5:=O r5;have F5:=O (F4.u.trans aj);have G5:=O (P.u.trans al);have h6:=QT c.N (aP c) G o (.b vb) (some m) Z Z.fu (vQ _);rw[L]at h6;have az:s5.fu<=Z.fu:=h6;have aq:Hid (vP a b3<vP a wr):=by show _<_;rw[r5.pq,ap.u];have:=ar.u;omega
    clear h5 H L aj r5 al a8 h6 az ad;go_wp2;exact⟨⟨o,s5,g5,by omega,au,R5,F5,G5⟩,aq.u⟩
  |false=>
   go_wp2_with fail;refine D.u.mono ?_;rintro q a2 ⟨rfl,x⟩;have t:=ag.u;rw[<-HU.u,zY (by simp)]at t;have HP:Hid (RP b a d e G c.N (z+1) w g s Kn R (rT) a2):=by
    show RP _ _ _ _ _ _ _ _ _ _ _ _ _ _;rw[t];exact⟨y,_,rfl,a3.u.trans (F3.u.trans (aH.y x)),(R3.u.y x).more (by omega),P.u,rfl⟩
   clear t x D;go_wp2;go_end0;exact HP.u
end
section
variable{a w j:E}{b d h e z:Nat}{f:Value}{G:Int->Option Int}{c:Cx}{s:Ms}{g i:Gh}
def Vz{k}(r:eN a c d h f)(v:fD a b d e G c k):nI a b d e G c 19 λl sc=>rn c.N (aP c) G (k+1) (.s l) sc:=by
 intro w s g z A l o N H Z x;obtain⟨a2,a3,n⟩:=Z;obtain⟨l,rfl⟩:=Int.eq_ofNat_of_zero_le a2;have p:l<c.N.length:=by omega
 rw[B9 p]at n;have F:=r.ok.ep l p;have M:=J3 (F.k2 (by omega)).1;obtain⟨R,m⟩:∃R,R=rn c.N (aP c) G (k+1) (.s l) (some A) s:=⟨_,rfl⟩;simp only[<-m]at x⊢;rw[pC]at m;simp only[B9 p,n]at m;simp at m;obtain⟨fz,lt,m0,m1,m2,m3,m4⟩:=o.mc;obtain⟨gn,nc,la,lc,q0,q1,q2,q3,q4,q5,⟨x0,x1,x2,x3,x4,x5,x6,x7,x8⟩,ho⟩:=r.node o p;have q:=I.alloc No w (.cells #[U c.N[l].x,U c.N[l].a,U c.N[l].b,U c.N[l].c,.slice la c.N[l].M.length lc,.string ⟨c.N[l].text.toArray⟩,U c.N[l].n,U c.N[l].ty,U c.N[l].at'] 85);have L:=v _ s g z (some A) c.N[l].a (o.y q) N (λj' V=>by grind) M (K8 (by rw[<-m];omega));have D:=aH.y (wB:=a) (mb:=b) (g:=g) q;have W:=Yz r v (o.y q) N H p n m x;have B:=O L;have P:=O D;have T:=O m;rw[n]at x0 B;have t:=O W;rw[n]at t;try generalize pad g.sb (some A)=pj at*
 generalize c.N[l]=nd at*;obtain⟨kd,va,vb,vc,ls,tx,vn,vt,vp⟩:=nd;simp only at*;subst n;clear r v o m x M F q ho H L D B T;go_in;go_wp2_with fail;refine t.u.mono ?_;rintro V a4 u;have y:=RP.pre P.u (Gr.refl _) u;have S:=O y;obtain⟨ps,rfl⟩|rfl:=u.ends
 .exact⟨rfl,y⟩
 .clear y u t;go_wp2;go_end0;exact S.u
end
