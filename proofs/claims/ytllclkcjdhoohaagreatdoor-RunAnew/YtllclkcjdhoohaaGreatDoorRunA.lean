/-
  A part of the proof.
-/
import Derived.Test.YtllclkcjdhoohaaGreatDoorWriteA
import Derived.Laws.StructEq
import Derived.Laws.Pointers
import Derived.LaidEql
set_option maxHeartbeats 0
set_option linter.all false
set_option maxRecDepth 100000
namespace Go.Proofs.YtllclkcjdhoohaaGreatDoor
open _root_.Array renaming size->V
open Bool renaming false->κ,true->τ
open Decidable renaming decide->ê
open Go renaming Value->υ,Addr->í,Ending->ò,Calls->μ,bodyPost_ret->ç,results->ã,frozen_of_row->æ,cell_of_row->ä,maxLen->Δ,heap_setCell_same->ð,info_parts->ý,undef->Φ
open Act renaming put->ë
open Ending renaming panicked->Â,returned->π
open Instr renaming lookup->Ì,mapUpdate->Ï
open IntKind renaming i64->χ,i32->à
open Obj renaming cells->γ
open Go.Proofs.Tryz renaming prog->ε
open Value renaming string->ι,pointer->Γ,slice->Y,ownBlock->Θ
open World renaming alloc->ω,ownsRow->ρ,setCell->σ,cell?->δ,size_alloc->Ô,news_of_block->Ó,drew->Ø
open Gr renaming refl->Á
open I renaming grown->ü,refl->ì,set->é,alloc->ν,drewN->Ψ
open Int renaming eq_ofNat_of_zero_le->È,reduceEq->Ö
open List renaming toArray->ξ,length->Q,prefix_refl->ö,getElem?_eq_some_iff->Î
open Option renaming some->C
open Go.Proofs.Tryz
open Go.RowKit Go.Maps
def UH(v:υ):Option (DataW υ×List MemPlace):=C (.held v,[])
structure gH(k:TypeId)(w:E)(q m:Nat)(f:Lit->Option υ):Prop where
 own:∃n D,w.ownsMap ε k UH q n D/\n<=m/\IsMap D/\∀(s:Lit) (d:DataW υ),D.atKey s d=match f s with
  |C j=>.held j
  |none=>d
section
variable{k t e:TypeId}{w w':E}{q m:Nat}{f:Lit->Option υ}
def gH.new(k)(w:E)(m):gH k (ω w<|.map #[] 0) (V w.heap) m (λ_=>none):=⟨0,.map [],World.ownsMap_made w _ _ _,wQ _,isMap_empty,λ_ _=>K⟩
def gH.more{a}(h:gH k w q m f)(d:m<=a):gH k w q a f:=by
 obtain⟨n,D,b,c,r⟩:=h.own;exact⟨n,D,b,W,r⟩
theorem gH.isMap(h:gH k w q m f):∃b a,w.heap[q]?=C (.map b a):=by
 obtain⟨n,D,⟨b,a,c,_⟩,_⟩:=h.own;grind
theorem gH.P(h:gH k w q m f)(b:w'.heap[q]?=w.heap[q]?):gH k w' q m f:=by
 obtain⟨n,D,⟨c,a,d,g⟩,r⟩:=h.own;exact⟨n,D,⟨c,a,b.trans d,g⟩,r⟩
def gH.look(h:gH k w q m f)(p:Keyed ε k)(v:prog.underlying t=C (.map k e)){z}(x:(zeroValue e).run ε w=.ok z w){o}{b}(u:keyOf ε k o=C b)(c):
 (Ì t (.map<|C q) o c).run ε w=.ok (if c then .tuple #[(f b).getD z,.bool (f b).isSome] else (f b).getD z) w:=by
 obtain⟨n,D,⟨G,A,s,F,_,rfl⟩,_,_,r⟩:=h.own;have a:=r b .nil;obtain⟨i,_,g⟩|⟨B,y,_,_,i,l,g,_⟩:=fit_look c p v x s F u
 .rw[g]at a;cases d:f b with
  |none=>rw[i];rfl
  |some j=>rw[d]at a;cases a
 .rw[g]at a;simp only[UH,zQ]at l;subst l;cases d:f b with
  |none=>rw[d]at a;cases a
  |some j=>
   rw[d]at a;simp at a;rw[i,a];rfl
def gH.put(h:gH k w q m f)(g:Keyed ε k)(s:prog.underlying t=C (.map k e)){c}{a}(j:keyOf ε k c=C a)(B:WideAt.IsKeyLit a)(F:m<=1000000000)(v)(b)(y:b a=C v)(z:∀u,u≠a->b u=f u):
 ∃w',(Ï t (.map<|C q) c v).run ε w=.ok () w'/\gH k w' q (m+1) b/\I (λk=>k=q) w w':=by
 obtain⟨n,D,o,G,l,A⟩:=h.own;obtain⟨w',r,p,i⟩:=o.update g s Ñ j (show UH v=C (.held v,[]) from K);refine⟨w',r,⟨n+1,_,p,W,l.put _ _,λu d=>?_⟩,(ü i).mono λk _ x=>η⟩;by_cases H:u=a<;>grind[atKey_put_same,atKey_put_other]
end
inductive Rl where
 |t (i:Nat)
 |p (i:Nat)
 |l (i:Nat)
 |s (i:Nat)
 |o (i:Nat)
structure Gh where
 tb:List Nat
 sb:List Nat
 ow:Nat->Option Rl
def pad(a:List Nat)(o:Option Nat):Option í:=o.map λi=>(J (a.getD i 0) 0)
def gF(a:List Nat)(v:Vl):List υ:=[.int χ v.g,.int à v.n,ι ⟨ξ v.t⟩,Γ<|pad a v.h]
def bT(a:List Nat)(v:Vl):υ:=.agg #[.int χ v.g,.int à v.n,ι ⟨ξ v.t⟩,Γ<|pad a v.h]
def mK(f:bZ->Option Vl)(a:List Nat):Lit->Option υ
 |.string x=>(f x).map<|bT a
 |_=>none
def oD(f:Int->Option Vl)(a:List Nat):Lit->Option υ
 |.int χ x=>(f x).map<|bT a
 |_=>none
def sE(B:Nat)(w:E)(g:Gh)(m i:Nat)(t:Th):Prop:=∃b d c e,g.tb[i]?=C b/\g.ow b=C (.t i)/\w.heap[b]?=C (γ #[d,Y c (Q t.l) e,.int χ t.nd,Γ<|pad g.sb t.sc] 209 (0,0))/\
 (if t.k=16 then∃q,d=.map (C q)/\g.ow q=C (.p i)/\gH 9 w q m (mK t.p g.tb) else d=.map none)/\
 ρ w B 180 4 (Y c (Q t.l) e) (Q t.l) (t.l.flatMap<|gF g.tb)/\∀a,c=C a->g.ow a.block=C (.l i)
def uS(w:E)(g:Gh)(m i:Nat)(s:Sc):Prop:=∃b q,g.sb[i]?=C b/\g.ow b=C (.s i)/\w.heap[b]?=C (γ #[.map<|C q,Γ<|pad g.sb s.up] 177 (0,0))/\g.ow q=C (.o i)/\gH 3 w q m (oD s.o g.tb)
def strs(l:List bZ):List υ:=l.map λx=>ι ⟨ξ x⟩
def jN(l:List<|Int×Int):List υ:=l.flatMap λp=>[U p.1,U p.2]
structure Rm(wB w:E)(mb pb gq:Nat)(G:Int->Option Int)(N:List Nd)(s:Ms)(g:Gh)(z:Nat):Prop where
 P:I No wB w
 j5:V wB.heap<=mb/\g.ow mb=none/\g.ow gq=none
 gs:cQ w gq 5000 G
 blk:∃lv ev,w.heap[mb]?=C (γ #[pV pb,.map<|C gq,U (s.fu:Int),U (s.c.ca:Int),U (s.c.th:Int),lv,ev] 66 (0,0))/\
  ρ w (V wB.heap) 9 1 lv (Q s.ln) (strs s.ln)/\ρ w (V wB.heap) 69 2 ev (Q s.ev) (jN s.ev)
 tl:Q g.tb=Q s.c.T
 sl:Q g.sb=Q s.c.S
 low:∀k r,g.ow k=C r->V wB.heap<=k/\k<V w.heap
 ty:∀k r,g.ow k=C r->∀cs e fz,w.heap[k]?=C (γ cs e fz)->e≠9/\e≠69
 ok:iE N s.c
 mem:∃m,m+Q s.ln+Q s.ev+4000*s.fu=z/\(∀i t,s.c.T[i]?=C t->sE (V wB.heap) w g m i t)/\∀i q,s.c.S[i]?=C q->uS w g m i q
theorem N8{a b}(h:a<+:b){o}(c:∀i,o=C i->i<Q a):pad b o=pad a o:=by
 obtain⟨r,rfl⟩:=h;cases o with
 |none=>rfl
 |some i=>
  grind[pad]
theorem wR{a b}(h:a<+:b){c}{v}(f:aZ c v)(d:Q a=Q c.T):bT b v=bT a v/\gF b v=gF a v:=by
 have:=N8 h (o:=v.h) (λi e=>by rw[d];exact f.lt i e);unfold bT gF;grind
theorem OX{a:Type}{f f':a->List υ}{l:List a}(h:∀v∈l,f' v=f v):l.flatMap f'=l.flatMap f:=by
 induction l<;>grind
theorem TJ{a b}(h:a<+:b){c}{f}(g:∀x v,f x=C v->aZ c v)(d:Q a=Q c.T):mK f b=mK f a:=by
 funext l;cases l<;>try rfl
 rename_i x;simp only[mK];cases e:f x<;>grind[wR]
theorem Yp{a b}(h:a<+:b){c}{f}(g:∀x v,f x=C v->aZ c v)(d:Q a=Q c.T):oD f b=oD f a:=by
 funext l;cases l<;>try rfl
 rename_i k x;cases k<;>try rfl
 simp only[oD];cases e:f x<;>grind[wR]
def sE.up{B}{w v}{g a}{m u i}{t}{N}{c}(h:sE B w g m i t)(f:jP N c t)(s:Q g.tb=Q c.T)(L:Q g.sb=Q c.S)(d:g.tb<+:a.tb)(D:g.sb<+:a.sb)(H:m<=u)
 (r:∀k,g.ow k=C (.t i)\/g.ow k=C (.p i)\/g.ow k=C (.l i)->v.heap[k]?=w.heap[k]?/\a.ow k=g.ow k):sE B v a u i t:=by
 obtain⟨b,pv,Z,lc,e1,l,A,n,o,e6⟩:=h;obtain⟨P,R⟩:=r b<|.inl l;refine⟨b,pv,Z,lc,?_,R.trans l,?_,?_,?_,λa4 ha=>?_⟩
 .obtain⟨a5,hr⟩:=d;grind
 .rw[P,A,N8 D λj e=>by rw[L];exact f.sc j e]
 .split
  .rename_i G;rw[yY G]at n;obtain⟨q,rfl,p,F⟩:=n;obtain⟨S,T⟩:=r q<|.inr<|.inl p;rw[TJ d f.p s];exact⟨q,K,T.trans p,(F.P S).more H⟩
  grind
 .rw[OX (f:=gF g.tb) (f':=gF a.tb) λa3 M=>(wR d (f.l a3 M) s).2];refine⟨o.1,o.2.imp id λ⟨x,y,z,a2,r2,r3,r4⟩=>⟨x,y,z,a2,r2,?_,r4⟩⟩;grind
 grind
def uS.up{w n}{g a}{m l i}{q}{c}(h:uS w g m i q)(y:∀x v,q.o x=C v->aZ c v)(G:∀j,q.up=C j->j<Q g.sb)(t:Q g.tb=Q c.T)(p:g.tb<+:a.tb)(s:g.sb<+:a.sb)(u:m<=l)
 (f:∀k,g.ow k=C (.s i)\/g.ow k=C (.o i)->n.heap[k]?=w.heap[k]?/\a.ow k=g.ow k):uS n a l i q:=by
 obtain⟨b,r,D,d,F,e,o⟩:=h;obtain⟨L,z⟩:=f b<|.inl d;obtain⟨A,B⟩:=f r<|.inr e;refine⟨b,r,?_,z.trans d,?_,B.trans e,?_⟩
 .obtain⟨x,H⟩:=s;grind
 .grind[N8]
 .rw[Yp p y t];exact(o.P A).more u
def DR(d:E)(c:Nat)(w:E)(g:Gh)(k:Nat):Prop:=k=c\/(∃r,g.ow k=C r/\∀j,r≠Rl.s j)\/(V d.heap<=k/\∃a e b,w.heap[k]?=C (γ a e b)/\(e=9\/e=69))
structure aJ(wB:E)(mb:Nat)(w:E)(g:Gh)(w':E)(g':Gh):Prop where
 P:I (DR wB mb w g) w w'
 ow:∀k r,k<V w.heap->g'.ow k=C r->g.ow k=C r
 tb:g.tb<+:g'.tb
 sb:g.sb<+:g'.sb
theorem aJ.y{wB}{mb}{w a}{g}(h:I No w a):aJ wB mb w g a g:=⟨h.mono λ_ _ x=>x.elim,λ_ _ _ e=>e,ö _,ö _⟩
theorem aJ.no{i}{d}{w f}{g a}(h:aJ i d w g f a){k}(b:k<V w.heap)(c:g.ow k=none):a.ow k=none:=by
 cases e:a.ow k with
 |none=>rfl
 |some r=>rw[h.ow k r b e]at c;omega
theorem aJ.trans{j}{f}{a b c}{g l m}(h:aJ j f a g b l)(k:aJ j f b l c m):aJ j f a g c m:=by
 refine⟨⟨k.P.os.trans h.P.os,k.P.tape.trans h.P.tape,k.P.output.trans h.P.output,kQ h.P.size k.P.size,λi d n=>?_⟩,λi r d e=>h.ow i r d<|k.ow i r (yQ d h.P.size) e,h.tb.trans k.tb,h.sb.trans k.sb⟩;have o:=h.P.block i d n;refine(k.P.block i (yQ d h.P.size) λx=>n ?_).trans o;obtain x|⟨r,x,x2⟩|⟨x,cs,e,fz,y,z⟩:=x
 .exact .inl x
 .exact .inr<|.inl ⟨r,h.ow i r d x,x2⟩
 .exact .inr<|.inr ⟨x,cs,e,fz,η,z⟩
def aJ.eu{m}{i}{w j}{g c}(h:aJ m i w g j c){k}{a}{e}{b}(d:w.heap[k]?=C (γ a e b))(l:g.ow k=none)(p:k≠i)(n:e≠9)(o:e≠69):j.heap[k]?=C (γ a e b)/\c.ow k=none:=by
 have f:=(aG d);refine⟨(h.P.block k f λx=>?_).trans d,h.no f l⟩;obtain x|⟨r,x,_⟩|⟨_,cs',e',fz',y,z⟩:=x<;>grind
section
variable{wB w a:E}{mb c b z:Nat}{G:Int->Option Int}{N:List Nd}{s:Ms}{g:Gh}
def Rm.gen{S}{f}{n}{F d}(h:Rm wB w mb c b G N s g z)(p:I S w a)(M:∀k,k<V w.heap->S k->V wB.heap<=k/\k≠b)
 (hb:∃R H,a.heap[mb]?=C (γ #[pV c,.map<|C b,U f.fu,U f.c.ca,U f.c.th,R,H] 66 (0,0))/\
  ρ a (V wB.heap) 9 1 R (Q f.ln) (strs f.ln)/\ρ a (V wB.heap) 69 2 H (Q f.ev) (jN f.ev))
 (o:g.tb<+:n.tb/\g.sb<+:n.sb/\∀k,k<V w.heap->n.ow k=g.ow k) (a8:Q n.tb=Q f.c.T) (a7:Q n.sb=Q f.c.S)
 (a3:∀k r,V w.heap<=k->n.ow k=C r->k<V a.heap/\∀y e A,a.heap[k]?=C (γ y e A)->e≠9/\e≠69)
 (aa:∀k r,g.ow k=C r->S k->∀y e A,a.heap[k]?=C (γ y e A)->e≠9/\e≠69)
 (a5:iE N f.c) (hz:d+Q f.ln+Q f.ev+4000*f.fu+z<=F+Q s.ln+Q s.ev+4000*s.fu)
 (hT:∀i t,f.c.T[i]?=C t->(s.c.T[i]?=C t/\∀k,g.ow k=C (.t i)\/g.ow k=C (.p i)\/g.ow k=C (.l i)->¬S k)\/∀m v,m+Q s.ln+Q s.ev+4000*s.fu=z->m+d<=v->(∀i t,s.c.T[i]?=C t->sE (V wB.heap) w g m i t)->sE (V wB.heap) a n v i t)
 (a2:∀i q,f.c.S[i]?=C q->(s.c.S[i]?=C q/\∀k,g.ow k=C (.s i)\/g.ow k=C (.o i)->¬S k)\/∀m v,m+Q s.ln+Q s.ev+4000*s.fu=z->m+d<=v->(∀i q,s.c.S[i]?=C q->uS w g m i q)->uS a n v i q):Rm wB a mb c b G N f n F:=by
 obtain⟨ab,a9,h1,_⟩:=h.blk;have a4:=(aG h1);obtain⟨m,P,Z,T⟩:=h.mem;have L:∀k r,n.ow k=C r->(k<V w.heap/\g.ow k=C r)\/V w.heap<=k:=λk r u=>η;refine⟨h.P.trans p λk j x=>?_,⟨h.j5.1,by rw[o.2.2 _ a4];exact h.j5.2.1,by rw[o.2.2 _ h.gs.lt];exact h.j5.2.2⟩,h.gs.P p λx=>(M b h.gs.lt x).2 K,hb,a8,a7,λk r u=>?_,λk r u=>?_,a5,F-(Q f.ln+Q f.ev+4000*f.fu),W,λi t ht=>?_,λi q hq=>?_⟩
 .have:=(M k (yQ j h.P.size) x).1;omega
 .obtain⟨l,e⟩|l:=L k r u
  .exact⟨(h.low k r e).1,yQ l p.size⟩
  .exact⟨kQ h.P.size l,(a3 k r l u).1⟩
 .obtain⟨l,e⟩|l:=L k r u
  .by_cases hx:S k
   .grind
   .rw[p.block k l hx];exact h.ty k r e
  grind
 .obtain⟨e,D⟩|B:=hT i t ht
  .refine(Z i t e).up (h.ok.T i t e) h.tl h.sl o.1 o.2.1 W λk j=>?_;have l:k<V w.heap:=by obtain j|j|j:=j<;>exact(h.low k _ j).2
   exact⟨p.block k l<|D k j,o.2.2 k l⟩
  .exact B m _ P W Z
 .obtain⟨e,D⟩|B:=a2 i q hq
  .refine(T i q e).up (h.ok.S i q e).1 (λa6 e1=>?_) h.tl o.1 o.2.1 W λk j=>?_
   .have:=(h.ok.S i q e).2 a6 e1;have h4:=(Î.1 e).1;rw[h.sl];omega
   .have l:k<V w.heap:=by obtain j|j:=j<;>exact(h.low k _ j).2
    exact⟨p.block k l<|D k j,o.2.2 k l⟩
  .exact B m _ P W T
theorem Rm.rows{S}(h:Rm wB w mb c b G N s g z)(i:I S w a)(u:∀k,k<V w.heap->S k->k≠mb/\∀p e t,w.heap[k]?=C (γ p e t)->e≠9/\e≠69):
 ∃f d,a.heap[mb]?=C (γ #[pV c,.map<|C b,U s.fu,U s.c.ca,U s.c.th,f,d] 66 (0,0))/\
  ρ a (V wB.heap) 9 1 f (Q s.ln) (strs s.ln)/\ρ a (V wB.heap) 69 2 d (Q s.ev) (jN s.ev):=by
 obtain⟨f,d,l,m,n⟩:=h.blk;have o:=(aG l);refine⟨f,d,(i.block mb o λx=>(u mb o x).1 K).trans l,A3 m i λq j x=>?_,A3 n i λq j x=>?_⟩
 .obtain⟨_,r,v⟩:=A9 m q j;grind
 .obtain⟨_,r,v⟩:=A9 n q j;grind
def Rm.calm{S}(h:Rm wB w mb c b G N s g z)(n:I S w a)(m:∀k,k<V w.heap->S k->V wB.heap<=k/\k≠mb/\g.ow k=none/\∃j e l,w.heap[k]?=C (γ j e l)/\e≠9/\e≠69):Rm wB a mb c b G N s g z:=by
 have u:∀k r,g.ow k=C r->¬S k:=λk r f x=>by
  have:=(m k (h.low k r f).2 x).2.2.1;grind
 refine h.gen (d:=0) n (λk d x=>?_) (h.rows n λk d x=>?_) ⟨ö _,ö _,λ_ _=>K⟩ h.tl h.sl (λk r d f=>?_) (λk r f x=>(u k r f x).elim) h.ok W (λi t A=>.inl ⟨A,λk d=>?_⟩) λi q v=>.inl ⟨v,λk d=>?_⟩
 .obtain⟨p,_,_,j,e,l,y,_⟩:=m k d x;exact⟨p,λo=>h.gs.et<|o ▸ y⟩
 .grind
 .have:=(h.low k r f).2;omega
 .grind
 grind
theorem Rm.y(h:Rm wB w mb c b G N s g z)(d:I No w a):Rm wB a mb c b G N s g z:=h.calm d λ_ _ x=>x.elim
def Rm.more{d}(h:Rm wB w mb c b G N s g z)(l:z<=d):Rm wB w mb c b G N s g d:=
 h.gen (S:=λ_=>False) (d:=0) (ì _ _) å h.blk ⟨ö _,ö _,λ_ _=>K⟩ h.tl h.sl (λk r j f=>by have:=(h.low k r f).2;omega) (λ_ _ _ x=>x.elim) h.ok W (λ_ _ i=>.inl ⟨i,λ_ _ x=>x⟩) λ_ _ e=>.inl ⟨e,λ_ _ x=>x⟩
def Rm.new(h:Rm wB w mb c b G N s g z){k}(d:V w.heap<=k):g.ow k=none:=by
 cases e:g.ow k with
 |none=>rfl
 |some r=>have:=(h.low k r e).2;omega
def aJ.r6{f}(i:aJ wB mb w g a f)(h:Rm wB w mb c b G N s g z){k j}(d:g.ow k=C (.s j)):a.heap[k]?=w.heap[k]?:=
 i.P.block k (h.low k _ d).2 λx=>by
  obtain x|⟨r,x,x2⟩|⟨_,cs,e,fz,y,y2⟩:=x
  .have:=h.j5.2.1;grind
  .grind
  .have:=h.ty k _ d cs e fz y;grind
end
def ov(e i:Int)(a:List PanicEntry):ò:=Â<|{v:=.iface 61<|.agg #[U e,U i],recovered:=κ}::a.map λp=>{p with goexit:=κ}
def JM{w a}{q o}{v}(h:I No w a)(c:V w.heap<=q):I No w (σ a (J q o) v):=
 h.trans (é a (J q o) v) λi b x=>η
def yG(e i)(w:E):μ ε 113 #[U e,U i] w λx a=>x=ov e i []/\a=w:=by
 go_in;go_wp2;exact⟨K,K,K⟩
def IL(n)(w:E):μ ε 229 #[.int à n] w λx a=>x=π (.agg #[U 1,.int à n,ι ⟨#[]⟩,Γ none])/\I No w a:=by
 go_in;go_wp2;refine ç (by simp[ã,results229,go_sem]) K ⟨K,ν _ _ _⟩
def TP(t)(w:E):μ ε 230 #[ι t] w λx a=>x=π (.agg #[U 4,.int à 0,ι t,Γ none])/\I No w a:=by
 go_in;go_wp2;refine ç (by simp[ã,results230,go_sem]) K ⟨K,ν _ _ _⟩
def yE(w:E):μ ε 185 #[] w λx a=>x=π (.agg #[U 8,.int à 0,ι ⟨#[]⟩,Γ none])/\I No w a:=by
 go_in;go_wp2;refine ç (by simp[ã,results185,go_sem]) K ⟨K,ν _ _ _⟩
def CM(b)(w:E):μ ε 186 #[.bool b] w λx a=>x=π (.agg #[U 2,.int à<|if b then 1 else 0,ι ⟨#[]⟩,Γ none])/\I No w a:=by
 cases b;all_goals
  go_in;go_wp2;refine ç (by simp[ã,results186,go_sem]) K ⟨K,ν _ _ _⟩
def wH(i a c)(t)(p)(g)(w:E):μ ε 178 #[U i,.agg #[U a,.int à c,ι t,p],U g] w λx d=>I No w d/\x=if a=g then rT else ov 3 i []:=by
 by_cases h:a=g
 .subst h;rw[yY K];go_in;go_wp2;go_end0;grind[ν]
 .have f:(a !=g)=τ:=by simpa using h
  rw[wY h];have b:=O<|yG 3 i;go_in;go_wp2_with fail;refine(b.u _).mono ?_;rintro e j ⟨rfl,rfl⟩;exact⟨K,ν _ _ _,K⟩
def Ji(a b)(t)(p)(w:E):μ ε 184 #[.agg #[U a,.int à b,ι t,p]] w λx c=>x=π (ι ⟨ξ (pA a)⟩)/\I No w c:=by
 unfold pA;go_in;go_wp2;all_goals go_ret
 all_goals simp_all
 all_goals exact ν _ _ _
def Gk(b)(h)(n c)(x)(w:E)(k:δ w (J b 1)=C (Y h n c)):
 μ ε 180 #[pV b,U x] w λe i=>e=π (.bool<|ê<|0<=x/\x<n)/\i=w:=by
 by_cases d:0<=x
 .by_cases g:x<n
  .have f:ê (0<=x)=τ:=by simpa using d
   have j:ê (x<n)=τ:=by simpa using g
   have a:ê (0<=x/\x<n)=τ:=by simpa using And.intro d g
   rw[a];go_in;go_wp2;go_ret;exact⟨K,K⟩
  .have f:ê (0<=x)=τ:=by simpa using d
   have a:ê (0<=x/\x<n)=κ:=â;rw[a];go_in;go_wp2;go_ret;exact⟨K,K⟩
 .have f:ê (0<=x)=κ:=by simpa using d
  have a:ê (0<=x/\x<n)=κ:=â;rw[a];go_in;go_wp2;go_ret;exact⟨K,K⟩
def Tryz.og:(prog.fieldsOf 180).toList.map (fun f=>(f.name== "_",f.type,f.offset))=[(κ,3,0),(κ,21,1),(κ,9,2),(κ,178,3)]:=î
def C8f(g n f h)(t i)(p o)(r)(w:E)(N:(Op.equalIn 9999 178 (Γ p)<|Γ o).run ε w=.ok r w):
 (Op.equalIn 10000 180 (.agg #[U g,.int à n,ι t,Γ p])<|.agg #[U f,.int à h,ι i,Γ o]).run ε w=.ok (g==f&&n==h&&t.toList==i.toList&&r) w:=by
 rw[run_equalIn_agg w 9999 180 _ _ î θ];have a:=Tryz.og;generalize (prog.fieldsOf 180).toList=L at a;obtain⟨f0,Z,rfl,j,a⟩:=List.map_eq_cons_iff.1 a;obtain⟨a4,L2,rfl,k,a⟩:=List.map_eq_cons_iff.1 a;obtain⟨a5,L3,rfl,l,a⟩:=List.map_eq_cons_iff.1 a;obtain⟨a6,L4,rfl,m,a⟩:=List.map_eq_cons_iff.1 a;obtain rfl:=List.map_eq_nil_iff.1 a;simp at j k l m;obtain⟨a1,q,s⟩:=j;obtain⟨u,v,x⟩:=k;obtain⟨y,z,A⟩:=l;obtain⟨B,D,F⟩:=m;have G:=run_equalIn_int w 9998 3 χ χ g f underlying3;have H:=run_equalIn_int w 9998 21 à à n h underlying21;have M:=run_equalIn_string w 9998 9 t i underlying9;simp only[Op.eqFields,a1,q,s,u,v,x,y,z,A,B,D,F,ne_eq,not_false_eq_true,if_true];have P:∀(b c d e:υ),(Go.part 3 #[b,c,d,e] 0).run ε w=.ok b w:=λ_ _ _ _=>î;have R:∀(b c d e:υ),(Go.part 21 #[b,c,d,e] 1).run ε w=.ok c w:=λ_ _ _ _=>î;have S:∀(b c d e:υ),(Go.part 9 #[b,c,d,e] 2).run ε w=.ok d w:=λ_ _ _ _=>î;have T:∀(b c d e:υ),(Go.part 178 #[b,c,d,e] 3).run ε w=.ok e w:=λ_ _ _ _=>î;simp only[Sem.run_bind,P,R,S,T,Result.andThen_ok,G,H,M,N,Sem.run_ite];cases g==f<;>cases n==h<;>cases t.toList==i.toList<;>cases r<;>rfl
theorem WT(l:bZ):(⟨ξ l⟩:ByteArray).toList=l:=θ
def Dz(a)(o)(w:E):(Op.equalIn 9999 178 (Γ<|pad a o)<|Γ none).run ε w=.ok (o==none) w:=by
 have:=run_equalIn_pointer_nil (P:=ε) w 9998 178 (pad a o) î;cases o<;>exact this
def Ga(a)(v)(k n)(w:E):(binOp .neq 180 (bT a v)<|.agg #[U k,.int à n,ι ⟨#[]⟩,Γ none]).run ε w=.ok (.bool<|!v.beq ⟨k,n,[],none⟩) w:=by
 have h:=C8f v.g v.n k n ⟨ξ v.t⟩ ⟨#[]⟩ _ none _ w<|Dz a v.h w;have e:=WT [];rw[WT,e]at h;unfold bT;rw[run_neq_struct,h];rfl
def TW(f)(v)(w:E):μ ε 120 #[bT f v] w λx m=>x=π (.bool v.j8)/\I No w m:=by
 have i:=O yE;have k:=O<|CM κ;have t:=Ga f v 8 0;have u:=Ga f v 2 0;have e:v.j8=(!v.beq ⟨8,0,[],none⟩&&!v.beq ⟨2,0,[],none⟩):=K;rw[e];generalize v.beq ⟨8,0,[],none⟩=l at*;generalize v.beq ⟨2,0,[],none⟩=j at*;unfold bT at*;generalize pad f v.h=p at*;have g:Hid (∀a,I No (ω w<|γ #[U v.g,.int à v.n,ι ⟨ξ v.t⟩,Γ p] 180) a->δ a (J (V w.heap) 0)=C (U v.g)/\δ a (J (V w.heap) 1)=C (.int à v.n)/\δ a (J (V w.heap) 2)=C (ι ⟨ξ v.t⟩)/\δ a (J (V w.heap) 3)=C (Γ p)):=λa c=>
  ⟨A4 c<|FU K,A4 c<|FU K,A4 c<|FU K,A4 c<|FU K⟩;have h:=O<|ν No w<|γ #[U v.g,.int à v.n,ι ⟨ξ v.t⟩,Γ p] 180;cases l
 .go_in;go_wp2;go_region_with (first|(go_at_call 185;refine(i.u _).mono ?_;rintro e n ⟨rfl,b⟩;replace b:=O<|B6 (Ψ No _ 1) b;obtain⟨o,q,r,s⟩:=g.u _ b.u)|(go_at_call 186;refine(k.u _).mono ?_;rintro e y ⟨rfl,d⟩;replace d:=O<|B6 b.u d;obtain⟨z,A,B,D⟩:=g.u _ d.u));all_goals go_wp2
  all_goals go_ret
  all_goals exact⟨by cases j<;>rfl,B6 h.u d.u⟩
 .go_in;go_wp2;go_region_with (go_at_call 185;refine(i.u _).mono ?_;rintro e n ⟨rfl,b⟩;replace b:=O<|B6 (Ψ No _ 1) b;obtain⟨o,q,r,s⟩:=g.u _ b.u);all_goals go_wp2
  all_goals go_ret
  all_goals exact⟨by cases j<;>rfl,B6 h.u b.u⟩
def uT(d:List Nat)(s:Ms)(w:E)(r:Rr Vl)(e:ò)(f:E):Prop:=I No w f/\match r with
 |.ok v c=>c=s/\aZ s.c v/\e=π (bT d v)
 |.over a b c=>c=s/\e=ov a b []
 |_=>False
theorem J0{b d}{m:X b}{k:b->X d}{s c}{a}(h:m s=.ok a c):(m.bd k) s=k a c:=by
 grind[X.bd]
theorem I5{b c}{m:X b}{k:b->X c}{s a}{e i}(h:m s=.over e i a):(m.bd k) s=.over e i a:=by
 grind[X.bd]
def P8{a b}{m:X a}{k:a->X b}{s}(h:(m.bd k) s≠.stk):m s≠.stk:=λe=>h (by grind[X.bd])
theorem nY{i g}{v}{s}(h:v.g=g):eO i v g s=.ok () s:=by
 simp_all[eO,bR,yY]
theorem qY{i g}{v}{s}(h:v.g≠g):eO i v g s=.over 3 i s:=by
 simp_all[eO,bR,wY]
def eU{w w'}{q}{a b c d}(h:w.heap[q]?=C (γ #[a,b,c,d] 180 (0,0)))(f:I No w w'):
 δ w' (J q 0)=C a/\δ w' (J q 1)=C b/\δ w' (J q 2)=C c/\δ w' (J q 3)=C d/\(∀o,w'.frozen? (J q o)=κ)/\q<V w'.heap:=by
 have e:=(f.block q (aG h) id).trans h;exact⟨cr e K,cr e K,cr e K,cr e K,λo=>æ _ _ o _ _ e,(aG e)⟩
theorem iT(w)(x y):((w.alloc x).alloc y).heap[V w.heap]?=C x/\((w.alloc x).alloc y).heap[V w.heap+1]?=C y/\I No w ((w.alloc x).alloc y):=by
 have h:=rY (w.alloc x) y;rw[Ô]at h;exact⟨by grind[Below.heap_alloc,rY],h,B6 (ν _ _ _)<|ν _ _ _⟩
def EZ(w)(x y z):(((w.alloc x).alloc y).alloc z).heap[V w.heap]?=C x/\(((w.alloc x).alloc y).alloc z).heap[V w.heap+1]?=C y/\(((w.alloc x).alloc y).alloc z).heap[V w.heap+1+1]?=C z/\I No w (((w.alloc x).alloc y).alloc z):=by
 grind[iT,rY,Ô,Below.heap_alloc,B6,ν]
def mJ{w a}{q}{c d e f}(h:I No w a)(b:V w.heap<=q):I No w (σ (σ (σ (σ a (J q 0) c) (J q 1) d) (J q 2) e) (J q 3) f):=
 JM (JM (JM (JM h b) b) b) b
def C3f(n):-2147483648<=wr n/\wr n<=2147483647:=by
 grind[wr]
def IF(c)(n):aZ c (vN<|wr n):=⟨by simp[vN],C3f n,by simp[vN],by simp[vN]⟩
def TL(c){t}(h:Q t<=4000):aZ c (vT t):=⟨h,by simp[vT],by simp[vT],by simp[vT]⟩
def BP(c)(b):aZ c (vB b):=by grind[aZ,vB]
theorem BQ(c):aZ c vO:=by grind[aZ,vO]
def Mj(g):Q (pA g)<=8:=by
 unfold pA;repeat' split
 all_goals simp
def B6f(q)(s)(i)(g)(v)(w:E):μ ε 238 #[U i,ι ⟨ξ g⟩,bT q v] w (uT q s w<|kP i g v s):=by
 have L:=O IL;have P:=O TP;have M:=O CM;have x:=O wH;have N:=O Ji;have H:=O<|TW q v;obtain⟨A,B,y⟩:=iT w (γ #[U v.g,.int à v.n,ι ⟨ξ v.t⟩,Γ<|pad q v.h] 180)<|γ #[U 0,.int à 0,ι ⟨#[]⟩,Γ none] 180;have m:=O y;have G:=O λt=>eU (w':=t) A;have r:=O λt=>eU (w':=t) B;clear y;clear A B;unfold bT at*;by_cases n:g=[33]
 .subst n;have d:kP i [33] v s=.ok (vB<|!v.j8) s:=K;rw[d];generalize v.j8=c at*;cases c;all_goals
   go_in;go_wp2_with fail;refine(H.u _).mono ?_;rintro e u ⟨rfl,a⟩;go_wp2_with fail;refine(M.u _ _).mono ?_;rintro e F ⟨rfl,f⟩;have b:=O<|B6 a f;obtain⟨h,j,k,l,z,D⟩:=r.u _ b.u;clear a f;go_wp2;exact ç (by simp[ã,results238,go_sem,h,j,k,l];rfl) K ⟨mJ (B6 m.u b.u) W,K,BP _ _,K⟩
 by_cases o:g=[116,121,112,101,111,102]
 .subst o;have d:kP i [116,121,112,101,111,102] v s=.ok (vT<|pA v.g) s:=K;rw[d];have Z:=Mj v.g;go_in;go_wp2_with fail;refine(N.u _ _ _ _ _).mono ?_;rintro e u ⟨rfl,a⟩;generalize pA v.g=a4 at*;go_wp2_with fail;refine(P.u _ _).mono ?_;rintro e F ⟨rfl,f⟩;have b:=O<|B6 a f;obtain⟨h,j,k,l,z,D⟩:=r.u _ b.u;clear a f;go_wp2;exact ç (by simp[ã,results238,go_sem,h,j,k,l];rfl) K ⟨mJ (B6 m.u b.u) W,K,TL _ W,K⟩
 have S:(g==[33])=κ:=by simpa using n
 have T:(g==[116,121,112,101,111,102])=κ:=by simpa using o
 by_cases p:v.g=1
 .have d:kP i g v s=.ok (vN<|wr<|-v.n) s:=by
   unfold kP;rw[wY n,wY o];exact(J0<|nY p).trans K
  rw[d];clear d;generalize v.g=vg at*;subst p;generalize v.n=a3 at*;go_in;go_wp2_with fail;refine(x.u _ _ _ _ _ _ _).mono ?_;rintro e u ⟨a,rfl⟩;simp only[if_true];have R:=O a;obtain⟨x0,x1,x2,x3,-,a2⟩:=G.u _ a;clear a;go_wp2_with fail;refine(L.u _ _).mono ?_;rintro e F ⟨rfl,f⟩;have b:=O<|B6 R.u f;obtain⟨h,j,k,l,z,D⟩:=r.u _ b.u;clear f;go_wp2;exact ç (by simp[ã,results238,go_sem,h,j,k,l,wrap32];rfl) K ⟨mJ (B6 m.u b.u) W,K,IF _ _,K⟩
 .have d:kP i g v s=.over 3 i s:=by
   unfold kP;rw[wY n,wY o];exact I5<|qY p
  rw[d];go_in;go_wp2_with fail;refine(x.u _ _ _ _ _ _ _).mono ?_;rintro e u ⟨a,rfl⟩;rw[wY p];exact⟨K,B6 m.u a,K,K⟩
def KM(i f q d p)(u s)(t r)(w:E):μ ε 276 #[U i,.agg #[U f,.int à q,ι u,t],.agg #[U d,.int à p,ι s,r]] w λe c=>I No w c/\e=if f=1/\d=1 then π (.tuple #[.int à q,.int à p]) else ov 3 i []:=by
 have b:=O wH;obtain⟨z,A,y⟩:=iT w (γ #[U f,.int à q,ι u,t] 180)<|γ #[U d,.int à p,ι s,r] 180;have g:=O y;have x:=O λc=>eU (w':=c) z;have j:=O λc=>eU (w':=c) A;by_cases m:f=1
 .subst m;by_cases n:d=1
  .subst n;rw[yY ⟨K,K⟩];go_in;go_wp2_with fail;refine(b.u _ _ _ _ _ _ _).mono ?_;rintro e v ⟨a,rfl⟩;simp;have k:=O a;obtain⟨F,G,H,L,-,B⟩:=j.u _ a;go_wp2_with fail;refine(b.u _ _ _ _ _ _ _).mono ?_;rintro e D ⟨o,rfl⟩;simp;have l:=O<|B6 k.u o;obtain⟨P,R,S,T,-,M⟩:=x.u _ l.u;obtain⟨Z,z1,z2,z3,-,N⟩:=j.u _ l.u;go_wp2;go_quiet (fail);go_wp2;go_ret2;exact⟨B6 g.u<|B6 l.u<|Ψ _ _ _,K⟩
  .rw[wY λh=>n h.2];go_in;go_wp2_with fail;refine(b.u _ _ _ _ _ _ _).mono ?_;rintro e v ⟨a,rfl⟩;simp;have k:=O a;obtain⟨F,G,H,L,-,B⟩:=j.u _ a;go_wp2_with fail;refine(b.u _ _ _ _ _ _ _).mono ?_;rintro e D ⟨o,rfl⟩;rw[wY n];exact⟨K,B6 g.u<|B6 k.u o,K⟩
 .rw[wY λh=>m h.1];go_in;go_wp2_with fail;refine(b.u _ _ _ _ _ _ _).mono ?_;rintro e v ⟨a,rfl⟩;rw[wY m];exact⟨K,B6 g.u a,K⟩
def Pv(t:bZ):(⟨ξ t⟩:ByteArray).extract 0 (min (Q t:Int) 200).toNat=⟨ξ (t.take 200)⟩:=by
 have e:(min (Q t:Int) 200).toNat=min (Q t) 200:=W;rw[e];apply ByteArray.ext;simp;omega
def Yy(t:bZ)(w:E):μ ε 275 #[ι ⟨ξ t⟩] w λe a=>e=π (.agg #[U 4,.int à 0,ι ⟨ξ (t.take 200)⟩,Γ none])/\I No w a:=by
 have d:=O TP;have g:=rY w<|γ #[U 0,.int à 0,ι ⟨#[]⟩,Γ none] 180;have c:=O λa=>eU (w':=a) g;have h:=Pv t;generalize t.take 200=u at*;go_in;go_wp2_with fail;try rw[h]
 refine(d.u _ _).mono ?_;rintro e o ⟨rfl,b⟩;have f:=O b;obtain⟨i,j,k,l,m,n⟩:=c.u _ b;go_wp2;exact ç (by simp[ã,results275,go_sem,i,j,k,l]) K ⟨K,mJ (B6 (ν _ _ _) f.u) W⟩
def Ÿ{d}{t e}(a:prog.underlying t=C (.pointer e)){w:E}(b):(Op.equalIn (d+1) t (Γ none)<|Γ<|C b).run ε w=.ok κ w:=by
 simp[Op.equalIn,run_underlying a]
theorem Ee{d}{t e}(f:prog.underlying t=C (.pointer e)){w:E}{n}(c:(sizeOf e).run ε w=.ok (n+1) w){a b}{r}(h:(sameAddr a b).run ε w=.ok r w):(Op.equalIn (d+1) t (Γ<|C a)<|Γ<|C b).run ε w=.ok r w:=by
 simp[Op.equalIn,run_underlying f,c,h]
def LG{P w}{L M v z}{G}{N}{s}{g}(h:Rm P w L M v G N s g z){a b}(x:∀i,a=C i->i<Q s.c.T)(y:∀i,b=C i->i<Q s.c.T){c}(A:I No w c):
 (Op.equalIn 9999 178 (Γ<|pad g.tb a)<|Γ<|pad g.tb b).run ε c=.ok (a==b) c:=by
 obtain⟨a4,_,k,_⟩:=(h.y A).mem;have l:prog.underlying 178=C (.pointer 209):=î;cases b with
 |none=>exact Dz g.tb a c
 |some j=>
  obtain⟨t,F⟩:∃t,s.c.T[j]?=C t:=⟨_,gQ<|y j K⟩;obtain⟨f,pv,Z,lc,m,R,n,_⟩:=k j t F;have p:pad g.tb (C j)=C (J f 0):=by simp[pad,lQ,m]
  rw[p];cases a with
  |none=>exact Ÿ l _
  |some i=>
   obtain⟨u,H⟩:∃t,s.c.T[i]?=C t:=⟨_,gQ<|x i K⟩;obtain⟨d,a5,a2,a3,q,S,r,_⟩:=k i u H;have o:pad g.tb (C i)=C (J d 0):=by simp[pad,lQ,q]
   have D:(sizeOf 209).run ε c=.ok 4 c:=î;rw[o];by_cases T:i=j
   .grind[Ee,run_sameAddr_same]
   .have B:((J d 0):í)≠(J f 0):=λe=>η;rw[Ee l D<|run_sameAddr_other c B r n];simp_all
section
variable{d w:E}{b c a z:Nat}{G:Int->Option Int}{N:List Nd}{s:Ms}{g:Gh}
def Zb(h:Rm d w b c a G N s g z)(a5){p t}(ha:aZ s.c p)(hb:aZ s.c t):μ ε 237 #[U a5,ι ⟨ξ ([61,61])⟩,bT g.tb p,bT g.tb t] w (uT g.tb s w<|.ok (vB<|p.beq t) s):=by
 have P:=O CM;have M:=O λy (hc:I No w y)=>LG h ha.lt hb.lt hc;obtain⟨f,j,m,R⟩:=p;obtain⟨i,k,n,S⟩:=t;obtain⟨r,x⟩:∃r,r=(R==S):=⟨_,K⟩;have HR:=O x;simp only[bT,Vl.beq]at*;rw[<-x]at M⊢;clear x;generalize pad g.tb R=pa at*;generalize pad g.tb S=a6 at*;obtain⟨-,-,a2,T⟩:=EZ w (γ #[U f,.int à j,ι ⟨ξ m⟩,Γ pa] 180) (γ #[U i,.int à k,ι ⟨ξ n⟩,Γ a6] 180)<|γ #[U 0,.int à 0,ι ⟨#[]⟩,Γ none] 180;have H:=O T;have L:=O λy=>eU (w':=y) a2;have E:=M.u _ T;have a3:f≠i\/(f=i/\j≠k)\/(f=i/\j=k/\m≠n)\/(f=i/\j=k/\m=n):=by
  by_cases u:f=i<;>by_cases h2:j=k<;>by_cases h3:m=n<;>simp[*]
 obtain⟨q,o⟩:∃q,q=(f==i&&j==k&&m==n&&r):=⟨_,K⟩;rw[<-o];obtain u|⟨rfl,u⟩|⟨rfl,rfl,u⟩|⟨rfl,rfl,rfl⟩:=a3;rotate_left 3
 .simp at o;subst o;cases q;all_goals
   go_in;go_wp2_with fail;refine(P.u _ _).mono ?_;rintro e a7 ⟨rfl,v⟩;have l:=O v;obtain⟨A,B,D,F,Z,lt⟩:=L.u _ l.u;go_wp2;exact ç (by simp[ã,results237,go_sem,A,B,D,F];rfl) K ⟨mJ (B6 H.u l.u) W,K,BP _ _,K⟩
 all_goals
  have a4:q=κ:=by simp[o,u]
  subst a4;clear o E;go_in;go_wp2_with fail;refine(P.u _ _).mono ?_;rintro e a7 ⟨rfl,v⟩;have l:=O v;obtain⟨A,B,D,F,Z,lt⟩:=L.u _ l.u;clear v;go_wp2;exact ç (by simp[ã,results237,go_sem,A,B,D,F];rfl) K ⟨mJ (B6 H.u l.u) W,K,BP _ _,K⟩
def B3f(a3:Rm d w b c a G N s g z)(i)(h){f j}(Z:aZ s.c f)(hb:aZ s.c j):μ ε 237 #[U i,ι ⟨ξ h⟩,bT g.tb f,bT g.tb j] w (uT g.tb s w<|mD i h f j s):=by
 by_cases T:h=[61,61]
 .subst T;exact Zb a3 i Z hb
 have HN:=O IL;have HT:=O CM;have HD:=O wH;have D:=O KM;obtain⟨a4,a5,a6,ca⟩:=EZ w (γ #[U f.g,.int à f.n,ι ⟨ξ f.t⟩,Γ<|pad g.tb f.h] 180) (γ #[U j.g,.int à j.n,ι ⟨ξ j.t⟩,Γ<|pad g.tb j.h] 180)<|γ #[U 0,.int à 0,ι ⟨#[]⟩,Γ none] 180;have p:=O ca;have a8:=O λu=>eU (w':=u) a4;have a9:=O λu=>eU (w':=u) a5;have H:=O λu=>eU (w':=u) a6;have ae:=Z.1;have af:=hb.1;clear a4 a5 a6 a3 Z hb ca;unfold bT at*;have e1:(h==[61,61])=κ:=by simpa using T
 obtain⟨R,k⟩:∃R,R=mD i h f j s:=⟨_,K⟩;rw[<-k];unfold mD at k;rw[wY T]at k;by_cases m:h=[43]/\f.g=4
 .rw[yY m]at k;obtain⟨rfl,m⟩:=m;by_cases t:j.g=4
  .rw[J0<|nY t]at k;have hl:Q ((f.t++j.t).take 200)<=4000:=â;generalize hu:(f.t++j.t).take 200=ac at*;replace k:R=.ok (vT ac) s:=k;subst k;have a2:Hid (∀w:E,_):=λw=>Yy (f.t++j.t) w;rw[hu]at a2;have ad:(⟨ξ f.t⟩:ByteArray)++⟨ξ j.t⟩=⟨ξ (f.t++j.t)⟩:=by apply ByteArray.ext;simp
   generalize f.g=L at*;generalize j.g=bg at*;subst m t;go_in;go_wp2_with fail;refine(HD.u _ _ _ _ _ _ _).mono ?_;rintro e v ⟨l,rfl⟩;simp only[if_true];have K1:=O l;obtain⟨x0,x1,x2,x3,-,ai⟩:=a8.u _ l;obtain⟨u0,u1,u2,u3,-,aj⟩:=a9.u _ l;clear l;go_wp2_with fail;refine(a2.u _).mono ?_;rintro e a7 ⟨rfl,o⟩;have n:=O<|B6 K1.u o;obtain⟨x,y,A,B,fz,lt⟩:=H.u _ n.u;clear o x0 x1 x2 x3 u0 u1 u2 u3;go_wp2;exact ç (by simp[ã,results237,go_sem,x,y,A,B];rfl) K ⟨mJ (B6 p.u n.u) W,K,TL _ hl,K⟩
  .rw[I5<|qY t]at k;subst k;generalize f.g=L at*;subst m;go_in;go_wp2_with fail;refine(HD.u _ _ _ _ _ _ _).mono ?_;rintro e v ⟨l,rfl⟩;rw[wY t];exact⟨K,B6 p.u l,K,K⟩
 rw[wY m]at k;have F:h=[43]->¬f.g=4:=λe1 e2=>m ⟨e1,e2⟩;by_cases q:f.g=1/\j.g=1
 .rw[J0<|nY q.1,J0<|nY q.2]at k;have ab:h=[43]\/h=[45]\/h=[42]\/(h≠[43]/\h≠[45]/\h≠[42]):=by
   by_cases M:h=[43]<;>by_cases P:h=[45]<;>by_cases S:h=[42]<;>simp[*]
  obtain rfl|rfl|rfl|⟨M,P,S⟩:=ab;rotate_left 3
  .rw[wY M,wY P,wY S]at k;have d1:(h==[43])=κ:=by simpa using M
   have d2:(h==[45])=κ:=by simpa using P
   have d3:(h==[42])=κ:=by simpa using S
   obtain⟨r,hr⟩:∃r,r=ê (f.n<j.n):=⟨_,K⟩;rw[<-hr]at k;replace k:R=.ok (vB r) s:=k;subst k;have hd:=hr.symm;clear hr m F;generalize f.g=L at*;generalize j.g=bg at*;obtain⟨rfl,rfl⟩:=q;cases r;all_goals
    go_in;go_wp2_with fail;refine(D.u _ _ _ _ _ _ _ _ _ _).mono ?_;rintro e v ⟨l,rfl⟩;simp only[and_self,if_true];go_wp2_with fail;refine(HT.u _ _).mono ?_;rintro e a7 ⟨rfl,o⟩;have n:=O<|B6 l o;obtain⟨x,y,A,B,fz,lt⟩:=H.u _ n.u;clear l o;go_wp2;exact ç (by simp[ã,results237,go_sem,x,y,A,B];rfl) K ⟨mJ (B6 p.u n.u) W,K,BP _ _,K⟩
  all_goals
   subst k;clear m F;generalize f.g=L at*;generalize j.g=bg at*;obtain⟨rfl,rfl⟩:=q;go_in;go_wp2_with fail;refine(D.u _ _ _ _ _ _ _ _ _ _).mono ?_;rintro e v ⟨l,rfl⟩;simp only[and_self,if_true];go_wp2_with fail;refine(HN.u _ _).mono ?_;rintro e a7 ⟨rfl,o⟩;have n:=O<|B6 l o;obtain⟨x,y,A,B,fz,lt⟩:=H.u _ n.u;clear l o;go_wp2;exact ç (by simp[ã,results237,go_sem,x,y,A,B,wrap32];rfl) K ⟨mJ (B6 p.u n.u) W,K,IF _ _,K⟩
 .have aa:R=.over 3 i s:=by
   by_cases t:f.g=1
   .grind[J0,nY,I5,qY]
   .grind[I5,qY]
  subst aa;clear k;have ah:(h==[43]&&f.g==4)=κ:=by simpa using F
  by_cases h4:h=[43]
  .subst h4;have h5:=F K;go_in;go_wp2_with fail;refine(D.u _ _ _ _ _ _ _ _ _ _).mono ?_;rintro e v ⟨l,rfl⟩;rw[wY q];exact⟨K,B6 p.u l,K,K⟩
  .have d1:(h==[43])=κ:=by simpa using h4
   go_in;go_wp2_with fail;refine(D.u _ _ _ _ _ _ _ _ _ _).mono ?_;rintro e v ⟨l,rfl⟩;rw[wY q];exact⟨K,B6 p.u l,K,K⟩
end
def Tbl (w:E):Prop:=Lib.TabIs ε w "internal/strconv.uint64pow10" .u64 Lib.pow10Tab/\∃g,prog.globalNamed "internal/strconv.uint64pow10"=C g/\g<V w.heap
theorem Tbl.P{w w'}(h:Tbl w)(a:I No w w'):Tbl w':=by
 obtain⟨e,g,c,b⟩:=h;have d:=a.block g b id;refine⟨?_,g,c,yQ b a.size⟩;grind[Lib.TabIs,World.var?]
def zr(w)(a):I No w (Go.Sort.grow w a):=⟨K,K,K,θ,λk b _=>by grind[Go.Sort.grow]⟩
def Ny(h)(v)(u:-2147483648<=v.n/\v.n<=2147483647)(w)(j:Tbl w):μ ε 118 #[bT h v] w λe a=>e=π (ι ⟨ξ v.ma⟩)/\I No w a:=by
 have o:Hid (∀a:E,I No w a->μ ε 182 #[U v.n] a λe l=>e=π (ι ⟨ξ (Lib.itoa v.n)⟩)/\I No a l):=λa s=>by
  refine(Tryz.strconv_Itoa v.n W W a (j.P s).1).mono ?_;rintro e l ⟨rfl,q,t,rfl⟩;exact⟨K,B6 (Ψ No _ q)<|zr _ t⟩
 have n:=O Tryz.strconv_FormatBool;have p:=O Ji;have r:=rY w<|γ #[U v.g,.int à v.n,ι ⟨ξ v.t⟩,Γ<|pad h v.h] 180;have b:=O<|ν No w<|γ #[U v.g,.int à v.n,ι ⟨ξ v.t⟩,Γ<|pad h v.h] 180;clear r j;have i:v.ma=if v.g=1 then Lib.itoa v.n else if v.g=2 then Lib.formatBool (v.n==1) else if v.g=4 then v.t else pA v.g:=K;rw[i];clear i;unfold bT;by_cases c:v.g=1
 .rw[yY c];generalize v.g=k at*;subst c;generalize Lib.itoa v.n=x at*;go_in;go_wp2_with fail;refine(o.u _ b.u).mono ?_;rintro e m ⟨rfl,g⟩;go_wp2;go_ret;exact⟨K,B6 b.u g⟩
 rw[wY c];by_cases d:v.g=2
 .rw[yY d];generalize v.g=k at*;subst d;go_in;go_wp2_with fail;refine(n.u _ _).mono ?_;rintro e m ⟨rfl,rfl⟩;go_wp2;go_ret;exact⟨K,b.u⟩
 rw[wY d];by_cases f:v.g=4
 .rw[yY f];generalize v.g=k at*;subst f;go_in;go_wp2;go_ret;exact⟨K,b.u⟩
 rw[wY f];go_in;go_wp2_with fail;refine(p.u _ _ _ _ _).mono ?_;rintro e m ⟨rfl,g⟩;go_wp2;go_ret;exact⟨K,B6 b.u g⟩
section
variable{a w:E}{c d b z:Nat}{G:Int->Option Int}{N:List Nd}{s:Ms}{g:Gh}
def Rm.kh(h:Rm a w c d b G N s g z){v}(o:aZ s.c v)(q:16<=v.g):∃j t e m,v.h=C j/\s.c.T[j]?=C t/\t.k=v.g/\g.tb[j]?=C e/\pad g.tb v.h=C (J e 0)/\m+Q s.ln+Q s.ev+4000*s.fu=z/\sE (V a.heap) w g m j t:=by
 obtain⟨m,r,i,_⟩:=h.mem;obtain⟨_,_,_,f⟩:=o;cases l:v.h with
 |none=>grind
 |some j=>
  rw[l]at f;obtain⟨t,n,u⟩:=f;have k:=i j t n;obtain⟨e,_,_,_,p,_⟩:=k;grind[pad]
theorem xX{v}{j}{t}(h:v.h=C j)(e:s.c.T[j]?=C t):fR v s=.ok t s:=by
 simp_all[fR,bR,Option.bind_some]
def B9f(h:Rm a w c d b G N s g z)(a4){v}(hv:aZ s.c v)(x)(hx:Q x<=1000000):μ ε 233 #[U a4,bT g.tb v,ι ⟨ξ x⟩] w (uT g.tb s w<|mB a4 v x s):=by
 have HN:=O IL;have HO:=O yE;have S:=O wH;obtain⟨a9,aa,T⟩:=iT w (γ #[U v.g,.int à v.n,ι ⟨ξ v.t⟩,Γ<|pad g.tb v.h] 180)<|γ #[U 0,.int à 0,ι ⟨#[]⟩,Γ none] 180;have l:=O T;have a7:=O λj=>eU (w':=j) a9;have a3:=O λj=>eU (w':=j) aa;clear a9 aa;obtain⟨R,f⟩:∃R,R=mB a4 v x s:=⟨_,K⟩;rw[<-f];unfold mB at f;by_cases n:v.g=32/\x=[108,101,110,103,116,104]
 .rw[yY n]at f;obtain⟨a5,t,p,ag,y,k,e3,A,e5,-,e6⟩:=h.kh hv W;rw[J0<|xX y k]at f;replace f:R=.ok (vN<|wr (Q t.l)) s:=f;have ak:=(h.ok.T a5 t k).fq;have al:=h.ok.th;obtain⟨b',pv,la,lc,B,_,m,_⟩:=e6;rw[A]at B;cases B;have q:((ω (ω w<|γ #[U v.g,.int à v.n,ι ⟨ξ v.t⟩,Γ<|pad g.tb v.h] 180)<|γ #[U 0,.int à 0,ι ⟨#[]⟩,Γ none] 180)).heap[p]?=_:=(T.block p (aG m) id).trans m;have ac:=ä _ _ 1 _ _ _ q;simp only[List.getElem?_toArray,List.getElem?_cons_succ,List.getElem?_cons_zero]at ac;have lb:=(aG q);simp only[Ô]at lb;clear m q T h hv k A;subst f;unfold bT;obtain⟨n,rfl⟩:=n;generalize pad g.tb v.h=ah at*;subst e5;generalize v.g=vg at*;subst n;generalize Q t.l=a6 at*;have hw:wr (a6:Int)=a6:=by unfold wr;omega
  have ab:=IF s.c (a6:Int);rw[hw]at ab⊢;go_in;go_wp2_with fail;refine(HN.u _ _).mono ?_;rintro e aj ⟨rfl,D⟩;have u:=O D;obtain⟨H,L,M,P,fz,lt⟩:=a3.u _ u.u;clear D;go_wp2;exact ç (by simp[ã,results233,go_sem,H,L,M,P];rfl) K ⟨mJ (B6 l.u u.u) W,K,ab,K⟩
 rw[wY n]at f;have Z:v.g=32->¬x=[108,101,110,103,116,104]:=λy k=>n ⟨y,k⟩;by_cases o:v.g=16
 .rw[J0<|nY o]at f;obtain⟨a5,t,p,ag,y,k,e3,A,e5,-,e6⟩:=h.kh hv W;rw[J0<|xX y k]at f;replace f:R=.ok ((t.p x).getD vO) s:=f;have ad:=h.ok.T a5 t k;obtain⟨b',pv,la,lc,B,_,m,f4,_⟩:=e6;rw[A]at B;cases B;rw[yY<|e3.trans o]at f4;obtain⟨a2,rfl,a8,f6⟩:=f4;have ql:=(h.low a2 _ a8).2;have r:Hid (∀j,I No w j->(Ì 206 (.map<|C a2) (ι ⟨ξ x⟩) τ).run ε j=.ok (.tuple #[((t.p x).map<|bT g.tb).getD<|.agg #[U 0,.int à 0,ι ⟨#[]⟩,Γ none],.bool (t.p x).isSome]) j/\δ j (J p 0)=C (.map<|C a2)/\p<V j.heap):=λj hc=>by
   have hz:(zeroValue 180).run ε j=.ok (.agg #[U 0,.int à 0,ι ⟨#[]⟩,Γ none]) j:=î;have:=(f6.P<|hc.block a2 ql id).look EO underlying206 hz (DH x hx) τ;have q:=(hc.block p (aG m) id).trans m;refine⟨by simpa[mK]using this,cr q K,(aG q)⟩
  clear m a8 f6 T h hv k A Z;have Z:ê (v.g=32)=κ:=by simp[o]
  unfold bT;generalize pad g.tb v.h=ah at*;subst e5;generalize v.g=vg at*;subst o;cases hp:t.p x with
  |none=>
   rw[hp]at f r;simp only[Option.getD_none]at f;subst f;go_in;go_wp2_with fail;refine(S.u _ _ _ _ _ _ _).mono ?_;rintro e F ⟨i,rfl⟩;simp only[if_true];obtain⟨l1,l2,l3⟩:=r.u F<|B6 l.u i;have K1:=O i;obtain⟨x0,x1,x2,x3,-,af⟩:=a7.u _ i;clear i;go_wp2_with fail;refine(HO.u _).mono ?_;rintro e aj ⟨rfl,D⟩;have u:=O<|B6 K1.u<|B6 (ν No _ _) D;obtain⟨H,L,M,P,fz,lt⟩:=a3.u _ u.u;clear D x0 x1 x2 x3 l1 l2;go_wp2;exact ç (by simp[ã,results233,go_sem,H,L,M,P];rfl) K ⟨mJ (B6 l.u u.u) W,K,BQ _,K⟩
  |some ai=>
   rw[hp]at f r;simp only[Option.getD_some]at f;subst f;have ae:=ad.p x ai hp;simp only[Option.map_some,Option.getD_some,bT]at r;go_in;go_wp2_with fail;refine(S.u _ _ _ _ _ _ _).mono ?_;rintro e F ⟨i,rfl⟩;simp only[if_true];obtain⟨l1,l2,l3⟩:=r.u F<|B6 l.u i;have K1:=O i;obtain⟨x0,x1,x2,x3,-,af⟩:=a7.u _ i;obtain⟨H,L,M,P,fz,lt⟩:=a3.u _ i;clear i;go_wp2;exact ç (by simp[ã,results233,go_sem,H,L,M,P,lt];rfl) K ⟨B6 (mJ (B6 l.u K1.u) W)<|ν _ _ _,K,ae,K⟩
 .rw[I5<|qY o]at f;subst f;unfold bT;by_cases h3:v.g=32
  .have h4:(x==[108,101,110,103,116,104])=κ:=by simpa using Z h3
   clear Z n;generalize v.g=vg at*;subst h3;go_in;go_wp2_with fail;refine(S.u _ _ _ _ _ _ _).mono ?_;rintro e F ⟨i,rfl⟩;rw[wY o];exact⟨K,B6 l.u i,K,K⟩
  .go_in;go_wp2_with fail;refine(S.u _ _ _ _ _ _ _).mono ?_;rintro e F ⟨i,rfl⟩;rw[wY o];exact⟨K,B6 l.u i,K,K⟩
end
def Jv(i g t f c)(u s)(q r)(w:E)(M:-2147483648<=c/\c<=2147483647):μ ε 179 #[U i,.agg #[U g,.int à t,ι u,Γ q],.agg #[U f,.int à c,ι s,Γ r]] w λe d=>I No w d/\e=if g=32/\f=1 then π (.tuple #[Γ q,U c]) else ov 3 i []:=by
 have b:=O wH;obtain⟨z,A,y⟩:=iT w (γ #[U g,.int à t,ι u,Γ q] 180)<|γ #[U f,.int à c,ι s,Γ r] 180;have j:=O y;have x:=O λd=>eU (w':=d) z;have k:=O λd=>eU (w':=d) A;by_cases n:g=32
 .subst n;by_cases o:f=1
  .subst o;rw[yY ⟨K,K⟩];go_in;go_wp2_with fail;refine(b.u _ _ _ _ _ _ _).mono ?_;rintro e v ⟨a,rfl⟩;simp;have l:=O a;obtain⟨F,G,H,L,-,B⟩:=k.u _ a;go_wp2_with fail;refine(b.u _ _ _ _ _ _ _).mono ?_;rintro e D ⟨p,rfl⟩;simp;have m:=O<|B6 l.u p;obtain⟨R,S,T,Z,-,N⟩:=x.u _ m.u;obtain⟨z0,z1,z2,z3,-,P⟩:=k.u _ m.u;go_wp2;go_quiet (fail);go_wp2;go_ret2;exact⟨B6 j.u<|B6 m.u<|Ψ _ _ _,K⟩
  .rw[wY λh=>o h.2];go_in;go_wp2_with fail;refine(b.u _ _ _ _ _ _ _).mono ?_;rintro e v ⟨a,rfl⟩;simp;have l:=O a;obtain⟨F,G,H,L,-,B⟩:=k.u _ a;go_wp2_with fail;refine(b.u _ _ _ _ _ _ _).mono ?_;rintro e D ⟨p,rfl⟩;rw[wY o];exact⟨K,B6 j.u<|B6 l.u p,K⟩
 .rw[wY λh=>n h.1];go_in;go_wp2_with fail;refine(b.u _ _ _ _ _ _ _).mono ?_;rintro e v ⟨a,rfl⟩;rw[wY n];exact⟨K,B6 j.u a,K⟩
theorem YB{h:Type}{k}(b:h->List υ)(g:∀x,Q (b x)=k):∀(l:List h) (i c) (f),c<k->(l.flatMap b)[i*k+c]?=(b l[i])[c]?
 |[],_,_,f,_=>η
 |a::r,0,c,_,d=>η
 |a::r,i+1,c,f,d=>by
  have e:(i+1)*k+c=Q (b a)+(i*k+c):=by rw[g,Nat.succ_mul];omega
  rw[List.flatMap_cons,e,List.getElem?_append_right W,Nat.add_sub_cancel_left,YB b g r i c η d];simp
def MZ{tb}{l:List Vl}{j}{v}(h:l[j]?=C v):(l.flatMap<|gF tb)[j*4]?=C (U v.g)/\(l.flatMap<|gF tb)[j*4+1]?=C (.int à v.n)/\(l.flatMap<|gF tb)[j*4+2]?=C (ι ⟨ξ v.t⟩)/\(l.flatMap<|gF tb)[j*4+3]?=C (Γ<|pad tb v.h):=by
 obtain⟨a,e⟩:=Î.1 h;have k:=λo b=>YB (k:=4) (gF tb) (λ_=>K) l j o a b;subst e;exact⟨k 0 W,k 1 W,k 2 W,k 3 W⟩
section
variable{a w:E}{c d b z:Nat}{G:Int->Option Int}{N:List Nd}{s:Ms}{g:Gh}
def KN(a6:Rm a w c d b G N s g z)(i){v f}(hv:aZ s.c v)(ha:aZ s.c f):μ ε 234 #[U i,bT g.tb v,bT g.tb f] w (uT g.tb s w<|mY i v f s):=by
 have HO:=O yE;have B:=O λi vg vn ug vt ut vp up w=>Jv i vg vn ug f.n vt ut vp up w ha.2.1;obtain⟨-,-,a8,ca⟩:=EZ w (γ #[U v.g,.int à v.n,ι ⟨ξ v.t⟩,Γ<|pad g.tb v.h] 180) (γ #[U f.g,.int à f.n,ι ⟨ξ f.t⟩,Γ<|pad g.tb f.h] 180)<|γ #[U 0,.int à 0,ι ⟨#[]⟩,Γ none] 180;have n:=O ca;have a2:=O λl=>eU (w':=l) a8;obtain⟨R,h⟩:∃R,R=mY i v f s:=⟨_,K⟩;rw[<-h];unfold mY at h;by_cases q:v.g=32/\f.g=1
 .rw[J0<|nY q.1,J0<|nY q.2]at h;obtain⟨ac,t,o,ai,e1,e2,e3,e4,e5,-,e6⟩:=a6.kh hv W;rw[J0<|xX e1 e2]at h;replace h:R=.ok (if 0<=f.n then t.l.getD f.n.toNat vO else vO) s:=h;have aa:=a6.ok.T ac t e2;obtain⟨b',pv,u,y,a3,_,a4,_,a7,_⟩:=e6;rw[e4]at a3;cases a3;have HQ:Hid (∀l,I No w l->δ l (J o 1)=C (Y u (Q t.l) y)/\o<V l.heap/\ρ l (V a.heap) 180 4 (Y u (Q t.l) y) (Q t.l) (t.l.flatMap<|gF g.tb)):=λl hc=>by
   have a5:=(hc.block o (aG a4) id).trans a4;exact⟨cr a5 K,(aG a5),A3 a7 hc λ_ _ x=>x⟩
  have HH:=O Gk;unfold bT;generalize pad g.tb v.h=aj at*;subst e5;generalize v.g=vg at*;generalize f.g=ag at*;obtain⟨rfl,rfl⟩:=q;generalize f.n=x at*;by_cases r:0<=x/\x<Q t.l
  .obtain⟨k,rfl⟩:=È r.1;have M:k<Q t.l:=W;rw[yY r.1]at h;have hg:t.l.getD (Int.toNat k) vO=t.l[k]:=by rw[tQ,lQ,gQ M];rfl
   rw[hg]at h;have ab:=aa.l _<|mQ M;have L:=MZ (tb:=g.tb)<|gQ M;generalize t.l[k]=ak at*;subst h;have H:ê (0<=(k:Int)/\k<(Q t.l:Int))=τ:=by simpa using r
   go_in;go_wp2_with fail;refine(B.u _ _ _ _ _ _ _ _ _).mono ?_;rintro e m ⟨j,rfl⟩;simp;obtain⟨P,q2,q3⟩:=HQ.u m<|B6 n.u j;have p:=O j;have A:=O<|HH.u o u _ y k m P;go_wp2_with fail;refine A.u.mono ?_;rintro e ae ⟨rfl,rfl⟩;rw[H];obtain⟨gl,rfl,-,ah,af,a9,F⟩:=D5 q3 W;have v0:=F _ _ L.1;have v1:=F _ _ L.2.1;have v2:=F _ _ L.2.2.1;obtain⟨S,T,Z,y3,fz,lt⟩:=a2.u _ p.u;unfold Δ at a9;go_wp2;exact ç (by simp[ã,results234,go_sem,S,T,Z,y3];rfl) K ⟨mJ (B6 n.u p.u) W,K,ab,K⟩
  .have D:R=.ok vO s:=by
    rw[h];by_cases h0:0<=x
    .grind
    .grind
   subst D;clear h;have H:ê (0<=x/\x<Q t.l)=κ:=by simpa using r
   go_in;go_wp2_with fail;refine(B.u _ _ _ _ _ _ _ _ _).mono ?_;rintro e m ⟨j,rfl⟩;simp;obtain⟨P,q2,q3⟩:=HQ.u m<|B6 n.u j;have p:=O j;have A:=O<|HH.u o u _ y x m P;go_wp2_with fail;refine A.u.mono ?_;rintro e ae ⟨rfl,rfl⟩;rw[H];go_wp2_with fail;refine(HO.u _).mono ?_;rintro e al ⟨rfl,ad⟩;have K3:=O<|B6 p.u ad;obtain⟨S,T,Z,y3,fz,lt⟩:=a2.u _ K3.u;go_wp2;exact ç (by simp[ã,results234,go_sem,S,T,Z,y3];rfl) K ⟨mJ (B6 n.u K3.u) W,K,BQ _,K⟩
 .have D:R=.over 3 i s:=by
   by_cases h3:v.g=32
   .grind[J0,nY,I5,qY]
   .grind[I5,qY]
  subst D;clear h;unfold bT;go_in;go_wp2_with fail;refine(B.u _ _ _ _ _ _ _ _ _).mono ?_;rintro e m ⟨j,rfl⟩;rw[wY q];exact⟨K,B6 n.u j,K,K⟩
end
def bk(a:List Nat)(v:Vl)(_:List PanicEntry):ò:=Â [{v:=.iface 185<|bT a v,recovered:=κ}]
def RP(h:E)(f k j:Nat)(G:Int->Option Int)(N:List Nd)(z:Nat)(w:E)(g:Gh)(s:Ms){m}(n:m->Ms->Gh->E->υ->Prop)(r:Rr m)(e:ò)(d:E):Prop:=match r with
 |.stk=>False
 |.ok a c=>∃b v,e=π v/\aJ h f w g d b/\Rm h d f k j G N c b z/\Gr s.c c.c/\n a c b d v
 |.over x i c=>∃b l,e=ov x i l/\aJ h f w g d b/\Rm h d f k j G N c b z
 |.back u c=>∃b l,e=bk b.tb u l/\aJ h f w g d b/\Rm h d f k j G N c b z/\Gr s.c c.c/\aZ c.c u
section
variable{d w b:E}{a f e z:Nat}{G:Int->Option Int}{N:List Nd}{s:Ms}{g:Gh}
def Rm.kr(h:Rm d w a f e G N s g z){u:Option Nat}(F:iL s.c u){q m}(v:I No w b)(hq:V w.heap<=q)(Z:V w.heap<=m)(a2:q≠m)(P:gH 3 b q 0 λ_=>none)(H:b.heap[m]?=C (γ #[.map<|C q,Γ<|pad g.sb u] 177 (0,0))):
 ∃t,Rm d b a f e G N {s with c:={s.c with S:=s.c.S++[⟨λ_=>none,u⟩]}} t z/\aJ d a w g b t/\pad t.sb (C (Q s.c.S))=C (J m 0):=by
 obtain⟨T,R,a4⟩:=P.isMap;have A:g.sb<+:g.sb++[m]:=List.prefix_append _ _;have D:∀k,k<V w.heap->(if k=q then C (Rl.o (Q s.c.S)) else if k=m then C (.s (Q s.c.S)) else g.ow k)=g.ow k:=λk y=>η;refine⟨⟨g.tb,g.sb++[m],λk=>if k=q then C (.o (Q s.c.S)) else if k=m then C (.s (Q s.c.S)) else g.ow k⟩,?_,⟨v.mono λ_ _ x=>x.elim,λk r y n=>(D k y).symm.trans n,ö _,A⟩,?_⟩
 .refine h.gen (d:=0) v (λk _ x=>x.elim) (h.rows v λk _ x=>x.elim) ⟨ö _,A,D⟩ h.tl (by simp[h.sl]) (λk r y p=>?_) (λk r _ x=>x.elim) (h.ok.kr F) η (λi a5 M=>.inl ⟨M,λk _ x=>x.elim⟩) λi q' o=>?_
  .simp only at p;split at p
   .grind
   .split at p
    .grind
    .have:=(h.low k r p).2;omega
  .simp only at o;obtain B|B:=Nat.lt_or_ge i (Q s.c.S)
   .grind
   .rw[List.getElem?_append_right B]at o;obtain n|n:=Nat.eq_zero_or_pos<|i-Q s.c.S
    .have L:i=Q s.c.S:=W;subst L;rw[n]at o;simp at o;subst o;refine .inr λa3 m' _ _ _=>⟨m,q,by simp[h.sl],?_,?_,yY K,(show gH 3 b q 0 _ from ?_).more<|wQ _⟩
     .grind
     .rw[H,N8 A λj n=>by rw[h.sl];exact F j n]
     .have n:oD (λ_=>none) g.tb=λ_=>none:=by
       funext l;cases l<;>try rfl
       rename_i k x;cases k<;>rfl
      grind
    grind
 .simp[pad,lQ,h.sl]
def Je(h:Rm d w a f e G N s g z){u:Option Nat}(o:iL s.c u):μ ε 60 #[Γ<|pad g.sb u] w (RP d a f e G N z w g s (λj i c _ v=>j<Q i.c.S/\v=Γ (pad c.sb<|C j))<|fM u s):=by
 have n:I No w (ω (ω w<|.map #[] 0)<|γ #[.map<|C (V w.heap),Γ<|pad g.sb u] 177):=B6 (ν _ _ _)<|ν _ _ _;have q:=(gH.new 3 w 0).P (w':=ω (ω w<|.map #[] 0)<|γ #[.map<|C (V w.heap),Γ<|pad g.sb u] 177) (Below.heap_alloc _ _ _ θ);obtain⟨c,l,m,r⟩:=h.kr o n (vQ _) W W q (iT w _ _).2.1;have k:Hid (RP d a f e G N z w g s (λj i c _ v=>j<Q i.c.S/\v=Γ (pad c.sb<|C j)) (fM u s) (π<|pV<|V w.heap+1)<|ω (ω w<|.map #[] 0)<|γ #[.map<|C (V w.heap),Γ<|pad g.sb u] 177):=
  ⟨c,_,K,m,l,CF u,θ,η⟩;generalize pad g.sb u=p at*;have t:=@run_makeMap ε;go_in;go_wp2;go_ret;exact k.u
def Rm.scope(h:Rm d w a f e G N s g z){j}{q}(t:s.c.S[j]?=C q):∃c r,pad g.sb (C j)=C (J c 0)/\c<V w.heap/\g.ow c=C (.s j)/\g.ow r=C (.o j)/\r<V w.heap/\δ w (J c 0)=C (.map<|C r)/\δ w (J c 1)=C (Γ<|pad g.sb q.up)/\
 ∃m,m+Q s.ln+Q s.ev+4000*s.fu=z/\gH 3 w r m (oD q.o g.tb):=by
 obtain⟨m,p,_,o⟩:=h.mem;obtain⟨c,r,u,l,i,k,n⟩:=o j q t;exact⟨c,r,by grind[pad,lQ],(aG i),l,k,(h.low _ _ k).2,cr i K,cr i K,m,p,n⟩
def ZV{q:Sc}{x}(i:0<=x/\x<=1000000){r m}(h:gH 3 w r m<|oD q.o g.tb)(c):
 (Ì 175 (.map<|C r) (U x) c).run ε w=.ok (if c then .tuple #[((q.o x).map<|bT g.tb).getD<|.agg #[U 0,.int à 0,ι ⟨#[]⟩,Γ none],.bool (q.o x).isSome] else ((q.o x).map<|bT g.tb).getD<|.agg #[U 0,.int à 0,ι ⟨#[]⟩,Γ none]) w:=by
 have j:(zeroValue 180).run ε w=.ok (.agg #[U 0,.int à 0,ι ⟨#[]⟩,Γ none]) w:=î;have:=h.look yV underlying175 j (zH x i) c;simpa[oD]using this
def zT(g:Gh):υ->Nat
 |Γ (C c)=>g.sb.idxOf c.block
 |_=>0
def Rm.qt(h:Rm d w a f e G N s g z){j}(o:j<Q s.c.S):zT g (Γ<|pad g.sb<|C j)=j:=by
 obtain⟨m,_,_,k⟩:=h.mem;obtain⟨c,r,i,u,_⟩:=k j _<|gQ o;have l:pad g.sb (C j)=C (J c 0):=by simp[pad,lQ,i]
 rw[l];show g.sb.idxOf c=j;have q:=List.mem_of_getElem? i;have p:=List.idxOf_lt_length_iff.2 q;have n:g.sb.idxOf c<Q s.c.S:=by rw[<-h.sl];exact p
 obtain⟨t,y,v,x,_⟩:=k _ _<|gQ n;grind
def A4d{S}{x}{k i j}(h:W9 S x k (C i)=C j):∃q,S[i]?=C q/\(((q.o x).isSome=τ/\i=j)\/((q.o x).isSome=κ/\∃c m,q.up=C c/\W9 S x m (C c)=C j)):=by
 cases k with
 |zero=>grind[W9]
 |succ k=>
  rw[W9]at h;cases l:S[i]? with
  |none=>grind
  |some q=>
   rw[l]at h;simp only at h;refine⟨q,K,?_⟩;split at h
   .grind
   .rename_i n;refine .inr ⟨η,?_⟩;cases o:q.up with
    |none=>grind[W9]
    |some c=>grind
def Jy(h:Rm d w a f e G N s g z){x}(hx:0<=x/\x<=1000000){k r j}(S:W9 s.c.S x k (C r)=C j):μ ε 177 #[Γ<|pad g.sb<|C r,U x] w λL b=>L=π (Γ<|pad g.sb<|C j)/\I No w b:=by
 have H:=O h;have B:=O S;go_in;go_wp2;go_loopw [0] (λv wr=>∃i A,v=Γ (pad g.sb<|C i)/\Hid (W9 s.c.S x A (C i)=C j)/\Hid (I No w wr)) (λv _=>zT g v);case atStart=>exact⟨r,k,K,B,ì _ _⟩
 case round=>
  obtain⟨i,A,rfl,F,CR⟩:=hrel;obtain⟨q,n,Z⟩:=A4d F.u;have a2:=(Î.1 n).1;have t:=H.u.y CR.u;obtain⟨a5,a8,m,e2,-,-,e4,e5,M,a7,-,P⟩:=t.scope n;have c:=ZV hx P τ;have u:=O<|t.qt a2;rw[m]at u;have a3:=(H.u.ok.S i q n).2;rw[m];obtain⟨l,rfl⟩|⟨l,p,a4,y,T⟩:=Z
  .rw[l]at c;obtain⟨v,o⟩:=Option.isSome_iff_exists.1 l;rw[o]at c;simp only[Option.map_some,Option.getD_some,if_true,bT]at c;go_wp2;go_ret;exact⟨by rw[m];rfl,B6 CR.u<|ν _ _ _⟩
  .have o:q.o x=none:=by simpa using l
   rw[o]at c;simp at c;have a6:=a3 p y;rw[y]at M;have R:p<Q s.c.S:=W;have D:=O<|(H.u.y CR.u).qt R;go_wp2;exact⟨⟨p,a4,K,T,B6 CR.u<|ν _ _ _⟩,by rw[D.u,u.u];omega⟩
theorem Sv{x}{c}{j}(h:W9 s.c.S x (Q s.c.S) c=C j):iQ x c s=.ok j s:=by
 simp_all[iQ,bR]
def YN{x}{c}(h:iQ x c s≠.stk):∃i j,c=C i/\W9 s.c.S x (Q s.c.S) c=C j/\iQ x c s=.ok j s:=by
 cases k:W9 s.c.S x (Q s.c.S) c with
 |none=>simp_all[absurd,iQ,bR]
 |some j=>
  cases c with
  |none=>grind[W9]
  |some i=>grind[Sv]
def NH{S}{x}:∀{k i j},W9 S x k (C i)=C j->∃q v,S[j]?=C q/\q.o x=C v
 |0,i,j,h=>by grind[W9]
 |k+1,i,j,h=>by
  rw[W9]at h;cases c:S[i]? with
  |none=>grind
  |some q=>
   rw[c]at h;simp only at h;split at h
   .grind[Option.isSome_iff_exists]
   .cases l:q.up with
    |none=>grind[W9]
    |some m=>rw[l]at h;exact NH h
def Zc(h:Rm d w a f e G N s g z){x}(y:0<=x/\x<=1000000){A j}(u:W9 s.c.S x (Q s.c.S) (C A)=C j):μ ε 231 #[Γ<|pad g.sb<|C A,U x] w (uT g.tb s w<|jA j x s):=by
 obtain⟨q,v,k,l⟩:=NH u;have P:jA j x s=.ok v s:=by simp only[jA,bR,k,Option.bind_some,l]
 rw[P];have R:=rY w<|γ #[U 0,.int à 0,ι ⟨#[]⟩,Γ none] 180;have B:=O λb=>eU (w':=b) R;have t:=ν No w<|γ #[U 0,.int à 0,ι ⟨#[]⟩,Γ none] 180;have D:=O<|Jy (h.y t) y u;have n:=O t;have T:=(h.ok.S j q k).1 x v l;have F:Hid (∀b,I No w b->∃c r,pad g.sb (C j)=C (J c 0)/\c<V b.heap/\δ b (J c 0)=C (.map<|C r)/\(Ì 175 (.map<|C r) (U x) κ).run ε b=.ok (bT g.tb v) b):=λb S=>by
  obtain⟨c,r,i,o,-,-,p,L,e6,a3,-,M⟩:=(h.y S).scope k;have:=ZV y M κ;rw[l]at this;exact⟨c,r,i,o,L,by simpa using this⟩
 go_in;go_wp2_with fail;refine D.u.mono ?_;rintro a2 Z ⟨rfl,m⟩;obtain⟨c,r,i,o,e3,p⟩:=F.u Z<|B6 n.u m;rw[i];obtain⟨y0,y1,y2,y3,fz,lt⟩:=B.u _ m;have H:=O m;simp only[bT]at p;go_wp2;exact ç (by simp[ã,results231,go_sem,y0,y1,y2,y3];rfl) K ⟨mJ (B6 n.u H.u) W,K,T,K⟩
def pS(s:Ms)(j:Nat)(x:Int)(v:Vl):Ms:={s with c:={s.c with S:=s.c.S.modify j λq=>⟨λy=>if y=x then C v else q.o y,q.up⟩}}
def Yr(h)(c)(x)(v):oD (λy=>if y=x then C v else h y) c (.int χ x)=C (bT c v)/\∀u,u≠.int χ x->oD (λy=>if y=x then C v else h y) c u=oD h c u:=by
 refine⟨by simp[oD],λu i=>?_⟩;cases u<;>try rfl
 rename_i k y;cases k<;>try rfl
 grind[oD]
def Rm.ke(h:Rm d w a f e G N s g z){j}{q}(y:s.c.S[j]?=C q){x}(hx:0<=x/\x<=1000000){v}(hv:aZ s.c v)(hz:z<=1000000000):
 ∃c r,pad g.sb (C j)=C (J c 0)/\c<V w.heap/\δ w (J c 0)=C (.map<|C r)/\∃b,(Ï 175 (.map<|C r) (.int χ x)<|bT g.tb v).run ε w=.ok () b/\
  Rm d b a f e G N (pS s j x v) g (z+1)/\aJ d a w g b g:=by
 obtain⟨c,r,t,B,e3,D,e5,u,e7,ab,e8,F⟩:=h.scope y;obtain⟨h1,h2⟩:=Yr q.o g.tb x v;obtain⟨b,a4,M,n⟩:=F.put yV underlying175 (zH x hx) (show WideAt.IsKeyLit (.int χ x) from trivial) W (bT g.tb v) _ h1 h2;obtain⟨es,cl,a9⟩:=F.isMap;obtain⟨a6,a5,aa⟩:=M.isMap;refine⟨c,r,t,B,u,b,a4,?_,⟨n.mono λk _ x=>.inr<|.inl ⟨.o j,(show k=r from x) ▸ D,λ_ l=>η⟩,λ_ _ _ l=>l,ö _,ö _⟩⟩;refine h.gen (d:=1) n (λk _ x=>?_) (h.rows n λk _ x=>?_) ⟨ö _,ö _,λ_ _=>K⟩ h.tl (by simp[pS,h.sl]) (λk r hk P=>?_) (λk p P x=>?_) (h.ok.ke j x hv) (by grind[pS]) (λi ac ht=>.inl ⟨ht,λk hk x=>?_⟩) λi q' o=>?_
 .have A:=x;subst A;refine⟨(h.low k _ D).1,λl=>?_⟩;have:=h.j5.2.2;grind
 .have A:=x;subst A;refine⟨λl=>?_,λcs l fz ad=>?_⟩
  .have:=h.j5.2.1;grind
  grind
 .have:=(h.low k r P).2;omega
 .grind
 .grind
 .simp only[pS]at o;rw[List.getElem?_modify]at o;by_cases a3:j=i
  .subst a3;simp only[if_true,y,Option.map_eq_map,Option.map_some,zQ]at o;subst o;refine .inr λm0 m' a8 hd hS=>?_;obtain⟨m,p,H,T,L,Z,a7⟩:=hS j q y;have R:m=c:=by
    simp only[pad,Option.map_some,lQ,H,Option.getD_some,zQ,Addr.mk.injEq,and_true]at t;exact t
   subst R;have S:p=r:=by
    rw[ä _ _ 0 _ _ _ L]at u;simpa using u
   subst S;have a2:m≠p:=λl=>η;refine⟨m,p,H,T,(n.block m B a2).trans L,Z,M.more W⟩
  grind
def Zd(h:Rm d w a f e G N s g z){x}(t:0<=x/\x<=1000000){l j}(r:W9 s.c.S x (Q s.c.S) (C l)=C j){v}(M:aZ s.c v)(P:z<=1000000000):μ ε 115 #[Γ<|pad g.sb<|C l,.int χ x,bT g.tb v] w λm b=>m=rT/\Rm d b a f e G N (pS s j x v) g (z+1)/\aJ d a w g b g:=by
 obtain⟨a3,v',L,-⟩:=NH r;have F:=rY w<|γ #[.int χ v.g,.int à v.n,ι ⟨ξ v.t⟩,Γ<|pad g.tb v.h] 180;have A:=O λb=>eU (w':=b) F;have H:=ν No w<|γ #[.int χ v.g,.int à v.n,ι ⟨ξ v.t⟩,Γ<|pad g.tb v.h] 180;have B:Hid (∀b,I No w b->_):=λb k=>Jy (h.y k) t r;have D:Hid (∀b,I No w b->_):=λb k=>(h.y k).ke L t M P;have i:Hid (∀n,I No w _):=λn=>B6 H<|Ψ No _ n;unfold bT at*;generalize pad g.sb (C l)=a2 at*;go_in;go_wp2;go_region_with (go_at_call 177;refine(B.u _<|i.u 1).mono ?_;rintro m R ⟨rfl,c⟩;obtain⟨S,a4,o,T,Z,a5,e4,p,q⟩:=D.u R<|B6 (i.u 1) c;rw[o];obtain⟨y0,y1,y2,y3,fz,lt⟩:=A.u _<|B6 (Ψ No _ 1) c;have u:=O p;have y:=O<|(aJ.y<|B6 (i.u 1) c).trans q;clear c o p q);all_goals go_end0
 all_goals exact⟨K,u.u,y.u⟩
def Rm.mc(h:Rm d w a f e G N s g z):(∀o,w.frozen? (J a o)=κ)/\a<V w.heap/\δ w (J a 0)=C (pV f)/\δ w (J a 1)=C (.map<|C e)/\δ w (J a 2)=C (.int χ s.fu)/\δ w (J a 3)=C (.int χ s.c.ca)/\δ w (J a 4)=C (.int χ s.c.th):=by
 obtain⟨j,i,c,_⟩:=h.blk;exact⟨λo=>æ _ _ o _ _ c,(aG c),cr c K,cr c K,cr c K,cr c K,cr c K⟩
def Rm.nr(h:Rm d w a f e G N s g z){s'}{z'}(o)(v)(F:s'.c.T=s.c.T)(D:s'.c.S=s.c.S)(M:s'.ln=s.ln)(H:s'.ev=s.ev)(R:iE N s'.c)
 (Z:∀p j,(#[pV f,.map<|C e,.int χ (s.fu:Int),.int χ (s.c.ca:Int),.int χ (s.c.th:Int),p,j]).setIfInBounds o v=#[pV f,.map<|C e,.int χ s'.fu,.int χ s'.c.ca,.int χ s'.c.th,p,j])
 (hz:4000*s'.fu+z<=z'+4000*s.fu):Rm d (σ w (J a o) v) a f e G N s' g z'/\aJ d a w g (σ w (J a o) v) g:=by
 have l:=é w (J a o) v;obtain⟨p,j,B,t,u⟩:=h.blk;refine⟨?_,⟨l.mono λk _ x=>.inl x,λ_ _ _ c=>c,ö _,ö _⟩⟩;have P:∀k r,g.ow k=C r->¬k=a:=λk r n c=>by
  have:=h.j5.2.1;grind
 refine h.gen (d:=0) l (λk _ x=>?_) ⟨p,j,?_,?_,?_⟩ ⟨ö _,ö _,λ_ _=>K⟩ (by rw[F];exact h.tl) (by rw[D];exact h.sl) (λk r y n=>?_) (λk r n x=>(P k r n x).elim) R η (λi a2 T=>.inl ⟨η,λk y x=>?_⟩) λi q m=>.inl ⟨η,λk y x=>?_⟩
 .have S:=x;subst S;refine⟨h.j5.1,λc=>h.gs.et<|c ▸ B⟩
 .grind[ð]
 .rw[M];refine A3 t l λq m x=>?_;obtain⟨_,A,L⟩:=A9 t q m;grind
 .rw[H];refine A3 u l λq m x=>?_;obtain⟨_,A,L⟩:=A9 u q m;grind
 .have:=(h.low k r n).2;omega
 .grind
 grind
def Bf(h:Rm d w a f e G N s g z)(D:z<=1000000000):μ ε 61 #[pV a] w λj b=>aJ d a w g b g/\match aU s with
 |.ok _ c=>j=rT/\Rm d b a f e G N c g (z-4000)/\c.c=s.c
 |.over x i c=>j=ov x i []/\Rm d b a f e G N c g z/\c=s
 |_=>False:=by
 obtain⟨v,F,m0,m1,m2,m3,m4⟩:=h.mc;have r:=h.mem;unfold aU;by_cases k:s.fu=0
 .rw[yY k];have q:=O<|yG 4 (-1) w;have p:=O<|aJ.y (wB:=d) (mb:=a) (g:=g)<|ì No w;have o:=O h;rw[k]at m2;go_in;go_wp2_with fail;refine q.u.mono ?_;rintro j L ⟨rfl,rfl⟩;exact⟨K,p.u,K,o.u,trivial⟩
 .rw[wY k];obtain⟨n,t⟩:∃n,s.fu=n+1:=⟨s.fu-1,W⟩;obtain⟨m,A,_⟩:=r;have B:n<=1000000:=W;have y:((n:Int)+1==0)=κ:=â;have l:=O (h.nr (s':={s with fu:=s.fu-1}) (z':=z-4000) 2 (.int χ n) K K K K h.ok (λH u=>η) η);rw[t]at m2;push_cast at m2;go_in;go_wp2;go_end0;exact⟨l.u.2,K,l.u.1,trivial⟩
def NQ(c)(n k):Gr c {c with th:=n,ca:=k}:=⟨λ_ t h=>⟨t,h,K⟩,vQ _⟩
def cS(s:Ms)(ca th:Nat):Ms:={s with c:={s.c with ca:=ca,th:=th}}
def RB(h:iE N s.c){i c}(j:i<=40)(k:s.c.th<=c/\c<=2000):iE N (cS s i c).c:=
 h.of (NQ s.c c i) k j (λ_ _ m=>.inl m) λ_ _ l=>.inl l
def IQ(h:Rm d w a f e G N s g z)(i):μ ε 181 #[pV a,.int χ i] w λk b=>aJ d a w g b g/\
 (s.c.th=2000/\bX i s=.over 6 i s/\k=ov 6 i []/\Rm d b a f e G N s g z\/s.c.th<2000/\bX i s=.ok () (cS s s.c.ca<|s.c.th+1)/\k=rT/\Rm d b a f e G N (cS s s.c.ca<|s.c.th+1) g z):=by
 obtain⟨r,v,m0,m1,m2,m3,m4⟩:=h.mc;have u:=h.ok.th;by_cases c:s.c.th=2000
 .have p:=O<|yG 6 i w;have o:=O<|aJ.y (wB:=d) (mb:=a) (g:=g)<|ì No w;have n:=O h;have l:Hid (bX i s=.over 6 i s):=by simp only[bX,bR,yY c];rfl
  have j:=O c;rw[c]at m4;go_in;go_wp2_with fail;refine p.u.mono ?_;rintro k y ⟨rfl,rfl⟩;exact⟨K,o.u,.inl ⟨j.u,l.u,K,n.u⟩⟩
 .have m:=O (h.nr (s':=cS s s.c.ca<|s.c.th+1) (z':=z) 4 (.int χ<|s.c.th+1) K K K K (RB h.ok h.ok.ca W) (λx q=>Ω)<|by grind[cS]);have l:Hid (bX i s=.ok () (cS s s.c.ca<|s.c.th+1)):=by simp only[bX,bR,wY c];rfl
  have j:Hid (s.c.th<2000):=by show _<_;omega
  have t:((s.c.th:Int)==2000)=κ:=â;go_in;go_wp2;go_end0;exact⟨m.u.2,.inr ⟨j.u,l.u,K,m.u.1⟩⟩
end
def Tryz.qg:(prog.info? 69).map (λi=>(i.zero,i.size,i.bytes))=C (C<|.agg #[U 0,U 0],2,16):=î
section
variable{b w c:E}{a e d z:Nat}{G:Int->Option Int}{N:List Nd}{s:Ms}{g:Gh}
def Rm.om{S}{j}{D}(h:Rm b w a e d G N s g z)(A:I S w c)(p:∀k,k<V w.heap->S k->k=a\/(V b.heap<=k/\∃n f o,w.heap[k]?=C (γ n f o)/\(f=9\/f=69)))(u:j.c=s.c)(M:j.fu=s.fu)
 (L:∃B v,c.heap[a]?=C (γ #[pV e,.map<|C d,U s.fu,U s.c.ca,U s.c.th,B,v] 66 (0,0))/\
  ρ c (V b.heap) 9 1 B (Q j.ln) (strs j.ln)/\ρ c (V b.heap) 69 2 v (Q j.ev) (jN j.ev))
 (T:Q j.ln+Q j.ev+z<=D+Q s.ln+Q s.ev):Rm b c a e d G N j g D/\aJ b a w g c g:=by
 have H:∀k r,g.ow k=C r->¬S k:=λk r m x=>by
  obtain f|⟨_,n,f,o,y,z⟩:=p k (h.low k r m).2 x
  .have:=h.j5.2.1;grind
  .have:=h.ty k r m n f o y;grind
 obtain⟨_,_,F,_⟩:=h.blk;refine⟨?_,⟨A.mono λk l x=>(p k l x).imp id .inr,λ_ _ _ f=>f,ö _,ö _⟩⟩;refine h.gen (d:=0) A (λk l x=>?_) η ⟨ö _,ö _,λ_ _=>K⟩ (by rw[u];exact h.tl) (by rw[u];exact h.sl) (λk r l m=>?_) (λk r m x=>(H k r m x).elim) (by rw[u];exact h.ok) W (λi t R=>.inl ⟨η,λk l x=>?_⟩) λi q P=>.inl ⟨η,λk l x=>?_⟩
 .obtain f|⟨f,n,t,o,y,_⟩:=p k l x
  .subst f;exact⟨h.j5.1,λf=>h.gs.et<|f ▸ F⟩
  .exact⟨f,λf=>h.gs.et<|f ▸ y⟩
 .have:=(h.low k r m).2;omega
 .grind
 grind
def Rm.uc(h:Rm b w a e d G N s g z){l}{m}(o:δ w (J a 6)=C (Y l (Q s.ev) m)){f}(p:I (λk=>Θ (Y l (Q s.ev) m)=C k) w f)(i x){j}(P:ρ f (V b.heap) 69 2 j (Q s.ev+1)<|jN s.ev++[U i,U x]):
 Rm b (σ f (J a 6) j) a e d G N {s with ev:=s.ev++[(i,x)]} g (z+1)/\aJ b a w g (σ f (J a 6) j) g:=by
 obtain⟨D,ev,n,u,v⟩:=h.blk;have t:ev=Y l (Q s.ev) m:=by
  rw[ä _ _ 6 _ _ _ n]at o;simpa using o
 subst t;have A:=(aG n);have M:=A9 v;have B:¬Θ (Y l (Q s.ev) m)=C a:=λF=>η;have r:I (λk=>k=a\/Θ (Y l (Q s.ev) m)=C k) w (σ f (J a 6) j):=(p.mono λ_ _ x=>.inr x).trans (é f (J a 6) j) λk _ x=>.inl x;have y:=(p.block a A B).trans n;refine h.om r (λk H x=>x.imp id λx=>?_) K K ⟨D,j,?_,?_,?_⟩ η
 .grind
 .rw[ð f a 6 _ _ _ y];rfl
 .refine A3 u r λq L x=>?_;grind[A9]
 grind[A3,é,A9,zQ,xW,absurd,jN]
def aJ.je{f}{l}(h:aJ b a w g f l){q}(v:V w.heap<=q)(m n p r):aJ b a w g (σ (σ (σ (σ f (J q 0) m) (J q 1) n) (J q 2) p) (J q 3) r) l:=by
 have k:∀{j:E} o (x:υ),I (DR b a w g) w j->I (DR b a w g) w (σ j (J q o) x):=λo x t=>t.trans (é _ (J q o) x) λi u y=>η;exact⟨k 3 r<|k 2 p<|k 1 n<|k 0 m h.P,h.ow,h.tb,h.sb⟩
def Rm.je(h:Rm b w a e d G N s g z){q}{m}(r:w.heap[q]?=C (γ m 180 (0,0)))(p:g.ow q=none)(n:V b.heap<=q)(o:q≠a)(f i j l):Rm b (σ (σ (σ (σ w (J q 0) f) (J q 1) i) (J q 2) j) (J q 3) l) a e d G N s g z:=
 h.calm ((((é w (J q 0) f).trans (é _ (J q 1) i) λ_ _ x=>x).trans (é _ (J q 2) j) λ_ _ x=>x).trans (é _ (J q 3) l) λ_ _ x=>x) λk _ x=>η
def Gp(h:Rm b w a e d G N s g z)(hz:z<=1000000000)(i)(hi:0<=i/\i<=1000000)(v):μ ε 175 #[pV a,U i,bT g.tb v] w λo c=>aJ b a w g c g/\match dJ G i v s with
 |.ok ak q=>ak=v/\q.c=s.c/\q.fu=s.fu/\o=π (bT g.tb v)/\Rm b c a e d G N q g (z+1)
 |.over x k q=>q=s/\o=ov x k []/\Rm b c a e d G N s g z
 |_=>False:=by
 obtain⟨a4,a5,H⟩:=iT w (γ #[U v.g,.int à v.n,ι ⟨ξ v.t⟩,Γ<|pad g.tb v.h] 180)<|γ #[U 0,.int à 0,ι ⟨#[]⟩,Γ none] 180;have CA:=O H;have a9:=O λc=>eU (w':=c) a4;have aa:=O λc=>eU (w':=c) a5;have f:=h.y H;obtain⟨fz,lt,m0,m1,m2,m3,m4⟩:=f.mc;have u:=f.gs.look i hi;have D:=O<|aJ.y (wB:=b) (mb:=a) (g:=g) H;have R:=O a4;have S:=O a5;have ab:Hid (g.ow (V w.heap)=none/\g.ow (V w.heap+1)=none/\a<V w.heap/\V b.heap<=V w.heap):=⟨h.new<|vQ _,h.new W,h.mc.2.1,h.P.size⟩;unfold dJ;cases p:G i with
 |none=>
  rw[p]at u;have T:Hid (∀x y,I No w<|(w.alloc x).alloc y):=λx y=>(iT w x y).2.2;have H0:Hid (∀c,I No w c->Rm b c a e d G N s g (z+1)):=λc M=>(h.y M).more W;simp only[Option.getD_none,Option.isSome_none]at u;clear h f p;unfold bT;go_in;go_wp2;exact ç (by simp[ã,results175,go_sem]) K ⟨aJ.y<|T.u _ _,trivial,trivial,trivial,K,H0.u _<|T.u _ _⟩
 |some t=>
  rw[p]at u;simp only[Option.getD_some,Option.isSome_some]at u;by_cases L:bits .and χ v.g t=0
  .have HS:=O<|yG 2 i;have H':=O f;simp only[yY L];clear h f p;unfold bT;go_in;go_wp2_with fail;refine(HS.u _).mono ?_;rintro o aw ⟨rfl,rfl⟩;exact⟨K,D.u,trivial,K,H'.u⟩
  .have am:(bits .and χ v.g t==0)=κ:=by simpa using L
   simp only[wY L];obtain⟨i0,ae,ah,ai,aj⟩:=ý Tryz.qg;obtain⟨ap,ev,b1,b2,n⟩:=f.blk;obtain⟨l,m,rfl⟩:=B8 n;have c6:δ _ (J a 6)=C (Y l (Q s.ev) m):=(ä _ _ 6 _ _ _ b1).trans K;have an:Q s.ev<=1000000000:=by obtain⟨aq,hm,_⟩:=f.mem;omega
   have a7:Θ (Y l (Q s.ev) m)≠C a:=λo=>by
    obtain⟨_,al,y⟩:=A9 n a o;grind
   have ag:=f.P.size;simp only[Ô]at ag lt;have P:=B6 (ν No (ω (ω w<|γ #[U v.g,.int à v.n,ι ⟨ξ v.t⟩,Γ<|pad g.tb v.h] 180)<|γ #[U 0,.int à 0,ι ⟨#[]⟩,Γ none] 180)<|γ #[U i,U v.g] 69)<|Ψ No _ 1;have HY:=O<|A3 n P λ_ _ x=>x;have B:=O P;have ao:=VS n;have Z:Hid (∀j v',I (λk=>Θ (Y l (Q s.ev) m)=C k) _ j->ρ j (V b.heap) 69 2 v' (Q s.ev+1) (jN s.ev++[U i,U v.g])->_):=λj v' M hv=>f.uc c6 M i v.g hv;clear h f p b1 b2 n P;unfold bT;go_in;go_wp2_with fail;go_region_law (
    refine step_append_lies _ Ω _ _ _ Ω (V b.heap) 69 i0 (.agg #[U 0,U 0]) 2 16 underlying29 ae ah ai aj K W (Y l (Q s.ev) m) (Q s.ev) (jN s.ev) Ω HY.u (J (V w.heap+1+1) 0) 1 1 [U i,U v.g] Ω Ω (Ó (cs:=#[U i,U v.g]) (t:=69) (fr:=(0,0)) (EZ w _ _ _).2.2.1) (by simp[Value.oneCell']) W Ñ W â (V w.heap+1+1+1) θ ?_;intro gg ac j a8 r ad af;have z4:δ j (J a 6)=C (Y l (Q s.ev) m):=by rw[r.cell_far _ â<|Ne.symm a7];exact A4 B.u c6
    have y4:j.frozen? (J a 6)=κ:=by rw[r.frozen_far _ â<|Ne.symm a7];exact U4 ù<|fz 6);all_goals
    have a6:I (λk=>Θ (Y l (Q s.ev) m)=C k) _ j:=(B.u.mono λ_ _ x=>x.elim).trans (ü r) λk hk x=>x.symm;obtain⟨a3,A⟩:=Z.u _ _ a6 a8;obtain⟨n1,n2,n3,n4⟩:=ab.u;obtain⟨a1,-⟩:=A.eu R.u n1 W ζ ζ;obtain⟨F,-⟩:=A.eu S.u n2 W ζ ζ;obtain⟨ar,au,av,p3,-,pl⟩:=eU a1<|ì No _;obtain⟨q0,q1,q2,q3,qz,ql⟩:=eU F<|ì No _;have HR:=O (a3.je F n2 W W);have HK:=O<|D.u.trans A;clear B a6 a8 r ad af Z a3 A a1 F HY z4 y4 R S D CA a9 aa;generalize σ j (J a 6) (Y (C<|J gg 0) (Q s.ev+1) ac)=ax at*;go_wp2;exact ç (by simp[ã,results175,go_sem,q0,q1,q2,q3]) K ⟨HK.u.je W _ _ _ _,trivial,trivial,trivial,K,HR.u _ _ _ _⟩
end
structure fJ(wB:E)(c:Cx)(pb qb:Nat)(nv:υ):Prop where
 ok:jG c
 ey:cU wB nv c.N
 names:cQ wB qb 5000<|lS c
 blk:∃yv mn lb fv ov,wB.heap[pb]?=C (γ (rM c nv yv mn lb qb fv ov) 96 (0,0))
 uh:Tbl wB
 pg:∀i:Nat,∀h:i<Q c.N,c.N[i].x=26->∀x∈c.N[i].M,0<=x/\x<Q c.N/\17<=(aA c.N x).x/\(aA c.N x).x<=25
def aR(c:Cx)(i:Int):Int:=(lS c i).getD 0
def Kv(a:List Vl)(c:Ms)(b:Gh)(_:E)(v:υ):Prop:=∃u,a=[u]/\aZ c.c u/\v=bT b.tb u
def Kn(_:List Vl)(_:Ms)(_:Gh)(_:E)(v:υ):Prop:=v=.tuple #[]
def CR(f:E)(b e d:Nat)(G:Int->Option Int)(c:Cx)(F:Nat)(h:List Vl->Ms->Gh->E->υ->Prop)(P:Int->Prop)(m:Int->Option Nat->X (List Vl)):Prop:=
 ∀(w) (s) (g) (z) (a) (i),Rm f w b e d G c.N s g z->z<=1000000000->iL s.c a->P i->m i a s≠.stk->
  μ ε F #[pV b,U i,Γ<|pad g.sb a] w (RP f b e d G c.N z w g s h<|m i a s)
def oM(c:Cx)(i:Int):Prop:=0<=i/\i<Q c.N/\aP (aA c.N i).x
def CE(f:E)(b e d:Nat)(G:Int->Option Int)(c:Cx)(P:Int->Prop)(m:Int->Option Nat->X (List Vl)):Prop:=
 ∀(w) (s) (g) (z) (a) (i),Rm f w b e d G c.N s g z->z+4000<=1000000000->iL s.c a->P i->m i a s≠.stk->
  μ ε 176 #[pV b,U i,Γ<|pad g.sb a] w (RP f b e d G c.N (z+3000) w g s Kv<|m i a s)
def CT(e:E)(a d b:Nat)(G:Int->Option Int)(c:Cx)(F:Nat)(P:Int->Prop)(m:Int->Option Nat->X (List Vl)):Prop:=
 ∀(w) (s) (g) (z) (j) (i),Rm e w a d b G c.N s g z->z<=1000000000->j<Q s.c.S->P i->m i (C j) s≠.stk->
  μ ε F #[pV a,U i,Γ<|pad g.sb<|C j] w (RP e a d b G c.N (z+1) w g s Kn<|m i (C j) s)
def LL(c:Cx)(i:Int):Prop:=0<=i/\i<Q c.N/\17<=(aA c.N i).x/\(aA c.N i).x<=25
def iB(c:Cx)(k i:Int):Prop:=0<=i/\i<Q c.N/\(aA c.N i).x=k
section
variable{c w d:E}{a f e z:Nat}{G:Int->Option Int}{N:List Nd}{s:Ms}{g:Gh}
def RP.pre{H}{q}{r:Rr H}{t}{F}{y}{D}(o:aJ c a w g F y)(A:Gr s.c D.c)(h:RP c a f e G N z F y D q r t d):RP c a f e G N z w g s q r t d:=by
 cases r with
 |stk=>exact h
 |ok L B=>
  obtain⟨b,v,j,k,l,m,n⟩:=h;exact⟨b,v,j,o.trans k,l,A.trans m,n⟩
 |over x i B=>
  obtain⟨b,p,j,k,l⟩:=h;exact⟨b,p,j,o.trans k,l⟩
 |back u B=>
  obtain⟨b,p,j,k,l,m,n⟩:=h;exact⟨b,p,j,o.trans k,l,A.trans m,n⟩
def RP.more{A}{p}{r:Rr A}{q}{y}(n:z<=y)(h:RP c a f e G N z w g s p r q d):RP c a f e G N y w g s p r q d:=by
 cases r with
 |stk=>exact h
 |ok B t=>
  obtain⟨b,v,j,k,l,m⟩:=h;exact⟨b,v,j,k,l.more n,m⟩
 |over x i t=>
  obtain⟨b,o,j,k,l⟩:=h;exact⟨b,o,j,k,l.more n⟩
 |back u t=>
  obtain⟨b,o,j,k,l,m⟩:=h;exact⟨b,o,j,k,l.more n,m⟩
def RP.fail{r v}{y}{K'}{m:X r}{k:r->X v}{l}(h:RP c a f e G N z w g s y (m s) l d)(D:∀t j,m s≠.ok t j):(∃b,l=Â b)/\RP c a f e G N z w g s K' ((m.bd k) s) l d:=by
 unfold X.bd;cases q:m s with
 |stk=>rw[q]at h;exact h.elim
 |ok t j=>grind
 |over x i j=>
  rw[q]at h;obtain⟨n,b,rfl,o,p⟩:=h;exact⟨⟨_,K⟩,n,b,K,o,p⟩
 |back u j=>
  rw[q]at h;obtain⟨n,b,rfl,o,p,A,B⟩:=h;exact⟨⟨_,K⟩,n,b,K,o,p,A,B⟩
def RP.cut{p y}{q}{K'}{m:X p}(k:p->X y){l}(h:RP c a f e G N z w g s q (m s) l d):
 (∃o,l=Â o/\RP c a f e G N z w g s K' ((m.bd k) s) (Â o) d)\/∃j b n v,l=π v/\(m.bd k) s=k j b/\m s=.ok j b/\aJ c a w g d n/\Rm c d a f e G N b n z/\Gr s.c b.c/\q j b n d v:=by
 cases t:m s with
 |stk=>rw[t]at h;exact h.elim
 |ok j b=>
  rw[t]at h;obtain⟨n,v,A,r,B,D,F⟩:=h;grind[J0]
 |over x i b=>
  obtain⟨⟨o,rfl⟩,r⟩:=RP.fail (K':=K') (k:=k) h λj b l=>η;grind
 |back u b=>
  obtain⟨⟨o,rfl⟩,r⟩:=RP.fail (K':=K') (k:=k) h λj b l=>η;grind
def WJ{i}{s b}(h:aU s=.ok i b):s.fu≠0/\b={s with fu:=s.fu-1}:=by
 grind[aU]
def DY{b i}(h:i=b):Gr b i:=h ▸ Á _
def Oe{j}{k}(az:jG j)(hE:CE c a f e G j (oM j) λi m=>rn j.N (aR j) G k (.e i) m):
 CR c a f e G j 114 Kv (oM j) λi m=>rn j.N (aR j) G (k+1) (.v i) m:=by
 intro w s g z m i h hz aj A ai;have ay:0<=i/\i<=1000000:=by have:=az.fp;have:=A.1;have:=A.2.1;omega
 have ah:=rY w<|γ #[U 0,.int à 0,ι ⟨#[]⟩,Γ none] 180;have F:=ν No w<|γ #[U 0,.int à 0,ι ⟨#[]⟩,Γ none] 180;have B:=O (⟨h.new<|vQ _,h.mc.2.1,h.P.size⟩:g.ow (V w.heap)=none/\a<V w.heap/\V c.heap<=V w.heap);have ab:=O<|Bf (h.y F) hz;have av:Hid (s.fu≠0->4000<=z):=λh0=>by obtain⟨b5,hm,_⟩:=h.mem;omega
 have ap:Hid (∀d g',aJ c a _ g d g'->_):=λd g' hf=>hf.eu ah B.u.1 (by have:=B.u.2.1;omega) ζ ζ;have a6:=O<|aJ.y (wB:=c) (mb:=a) (g:=g) F;have HE:=O hE;have au:=O aj;have HI:=O A;have q:=O ai;show μ _ _ _ _<|RP c a f e G j.N z w g s Kv<|(aU.bd λ_=>(rn j.N (aR j) G k (.e i) m).bd λr=>(dJ G i<|r1 r).bd λv=>aF [v]) s;replace q:Hid ((aU.bd λ_=>(rn j.N (aR j) G k (.e i) m).bd λr=>(dJ G i<|r1 r).bd λv=>aF [v]) s≠.stk):=q;obtain⟨ac,R⟩:∃ac,ac=(aU.bd λ_=>(rn j.N (aR j) G k (.e i) m).bd λr=>(dJ G i<|r1 r).bd λv=>aF [v]) s:=⟨_,K⟩;rw[<-R]at q⊢;have HR:=O R;generalize hp:pad g.sb m=b6 at*;clear h F ah hE ai aj A R;go_in;go_wp2_with fail;refine ab.u.mono ?_;rintro ad b1 ⟨t,n⟩;cases l:aU s with
 |stk=>rw[l]at n;exact n.elim
 |back u p=>rw[l]at n;exact n.elim
 |over b3 b0 p=>
  rw[l]at n;obtain⟨rfl,x,rfl⟩:=n;rw[HR.u,I5 l];exact⟨K,g,[],K,a6.u.trans t,x⟩
 |ok aw p=>
  rw[l]at n;obtain⟨rfl,x,T⟩:=n;have b4:=av.u (WJ l).1;have y:=HR.u;rw[J0 l]at y;have Z:=q.u;rw[y]at Z;have ak:iL p.c m:=by rw[T];exact au.u
  have D:=O (HE.u b1 p g (z-4000) m i x W ak HI.u<|P8 Z);have a7:=O<|a6.u.trans t;have al:=O t;rw[hp]at D;have a9:=O y;have a4:=O T;clear t x l y Z ab ak T;go_wp2_with fail;refine D.u.mono ?_;rintro ad b7 hx;obtain⟨ps,rfl,hh⟩|⟨aw,s2,M,v,rfl,e1,-,H,r2,ae,u,rfl,hu,rfl⟩:=RP.cut (λr=>(dJ G i<|r1 r).bd λv=>aF [v]) hx
  .rw[a9.u];exact⟨K,(hh.pre a7.u<|DY a4.u).more W⟩
  .have HG:=O<|Gp r2 W i ay u;have S:=a9.u;rw[e1]at S;have aa:=O S;have a8:=O<|a7.u.trans H;have am:=O<|al.u.trans H;have HU:=O hu;have ao:=O<|(DY a4.u).trans ae;clear hx e1 S H r2 ae D hu;unfold bT at HG⊢;go_wp2_with fail;refine HG.u.mono ?_;rintro ad b2 ⟨L,o⟩;have af:r1 [u]=u:=K;cases l:dJ G i u s2 with
   |stk=>rw[l]at o;exact o.elim
   |back u p=>rw[l]at o;exact o.elim
   |over b3 b0 s3=>
    rw[l]at o;obtain⟨rfl,rfl,P⟩:=o;rw[aa.u,af,I5 l];exact⟨K,M,[],K,a8.u.trans L,P.more W⟩
   |ok b s3=>
    rw[l]at o;obtain⟨rfl,ax,-,rfl,P⟩:=o;have ag:=aa.u;rw[af,J0 l]at ag;obtain⟨a2,a3⟩:=ap.u b2 M<|am.u.trans L;obtain⟨q0,q1,q2,q3,qz,ql⟩:=eU a2<|ì No _;obtain⟨n1,n2,n3⟩:=B.u;have ar:=O ((P.je a2 a3 W W));have an:=O<|a8.u.trans L;have a5:=O ax;have aq:=O ag;go_wp2;refine ç (by simp[ã,results114,go_sem,q0,q1,q2,q3];rfl) K ?_;rw[aq.u];exact⟨M,_,K,an.u.je (vQ _) _ _ _ _,(ar.u _ _ _ _).more W,ao.u.trans<|DY a5.u,_,K,by rw[a5.u];exact HU.u,K⟩
end
def Tryz.nt:(prog.info? 180).map (λi=>(i.zero,i.size,i.bytes))=C (C<|.agg #[U 0,.int à 0,ι ⟨#[]⟩,Γ none],4,40):=î
def gU(w:E)(g:Gh)(B:Nat)(v:υ)(l:List Vl):Prop:=ρ w B 180 4 v (Q l) (l.flatMap<|gF g.tb)/\∀q,Θ v=C q->g.ow q=none
def Ks(B:Nat)(a:List Vl)(c:Ms)(b:Gh)(d:E)(v:υ):Prop:=(∀u∈a,aZ c.c u)/\gU d b B v a
theorem A2e{N}{b}{G}(k)(i)(l:uZ)(c)(f)(s):
 ((rn N b G (k+1) (.vs<|i::l) c).bd λq=>aF<|f++q) s=((rn N b G k (.v i) c).bd λr=>(rn N b G k (.vs l) c).bd λq=>aF<|(f++[r1 r])++q) s:=by
 rw[rn];unfold X.bd;cases rn N b G k (.v i) c s with
 |ok a d=>
  simp only;cases rn N b G k (.vs l) c d<;>simp_all[rn,aF,bR]
 |over e i d=>rfl
 |back v d=>rfl
 |stk=>rfl
section
variable{a w i:E}{c f d z:Nat}{G:Int->Option Int}{N:List Nd}{s:Ms}{g h:Gh}
def gU.eu{B}{v}{l}(p:gU w g B v l)(m:Rm a w c f d G N s g z)(k:aJ a c w g i h)(D:∀u∈l,aZ s.c u):gU i h B v l:=by
 obtain⟨j,t⟩:=p;obtain⟨_,_,F,_⟩:=m.blk;refine⟨?_,λq b=>?_⟩
 .rw[OX (f:=gF g.tb) (f':=gF h.tb) λu A=>(wR k.tb (D u A) m.tl).2];refine A3 j k.P λq b x=>?_;obtain⟨_,o,n⟩:=A9 j q b;obtain x|⟨r,x,_⟩|⟨_,cs,e,fz,y,y2⟩:=x<;>grind
 .obtain⟨_,o,n⟩:=A9 j q b;exact k.no (aG n)<|t q b
theorem gU.grow{B}{v e}{l}(o:gU w g B v l)(j:Rm a w c f d G N s g z)(D:V a.heap<=B)(r:I (λk=>Θ v=C k) w i){u}(L:ρ i B 180 4 e (Q l+1)<|l.flatMap (gF g.tb)++gF g.tb u)(b:Θ e=Θ v\/∃n,Θ e=C n/\V w.heap<=n):gU i g B e (l++[u])/\Rm a i c f d G N s g z:=by
 obtain⟨p,A⟩:=o;obtain⟨_,_,t,_⟩:=j.blk;refine⟨⟨η,λq m=>?_⟩,j.calm r λk _ x=>?_⟩
 .obtain b|⟨n,b,hn⟩:=b
  .grind
  .rw[b]at m;cases m;exact j.new hn
 .obtain⟨H,y,F⟩:=A9 p k x;grind
def aJ.fresh{j b}{h}(e:aJ a c w g j h){S}(m:I S j b)(l:∀k,k<V w.heap->¬S k):aJ a c w g b h:=⟨e.P.trans m λo n x=>(l o n x).elim,e.ow,e.tb,e.sb⟩
def XE{b}{p}(hV:∀k,k<p->CR a c f d G b 114 Kv (oM b) λah m=>rn b.N (aR b) G k (.v ah) m)
 (M:Rm a w c f d G b.N s g z) (hz:z<=1000000000) {m} (ag:iL s.c m) {l} {la} {lc} (hl:ρ a 0 3 1 (Y la (Q l) lc) (Q l)<|C8 l) (aw:∀ah∈l,oM b ah) (hn:Q l<=100000) (ae:rn b.N (aR b) G p (.vs l) m s≠.stk):
 μ ε 236 #[pV c,Y la (Q l) lc,Γ<|pad g.sb m] w (RP a c f d G b.N z w g s (Ks (V w.heap))<|rn b.N (aR b) G p (.vs l) m s):=by
 obtain⟨R,hR⟩:∃R,R=rn b.N (aR b) G p (.vs l) m s:=⟨_,K⟩;have an:R=((rn b.N (aR b) G p (.vs<|l.drop 0) m).bd λq=>aF<|[]++q) s:=by
  rw[hR,List.drop_zero];unfold X.bd;cases rn b.N (aR b) G p (.vs l) m s<;>rfl
 rw[<-hR]at ae⊢;obtain⟨i0,b9,bc,bd,be⟩:=ý Tryz.nt;have HH:=O M;have HV:=O hV;have b6:=O ag;have HL:=O hl;have b2:=O aw;have a5:=O ae;have b4:=O an;have bb:=M.P.size;have HP:=O (λ(h:Gh) (hp:g.sb<+:h.sb)=>N8 hp (o:=m) λj e=>by rw[M.sl];exact ag j e);generalize pad g.sb m=br at*;clear M hV ag hl aw ae hR an;go_in;go_wp2_with fail;go_loopw [7,12] (λv7 ai wr=>∃(n k:Nat) (o:List Vl) (t:Ms) (r:Gh),n<=Q l/\ai=U (n:Int)/\Q o=n/\k<=p/\Hid (R=((rn b.N (aR b) G k (.vs<|l.drop n) m).bd λq=>aF<|o++q) t)/\Hid (Rm a wr c f d G b.N t r z)/\Hid (aJ a c w g wr r)/\Hid (Gr s.c t.c)/\Hid (∀u∈o,aZ t.c u)/\Hid (gU wr r (V w.heap) v7 o)) (λ_ ai _=>Q l-(intOf ai).toNat);case atStart=>exact⟨0,p,[],s,g,wQ _,K,K,vQ _,b4,HH,aJ.y<|ì _ _,Á _,(λ_ T=>η),kW _ _ _ _,λq P=>by grind[Θ]⟩
 case round=>
  obtain⟨n,k,o,t,r,bo,rfl,D,hk,H,A,v,y,F,a4⟩:=hrel;have a2:=O D;clear D;by_cases ax:n<Q l
  .obtain⟨k,rfl⟩:∃j,k=j+1:=by
    cases k with
    |zero=>exact absurd (H.u.trans K) a5.u
    |succ j=>simp
   have hx:=b2.u l[n]<|mQ ax;have S:=H.u;rw[List.drop_eq_getElem_cons ax,A2e]at S;have ay:=P8 (by rw[<-S];exact a5.u);have ar:=A3 HL.u A.u.P λ_ _ x=>x;obtain⟨gl,ba,-,bm,bj,b8,aq⟩:=D5 ar W;subst ba;have v0:=aq n (U l[n]) (by grind[C8]);have a8:=O<|HV.u k W wr t r z m l[n] A.u hz (b6.u.gr y.u) hx ay;rw[HP.u r v.u.sb]at a8;have a7:=O S;unfold Δ at b8;have bn:(n:Int)<(Q l:Int):=W;clear aq ar hx S ay H;generalize l[n]=x at*;go_wp2_with fail;refine a8.u.mono ?_;rintro e Z P;obtain⟨ps,rfl,hh⟩|⟨bh,s2,B,bs,rfl,e1,-,L,r2,a9,u,rfl,T,rfl⟩:=RP.cut (K':=Ks (V w.heap)) (λbf=>(rn b.N (aR b) G k (.vs<|l.drop<|n+1) m).bd λq=>aF<|(o++[r1 bf])++q) P
   .have:RP a c f d G b.N z w g s (Ks (V w.heap)) R (Â ps) Z:=by rw[a7.u];exact hh.pre v.u y.u
    exact⟨K,this⟩
   .have am:=a4.u.eu A.u L F.u;have hB:=aJ.y (wB:=a) (mb:=c) (g:=B)<|ν No Z<|γ #[U u.g,.int à u.n,ι ⟨ξ u.t⟩,Γ<|pad B.tb u.h] 180;have hA2:=λu T=>(F.u u T).gr a9;have aa:=am.eu r2 hB hA2;have a3:=O aa;have al:=O<|r2.y<|ν No Z<|γ #[U u.g,.int à u.n,ι ⟨ξ u.t⟩,Γ<|pad B.tb u.h] 180;have ak:=O<|v.u.trans<|L.trans hB;have b1:=O<|y.u.trans a9;have b0:Hid (∀aj∈o++[u],aZ s2.c aj):=λaj hy=>η;have a6:=O aa.1;have ac:=a7.u;rw[e1]at ac;have b5:=O ac;have bq:=kQ v.u.P.size L.P.size;have D:=a2.u;have bi:Q o<=100000:=W;rw[D]at a6;clear P am aa hB hA2 e1 ac L r2 a9 a8 T a7 a4 A v y F D;unfold bT;go_wp2_with (at_builtin;refine wpList_append_own_at _ K _ _ 207 K (V w.heap) 180 i0 _ 4 40 underlying207 b9 bc bd be K ζ _ n _ K a6.u (J (V Z.heap) 0) 1 1 [U u.g,.int à u.n,ι ⟨ξ u.t⟩,Γ<|pad B.tb u.h] K K ?c1 ?c2 ?c3 ?c4 ?c5 ?_);case c1=>grind[Ó,pad,rY]
    case c2=>intro aj hy;simp at hy;obtain rfl|rfl|rfl|rfl:=hy<;>rfl
    case c3=>grind[Δ]
    case c4=>omega
    case c5=>simp;omega
    intro v' bg af au _ ap;have ad:I (λk=>Θ u7=C k) _ bg:=(ü au).mono λk _ x=>x.symm;have az:∀q,q<V w.heap->¬Θ u7=C q:=λq P e=>by
     have:=(A9 a3.u.1 q e).1;omega
    rw[<-a2.u]at af;obtain⟨l4,r4⟩:=a3.u.grow al.u bb ad af<|ap.imp id λe=>⟨_,e,θ⟩;have L4:=O l4;have R4:=O r4;have F4:=O<|ak.u.fresh ad az;have b7:Hid (Q (o++[u])=n+1):=by show _=_;simp[a2.u]
    clear l4 r4 ad af au ap a6 a3 al ak az;go_wp2;exact⟨⟨n+1,k,o++[u],s2,B,W,ï,b7.u,W,b5,R4,F4,b1,b0,L4⟩,by grind[intOf]⟩
  .have av:n=Q l:=W;have ab:=H.u;rw[av,List.drop_length]at ab;have ao:R=.ok o t:=by
    cases k with
    |zero=>exact absurd (ab.trans K) a5.u
    |succ k=>
     simp_all[rn,aR,aF,X.bd,bR]
   have b3:Hid (RP a c f d G b.N z w g s (Ks (V w.heap)) R (π u7) wr):=by
    show RP _ _ _ _ _ _ _ _ _ _ _ _ _ _;rw[ao];exact⟨r,u7,K,v.u,A.u,y.u,F.u,a4.u⟩
   have bp:¬(n:Int)<(Q l:Int):=W;clear ab ao av;go_wp2;go_ret;exact b3.u
end
section
variable{b w j:E}{d a f e z:Nat}{i:υ}{G:Int->Option Int}{c:Cx}{s:Ms}{g h:Gh}
def fJ.node(t:fJ b c a f i)(q:Rm b w d a e G c.N s g z){k}(H):
 ∃l n o p,a<V w.heap/\δ w (J a 0)=C (Y (C<|J l 0) (Q c.N) n)/\δ w (J a 4)=C (.map<|C f)/\l<V w.heap/\Q c.N<=n/\n<=9223372036854775807/\(δ w (J l<|k*9)=C (U c.N[k].x)/\δ w (J l<|k*9+1)=C (U c.N[k].a)/\δ w (J l<|k*9+2)=C (U c.N[k].b)/\δ w (J l<|k*9+3)=C (U c.N[k].c)/\
  δ w (J l<|k*9+4)=C (Y o (Q c.N[k].M) p)/\δ w (J l<|k*9+5)=C (ι ⟨ξ c.N[k].text⟩)/\δ w (J l<|k*9+6)=C (U c.N[k].n)/\δ w (J l<|k*9+7)=C (U c.N[k].ty)/\δ w (J l<|k*9+8)=C (U c.N[k].at'))/\
  ρ b 0 3 1 (Y o (Q c.N[k].M) p) (Q c.N[k].M) (C8 c.N[k].M):=by
 obtain⟨yv,mn,lb,fv,ov,u⟩:=t.blk;have D:=(aG u);have r:=(q.P.block a D id).trans u;obtain⟨l,n,o,p,L,F,y,h2,A,B,h5⟩:=t.ey.at (Below.refl _ _) k H;obtain⟨M,N,P,R,S,T,Z,k7,k8⟩:=A;have m:=λ{v:í} {a2:υ} (x:b.cell? v=C a2)=>A4 q.P x;refine⟨l,n,o,p,(aG r),?_,?_,yQ F q.P.size,y,Ñ,⟨m M,m N,m P,m R,m S,m T,m Z,m k7,m k8⟩,B⟩
 .rw[ä _ _ 0 _ _ _ r,<-L];rfl
 .rw[ä _ _ 4 _ _ _ r];rfl
def Mz{r}(hS:fJ b c a f i)(hT:∀k,k<r->CT b d a e G c 62 (LL c) λm x=>rn c.N (aR c) G k (.s m) x):
 CR b d a e G c 31 Kn (iB c 26) λm x=>rn c.N (aR c) G (r+1) (.b m) x:=by
 intro w s g z x m am hz av hi aa;obtain⟨aq,ba,a9⟩:=hi;obtain⟨m,rfl⟩:=È aq;have S:m<Q c.N:=W;rw[B7 S]at a9;have aw:=hS.pg m S a9;obtain⟨R,hR⟩:∃R,R=((fM x).bd λl=>rn c.N (aR c) G r (.ss c.N[m].M)<|C l) s:=⟨_,K⟩;have an:rn c.N (aR c) G (r+1) (.b m) x s=R:=by rw[hR,rn,B7 S]
 simp only[an]at aa⊢;have af:=O<|Je am av;have HT:=O hT;have a4:=O aa;have HR:=O hR;have b4:=O aw;have HX:Hid (∀B A p,Rm b B d a e G c.N A p z->_):=λB A p h1=>(⟨h1.mc,hS.node h1 S⟩:_/\_);clear am hS hT aa hR an aw av aq ba a9;generalize pad g.sb x=bv at*;go_in;go_wp2_with fail;refine af.u.mono ?_;rintro N B M;obtain⟨ps,rfl,hh⟩|⟨l,A,p,be,rfl,L,-,ai,T,ak,hj,rfl⟩:=RP.cut (λl=>rn c.N (aR c) G r (.ss c.N[m].M)<|C l) M
 .have:RP b d a e G c.N z w g s Kn R (Â ps) B:=by rw[HR.u];exact hh
  exact⟨K,this⟩
 obtain⟨⟨fz,lt,m0,m1,m2,m3,m4⟩,gn,nc,la,lc,q0,q1,q2,q3,q4,q5,⟨x0,x1,x2,x3,x4,x5,x6,x7,x8⟩,ho⟩:=HX.u B A p T;have HO:=O ho;have b1:=O T;have a2:=O ai;have ae:=O ak;have ay:=O hj;have a7:=HR.u;rw[L]at a7;have b2:=O a7;have b0:=O (λ(h:Gh) (hp:p.sb<+:h.sb)=>N8 hp (o:=C l) λj' N=>by cases N;rw[T.sl];omega);generalize pad p.sb (C l)=pj at*;generalize c.N[m].M=o at*;clear M L ho T ai ak hj a7 af m1 m2 m3 m4 x0 x1 x2 x3 x5 x6 x7 x8 HR;go_wp2;go_loopw [24] (λab wr=>∃(n k:Nat) (v:Ms) (t:Gh),n<=Q o/\ab=U n/\k<=r/\Hid (R=rn c.N (aR c) G k (.ss<|o.drop n) (C l) v)/\Hid (Rm b wr d a e G c.N v t z)/\Hid (aJ b d B p wr t)/\Hid (Gr A.c v.c)) (λab _=>Q o-(intOf ab).toNat);case atStart=>exact⟨0,r,A,p,wQ _,K,vQ _,b2,b1,aJ.y<|ì _ _,Á _⟩
 case round=>
  obtain⟨n,k,v,t,br,rfl,hk,a5,H,D,F⟩:=hrel;by_cases au:n<Q o
  .obtain⟨k,rfl⟩:∃l,k=l+1:=by
    cases k with
    |zero=>exact absurd (a5.u.trans K) a4.u
    |succ l=>simp
   have hx:=b4.u o[n]<|mQ au;have y:=a5.u;rw[List.drop_eq_getElem_cons au,rn]at y;have b9:=A3 HO.u H.u.P λ_ _ ac=>ac;obtain⟨gl,bc,-,bq,bp,b7,b8⟩:=D5 b9 W;subst bc;have v0:=b8 n (U o[n]) (by grind[C8]);have b3:=O<|Bf H.u hz;have b6:Hid (v.fu≠0->4000<=z):=λh0=>by obtain⟨bu,hm,_⟩:=H.u.mem;omega
   have ah:=O y;have b5:=O hx;unfold Δ at b7;generalize o[n]=ac at*;go_wp2_with fail;refine b3.u.mono ?_;rintro N ax ⟨aj,q⟩;cases u:aU v with
   |stk=>rw[u]at q;exact q.elim
   |back bw Z=>rw[u]at q;exact q.elim
   |over bg j' Z=>
    rw[u]at q;obtain⟨rfl,h3,rfl⟩:=q;have:RP b d a e G c.N z w g s Kn R (ov bg j' []) ax:=by
     rw[ah.u,I5 u];exact⟨t,[],K,a2.u.trans<|D.u.trans aj,h3⟩
    exact⟨K,this⟩
   |ok bn Z=>
    rw[u]at q;obtain⟨rfl,h3,ap⟩:=q;have bt:=b6.u (WJ u).1;have y:=ah.u;rw[J0 u]at y;have bd:=P8 (by rw[<-y];exact a4.u);have bb:l<Q Z.c.S:=by rw[ap];exact yQ ay.u F.u.S
    have a6:=O<|HT.u k W ax Z t (z-4000) l ac h3 W bb b5.u bd;rw[b0.u t D.u.sb]at a6;have ag:=O y;have a3:=O<|D.u.trans aj;have ad:=O ap;go_wp2_with fail;refine a6.u.mono ?_;rintro N bf M;obtain⟨ps,rfl,hh⟩|⟨bo,s4,g4,be,rfl,L,-,f4,r4,al,rfl⟩:=RP.cut (λ_=>rn c.N (aR c) G k (.ss<|o.drop<|n+1)<|C l) M
    .have:RP b d a e G c.N z w g s Kn R (Â ps) bf:=by
      rw[ag.u];exact(hh.pre (a2.u.trans a3.u)<|ae.u.trans<|F.u.trans<|DY ad.u).more W
     exact⟨K,this⟩
    .have a8:=ag.u;rw[L]at a8;have bm:=O a8;have bj:=O (r4.more<|show z-4000+1<=z by omega);have bh:=O<|a3.u.trans f4;have bi:=O<|F.u.trans<|(DY ad.u).trans al;clear M L a8 f4 r4 al a6 a3 H D F;go_wp2;grind[intOf]
  .have ar:n=Q o:=W;have P:=a5.u;rw[ar,List.drop_length]at P;have ao:R=.ok [] v:=by
    cases k with
    |zero=>exact absurd (P.trans K) a4.u
    |succ k=>
     rw[P,rn];rfl
   have az:Hid (RP b d a e G c.N z w g s Kn R (rT) wr):=by
    show RP _ _ _ _ _ _ _ _ _ _ _ _ _ _;rw[ao];exact⟨t,_,K,a2.u.trans D.u,H.u,ae.u.trans F.u,K⟩
   have bs:¬(n:Int)<(Q o:Int):=W;clear P ao ar;go_wp2;go_end0;exact az.u
end
abbrev Ab:Obj:=γ #[U 0,.int à 0,ι ⟨#[]⟩,Γ none] 180
abbrev Ac(n:Nd)(l:Option í)(m:Nat):Obj:=γ #[U n.x,U n.a,U n.b,U n.c,Y l (Q n.M) m,ι ⟨ξ n.text⟩,U n.n,U n.ty,U n.at'] 82
structure Ag(w:E)(b d e:Nat)(c:Cx)(s:Ms)(x:Int)(n:Nd)(o:Option í)(p l j k:Nat):Prop where
 a0:∀o,w.frozen? (J b o)=κ
 a1:b<V w.heap
 a2:δ w (J b 1)=C (.map<|C e)
 a3:δ w (J b 2)=C (.int χ s.fu)
 a4:δ w (J b 3)=C (.int χ s.c.ca)
 a5:δ w (J b 4)=C (.int χ s.c.th)
 a6:d<V w.heap
 a7:δ w (J d 0)=C (Y (C<|J j 0) (Q c.N) k)
 a8:j<V w.heap
 a9:Q c.N<=k
 b0:k<=9223372036854775807
 b1:δ w (J j<|l*9)=C (U x)
 b2:δ w (J j<|l*9+1)=C (U n.a)
 b3:δ w (J j<|l*9+2)=C (U n.b)
 b4:δ w (J j<|l*9+3)=C (U n.c)
 b5:δ w (J j<|l*9+4)=C (Y o (Q n.M) p)
 b6:δ w (J j<|l*9+5)=C (ι ⟨ξ n.text⟩)
 b7:δ w (J j<|l*9+6)=C (U n.n)
 b8:δ w (J j<|l*9+7)=C (U n.ty)
 b9:δ w (J j<|l*9+8)=C (U n.at')
section
variable{a w w':E}{b d f e z:Nat}{h:υ}{G:Int->Option Int}{c:Cx}{s:Ms}{g g':Gh}
def qK{kd va vb vc}{lv}{tx}{vn vt vp}(j:Rm a w b d e G c.N s g z)(l:aJ a b (ω w<|γ #[U kd,U va,U vb,U vc,lv,ι tx,U vn,U vt,U vp] 82) g w' g'):
 δ w' (J (V w.heap) 0)=C (U kd)/\δ w' (J (V w.heap) 1)=C (U va)/\δ w' (J (V w.heap) 2)=C (U vb)/\δ w' (J (V w.heap) 3)=C (U vc)/\δ w' (J (V w.heap) 4)=C lv/\δ w' (J (V w.heap) 5)=C (.string tx)/\δ w' (J (V w.heap) 6)=C (U vn)/\δ w' (J (V w.heap) 7)=C (U vt)/\δ w' (J (V w.heap) 8)=C (U vp)/\V w.heap<V w'.heap:=by
 obtain⟨k,-⟩:=l.eu (rY w _) (j.new<|vQ _) (by have:=j.mc.2.1;omega) ζ ζ;have i:=λo=>ä w' (V w.heap) o _ _ _ k;exact⟨i 0,i 1,i 2,i 3,i 4,i 5,i 6,i 7,i 8,(aG k)⟩
def M4{i}{x}(k:Pe c.N i x):oM c x:=by
 obtain⟨j,rfl,_,m,l⟩:=k;exact⟨W,W,by grind[B7]⟩
def SA{i}{k x}(l:Pk c.N i k x):iB c k x:=by
 obtain⟨j,rfl,_,n,m⟩:=l;exact⟨W,W,by grind[B7]⟩
abbrev qF(a:E)(b d e:Nat)(G:Int->Option Int)(c:Cx)(k:Int)(m:Int->Option Nat->X (List Vl)):Prop:=CT a b d e G c 62 (iB c k) m
abbrev gA(a:E)(b d e:Nat)(G:Int->Option Int)(c:Cx)(k:Nat):Prop:=CR a b d e G c 114 Kv (oM c) λi j=>rn c.N (aR c) G k (.v i) j
theorem sM{N:List Nd}{l:Int->Int}(k)(i)(m:Option Nat):rn N l G (k+1) (.s i) m=
 let n:=aA N i;let v:=λi=>rn N l G k (.v i) m;if n.x=17 then (v n.a).bd λr=>(eY (m.getD 0) i<|r1 r).bd λ_=>aF []
 else if n.x=18 then (v n.a).bd λr=>(iQ (l i) m).bd λj=>(eY j (l i)<|r1 r).bd λ_=>aF []
 else if n.x=19 then (v n.a).bd λo=>(v n.b).bd λr=>(mC i n.text (r1 o)<|r1 r).bd λ_=>aF []
 else if n.x=20 then (v n.a).bd λo=>(v n.b).bd λp=>(v n.c).bd λr=>(lE i (r1 o) (r1 p)<|r1 r).bd λ_=>aF []
 else if n.x=21 then (v n.a).bd λr=>(vX (r1 r).ma).bd λ_=>aF []
 else if n.x=22 then (v n.a).bd λr=>if (r1 r).j8 then rn N l G k (.b n.b) m else if n.c=-1 then aF [] else rn N l G k (.b n.c) m
 else if n.x=23 then rn N l G k (.w i) m
 else if n.x=24 then (v n.a).bd λr=>ret<|r1 r
 else (v n.a).bd λ_=>aF []:=Ω
def Dv{i}(j:jG c)(k:i<Q c.N)(l:c.N[i].x=5\/c.N[i].x=18):0<=aR c i/\aR c i<=1000000:=by
 obtain⟨n,m,o,_⟩:=j.mw.tg i k l;have:=j.fp;unfold aR lS;grind
theorem gA.at{k}(n:gA a b d e G c k)(m:Rm a w b d e G c.N s g z)(r:z<=1000000000){sc}(q:iL s.c sc){l}(o:oM c l)(p:rn c.N (aR c) G k (.v l) sc s≠.stk):
 μ ε 114 #[pV b,U l,Γ<|pad g.sb sc] w (RP a b d e G c.N z w g s Kv<|rn c.N (aR c) G k (.v l) sc s):=n w s g z sc l m r q o p
def Al{k}{x:Int}(t:fJ a c d f h)(F:∀w s g z j (l:Nat) R i p,Rm a w b d e G c.N s g z->z<=1000000000->j<Q s.c.S->iL s.c (C j)->∀o:l<Q c.N,c.N[l].x=x->oI c.N c.T l c.N[l]->R≠.stk->R=rn c.N (aR c) G (k+1) (.s l) (C j) s->(λv:E=>I No w v->aJ a b w g v g->Rm a v b d e G c.N s g z->ρ a 0 3 1 (Y i (Q c.N[l].M) p) (Q c.N[l].M) (C8 c.N[l].M)->δ w (J b 0)=C (pV d)->δ w (J d 4)=C (.map<|C f)->∀m n,Ag w b d e c s x c.N[l] i p l m n->μ ε 62 #[pV b,U l,Γ<|pad g.sb<|C j] w (RP a b d e G c.N (z+1) w g s Kn R)) (w.alloc<|Ac c.N[l] i p)):qF a b d e G c x λi o=>rn c.N (aR c) G (k+1) (.s i) o:=by
 intro w s g z q l m y r ⟨A,_,p⟩ n;obtain⟨l,rfl⟩:=È A;have o:l<Q c.N:=W;rw[B7 o]at p;obtain⟨fz,lt,m0,m1,m2,m3,m4⟩:=m.mc;obtain⟨i,j,k,u,q0,q1,q2,q3,q4,q5,⟨x0,x1,x2,x3,x4,x5,x6,x7,x8⟩,B⟩:=t.node m o;have v:=ν No w<|Ac c.N[l] k u;exact F w s g z q l _ k u m y r (λ_ h=>η) o p (t.ok.ew l o) n K v (aJ.y v) (m.y v) B m0 q2 i j ⟨fz,lt,m1,m2,m3,m4,q0,q1,q3,q4,q5,p▸x0,x1,x2,x3,x4,x5,x6,x7,x8⟩
def KW{k}(q:fJ a c d f h)(v:gA a b d e G c k):qF a b d e G c 25 λi sc=>rn c.N (aR c) G (k+1) (.s i) sc:=by
 refine Al q ?_;rintro w s g z j i R la lc m hz hj h5 o n y A l p x r0 ho m0 q2 _ _ ⟨⟩;rw[sM]at l;simp only[B7 o,n]at l;simp at l;have B:=v.at r0 hz h5 (M4<|y.k1 W) (P8<|by rw[<-l];omega);have u:=O B;have r:=O x;have t:=O l;try generalize pad g.sb (C j)=pj at*
 generalize c.N[i]=nd at*;obtain⟨kd,va,vb,vc,ls,tx,vn,vt,vp⟩:=nd;simp only[Ac]at*;subst n;clear q v m l A y p ho hj B x;go_in;go_wp2_with fail;refine u.u.mono ?_;rintro H a2 hq;obtain⟨ps,rfl,S⟩|⟨a3,s2,N,a6,rfl,L,-,M,r2,P,a5,rfl,hu,rfl⟩:=RP.cut (λ_=>aF []) hq
 .exact⟨K,by rw[t.u];exact(S.pre r.u<|Á _).more W⟩
 .have F:Hid (RP a b d e G c.N (z+1) w g s Kn R (rT) a2):=by
   rw[t.u,L];exact⟨N,_,K,r.u.trans M,r2.more W,P,K⟩
  unfold bT;go_wp2;go_end0;exact F.u
def E1f{k}(q:fJ a c d f h)(y:gA a b d e G c k):qF a b d e G c 24 λi sc=>rn c.N (aR c) G (k+1) (.s i) sc:=by
 refine Al q ?_;rintro w s g z j i R la lc m hz hj h5 o n B D l p A r0 ho m0 q2 _ _ ⟨⟩;rw[sM]at l;simp only[B7 o,n]at l;simp at l;have F:=y.at r0 hz h5 (M4<|B.k1 W) (P8<|by rw[<-l];omega);have v:=O F;have r:=O A;have u:=O l;try generalize pad g.sb (C j)=pj at*
 generalize c.N[i]=nd at*;obtain⟨kd,va,vb,vc,ls,tx,vn,vt,vp⟩:=nd;simp only[Ac]at*;subst n;clear q y m l D B p ho hj F A;go_in;go_wp2_with fail;refine v.u.mono ?_;rintro L a4 hq;obtain⟨ps,rfl,S⟩|⟨a5,s2,x,a7,rfl,M,-,N,r2,P,a3,rfl,hu,rfl⟩:=RP.cut (λa2=>ret<|r1 a2) hq
 .exact⟨K,by rw[u.u];exact(S.pre r.u<|Á _).more W⟩
 .have t:Hid (RP a b d e G c.N (z+1) w g s Kn R (bk x.tb a3 []) a4):=by
   rw[u.u,M];exact⟨x,[],K,r.u.trans N,r2.more W,P,hu⟩
  unfold bk at t;unfold bT at*;go_wp2;exact⟨K,t.u⟩
def E3f{k}(y:fJ a c d f h)(H:gA a b d e G c k):qF a b d e G c 17 λi sc=>rn c.N (aR c) G (k+1) (.s i) sc:=by
 refine Al y ?_;rintro w s g z j i R la lc n P M h5 A q a6 a7 l t o r0 ho m0 q2 _ _ ⟨⟩;rw[sM]at l;simp only[B7 A,q]at l;simp only[Ö,if_false,if_true]at l;have N:=M4 (a6.ly q).2;have a9:=H.at r0 P h5 N (P8<|by rw[<-l];omega);obtain⟨sq,a8⟩:∃ae,s.c.S[j]?=C ae:=⟨_,gQ M⟩;obtain⟨D,r,S,aj,p3,-,-,u,-,-⟩:=n.scope a8;have aa:∀B,I No w B->μ ε 114 #[pV b,U c.N[i].a,Γ<|pad g.sb<|C j] B λm p=>(∃v,m=Â v/\RP a b d e G c.N (z+1) w g s Kn R (Â v) p)\/∃T Z ut up x,m=π (.agg #[U T,.int à Z,ι ut,Γ up])/\δ p (J D 0)=C (.map<|C r)/\D<V p.heap/\(Ï 175 (.map<|C r) (U (i:Int))<|.agg #[U T,.int à Z,ι ut,Γ up]).run ε p=.ok () x/\RP a b d e G c.N (z+1) w g s Kn R (rT) x:=by
  intro B hW;have o:=aJ.y (wB:=a) (mb:=b) (g:=g) hW;refine(H _ s g z (C j) c.N[i].a (n.y hW) P (λj' m=>η) N<|P8<|by rw[<-l];omega).mono ?_;rintro m p hq;obtain⟨v,rfl,L⟩|⟨ag,s2,g2,al,rfl,e1,-,F,r2,a4,ak,rfl,hu,rfl⟩:=RP.cut (K':=Kn) (λr=>(eY ((C j).getD 0) (i:Int)<|r1 r).bd λ_=>aF []) hq
  .exact .inl ⟨v,K,by rw[l];exact(L.pre o<|Á _).more W⟩
  .have ac:=yQ M a4.S;obtain⟨b',r',t1,t2,t3,x,t4,t5,t6⟩:=r2.ke (gQ ac) (x:=(i:Int)) (by have:=y.ok.fp;omega) hu P;have hb:b'=D:=by
    rw[N8 (o.trans F).sb (λj' m=>by cases m;rw[n.sl];omega),S]at t1;simpa using t1.symm
   subst hb;have a5:δ p (J b' 0)=C (.map<|C r):=by
    have:=(o.trans F).r6 n p3;unfold δ at u⊢;simp only at u⊢;rw[this];exact u
   have hr:r'=r:=by
    rw[a5]at t3;simpa using t3.symm
   subst hr;refine .inr ⟨_,_,_,_,x,K,a5,t2,t4,?_⟩;rw[l,e1];exact⟨g2,_,K,(o.trans F).trans t6,t5,a4.trans<|vF j _,K⟩
 have a2:=O a9;have af:=O o;have HR:=O l;have ah:(i:Int)<(Q c.N:Int):=W;have a3:=O aa;clear aa;have ad:=A4 t u;have CA:=O t;rw[S]at a3⊢;try generalize pad g.sb (C j)=pj at*
 generalize c.N[i]=nd at*;obtain⟨kd,va,vb,vc,ls,tx,vn,vt,vp⟩:=nd;simp only[Ac]at*;subst q;clear y H n l a7 N a6 t ho M a9 o a8 a2 S p3 u;go_in;go_wp2_with fail;go_region_with (go_at_call 114;refine(a3.u _<|B6 CA.u<|Ψ No _ 1).mono ?_;rintro m p (⟨v,rfl,L⟩|⟨T,Z,ut,up,x,rfl,e1,e2,e3,e4⟩);exact⟨K,L⟩;have E4:=O e4;clear e4);all_goals go_wp2_with fail
 all_goals go_end0
 all_goals exact E4.u
def E0f{k}(q:fJ a c d f h)(F:gA a b d e G c k):qF a b d e G c 18 λi sc=>rn c.N (aR c) G (k+1) (.s i) sc:=by
 refine Al q ?_;rintro w s g z j i R la lc p N hj h5 v u a8 L m r t r0 ho m0 q2 _ _ ⟨⟩;rw[sM]at m;simp only[B7 v,u]at m;simp only[Ö,if_false,if_true]at m;have M:=M4 (a8.k1 W);have ac:=F.at r0 N h5 M (P8<|by rw[<-m];omega);have ab:=Dv q.ok v<|.inr u;have aj:=q.names.P p.P λa3=>a3;have a9:∀o,I No a o->(Ì 64 (.map<|C f) (U (i:Int)) κ).run ε o=.ok (U<|aR c (i:Int)) o:=λo A=>(q.names.P A λa3=>a3).get (i:Int) (by have:=q.ok.fp;omega);have ad:∀o,I No w o->μ ε 114 #[pV b,U c.N[i].a,Γ<|pad g.sb<|C j] o λl n=>(∃x,l=Â x/\RP a b d e G c.N (z+1) w g s Kn R (Â x) n)\/∃P S Z T,l=π (.agg #[U P,.int à S,ι Z,Γ T])/\I No a n/\d<V n.heap/\δ n (J d 4)=C (.map<|C f)/\b<V n.heap/\δ n (J b 0)=C (pV d)/\
  Hid (∀D,I No n D->μ ε 115 #[Γ<|pad g.sb<|C j,U<|aR c (i:Int),.agg #[U P,.int à S,ι Z,Γ T]] D λl a2=>l=rT/\RP a b d e G c.N (z+1) w g s Kn R (rT) a2):=by
  intro o A;have t:=aJ.y (wB:=a) (mb:=b) (g:=g) A;refine(F _ s g z (C j) c.N[i].a (p.y A) N (λj' l=>η) M<|P8<|by rw[<-m];omega).mono ?_;rintro l n hq;obtain⟨x,rfl,H⟩|⟨ao,s2,g2,au,rfl,e1,-,a6,y,af,ar,rfl,hu,rfl⟩:=RP.cut (K':=Kn) (λam=>(iQ (aR c (i:Int))<|C j).bd λj=>(eY j (aR c (i:Int))<|r1 am).bd λ_=>aF []) hq
  .exact .inl ⟨x,K,by rw[m];exact(H.pre t<|Á _).more W⟩
  .have aa:=L;rw[m,e1]at aa;obtain⟨j0,j1,e0,ah,ag⟩:=YN<|P8 aa;cases e0;obtain⟨-,-,-,-,n0,-,n4,-⟩:=q.node y v;refine .inr ⟨_,_,_,_,K,y.P,n0,n4,y.mc.2.1,y.mc.2.2.1,λD a7=>?_⟩;have:=Zd (y.y a7) ab ah hu N;rw[N8 (t.trans a6).sb (λj' l=>by cases l;rw[p.sl];omega)]at this;refine this.mono ?_;rintro l a2 ⟨rfl,t5,t6⟩;refine⟨K,?_⟩;rw[m,e1,J0 ag];exact⟨g2,_,K,(t.trans a6).trans<|(aJ.y a7).trans t6,t5,af.trans<|vF j1 _,K⟩
 have a5:=O ac;have an:=O t;have HR:=O m;have ap:(i:Int)<(Q c.N:Int):=W;have ae:=O ad;have a4:=O a9;have CW:=O p.P;clear ad a9 aj;have B:=O r;have al:=A4 r q2;have ak:=A4 r m0;have l0:=a4.u (Ø _)<|B6 (B6 CW.u B.u)<|Ψ No _ 1;generalize aR c (i:Int)=xn at*;try generalize pad g.sb (C j)=pj at*
 generalize c.N[i]=nd at*;obtain⟨kd,va,vb,vc,ls,tx,vn,vt,vp⟩:=nd;simp only[Ac]at*;subst u;clear q F p m L M a8 r ho hj ac t a5 ab;go_in;go_wp2_with fail;go_region_with (first|(go_at_call 114;refine(ae.u _<|B6 B.u<|Ψ No _ 1).mono ?_;rintro l n (⟨x,rfl,H⟩|⟨P,S,Z,T,rfl,t1,t2,t3,t4,t5,T6⟩);exact⟨K,H⟩;have l2:=a4.u _ t1;clear t1)|(go_at_call 115;refine(T6.u _<|ì _ _).mono ?_;rintro l a2 ⟨rfl,e4⟩;have E4:=O e4;clear e4));all_goals go_wp2_with fail
 all_goals go_end0
 all_goals exact E4.u
end
section
variable{b w f:E}{a e j d z:Nat}{i:υ}{G:Int->Option Int}{N:List Nd}{c:Cx}{s:Ms}{g h:Gh}
abbrev nK(b:E)(a e d:Nat)(G:Int->Option Int)(c:Cx)(k:Nat):Prop:=CR b a e d G c 31 Kn (iB c 26) λl m=>rn c.N (aR c) G k (.b l) m
theorem nK.at{k}(n:nK b a e d G c k)(m:Rm b w a e d G c.N s g z)(t:z<=1000000000){sc}(r:iL s.c sc){l}(p:iB c 26 l){R}(o:R=rn c.N (aR c) G k (.b l) sc s)(q:R≠.stk):
 μ ε 31 #[pV a,U l,Γ<|pad g.sb sc] w (RP b a e d G c.N z w g s Kn R):=by
 subst o;exact n w s g z sc l m t r p q
def RP.ends{R}{l}(k:RP b a e d G N z w g s Kn R l f):(∃m,l=Â m)\/l=rT:=by
 cases R with
 |stk=>exact k.elim
 |ok o n=>
  obtain⟨h,v,rfl,_,_,_,rfl⟩:=k;simp
 |over x p n=>
  obtain⟨h,m,rfl,_⟩:=k;exact .inl ⟨_,K⟩
 |back u n=>
  obtain⟨h,m,rfl,_⟩:=k;exact .inl ⟨_,K⟩
def D9d{k}(hV:gA b a e d G c k)(hB:nK b a e d G c k)(P:Rm b w a e d G c.N s g z)(hz:z<=1000000000){o}(hj:o<Q s.c.S){kd A B n}{lv}{tx}{vn vt vp}(h1:oM c A)(h2:iB c 26 B)(h3:n=-1\/iB c 26 n)
 {R} (hR:R=((rn c.N (aR c) G k (.v A)<|C o).bd λa4=>if (r1 a4).j8 then rn c.N (aR c) G k (.b B) (C o) else if n=-1 then aF [] else rn c.N (aR c) G k (.b n)<|C o) s) (ad:R≠.stk):
 μ ε 119 #[pV a,.agg #[U kd,U A,U B,U n,lv,ι tx,U vn,U vt,U vp],Γ<|pad g.sb<|C o] w (RP b a e d G c.N z w g s Kn R):=by
 have ca:=ν No w<|γ #[U kd,U A,U B,U n,lv,ι tx,U vn,U vt,U vp] 82;have a7:=O<|aJ.y (wB:=b) (mb:=a) (g:=g) ca;have ab:=O (hV _ s g z (C o) A (P.y ca) hz (λj' m=>η) h1<|P8<|by rw[<-hR];omega);have M:Hid (∀T p,aJ b a _ g T p->_):=λT p hf=>qK (kd:=kd) (va:=A) (vb:=B) (vc:=n) (lv:=lv) (tx:=tx) (vn:=vn) (vt:=vt) (vp:=vp) P hf;have HR:=O hR;have a8:=O ad;have a6:=O hB;have H2:=O h2;have H3:=O h3;have HJ:=O hj;have a9:=O (λ(h:Gh) (q:g.sb<+:h.sb)=>N8 q (o:=C o) λj' m=>by cases m;rw[P.sl];omega);generalize pad g.sb (C o)=pj at*;clear hV hB P hj h1 h2 h3 hR ad ca;go_in;go_wp2_with fail;refine ab.u.mono ?_;rintro m T hq;obtain⟨ps,rfl,hh⟩|⟨ag,s2,p,ai,rfl,e1,-,a2,r2,ac,u,rfl,hu,rfl⟩:=RP.cut (λa4=>if (r1 a4).j8 then rn c.N (aR c) G k (.b B) (C o) else if n=-1 then aF [] else rn c.N (aR c) G k (.b n)<|C o) hq
 .exact⟨K,by rw[HR.u];exact hh.pre a7.u<|Á _⟩
 have l:=HR.u;rw[e1]at l;have hM:r1 [u]=u:=K;rw[hM]at l;have H:=O<|TW p.tb u T;have R2:=O r2;have F2:=O<|a7.u.trans a2;have a5:=O a2;have D:=O ac;have aa:=O l;obtain⟨u',a3⟩:∃ae,ae=u.j8:=⟨_,K⟩;rw[<-a3]at H;have HU:=O a3;clear hq e1 r2 a2 ac hu l a3 ab hM;unfold bT at*;cases u' with
 |true=>
  go_wp2_with fail;refine H.u.mono ?_;rintro m Z ⟨rfl,r⟩;have y:=R2.u.y r;have t:=F2.u.trans<|aJ.y r;have l:=aa.u;rw[<-HU.u,yY K]at l;obtain⟨x0,x1,x2,x3,x4,x5,x6,x7,x8,xl⟩:=M.u Z p<|a5.u.trans<|aJ.y r;have x:=a6.u.at y hz (λj' m=>by cases m;exact yQ HJ.u D.u.S) H2.u l a8.u;rw[a9.u p t.sb]at x;have F:=O x;have F3:=O t;clear y t l r H M x;go_wp2_with fail;refine F.u.mono ?_;rintro m af v;have q:=RP.pre F3.u D.u v;have L:=O q;obtain⟨ps,rfl⟩|rfl:=v.ends
  .exact⟨K,q⟩
  .clear q v F;go_wp2;go_end0;exact L.u
 |false=>
  go_wp2_with fail;refine H.u.mono ?_;rintro m Z ⟨rfl,r⟩;have y:=R2.u.y r;have t:=F2.u.trans<|aJ.y r;have l:=aa.u;rw[<-HU.u,wY θ]at l;obtain⟨x0,x1,x2,x3,x4,x5,x6,x7,x8,xl⟩:=M.u Z p<|a5.u.trans<|aJ.y r;by_cases S:n=-1
  .rw[yY S]at l;have L:Hid (RP b a e d G c.N z w g s Kn R (rT) Z):=by
    rw[l];exact⟨p,_,K,t,y,D.u,K⟩
   have ah:(n !=-1)=κ:=by simpa using S
   go_wp2;go_end0;exact L.u
  .rw[wY S]at l;have x:=a6.u.at y hz (λj' m=>by cases m;exact yQ HJ.u D.u.S) (H3.u.resolve_left S) l a8.u;rw[a9.u p t.sb]at x;have F:=O x;have F3:=O t;clear y t l r H M x;go_wp2_with fail;refine F.u.mono ?_;rintro m af v;have q:=RP.pre F3.u D.u v;have L:=O q;obtain⟨ps,rfl⟩|rfl:=v.ends
   .exact⟨K,q⟩
   .clear q v F;go_wp2;go_end0;exact L.u
def tS(s:Ms)(k:Nat)(t:Th):Ms:={s with c:={s.c with T:=s.c.T.set k t}}
def Kl(l)(k)(x)(v):mK (λy=>if y=x then C v else l y) k (.string x)=C (bT k v)/\∀u,u≠.string x->mK (λy=>if y=x then C v else l y) k u=mK l k u:=by
 refine⟨by simp[mK],λu m=>?_⟩;cases u<;>try rfl
 grind[mK]
def Rm.r7(l:Rm b w a e d G N s g z){m}{t}(q:s.c.T[m]?=C t)(L:t.k=16){x}(hx:Q x<=1000000){v}(hv:aZ s.c v)(hz:z<=1000000000):
 ∃n r,g.tb[m]?=C n/\n<V w.heap/\δ w (J n 0)=C (.map<|C r)/\∃f,(Ï 206 (.map<|C r) (ι ⟨ξ x⟩)<|bT g.tb v).run ε w=.ok () f/\
  Rm b f a e d G N (tS s m {t with p:=λy=>if y=x then C v else t.p y}) g (z+1)/\aJ b a w g f g:=by
 obtain⟨am,e8,hT,_⟩:=l.mem;obtain⟨n,pv,la,lc,P,Z,B,e4,e5,e6⟩:=hT m t q;rw[yY L]at e4;obtain⟨r,rfl,R,f6⟩:=e4;obtain⟨h1,h2⟩:=Kl t.p g.tb x v;obtain⟨f,a9,hm,D⟩:=f6.put EO underlying206 (DH x hx) (show WideAt.IsKeyLit (.string x) from trivial) W (bT g.tb v) _ h1 h2;obtain⟨es,cl,ag⟩:=f6.isMap;obtain⟨ad,ac,ah⟩:=hm.isMap;have A:=l.ok.T m t q;have H:=tW (u:={t with p:=λy=>if y=x then C v else t.p y}) q K;have a8:=(Î.1 q).1;refine⟨n,r,P,(aG B),cr B K,f,a9,?_,⟨D.mono λk _ y=>.inr<|.inl ⟨.p m,(show k=r from y) ▸ R,λ_ o=>η⟩,λ_ _ _ o=>o,ö _,ö _⟩⟩;refine l.gen (d:=1) D (λk _ y=>?_) (l.rows D λk _ y=>?_) ⟨ö _,ö _,λ_ _=>K⟩ (by simp[tS,l.tl]) l.sl (λk r L hr=>?_) (λk r' hr y=>?_) (l.ok.ld q K ⟨A.k,λy u M=>?_,λu F=>(A.l u F).gr H,A.sc.gr H,A.fq,A.nd⟩) (by grind[tS]) (λa2 u F=>?_) λa2 aa hq=>.inl ⟨hq,λk L y=>?_⟩
 .have T:=y;subst T;refine⟨(l.low k _ R).1,λo=>?_⟩;have:=l.j5.2.2;grind
 .have T:=y;subst T;refine⟨λo=>?_,λcs o fz y=>?_⟩
  .have:=l.j5.2.1;grind
  grind
 .have:=(l.low k r hr).2;omega
 .grind
 .dsimp only at M;split at M
  .cases M;exact hv.gr H
  .exact(A.p y u M).gr H
 .simp only[tS]at F;by_cases a7:m=a2
  .subst a7;rw[List.getElem?_set_self a8,zQ]at F;subst F;refine .inr λm0 m' af hd a5=>?_;obtain⟨b',an,ak,al,a3,aj,S,k4,k5,k6⟩:=a5 m t q;rw[P]at a3;cases a3;rw[B]at S;simp at S;obtain⟨rfl,rfl,rfl⟩:=S;have a6:∀{k:Nat} {a4:Rl},g.ow k=C a4->a4≠.p m->k≠r:=λae ai o=>η;refine⟨n,.map<|C r,la,lc,P,Z,(D.block n (aG B)<|a6 Z θ).trans B,?_,A3 e5 D λaa hq y=>?_,e6⟩
   .rw[yY L];exact⟨r,K,R,hm.more W⟩
   .cases la with
    |none=>grind[Θ]
    |some ab=>
     grind[Θ]
  grind
 grind
theorem Db(m)(v):∀(l:List Vl) (k),k<Q l->((((l.flatMap<|gF m).set (k*4)<|U v.g).set (k*4+1)<|.int à v.n).set (k*4+2)<|ι ⟨ξ v.t⟩).set (k*4+3) (Γ<|pad m v.h)=(l.set k v).flatMap (gF m)
 |[],k,p=>Ω
 |n::r,0,_=>Ω
 |n::r,k+1,p=>by
  have q:=Db m v r k η;have o:(k+1)*4=k*4+1+1+1+1:=W;rw[o,zZ,List.flatMap_cons,List.flatMap_cons,<-q];rfl
def ĕ{p m o}{n}{l:List Vl}(t:ρ w p 180 4 (Y (C<|J m 0) (Q l) o) (Q l)<|l.flatMap<|gF n){k}(H:k<Q l)(v):
 ρ (σ (σ (σ (σ w (J m<|k*4)<|U v.g) (J m<|k*4+1)<|.int à v.n) (J m<|k*4+2)<|ι ⟨ξ v.t⟩) (J m<|k*4+3)<|Γ<|pad n v.h) p 180 4 (Y (C<|J m 0) (Q l) o) (Q l) ((l.set k v).flatMap<|gF n):=by
 obtain⟨B,_⟩|⟨h,A,r,q,u,F,y,x,D,M⟩:=t.2
 .omega
 .simp at q;obtain⟨rfl,rfl⟩:=q;have L:∀l:List Vl,Q (l.flatMap<|gF n)=Q l*4:=λl=>by
   induction l<;>grind[qQ,jQ,gF]
  refine⟨η,.inr ⟨m,o,(((r.setIfInBounds (k*4)<|U v.g).setIfInBounds (k*4+1)<|.int à v.n).setIfInBounds (k*4+2)<|ι ⟨ξ v.t⟩).setIfInBounds (k*4+3)<|Γ<|pad n v.h,K,u,?_,y,x,η,?_⟩⟩<;>grind[ð,Array.toList_setIfInBounds,List.take_set,Db]
def Fv{t}{l}{c k}(m:jP N c t)(n:Gr c k)(p:∀u∈l,aZ k u)(q:Q l<=1200+k.th):jP N k {t with l:=l}:=⟨m.k,λx v o=>(m.p x v o).gr n,p,m.sc.gr n,q,m.nd⟩
end
section
variable{e w a:E}{f h b z:Nat}{G:Int->Option Int}{N:List Nd}{s:Ms}{g:Gh}
def Rm.qy{S}{j}{n}{L d}(l:Rm e w f h b G N s g z)(u:I S w a)(R:∀k,k<V w.heap->S k->V e.heap<=k/\k≠b)
 (hb:∃Z M,a.heap[f]?=C (γ #[pV h,.map<|C b,U j.fu,U j.c.ca,U j.c.th,Z,M] 66 (0,0))/\
  ρ a (V e.heap) 9 1 Z (Q j.ln) (strs j.ln)/\ρ a (V e.heap) 69 2 M (Q j.ev) (jN j.ev))
 (v:g.tb<+:n.tb/\g.sb<+:n.sb/\∀k r,g.ow k=C r->n.ow k=C r\/(S k/\n.ow k=none)) (a3:n.ow f=none/\n.ow b=none) (a7:Q n.tb=Q j.c.T) (a6:Q n.sb=Q j.c.S)
 (a8:∀k r,g.ow k=none->n.ow k=C r->(V e.heap<=k/\k<V a.heap)/\∀B c D,a.heap[k]?=C (γ B c D)->c≠9/\c≠69)
 (a9:∀k r,g.ow k=C r->n.ow k=C r->S k->∀B c D,a.heap[k]?=C (γ B c D)->c≠9/\c≠69)
 (a4:iE N j.c) (hz:d+Q j.ln+Q j.ev+4000*j.fu+z<=L+Q s.ln+Q s.ev+4000*s.fu)
 (hT:∀i t,j.c.T[i]?=C t->(s.c.T[i]?=C t/\∀k,g.ow k=C (.t i)\/g.ow k=C (.p i)\/g.ow k=C (.l i)->¬S k)\/∀m A,m+Q s.ln+Q s.ev+4000*s.fu=z->m+d<=A->(∀i t,s.c.T[i]?=C t->sE (V e.heap) w g m i t)->sE (V e.heap) a n A i t)
 (a2:∀i q,j.c.S[i]?=C q->(s.c.S[i]?=C q/\∀k,g.ow k=C (.s i)\/g.ow k=C (.o i)->¬S k)\/∀m A,m+Q s.ln+Q s.ev+4000*s.fu=z->m+d<=A->(∀i q,s.c.S[i]?=C q->uS w g m i q)->uS a n A i q):Rm e a f h b G N j n L:=by
 obtain⟨m,T,mT,mS⟩:=l.mem;have P:∀k r,n.ow k=C r->(k<V w.heap/\g.ow k=C r)\/g.ow k=none:=λk r y=>by
  cases c:g.ow k with
  |none=>simp
  |some r'=>
   obtain this|⟨_,this⟩:=v.2.2 k r' c
   .rw[y]at this;cases this;exact .inl ⟨(l.low k _ c).2,K⟩
   grind
 refine⟨l.P.trans u λk o x=>?_,⟨l.j5.1,a3⟩,l.gs.P u λx=>(R b l.gs.lt x).2 K,hb,a7,a6,λk r y=>?_,λk r y=>?_,a4,L-(Q j.ln+Q j.ev+4000*j.fu),W,λi t ht=>?_,λi q hq=>?_⟩
 .have:=(R k (yQ o l.P.size) x).1;omega
 .obtain⟨p,c⟩|p:=P k r y
  .exact⟨(l.low k r c).1,yQ p u.size⟩
  grind
 .obtain⟨p,c⟩|p:=P k r y
  .by_cases hx:S k
   .grind
   .rw[u.block k p hx];exact l.ty k r c
  grind
 .obtain⟨c,H⟩|F:=hT i t ht
  .refine(mT i t c).up (l.ok.T i t c) l.tl l.sl v.1 v.2.1 W λk o=>?_;have p:k<V w.heap:=by obtain o|o|o:=o<;>exact(l.low k _ o).2
   exact⟨u.block k p<|H k o,η⟩
  .exact F m _ T W mT
 .obtain⟨c,H⟩|F:=a2 i q hq
  .refine(mS i q c).up (l.ok.S i q c).1 (λa5 e1=>?_) l.tl v.1 v.2.1 W λk o=>?_
   .have:=(l.ok.S i q c).2 a5 e1;have h4:=(Î.1 c).1;rw[l.sl];omega
   .have p:k<V w.heap:=by obtain o|o:=o<;>exact(l.low k _ o).2
    exact⟨u.block k p<|H k o,η⟩
  .exact F m _ T W mS
def Rm.ko(j:Rm e w f h b G N s g z){t}{mq}(ht:jP N {s.c with T:=s.c.T++[t]} t){l q}{H}{n:Option í}{o}(D:I No w a)(hb:V w.heap<=l)(cb:a.heap[l]?=C (γ #[H,Y n (Q t.l) o,U t.nd,Γ<|pad g.sb t.sc] 209 (0,0)))
 (m:if t.k=16 then H=.map (C q)/\V e.heap<=q/\g.ow q=none/\q≠b/\gH 9 a q mq (mK t.p g.tb) else H=.map none) (ho:ρ a (V e.heap) 180 4 (Y n (Q t.l) o) (Q t.l)<|t.l.flatMap<|gF g.tb) (hl:∀p,n=C p->g.ow p.block=none) (hv:∀x v,t.p x=C v->aZ s.c v) (af:∀v∈t.l,aZ s.c v):
 ∃B,Rm e a f h b G N {s with c:={s.c with T:=s.c.T++[t]}} B (z+mq)/\B.sb=g.sb/\g.tb<+:B.tb/\pad B.tb (C (Q s.c.T))=C (J l 0)/\(∀k r,g.ow k=C r->B.ow k=C r)/\∀k,g.ow k=none->k≠l->(t.k=16->k≠q)->Θ (Y n (Q t.l) o)≠C k->B.ow k=none:=by
 obtain⟨_,_,L,_⟩:=j.blk;have a5:=(aG L);have a7:=(aG cb);have a6:=A9 ho;have F:g.tb<+:g.tb++[l]:=List.prefix_append _ _;let A:Nat->Option Rl:=λk=>match g.ow k with
  |C r=>C r
  |none=>if k=l then C (.t (Q s.c.T)) else if t.k=16/\k=q then C (.p (Q s.c.T)) else if Θ (Y n (Q t.l) o)=C k then C (.l (Q s.c.T)) else none;have h1:∀k r,g.ow k=C r->A k=C r:=λk r d=>η;have Z:∀k,g.ow k=none->k≠l->(t.k=16->k≠q)->Θ (Y n (Q t.l) o)≠C k->A k=none:=λk d a1 a2 a3=>η;have a9:=j.new hb;have ab:A l=C (.t (Q s.c.T)):=by simp only[A,a9,if_true]
 have aa:∀k,Θ (Y n (Q t.l) o)=C k->k≠l:=λk d e2=>η;refine⟨⟨g.tb++[l],g.sb,A⟩,?_,K,F,by simp[pad,lQ,j.tl],h1,Z⟩;refine j.qy (d:=mq) D (λk _ x=>x.elim) (j.rows D λk _ x=>x.elim) ⟨F,ö _,λk r d=>.inl<|h1 k r d⟩ ⟨Z f j.j5.2.1 W ?_ ?_,Z b j.j5.2.2 ?_ ?_ ?_⟩ (by simp[j.tl]) j.sl (λk r hk hr=>?_) (λk r _ _ x=>x.elim) (j.ok.ko ht) η (λi ak u=>?_) λi q' ac=>.inl ⟨ac,λk _ x=>x.elim⟩
 .intro S d;rw[yY S]at m;obtain⟨R,M,y⟩:=m.2.2.2.2.isMap;rw[<-d,D.block f a5 id,L]at y;grind
 .intro d;obtain⟨_,a8,y⟩:=a6 f d;rw[D.block f a5 id,L]at y;grind
 .have:=j.gs.lt;omega
 .grind
 .intro d;obtain⟨_,a8,y⟩:=a6 b d;rw[D.block b j.gs.lt id]at y;exact j.gs.et y
 .simp only[A,hk]at hr;split at hr
  .rename_i d;subst d;refine⟨⟨kQ j.P.size hb,a7⟩,λcs d fz y=>?_⟩;grind
  .split at hr
   .rename_i d;rw[yY d.1]at m;obtain⟨R,M,y⟩:=m.2.2.2.2.isMap;grind
   grind
 .simp only at u;obtain a4|a4:=Nat.lt_or_ge i (Q s.c.T)
  .grind
  .rw[List.getElem?_append_right a4]at u;obtain d|d:=Nat.eq_zero_or_pos<|i-Q s.c.T
   .have hi:i=Q s.c.T:=W;subst hi;rw[d]at u;simp at u;subst u;refine .inr λai m' _ hm _=>⟨l,H,n,o,by simp[j.tl],ab,cb,?_,?_,λp ha=>?_⟩
    .by_cases S:t.k=16
     .rw[yY S]at m⊢;obtain⟨ag,aj,p3,p4,p5⟩:=m;refine⟨q,ag,?_,?_⟩
      .have ah:q≠l:=λP=>by
        obtain⟨R,M,y⟩:=p5.isMap;grind
       grind
      .rw[TJ F hv j.tl];exact p5.more W
     grind
    .rw[OX λv ae=>(wR F (af v ae) j.tl).2];omega
    .subst ha;have P:Θ (Y (C p) (Q t.l) o)=C p.block:=K;have ad:¬(t.k=16/\p.block=q):=λx=>by
      rw[yY x.1]at m;obtain⟨R,M,y⟩:=m.2.2.2.2.isMap;grind
     simp only[A,hl p K];rw[wY<|aa _ P,wY ad,yY P]
   .rw[List.getElem?_eq_none â]at u;cases u
end
section
variable{d w b:E}{a e j f z:Nat}{i:υ}{G:Int->Option Int}{N:List Nd}{c:Cx}{s:Ms}{g h:Gh}
def B5f{a9}(hS:fJ d c e j i)(hV:gA d a e f G c a9)(L:Rm d w a e f G c.N s g z)(hz:z<=1000000000){v k}(hj:v<Q s.c.S)(af:k<Q c.N)(b6:c.N[k].x=19){R:Rr (List Vl)}
 (hR:R=((rn c.N (aR c) G a9 (.v c.N[k].a)<|C v).bd λah=>(rn c.N (aR c) G a9 (.v c.N[k].b)<|C v).bd λr=>(mC (k:Int) c.N[k].text (r1 ah)<|r1 r).bd λ_=>aF []) s) (ao:R≠.stk):
 μ ε 116 #[pV a,U k,Γ<|pad g.sb<|C v] w (RP d a e f G c.N (z+1) w g s Kn R):=by
 have ae:=hS.ok.ew k af;have aq:=M4 (ae.k2 W).1;have ar:=M4 (ae.k2 W).2;have b7:Q c.N[k].text<=1000000:=by have:=hS.ok.tx c.N[k]<|mQ af;omega
 obtain⟨fz,lt,m0,m1,m2,m3,m4⟩:=L.mc;obtain⟨gn,nc,la,lc,q0,q1,q2,q3,q4,q5,⟨x0,x1,x2,x3,x4,x5,x6,x7,x8⟩,ho⟩:=hS.node L af;have ca:=ν No w<|Ac c.N[k] la lc;have a4:=O<|aJ.y (wB:=d) (mb:=a) (g:=g) ca;have al:=O (hV.at (L.y ca) hz (sc:=C v) (λj' q=>η) aq<|P8<|by rw[<-hR];omega);have a5:Hid (∀A o,aJ d a (w.alloc<|Ac c.N[k] la lc) g A o->_):=λ_ _=>qK L;have ay:=O (λ(h:Gh) (hp:g.sb<+:h.sb)=>N8 hp (o:=C v) λj' q=>by cases q;rw[L.sl];omega);have HR:=O hR;have ax:=O ao;have HV:=O hV;have b4:=O ar;have HJ:=O hj;have HD:=O wH;have bc:(k:Int)<(Q c.N:Int):=W;generalize pad g.sb (C v)=pj at*;generalize c.N[k]=nd at*;obtain⟨kd,va,vb,vc,ls,T,vn,vt,vp⟩:=nd;simp only[Ac]at*;subst b6;clear hS hV L hR ao aq ar ae ca ho hj;go_in;go_wp2_with fail;refine al.u.mono ?_;rintro q A P;obtain⟨ps,rfl,hh⟩|⟨b5,s2,o,ba,rfl,F,-,ab,S,ac,u,rfl,hu,rfl⟩:=RP.cut (K':=Kn) (λah=>(rn c.N (aR c) G a9 (.v vb)<|C v).bd λr=>(mC (k:Int) T (r1 ah)<|r1 r).bd λ_=>aF []) P
 .exact⟨K,by rw[HR.u];exact(hh.pre a4.u<|Á _).more W⟩
 have M:r1 [u]=u:=K;have a8:=HR.u;rw[F,M]at a8;have cb:=ν No A<|γ #[U u.g,.int à u.n,ι ⟨ξ u.t⟩,Γ<|pad o.tb u.h] 180;have fb:=ab.trans<|aJ.y (wB:=d) (mb:=a) (g:=o) cb;have a6:=O (HV.u.at (S.y cb) hz (sc:=C v) (λj' q=>by cases q;exact yQ HJ.u ac.S) b4.u<|P8<|by rw[<-a8];exact ax.u);rw[ay.u o ab.sb]at a6;obtain⟨x0,x1,x2,x3,x4,x5,x6,x7,x8,xl⟩:=a5.u _ o fb;have am:o.ow (V A.heap)=none/\a<V A.heap:=⟨S.new<|vQ _,S.mc.2.1⟩;have a3:Hid (∀n m,aJ d a _ o n m->_):=λn m (hf:aJ d a (A.alloc<|γ #[U u.g,.int à u.n,ι ⟨u.t.toArray⟩,Γ<|pad o.tb u.h] 180) o n m)=>eU (hf.eu (rY A _) am.1 W ζ ζ).1<|ì No _;have R2:=O S;have F2:=O fb;have G2:=O ac;have ak:=O a8;have HU:=O hu;have az:=O S.tl;clear P F ab S ac hu a8 al fb cb am M;unfold bT;go_wp2_with fail;refine a6.u.mono ?_;rintro q n P;obtain⟨ps,rfl,hh⟩|⟨b5,s3,m,ba,rfl,F,-,H,D,a7,y,rfl,hy,rfl⟩:=RP.cut (K':=Kn) (λr=>(mC (k:Int) T u<|r1 r).bd λ_=>aF []) P
 .exact⟨K,by rw[ak.u];exact((hh.pre F2.u G2.u).pre a4.u<|Á _).more W⟩
 have M:r1 [y]=y:=K;have B:=ak.u;rw[F,M]at B;obtain⟨t0,t1,t2,t3,tz,tl⟩:=a3.u n m H;have ag:=HU.u.gr a7;have cc:=ν No n<|γ #[U y.g,.int à y.n,ι ⟨ξ y.t⟩,Γ<|pad m.tb y.h] 180;have CC:=O cc;have ap:=(N8 H.tb λk q=>by rw[az.u];exact HU.u.lt k q).symm;have F3:=O<|F2.u.trans H;have aw:=O H;have G3:=O<|G2.u.trans a7;have an:m.ow (V n.heap)=none/\a<V n.heap:=⟨D.new<|vQ _,D.mc.2.1⟩;have ad:=rY n<|γ #[U y.g,.int à y.n,ι ⟨ξ y.t⟩,Γ<|pad m.tb y.h] 180;have ai:=O λb=>eU (w':=b) ad;by_cases Z:u.g=16
 .obtain⟨jt,th,bt,bd,z1,z2,z3,z4,z5,-,-⟩:=D.kh ag W;have a2:mC (k:Int) T u y s3=.ok () (tS s3 jt {th with p:=λav=>if av=T then C y else th.p av}):=by
   unfold mC;rw[J0<|nY Z,J0<|xX z1 z2];simp only[fL,bR,z1,Option.getD_some];rfl
  rw[J0 a2]at B;have aj:Hid (∀b,I No n b->∃r l,bt<V b.heap/\δ b (J bt 0)=C (.map<|C r)/\(Ï 206 (.map<|C r) (ι ⟨T.toArray⟩)<|.agg #[U y.g,.int à y.n,ι ⟨ξ y.t⟩,Γ<|pad m.tb y.h]).run ε b=.ok () l/\RP d a e f G c.N (z+1) w g s Kn R (rT) l):=λb t=>by
   obtain⟨bb,r,au,b8,b9,l,x,k5,k6⟩:=(D.y t).r7 z2 (z3.trans Z) b7 hy hz;rw[z4]at au;cases au;refine⟨r,l,b8,b9,x,?_⟩;rw[B];exact⟨m,_,K,a4.u.trans<|F3.u.trans<|(aJ.y t).trans k6,k5,G3.u.trans<|tW z2 K,K⟩
  obtain⟨n0,n1,n2,n3,n4,n5,n6,n7,n8,nl⟩:=a5.u n m F3.u;have HN:=O λb (t:I No n b)=>a5.u b m<|F3.u.trans<|aJ.y t;have aa:=O λb (t:I No n b)=>a3.u b m<|aw.u.trans<|aJ.y t;rw[ap,z5]at t3 aa;clear P F H D a7 hy ag cc B a2 z1 z2 z3 z4 a6 a3 M an ad ap z5;generalize u.g=ug at*;subst Z;unfold bT;go_wp2_with fail;refine(HD.u _ _ _ _ _ _ _).mono ?_;rintro q l ⟨x,rfl⟩;simp only[if_true];obtain⟨r,be,l1,l2,l3,l4⟩:=aj.u (Ø l)<|B6 (B6 CC.u x)<|Ψ No _ 1;replace l1:bt<V l.heap:=l1;replace l2:δ l (J bt 0)=C (.map<|C r):=l2;obtain⟨-,-,-,-,-,o5,-,-,-,ol⟩:=HN.u l<|B6 CC.u x;obtain⟨b0,b1,b2,b3,-,bl⟩:=aa.u l<|B6 CC.u x;obtain⟨d0,d1,d2,d3,-,dl⟩:=ai.u l x;have L4:=O l4;clear l4 x aj HN aa ai a5;go_wp2_with fail;go_region;all_goals go_wp2_with fail
  all_goals go_end0
  all_goals exact L4.u
 .have a2:mC (k:Int) T u y s3=.over 3 (k:Int) s3:=by
   unfold mC;exact I5<|qY Z
  rw[I5 a2]at B;have HP:Hid (∀l,I No n l->RP d a e f G c.N (z+1) w g s Kn R (ov 3 (k:Int) []) l):=λl t=>by
   rw[B];exact⟨m,[],K,a4.u.trans<|F3.u.trans<|aJ.y t,(D.y t).more W⟩
  clear P F H D a7 hy ag cc B a2 a6 a3 M an ad;unfold bT;go_wp2_with fail;refine(HD.u _ _ _ _ _ _ _).mono ?_;rintro q l ⟨x,rfl⟩;rw[wY Z];exact⟨K,HP.u _<|B6 CC.u x⟩
end
def Tryz.pq:(prog.info? 9).map (λi=>(i.zero,i.size,i.bytes))=C (C<|ι ⟨#[]⟩,1,16):=î
section
variable{b w j:E}{a d h e z:Nat}{f:υ}{G:Int->Option Int}{N:List Nd}{c:Cx}{s:Ms}{g i:Gh}
def Rm.line(t:Rm b w a d e G N s g z){n}{o}(r:δ w (J a 5)=C (Y n (Q s.ln) o)){l}(u:I (λk=>Θ (Y n (Q s.ln) o)=C k) w l)(x){m}(Z:ρ l (V b.heap) 9 1 m (Q s.ln+1)<|strs s.ln++[ι ⟨ξ x⟩]):
 Rm b (σ l (J a 5) m) a d e G N {s with ln:=s.ln++[x]} g (z+1)/\aJ b a w g (σ l (J a 5) m) g:=by
 obtain⟨M,A,p,B,D⟩:=t.blk;have y:M=Y n (Q s.ln) o:=by
  rw[ä _ _ 5 _ _ _ p]at r;simpa using r
 subst y;have H:=(aG p);have T:=A9 B;have L:¬Θ (Y n (Q s.ln) o)=C a:=λP=>η;have v:I (λk=>k=a\/Θ (Y n (Q s.ln) o)=C k) w (σ l (J a 5) m):=(u.mono λ_ _ x=>.inr x).trans (é l (J a 5) m) λk _ x=>.inl x;have F:=(u.block a H L).trans p;refine t.om v (λk R x=>x.imp id λx=>?_) K K ⟨m,A,?_,?_,?_⟩ η
 .grind
 .rw[ð l a 5 _ _ _ F];rfl
 .grind[A3,é,A9,zQ,xW,absurd,strs]
 .refine A3 D v λq S x=>?_;grind[A9]
def C0e{k}(t:fJ b c d h f)(hV:gA b a d e G c k):qF b a d e G c 21 λl sc=>rn c.N (aR c) G (k+1) (.s l) sc:=by
 refine Al t ?_;rintro w s g z a2 l R la lc r hz hj h5 x v aa ab n M a9 r0 ho m0 q2 _ _ ⟨⟩;rw[sM]at n;simp only[B7 x,v]at n;simp at n;have ad:=hV.at r0 hz h5 (M4<|aa.k1 W) (P8<|by rw[<-n];omega);have a5:=O t.uh;have F:=O ad;have a4:=O a9;have HR:=O n;try generalize pad g.sb (C a2)=pj at*
 generalize c.N[l]=nd at*;obtain⟨kd,va,vb,vc,ls,tx,vn,vt,vp⟩:=nd;simp only[Ac]at*;subst v;clear t hV r n ab aa M ho hj ad a9;go_in;go_wp2_with fail;refine F.u.mono ?_;rintro q au hq;obtain⟨ps,rfl,hh⟩|⟨ax,o,g2,ba,rfl,e1,-,a6,r2,a7,u,rfl,hu,rfl⟩:=RP.cut (λar=>(vX (r1 ar).ma).bd λ_=>aF []) hq
 .exact⟨K,by rw[HR.u];exact(hh.pre a4.u<|Á _).more W⟩
 .have HW:=O<|Ny g2.tb u hu.2.1 au<|a5.u.P r2.P;have ak:=O r2;have ag:=O<|a4.u.trans a6;have ah:=O a7;have P:=HR.u;rw[e1]at P;have aj:=O P;clear hq e1 a6 r2 a7 hu F P a5;go_wp2_with fail;refine HW.u.mono ?_;rintro q D ⟨rfl,ae⟩;have p:=ak.u.y ae;obtain⟨b0,b7,-,-,-,-,-⟩:=p.mc;obtain⟨b8,ev,H,L,b3⟩:=p.blk;obtain⟨y,A,rfl⟩:=B8 L;have c5:=(ä _ _ 5 _ _ _ H).trans K;obtain⟨i0,Z,ao,ap,aq⟩:=ý Tryz.pq;have b4:Q o.ln<=1000000000:=by obtain⟨b9,hm,_⟩:=p.mem;omega
  have b6:=p.P.size;have an:Θ (Y y (Q o.ln) A)≠C a:=λq=>by
   obtain⟨_,az,aw⟩:=A9 L a q;grind
  have am:=(aG H);have HB:Hid (∀m,I (λk=>Θ (Y y (Q o.ln) A)=C k) D m->a<V m.heap/\(∀a3,m.frozen? (J a a3)=κ)/\δ m (J a 5)=C (Y y (Q o.ln) A)):=λm T=>by
   have S:=(T.block a am an).trans H;exact⟨(aG S),λa3=>æ m a a3 _ _ S,(ä _ _ 5 _ _ _ S).trans K⟩
  have HV:Hid (∀m B,I (λk=>Θ (Y y (Q o.ln) A)=C k) D m->ρ m (V b.heap) 9 1 B (Q o.ln+1) (strs o.ln++[ι ⟨ξ u.ma⟩])->RP b a d e G c.N (z+1) w g s Kn R (rT) (σ m (J a 5) B)):=λm B T hv=>by
   obtain⟨t1,t2⟩:=p.line c5 T u.ma hv;rw[aj.u];exact⟨g2,_,K,ag.u.trans<|(aJ.y ae).trans t2,t1,ah.u,K⟩
  have ai:=O<|L.alloc<|γ #[ι ⟨ξ u.ma⟩] 9;generalize u.ma=af at*;go_wp2_with (at_builtin;refine wpList_append_own _ K _ _ 28 K (V b.heap) 9 i0 (ι ⟨#[]⟩) 1 16 underlying28 Z ao ap aq K ζ _ _ _ K ai.u (J (V D.heap) 0) 1 1 [ι ⟨ξ af⟩] K K ?c1 ?c2 ?c3 ?c4 ?c5 ?_);case c1=>grind[Ó,rY]
  case c2=>intro aw hy;simp at hy;obtain rfl:=hy;rfl
  case c3=>grind[Δ]
  case c4=>omega
  case c5=>simp;omega
  intro B m ac al _;obtain⟨ay,c4,rfl⟩:=B8 ac;have a8:=(ν _ D<|γ #[ι ⟨ξ af⟩] 9).trans (ü al) λk hk av=>av.symm;obtain⟨l4,z4,y4⟩:=HB.u _ a8;have HP:=O<|HV.u _ _ a8 ac;go_wp2;go_end0;exact HP.u
end
section
variable{a w j:E}{b d h e z:Nat}{f:υ}{G:Int->Option Int}{c:Cx}{s:Ms}{g i:Gh}
def KV{k}(v:fJ a c d h f)(x:gA a b d e G c k)(H:nK a b d e G c k):qF a b d e G c 22 λl sc=>rn c.N (aR c) G (k+1) (.s l) sc:=by
 refine Al v ?_;rintro w s g z D l R S T o P M h5 r n q y m p L r0 ho m0 q2 _ _ ⟨⟩;rw[sM]at m;simp only[B7 r,n]at m;simp at m;have B:=M4 (q.o7 n).1;have N:=x.at r0 P h5 B (P8<|by rw[<-m];omega);have a3:=D9d x H r0 P M (kd:=c.N[l].x) (lv:=Y S (Q c.N[l].M) T) (tx:=⟨ξ c.N[l].text⟩) (vn:=c.N[l].n) (vt:=c.N[l].ty) (vp:=c.N[l].at') B (SA (q.o7 n).2.1) ((q.o7 n).2.2.imp id SA) m y;have F:=O N;have Z:=O L;have HR:=O m;have t:=O a3;try generalize pad g.sb (C D)=pj at*
 generalize c.N[l]=nd at*;obtain⟨kd,va,vb,vc,ls,tx,vn,vt,vp⟩:=nd;simp only[Ac]at*;subst n;clear v x o m y B q p ho M N L H F HR;go_in;go_wp2_with fail;refine t.u.mono ?_;rintro a2 a6 u;have A:=(RP.pre Z.u (Á _) u).more (show z<=z+1 by omega);have HP:=O A;obtain⟨ps,rfl⟩|rfl:=u.ends
 .exact⟨K,A⟩
 .clear A u t;go_wp2;go_end0;exact HP.u
end
def xK(a:Nat)(w:E):Nat:=match δ w (J a 2) with
 |C (.int _ n)=>n.toNat
 |_=>0
section
variable{b w j:E}{a d i e z:Nat}{h:υ}{G:Int->Option Int}{N:List Nd}{c:Cx}{s:Ms}{g f:Gh}
theorem Rm.sr(k:Rm b w a d e G N s g z):xK a w=s.fu:=by
 obtain⟨-,-,-,-,m2,-⟩:=k.mc;grind[xK]
def B9e{k}(hS:fJ b c d i h)(hV:∀n,n<k->gA b a d e G c n)(hB:∀n,n<k->nK b a d e G c n):qF b a d e G c 23 λl sc=>rn c.N (aR c) G (k+1) (.s l) sc:=by
 refine Al hS ?_;rintro w s g z m l R la lc y hz hj h5 L u aa ab A ca an r0 ho m0 q2 _ _ ⟨⟩;rw[sM]at A;simp only[B7 L,u]at A;simp at A;have hx:=M4 (aa.o6 u).1;have a4:=O an;have HR:=O A;have H0:=O r0;have af:Hid (∀ap r,aJ b a (w.alloc<|Ac c.N[l] la lc) g ap r->_):=λ_ _=>qK y;have aw:=O hx;have ax:=O<|SA (aa.o6 u).2;have HV:=O hV;have HB:=O hB;have a5:=O ab;have HJ:=O hj;have ag:=O (λ(f:Gh) (hp:g.sb<+:f.sb)=>N8 hp (o:=C m) λj' q=>by cases q;rw[y.sl];omega);have HW:Hid (∀k p,rn c.N (aR c) G (k+1) (.w (l:Int)) (C m) p=((rn c.N (aR c) G k (.v c.N[l].a)<|C m).bd λad=>if (r1 ad).j8 then (rn c.N (aR c) G k (.b c.N[l].b)<|C m).bd λ_=>rn c.N (aR c) G k (.w (l:Int)) (C m) else aF []) p):=λk p=>by rw[rn,B7 L]
 try generalize pad g.sb (C m)=pj at*
 generalize c.N[l]=nd at*;obtain⟨kd,va,vb,vc,ls,tx,vn,vt,vp⟩:=nd;simp only[Ac]at*;subst u;clear hS hV y A ab hx aa ca ho hj an hB;go_in;go_wp2_with fail;go_loopw [94] (λ_ wr=>∃(o:Nat) (p:Ms) (r:Gh),o<=k/\Hid (R=rn c.N (aR c) G o (.w (l:Int)) (C m) p)/\Hid (Rm b wr a d e G c.N p r z)/\Hid (aJ b a (w.alloc<|aM 23 va vb vc (Y la (Q ls) lc) tx vn vt vp) g wr r)/\Hid (Gr s.c p.c)) (λ_ wr=>xK a wr);case atStart=>exact⟨k,s,g,vQ _,HR,H0,aJ.y<|ì _ _,Á _⟩
 case round=>
  obtain⟨o,p,r,b6,a6,HM,D,P⟩:=hrel;obtain⟨o,rfl⟩:∃n,o=n+1:=by
   cases o with
   |zero=>exact absurd (a6.u.trans K) a5.u
   |succ n=>simp
  have T:=a6.u;rw[HW.u]at T;have a7:=O T;have ao:iL p.c (C m):=λj' q=>by cases q;exact yQ HJ.u P.u.S
  have a8:=O (HV.u o W wr p r z (C m) va HM.u hz ao aw.u<|P8<|by rw[<-T];exact a5.u);rw[ag.u r D.u.sb]at a8;obtain⟨y0,y1,y2,y3,y4,y5,y6,y7,y8,yl⟩:=af.u wr r D.u;have aq:Hid (xK a wr=p.fu):=HM.u.sr;clear T ao a6;go_wp2_with fail;refine a8.u.mono ?_;rintro q b3 hq;obtain⟨ps,rfl,hh⟩|⟨ay,s3,x,b2,rfl,F,H,aj,r3,al,a2,rfl,hu,rfl⟩:=RP.cut (K':=Kn) (λad=>if (r1 ad).j8 then (rn c.N (aR c) G o (.b vb)<|C m).bd λ_=>rn c.N (aR c) G o (.w (l:Int)) (C m) else aF []) hq
  .exact⟨K,by rw[a7.u];exact((hh.pre D.u P.u).pre a4.u<|Á _).more W⟩
  have Z:=a7.u;rw[F]at Z;have hM:r1 [a2]=a2:=K;rw[hM]at Z;have B:=O<|TW x.tb a2 b3;have R3:=O r3;have F3:=O<|D.u.trans aj;have M:=O<|P.u.trans al;have ah:=O Z;have au:=O<|C4e H;obtain⟨u',ac⟩:∃az,az=a2.j8:=⟨_,K⟩;rw[<-ac]at B;have HU:=O ac;clear hq F H r3 aj al hu Z ac a8 hM a7 HM D P y0 y1 y2 y3 y4 y5 y6 y7 y8 yl;unfold bT at*;cases u' with
  |true=>
   go_wp2_with fail;refine B.u.mono ?_;rintro q a3 ⟨rfl,v⟩;have r4:=R3.u.y v;have S:=F3.u.trans<|aJ.y (wB:=b) (mb:=a) (g:=x) v;have t:=ah.u;rw[<-HU.u,yY K]at t;obtain⟨x0,x1,x2,x3,x4,x5,x6,x7,x8,xl⟩:=af.u a3 x S;have hb:=HB.u o W a3 s3 x z (C m) vb r4 hz (λj' q=>by cases q;exact yQ HJ.u M.u.S) ax.u (P8<|by rw[<-t];exact a5.u);rw[ag.u x S.sb]at hb;have ae:=O hb;have F4:=O S;have ai:=O t;clear r4 S t v B hb;go_wp2_with fail;refine ae.u.mono ?_;rintro q b4 h5;obtain⟨ps,rfl,hh⟩|⟨ay,s5,g5,b2,rfl,F,H,ak,r5,am,rfl⟩:=RP.cut (K':=Kn) (λ_=>rn c.N (aR c) G o (.w (l:Int))<|C m) h5
   .exact⟨K,by rw[ai.u];exact((hh.pre F4.u M.u).pre a4.u<|Á _).more W⟩
   .have a9:=ai.u;rw[F]at a9;have av:=O a9;have R5:=O r5;have F5:=O<|F4.u.trans ak;have G5:=O<|M.u.trans am;have h6:=Ew c.N (aR c) G o (.b vb) (C m) s3 s3.fu<|vQ _;rw[H]at h6;have b0:s5.fu<=s3.fu:=h6;have ar:Hid (xK a b4<xK a wr):=by show _<_;rw[r5.sr,aq.u];have:=au.u;omega
    clear h5 F H ak r5 am a9 h6 b0 ae;go_wp2;exact⟨⟨o,s5,g5,W,av,R5,F5,G5⟩,ar.u⟩
  |false=>
   go_wp2_with fail;refine B.u.mono ?_;rintro q a3 ⟨rfl,v⟩;have t:=ah.u;rw[<-HU.u,wY θ]at t;have HP:Hid (RP b a d e G c.N (z+1) w g s Kn R (rT) a3):=by
    show RP _ _ _ _ _ _ _ _ _ _ _ _ _ _;rw[t];exact⟨x,_,K,a4.u.trans<|F3.u.trans<|aJ.y v,(R3.u.y v).more W,M.u,K⟩
   clear t v B;go_wp2;go_end0;exact HP.u
end
section
variable{a w j:E}{b d h e z:Nat}{f:υ}{G:Int->Option Int}{c:Cx}{s:Ms}{g i:Gh}
def E2f{k}(r:fJ a c d h f)(v:gA a b d e G c k):qF a b d e G c 19 λl sc=>rn c.N (aR c) G (k+1) (.s l) sc:=by
 refine Al r ?_;rintro w s g z A l R la lc o N H h5 p n F x m q D r0 ho m0 q2 _ _ ⟨⟩;rw[sM]at m;simp only[B7 p,n]at m;simp at m;have L:=v.at r0 N h5 (M4 (F.k2 W).1) (P8<|by rw[<-m];omega);have a2:=B5f r v r0 N H p n m x;have B:=O L;have P:=O D;have T:=O m;have t:=O a2;try generalize pad g.sb (C A)=pj at*
 generalize c.N[l]=nd at*;obtain⟨kd,va,vb,vc,ls,tx,vn,vt,vp⟩:=nd;simp only[Ac]at*;subst n;clear r v o m x F q ho H L D B T;go_in;go_wp2_with fail;refine t.u.mono ?_;rintro Z a5 u;have y:=RP.pre P.u (Á _) u;have S:=O y;obtain⟨ps,rfl⟩|rfl:=u.ends
 .exact⟨K,y⟩
 .clear y u t;go_wp2;go_end0;exact S.u
end
section
variable{a w j:E}{b d i e z:Nat}{h:υ}{G:Int->Option Int}{c:Cx}{s:Ms}{g f:Gh}
theorem mZ{N:List Nd}{p:Int->Int}(k)(l)(q:Option Nat):rn N p G (k+1) (.e l) q=
 let n:=aA N l;let v:=λl=>rn N p G k (.v l) q;if n.x=1 then aF [vN<|wr n.n]
 else if n.x=2 then aF [vT n.text]
 else if n.x=3 then aF [vB<|n.n==1]
 else if n.x=5 then (iQ (p l) q).bd λm=>(jA m<|p l).bd λr=>aF [r]
 else if n.x=6 then (bX l).bd λ_=>(eL ⟨64,λ_=>none,[],l,q⟩).bd λm=>aF [⟨64,0,[],C m⟩]
 else if n.x=7 then (v n.a).bd λA=>(rn N p G k (.vs n.M) q).bd λD=>(eO l (r1 A) 64).bd λ_=>
  (bR λc=>if c.ca=40 then .over 2 l else .ok () {c with ca:=c.ca+1}).bd λ_=>(fR<|r1 A).bd λt=>
  (X.cat<|(fM t.sc).bd λm=>(iG G (aA N t.nd).M D m).bd λ_=>rn N p G k (.b (aA N t.nd).a)<|C m).bd λr=>
  (bR λc=>.ok () {c with ca:=c.ca-1}).bd λ_=>aF r
 else if n.x=8 then (v n.a).bd λo=>(mB l (r1 o) n.text).bd λr=>aF [r]
 else if n.x=9 then (v n.a).bd λo=>(v n.b).bd λu=>(mY l (r1 o)<|r1 u).bd λr=>aF [r]
 else if n.x=10 then (rn N p G k (.vs<|n.M.map λx=>(aA N x).a) q).bd λy=>(bX l).bd λ_=>(eL ⟨16,parts (n.M.map λx=>(aA N x).text) y,[],0,none⟩).bd λm=>aF [⟨16,0,[],C m⟩]
 else if n.x=11 then (rn N p G k (.vs n.M) q).bd λy=>(bX l).bd λ_=>(eL ⟨32,λ_=>none,y,0,none⟩).bd λm=>aF [⟨32,0,[],C m⟩]
 else if n.x=12 then (v n.a).bd λu=>(v n.b).bd λB=>(mD l n.text (r1 u)<|r1 B).bd λr=>aF [r]
 else if n.x=13 then (v n.a).bd λu=>(kP l n.text<|r1 u).bd λr=>aF [r]
 else if n.x=14 then v n.a
 else aF [vO]:=Ω
def Ad{k}{x:Int}(t:fJ a c d i h)(F:∀w s g z q (l:Nat) R m p,Rm a w b d e G c.N s g z->z+4000<=1000000000->iL s.c q->∀o:l<Q c.N,c.N[l].x=x->oI c.N c.T l c.N[l]->R≠.stk->R=rn c.N (aR c) G (k+1) (.e l) q s->(λv:E=>v.heap[V w.heap]?=C Ab->I No w v->aJ a b w g v g->Rm a v b d e G c.N s g z->g.ow (V w.heap)=none/\b<V w.heap/\V a.heap<=V w.heap->Hid (∀r y,aJ a b v g r y->r.heap[V w.heap]?=C Ab/\y.ow (V w.heap)=none)->ρ a 0 3 1 (Y m (Q c.N[l].M) p) (Q c.N[l].M) (C8 c.N[l].M)->δ w (J b 0)=C (pV d)->δ w (J d 4)=C (.map<|C i)->∀j n,Ag w b d e c s x c.N[l] m p l j n->μ ε 176 #[pV b,U l,Γ<|pad g.sb q] w (RP a b d e G c.N (z+3000) w g s Kv R)) ((w.alloc Ab).alloc<|Ac c.N[l] m p)):CE a b d e G c (iB c x) λl q=>rn c.N (aR c) G (k+1) (.e l) q:=by
 intro w s g z q l m y r ⟨A,_,p⟩ n;obtain⟨l,rfl⟩:=È A;have o:l<Q c.N:=W;rw[B7 o]at p;obtain⟨fz,lt,m0,m1,m2,m3,m4⟩:=m.mc;obtain⟨i,j,k,u,q0,q1,q2,q3,q4,q5,⟨x0,x1,x2,x3,x4,x5,x6,x7,x8⟩,B⟩:=t.node m o;obtain⟨T,_,v⟩:=iT w Ab<|Ac c.N[l] k u;exact F w s g z q l _ k u m y r o p (t.ok.ew l o) n K T v (aJ.y v) (m.y v) ⟨m.new<|vQ _,lt,m.P.size⟩ (λr y Z=>Z.eu T (m.new<|vQ _) W ζ ζ) B m0 q2 i j ⟨fz,lt,m1,m2,m3,m4,q0,q1,q3,q4,q5,p▸x0,x1,x2,x3,x4,x5,x6,x7,x8⟩
def Qr{k}(t:fJ a c d i h):CE a b d e G c (iB c 2) λl q=>rn c.N (aR c) G (k+1) (.e l) q:=by
 refine Ad t ?_;rintro w s g z q l R la lc m ad ab o p a9 a6 n T v a4 r0 A M ho m0 q2 _ _ ⟨⟩;rw[mZ]at n;simp only[B7 o,p]at n;simp at n;have H:=O A;have ac:=t.ok.tx c.N[l]<|mQ o;have D:=O a4;have P:=O r0;have L:=O n;generalize pad g.sb q=ps at*;generalize c.N[l]=nd at*;obtain⟨kd,va,vb,vc,ls,tx,vn,vt,vp⟩:=nd;simp only[Ac]at*;subst p;go_in;go_wp2_with fail;refine(TP _ _).mono ?_;rintro a7 r ⟨rfl,B⟩;have x:=aJ.y (wB:=a) (mb:=b) (g:=g) B;obtain⟨u,S⟩:=M.u r g x;obtain⟨y0,y1,y2,y3,yz,yl⟩:=eU u<|ì No _;obtain⟨n1,n2,n3⟩:=H.u;have N:=O ((P.u.y B).je u S W W);have F:=O<|D.u.trans x;go_wp2;refine ç (by simp[ã,results176,go_sem,y0,y1,y2,y3];rfl) K ?_;rw[L.u];exact⟨g,_,K,F.u.je (vQ _) _ _ _ _,(N.u _ _ _ _).more W,Á _,vT tx,K,TL _ W,K⟩
def AW{k}(y:fJ a c d i h):CE a b d e G c (iB c 1) λl q=>rn c.N (aR c) G (k+1) (.e l) q:=by
 refine Ad y ?_;rintro w s g z q l R la lc m ac ab p o a9 a6 n T u a4 r0 A M ho m0 q2 _ _ ⟨⟩;rw[mZ]at n;simp only[B7 p,o]at n;simp at n;have H:=O A;have D:=O a4;have P:=O r0;have L:=O n;generalize pad g.sb q=ps at*;generalize c.N[l]=nd at*;obtain⟨kd,va,vb,vc,ls,tx,vn,vt,vp⟩:=nd;simp only[Ac]at*;subst o;go_in;go_wp2_with fail;refine(IL _ _).mono ?_;rintro a7 r ⟨rfl,B⟩;have v:=aJ.y (wB:=a) (mb:=b) (g:=g) B;obtain⟨t,S⟩:=M.u r g v;obtain⟨y0,y1,y2,y3,yz,yl⟩:=eU t<|ì No _;obtain⟨n1,n2,n3⟩:=H.u;have N:=O ((P.u.y B).je t S W W);have F:=O<|D.u.trans v;go_wp2;refine ç (by simp[ã,results176,go_sem,y0,y1,y2,y3,wrap32];rfl) K ?_;rw[L.u];exact⟨g,_,K,F.u.je (vQ _) _ _ _ _,(N.u _ _ _ _).more W,Á _,vN<|wr vn,K,IF _ _,K⟩
def Qp{k}(y:fJ a c d i h):CE a b d e G c (iB c 4) λl q=>rn c.N (aR c) G (k+1) (.e l) q:=by
 refine Ad y ?_;rintro w s g z q l R la lc m ac ab p o a9 a6 n T u a4 r0 A M ho m0 q2 _ _ ⟨⟩;rw[mZ]at n;simp only[B7 p,o]at n;simp at n;have H:=O A;have D:=O a4;have P:=O r0;have L:=O n;generalize pad g.sb q=ps at*;generalize c.N[l]=nd at*;obtain⟨kd,va,vb,vc,ls,tx,vn,vt,vp⟩:=nd;simp only[Ac]at*;subst o;go_in;go_wp2_with fail;refine(yE _).mono ?_;rintro a7 r ⟨rfl,B⟩;have v:=aJ.y (wB:=a) (mb:=b) (g:=g) B;obtain⟨t,S⟩:=M.u r g v;obtain⟨y0,y1,y2,y3,yz,yl⟩:=eU t<|ì No _;obtain⟨n1,n2,n3⟩:=H.u;have N:=O ((P.u.y B).je t S W W);have F:=O<|D.u.trans v;go_wp2;refine ç (by simp[ã,results176,go_sem,y0,y1,y2,y3];rfl) K ?_;rw[L.u];exact⟨g,_,K,F.u.je (vQ _) _ _ _ _,(N.u _ _ _ _).more W,Á _,vO,K,BQ _,K⟩
def Qi{k}(B:fJ a c d i h):CE a b d e G c (iB c 3) λl q=>rn c.N (aR c) G (k+1) (.e l) q:=by
 refine Ad B ?_;rintro w s g z q l R la lc m ad ac p o aa a7 n a4 x a5 r0 D N ho m0 q2 _ _ ⟨⟩;rw[mZ]at n;simp only[B7 p,o]at n;simp at n;have M:=O D;have H:=O a5;have S:=O r0;have u:=O n;obtain⟨bb,t⟩:∃Z,Z=(c.N[l].n==1):=⟨_,K⟩;rw[<-t]at u;replace t:=t.symm;generalize pad g.sb q=ps at*;generalize c.N[l]=nd at*;obtain⟨kd,va,vb,vc,ls,tx,vn,vt,vp⟩:=nd;simp only[Ac]at*;subst o;cases bb;all_goals
  go_in;go_wp2_with fail;refine(CM _ _).mono ?_;rintro a8 r ⟨rfl,F⟩;have y:=aJ.y (wB:=a) (mb:=b) (g:=g) F;obtain⟨v,T⟩:=N.u r g y;obtain⟨y0,y1,y2,y3,yz,yl⟩:=eU v<|ì No _;obtain⟨n1,n2,n3⟩:=M.u;have P:=O ((S.u.y F).je v T W W);have L:=O<|H.u.trans y;go_wp2;refine ç (by simp[ã,results176,go_sem,y0,y1,y2,y3];rfl) K ?_;rw[u.u];exact⟨g,_,K,L.u.je (vQ _) _ _ _ _,(P.u _ _ _ _).more W,Á _,vB _,K,BP _ _,K⟩
def LU{k}(y:fJ a c d i h)(N:gA a b d e G c k):CE a b d e G c (iB c 14) λl u=>rn c.N (aR c) G (k+1) (.e l) u:=by
 refine Ad y ?_;rintro w s g z u l R la lc n ai a4 t p T Z o P x S D A a9 ho m0 q2 _ _ ⟨⟩;have hz:z<=1000000000:=W;rw[mZ]at o;simp only[B7 t,p]at o;simp at o;have a8:=O A;have B:=N.at D hz a4 (M4 (T.l6 p).1) η;rw[<-o]at B;have ab:=O B;have H:=O S;have R0:=O D;have HR:=O o;generalize pad g.sb u=ps at*;generalize c.N[l]=nd at*;obtain⟨kd,va,vb,vc,ls,tx,vn,vt,vp⟩:=nd;simp only[Ac]at*;subst p;clear y n o Z T x ho P S D a4 A N B HR;go_in;go_wp2_with fail;refine ab.u.mono ?_;rintro ag v q;have hp:=(q.pre H.u<|Á _).more (show z<=z+3000 by omega);cases R with
 |stk=>exact q.elim
 |over al aj s'=>
  obtain⟨m,ae,rfl,r,F⟩:=q;exact⟨K,hp⟩
 |back a5 s'=>
  obtain⟨m,ae,rfl,r,F,M,hu⟩:=q;exact⟨K,hp⟩
 |ok af s2=>
  obtain⟨m,ak,rfl,r,F,M,a5,rfl,hu,rfl⟩:=q;obtain⟨L,a3⟩:=a9.u v m r;obtain⟨y0,y1,y2,y3,yz,yl⟩:=eU L<|ì No _;obtain⟨n1,n2,n3⟩:=a8.u;have aa:=O (F.je L a3 W W);have a6:=O<|H.u.trans r;have a7:=O M;have HU:=O hu;unfold bT;go_wp2;refine ç (by simp[ã,results176,go_sem,y0,y1,y2,y3];rfl) K ?_;exact⟨m,_,K,a6.u.je (vQ _) _ _ _ _,(aa.u _ _ _ _).more W,a7.u,a5,K,HU.u,K⟩
def Dn(P:ò->E->Prop)(q:Nat)(r:ò)(k:E):Prop:=(∃t,r=Â t/\P (Â t) k)\/∃l m p n,r=π (.agg #[U l,.int à m,ι p,Γ n])/\
 δ k (J q 0)=C (U 0)/\δ k (J q 1)=C (.int à 0)/\δ k (J q 2)=C (ι ⟨#[]⟩)/\δ k (J q 3)=C (Γ none)/\(∀o,k.frozen? (J q o)=κ)/\q<V k.heap/\
 Hid (P (π<|.agg #[U l,.int à m,ι p,Γ n])<|σ (σ (σ (σ k (J q 0)<|U l) (J q 1)<|.int à m) (J q 2)<|.string p) (J q 3)<|Γ n)
def Bz{o F}{k}{l}{q}{m:X Vl}{R}{v}(N:o.heap[q]?=C Ab)(S:k.ow q=none)(T:V w.heap<=q)(A:q≠b)(M:V a.heap<=q)(hF:aJ a b w g o k)(B:Rm a o b d e G c.N l k z)(P:Gr s.c l.c)
 (x:R=(m.bd λr=>aF [r]) l) (L:uT k.tb l o (m l) v F):Dn (RP a b d e G c.N (z+3000) w g s Kv R) q v F:=by
 obtain⟨n,p⟩:=L;cases t:m l with
 |stk=>grind
 |back u' D=>grind
 |over a5 a4 D=>
  rw[t]at p;obtain⟨rfl,rfl⟩:=p;refine .inl ⟨_,K,?_⟩;rw[x,I5 t];exact⟨k,[],K,hF.trans<|aJ.y n,(B.y n).more W⟩
 |ok y D=>
  rw[t]at p;obtain⟨rfl,Z,rfl⟩:=p;obtain⟨u,H⟩:=(aJ.y (wB:=a) n).eu N S A ζ ζ;obtain⟨y0,y1,y2,y3,yz,yl⟩:=eU u<|ì No _;refine .inr ⟨_,_,_,_,K,y0,y1,y2,y3,yz,yl,?_⟩;rw[x,J0 t];exact⟨k,_,K,(hF.trans<|aJ.y n).je T _ _ _ _,((B.y n).je u H M A _ _ _ _).more W,P,y,K,Z,K⟩
def JF{n}{B}{L}{KP:E->Prop}{q F2:Nat}{args:υ->Array υ}{op:Vl->X Vl}{a4}{H}{M}{R}(hV:gA a b d e G c a4)(a5:Rm a n b d e G c.N s g z)(hz:z<=1000000000)(a9:iL s.c M)(hi:oM c H)
 (D:R=((rn c.N (aR c) G a4 (.v H) M).bd λx=>(op<|r1 x).bd λr=>aF [r]) s) (ab:R≠.stk) (S:aJ a b w B n g) (T:Gr L.c s.c) (hb:n.heap[q]?=C Ab) (ho:g.ow q=none) (hq:V w.heap<=q) (hm:q≠b) (hB:V a.heap<=q)
 (hK:∀j f,aJ a b n g j f->KP j) (a7:∀k m l u,Rm a k b d e G c.N m l z->Gr s.c m.c->aJ a b n g k l->aZ m.c u->μ ε F2 (args<|bT l.tb u) k (uT l.tb m k<|op u m)):
 ∀y,I No n y->μ ε 114 #[pV b,U H,Γ<|pad g.sb M] y λt k=>(∃v,t=Â v/\RP a b d e G c.N (z+3000) w B L Kv R (Â v) k)\/∃ug un ut up,t=π (.agg #[U ug,.int à un,ι ut,Γ up])/\KP k/\
  Hid (∀p,I No k p->μ ε F2 (args<|.agg #[U ug,.int à un,ι ut,Γ up]) p (Dn (RP a b d e G c.N (z+3000) w B L Kv R) q)):=by
 intro y hW;have o:=aJ.y (wB:=a) (mb:=b) (g:=g) hW;refine(hV.at (a5.y hW) hz a9 hi<|P8<|by rw[<-D];omega).mono ?_;rintro t k a8;obtain⟨v,rfl,hh⟩|⟨aa,m,l,ac,rfl,e1,-,N,r2,P,u,rfl,hu,rfl⟩:=RP.cut (λx=>(op<|r1 x).bd λr=>aF [r]) a8
 .exact .inl ⟨v,K,by rw[D];exact(hh.pre (S.trans o) T).more W⟩
 .refine .inr ⟨u.g,u.n,⟨ξ u.t⟩,pad l.tb u.h,K,hK _ _<|o.trans N,λp F=>?_⟩;have A:=N.trans<|aJ.y F;obtain⟨a2,a3⟩:=(o.trans A).eu hb ho hm ζ ζ;refine(a7 p m l u (r2.y F) P (o.trans A) hu).mono ?_;rintro t ad a6;have Z:=D;rw[e1]at Z;exact Bz a2 a3 hq hm hB (S.trans<|o.trans A) (r2.y F) (T.trans P) Z a6
def AU{k}(x:fJ a c d i h)(T:gA a b d e G c k):CE a b d e G c (iB c 13) λl y=>rn c.N (aR c) G (k+1) (.e l) y:=by
 refine Ad x ?_;rintro w s g z y l R L M o ag a2 t r Z H p B A D N v a6 ho m0 q2 _ _ ⟨⟩;have hz:z<=1000000000:=W;rw[mZ]at p;simp only[B7 t,r]at p;simp only[Ö,if_false,if_true]at p;have a5:=O v;have af:=x.ok.tx c.N[l]<|mQ t;have P:Hid (∀m n,aJ a b ((w.alloc Ab).alloc<|Ac c.N[l] L M) g m n->_):=λ_ _=>qK<|o.y<|ν _ _ _;have a3:=JF (KP:=λm=>δ m (J (V w.heap+1) 5)=C (ι ⟨ξ c.N[l].text⟩)/\V w.heap+1<V m.heap) (F2:=238) (args:=λab=>#[U (l:Int),ι ⟨ξ c.N[l].text⟩,ab]) (op:=λu=>kP (l:Int) c.N[l].text u) T N hz a2 (M4<|Z.k1 W) p H D (Á _) B v.1 (vQ _) W v.2.2
  (λj f q=>by
   obtain⟨-,-,-,-,-,z5,-,-,-,zl⟩:=P.u j f q;simp_all) λm s2 n u r2 ac _ hu=>B6f n.tb s2 (l:Int) c.N[l].text u m;have S:=O a3;have a4:=O D;have R0:=O N;have HR:=O p;have ad:(l:Int)<(Q c.N:Int):=W;generalize pad g.sb y=ps at*;generalize c.N[l]=nd at*;obtain⟨kd,va,vb,vc,ls,tx,vn,vt,vp⟩:=nd;simp only[Ac]at*;subst r;clear x o p H Z A ho B D N a2 v T a3 P a6 a5 R0 a4 HR;go_in;go_wp2_with fail;go_region_with (first|(go_at_call 114;refine(S.u _<|Ψ No _ 1).mono ?_;rintro a7 m (⟨aa,rfl,F⟩|⟨ug,un,ut,up,rfl,⟨t1,t2⟩,T6⟩);exact⟨K,F⟩)|(go_at_call 238;refine(T6.u _<|ì _ _).mono ?_;rintro a7 ak (⟨aa,rfl,F⟩|⟨vg,ah,aj,ai,rfl,y0,y1,y2,y3,yz,yl,E4⟩);exact⟨K,F⟩));all_goals go_wp2_with fail
 all_goals refine ç (by simp[ã,results176,go_sem,y0,y1,y2,y3];rfl) K ?_
 all_goals exact E4.u
def AX{k}(v:fJ a c d i h)(S:gA a b d e G c k):CE a b d e G c (iB c 8) λl x=>rn c.N (aR c) G (k+1) (.e l) x:=by
 refine Ad v ?_;rintro w s g z x l R H L o ag Z t r T F p A y B M u a6 ho m0 q2 _ _ ⟨⟩;have hz:z<=1000000000:=W;rw[mZ]at p;simp only[B7 t,r]at p;simp only[Ö,if_false,if_true]at p;have a5:=O u;have af:=v.ok.tx c.N[l]<|mQ t;have N:Hid (∀m n,aJ a b ((w.alloc Ab).alloc<|Ac c.N[l] H L) g m n->_):=λ_ _=>qK<|o.y<|ν _ _ _;have a2:=JF (KP:=λm=>δ m (J (V w.heap+1) 5)=C (ι ⟨ξ c.N[l].text⟩)/\V w.heap+1<V m.heap) (F2:=233) (args:=λab=>#[U (l:Int),ab,ι ⟨ξ c.N[l].text⟩]) (op:=λa3=>mB (l:Int) a3 c.N[l].text) S M hz Z (M4<|T.k1 W) p F B (Á _) A u.1 (vQ _) W u.2.2
  (λj f q=>by
   obtain⟨-,-,-,-,-,z5,-,-,-,zl⟩:=N.u j f q;simp_all) (λm s2 n a3 r2 ac _ hu=>B9f r2 (l:Int) hu c.N[l].text W);have P:=O a2;have a4:=O B;have R0:=O M;have HR:=O p;have ad:(l:Int)<(Q c.N:Int):=W;generalize pad g.sb x=ps at*;generalize c.N[l]=nd at*;obtain⟨kd,va,vb,vc,ls,tx,vn,vt,vp⟩:=nd;simp only[Ac]at*;subst r;clear v o p F T y ho A B M Z u S a2 N a6 a5 R0 a4 HR;go_in;go_wp2_with fail;go_region_with (first|(go_at_call 114;refine(P.u _<|Ψ No _ 1).mono ?_;rintro a7 m (⟨aa,rfl,D⟩|⟨ug,un,ut,up,rfl,⟨t1,t2⟩,T6⟩);exact⟨K,D⟩)|(go_at_call 233;refine(T6.u _<|ì _ _).mono ?_;rintro a7 ak (⟨aa,rfl,D⟩|⟨vg,ah,aj,ai,rfl,y0,y1,y2,y3,yz,yl,E4⟩);exact⟨K,D⟩));all_goals go_wp2_with fail
 all_goals refine ç (by simp[ã,results176,go_sem,y0,y1,y2,y3];rfl) K ?_
 all_goals exact E4.u
theorem Io{N}{t}:∀(k) (l) (n) (s u) (o),rn N t G k (.vs l) n s=.ok o u->Q o=Q l
 |0,_,_,_,_,_,m=>by grind[rn]
 |_+1,[],_,s,u,o,m=>by
  simp_all[rn,aF,bR,Rr.ok.injEq]
 |k+1,D::l,n,s,u,o,m=>by
  rw[rn]at m;unfold X.bd at m;cases B:rn N t G k (.v D) n s with
  |ok r p=>
   rw[B]at m;simp only at m;cases A:rn N t G k (.vs l) n p with
   |ok q y=>
    rw[A]at m;simp only[aF,bR,Rr.ok.injEq]at m;rw[<-m.1,jQ,jQ,Io k l n p y q A]
   |over x F y=>grind
   |back v y=>grind
   |stk=>grind
  |over x F p=>grind
  |back v p=>grind
  |stk=>grind
def QR{r o:E}{m:Gh}{l}{t:Th}{mq u qm q lc:Nat}{pv}{la:Option í}{R:Rr (List Vl)}(A:r.heap[q]?=C Ab)(ho:m.ow q=none)(hq:V w.heap<=q)(hm:q≠b)(N:V a.heap<=q)(ae:∀n,la=C n->q<n.block)(af:t.k=16->q<qm)
 (hF:aJ a b w g r m) (hr:Rm a r b d e G c.N l m z) (hg:Gr s.c l.c) (D:jP c.N {l.c with T:=l.c.T++[t]} t) (y:I No r o) (Z:V r.heap<=u) (H:o.heap[u]?=C (γ #[pv,Y la (Q t.l) lc,U t.nd,Γ<|pad m.sb t.sc] 209 (0,0)))
 (hp:if t.k=16 then pv=.map (C qm)/\V a.heap<=qm/\m.ow qm=none/\qm≠e/\gH 9 o qm mq (mK t.p m.tb) else pv=.map none) (a5:ρ o (V a.heap) 180 4 (Y la (Q t.l) lc) (Q t.l)<|t.l.flatMap<|gF m.tb) (hl:∀n,la=C n->m.ow n.block=none) (hv:∀x v,t.p x=C v->aZ l.c v) (a9:∀v∈t.l,aZ l.c v) (hz:mq<=3000)
 (S:R=((eL t).bd λaa=>aF [⟨t.k,0,[],C aa⟩]) l):
 RP a b d e G c.N (z+3000) w g s Kv R (π<|.agg #[U t.k,.int à 0,ι ⟨#[]⟩,pV u]) (σ (σ (σ (σ o (J q 0)<|U t.k) (J q 1)<|.int à 0) (J q 2)<|ι ⟨#[]⟩) (J q 3)<|pV u):=by
 obtain⟨f,F,a7,a8,ad,ac,B⟩:=hr.ko D y Z H hp a5 hl hv a9;have a6:=(aG A);have a2:=(y.block q a6 λx=>x).trans A;have a4:=B q ho W (λM=>W) (λp=>by
  cases la with
  |none=>grind[Θ]
  |some n=>grind[Θ]);have P:aJ a b w g o f:=by
  refine⟨(hF.trans<|aJ.y y).P,λk ab hk L=>hF.ow k ab hk ?_,hF.tb.trans a8,a7 ▸ hF.sb⟩;cases p:m.ow k with
  |some F=>grind
  |none=>
   refine absurd L ?_;rw[B k p W (λM=>W) λp=>?_]
   .simp
   cases la with
   |none=>grind[Θ]
   |some n=>grind[Θ]
 have a3:eL t l=.ok (Q l.c.T) {l with c:={l.c with T:=l.c.T++[t]}}:=K;rw[S,J0 a3];refine⟨f,_,K,P.je hq _ _ _ _,(F.je a2 a4 N hm _ _ _ _).more W,hg.trans<|W8 t,_,K,⟨θ,θ,by simp only;obtain p|p|p:=D.k<;>omega,t,θ,K⟩,?_⟩;grind[bT]
def LR{ab}(M:fJ a c d i h):CE a b d e G c (iB c 6) λk n=>rn c.N (aR c) G (ab+1) (.e k) n:=by
 refine Ad M ?_;rintro w s g z n k R la lc m ai a9 v q ae a8 o a4 H a5 S P B ho m0 q2 _ _ ⟨⟩;rw[mZ]at o;simp only[B7 v,q]at o;simp at o;have T:=O P;have a7:=IQ S k;have y:=O a7;have aa:∀F:Co,Gr s.c F->jP c.N F ⟨64,λ_=>none,[],k,n⟩:=λF hg=>⟨.inr<|.inr K,(λ_ _ l=>η),(λ_ l=>η),a9.gr hg,θ,λ_=>⟨θ,â,by grind[B7]⟩⟩;have Z:=O aa;have r:=O a5;have R0:=O S;have A:=O o;generalize c.N[k]=nd at*;obtain⟨kd,va,vb,vc,ls,tx,vn,vt,vp⟩:=nd;simp only[Ac]at*;subst q;clear M m o a8 ae H ho a4 a5 S a9 P a7 aa;go_in;go_wp2_with fail;refine y.u.mono ?_;rintro l p ⟨t,⟨h1,u,rfl,x⟩|⟨h1,u,rfl,x⟩⟩
 .exact⟨K,by rw[A.u,I5 u];exact⟨g,[],K,r.u.trans t,x.more W⟩⟩
 have L:=A.u;rw[J0 u]at L;obtain⟨D,a3⟩:=B.u p g t;obtain⟨n1,n2,n3⟩:=T.u;obtain⟨y0,y1,y2,y3,yz,yl⟩:=eU D<|ν No p<|γ #[.map none,sN,U k,Γ<|pad g.sb n] 209;have N:Gr s.c (cS s s.c.ca<|s.c.th+1).c:=⟨λ_ ag ht=>⟨ag,ht,K⟩,vQ _⟩;have a6:=QR (qm:=0) (lc:=0) D a3 (vQ _) W n3 (λ_ l=>η) (λl=>absurd (show (64:Int)=16 from l) ζ) (r.u.trans t) x N (Z.u _<|N.trans<|W8 _) (ν No p<|γ #[.map none,sN,U (k:Int),Γ<|pad g.sb n] 209) (vQ _) (rY _ _) Ω (kW _ _ _ _) (λ_ l=>η) (λ_ _ l=>η) (λ_ l=>η) (wQ _) L;have ac:=O a6;generalize pad g.sb n=ps at*;clear D a3 n1 n2 n3 t x L N a6 y Z B T R0 r A u;go_wp2;refine ç (by simp[ã,results176,go_sem,y0,y1,y2,y3];rfl) K ?_;exact ac.u
def AY{a8}(v:fJ a c d i h)(av:∀k',k'<a8->gA a b d e G c k'):CE a b d e G c (iB c 11) λk M=>rn c.N (aR c) G (a8+1) (.e k) M:=by
 refine Ad v ?_;rintro w s g z M k ag la lc m b4 ap p o an ao n ak ca al r0 a6 R ho m0 q2 _ _ ⟨⟩;have hz:z<=1000000000:=W;rw[mZ]at n;simp only[B7 p,o]at n;simp at n;have ae:=O a6;have aq:=XE av r0 hz ap ho (λx hx=>M4<|an.ny o x hx) (by have:=v.ok.ls k p;omega) (P8<|by rw[<-n];omega);have S:=O aq;have b3:=v.ok.ls k p;have af:Hid (V w.heap+2=V ((w.alloc Ab).alloc<|Ac c.N[k] la lc).heap):=by show _=_;simp
 have r:=O al;have R0:=O r0;have N:=O n;generalize pad g.sb M=ps at*;generalize c.N[k]=nd at*;obtain⟨kd,va,vb,vc,ls,tx,vn,vt,vp⟩:=nd;simp only[Ac]at*;subst o;clear v m n ao an ca ho ak al r0 ap a6 aq;go_in;go_wp2_with fail;refine S.u.mono ?_;rintro l aa hq;obtain⟨b6,rfl,hh⟩|⟨ah,L,u,b7,rfl,e1,e0,ai,r2,aj,q,a7⟩:=RP.cut (K':=Kv) (λvs=>(bX (k:Int)).bd λ_=>(eL ⟨32,λ_=>none,vs,0,none⟩).bd λb0=>aF [⟨32,0,[],C b0⟩]) hq
 .exact⟨K,by rw[N.u];exact(hh.pre r.u<|Á _).more W⟩
 have ab:=O<|Io _ _ _ _ _ _ e0;have a4:=N.u;rw[e1]at a4;obtain⟨Z,cp,rfl⟩:=B8 a7.1;have ac:=O<|IQ r2 (k:Int);have R2:=O r2;have y:=O ai;have G2:=O aj;have P:=O a4;have A:=O q;have HL:=O a7;clear hq e1 e0 ai r2 aj a4 S q a7 N;go_wp2_with fail;refine ac.u.mono ?_;rintro l ar ⟨t,⟨h1,D,rfl,H⟩|⟨h1,D,rfl,H⟩⟩
 .exact⟨K,by rw[P.u,I5 D];exact⟨u,[],K,r.u.trans<|y.u.trans t,H.more W⟩⟩
 have a5:=P.u;rw[J0 D]at a5;obtain⟨T,a3⟩:=R.u ar u<|y.u.trans t;obtain⟨n1,n2,n3⟩:=ae.u;obtain⟨l1,l2⟩:=HL.u.eu R2.u t A.u;have F:Gr L.c (cS L L.c.ca<|L.c.th+1).c:=⟨λ_ b1 ht=>⟨b1,ht,K⟩,vQ _⟩;have B:=ν No ar<|γ #[.map none,Y Z (Q ah) cp,U 0,Γ none] 209;obtain⟨y0,y1,y2,y3,yz,yl⟩:=eU T B;have ay:∀x,Z=C x->V w.heap+2<=x.block:=λx l=>by
  subst l;have:=(A9 l1 x.block K).1;simp_all
 have aw:=ab.u;have am:=QR (t:=⟨32,λ_=>none,ah,0,none⟩) (mq:=0) (qm:=0) (pv:=.map none) (la:=Z) (lc:=cp) T a3 (vQ _) W n3 (λx l=>η) (λl=>absurd (show (32:Int)=16 from l) ζ) (r.u.trans<|y.u.trans t) H (G2.u.trans F)
  ⟨.inr<|.inl K,(λ_ _ l=>η),λa9 q=>(A.u a9 q).gr<|F.trans<|W8 _,(λ_ l=>η),η,(λl=>absurd (show (32:Int)=64 from l) ζ)⟩ B (vQ _) (rY _ _) Ω (C7 (A3 l1 B λ_ _ x=>x)<|by have b5:=af.u;omega) (λx l=>l2 x.block<|by subst l;rfl) (λ_ _ l=>η) (λa9 q=>(A.u a9 q).gr F) (wQ _) a5;have au:=O am;clear aw ab T a3 n1 n2 n3 t H a5 F am ac R ae R0 r D l1 l2 B ay R2 y G2 P A HL;go_wp2;refine ç (by simp[ã,results176,go_sem,y0,y1,y2,y3];rfl) K ?_;exact au.u
def Kj(k:Nat)(l:Ms)(f:Gh)(_:E)(v:υ):Prop:=k<Q l.c.S/\v=Γ (pad f.sb<|C k)
theorem C0d{k:Type}(l:List k)(n):(l.drop n).tail=l.drop (n+1):=θ
theorem ji{m:Type}(l:List m)(n)(k):(l.drop n).headD k=l[n]?.getD k:=θ
theorem MB{n o q}(m:X n)(k)(l:o->X q):(m.bd k).bd l=m.bd λp=>(k p).bd l:=by
 funext s;grind[X.bd]
theorem zq(p)(l:uZ)(m:List Vl)(k)(s):((iG G (p::l) m k).bd λ_=>aF k) s=((dJ G p<|m.headD vO).bd λv=>(eY k p v).bd λ_=>(iG G l m.tail k).bd λ_=>aF k) s:=by
 simp_all[iG,MB]
def D6d(hS:fJ a c d i h)(am:Rm a w b d e G c.N s g z)(hz:z+4000<=1000000000){sc:Option Nat}(bb:iL s.c sc){k}{la:Option í}{lc}(hl:ρ a 0 3 1 (Y la (Q k) lc) (Q k)<|C8 k)(b7:∀bd∈k,0<=bd/\bd<Q c.N)(hn:Q k<=1200){l:List Vl}{ab}{ad:Option í}{ac}(az:∀u∈l,aZ s.c u)(ba:gU w g ab (Y ad (Q l) ac) l){R:Rr Nat}
 (hR:R=((fM sc).bd λo=>(iG G k l o).bd λ_=>aF o) s):
 μ ε 293 #[pV b,Y la (Q k) lc,Y ad (Q l) ac,Γ<|pad g.sb sc] w (RP a b d e G c.N (z+2400) w g s Kj R):=by
 have aw:=O<|Je am bb;have HL:=O hl;have bj:=O b7;have HR:=O hR;have HH:=O am;have ae:=O az;have ax:=O ba;have c7:=hS.ok.fp;have a4:=O yE;clear am hl b7 hR az ba bb hS;generalize pad g.sb sc=cb at*;go_in;go_wp2_with fail;refine aw.u.mono ?_;rintro r ar hq;obtain⟨P,rfl,hh⟩|⟨o,s1,m,cc,rfl,e1,-,ak,bh,al,hj,rfl⟩:=RP.cut (K':=Kj) (λo=>(iG G k l o).bd λ_=>aF o) hq
 .have:RP a b d e G c.N (z+2400) w g s Kj R (Â P) ar:=by rw[HR.u];exact hh.more W
  exact⟨K,this⟩
 have an:=HR.u;rw[e1]at an;obtain⟨L,hb⟩:∃L,pad m.sb (C o)=C (J L 0):=⟨_,K⟩;have af:=O hb;have bo:=O<|ax.u.eu HH.u ak ae.u;have bi:Hid (∀u∈l,aZ s1.c u):=λu x=>(ae.u u x).gr al;have bn:=O an;have R1:=O bh;have F1:=O ak;have G1:=O al;have HJ:=O hj;rw[hb];clear hq e1 an ak bh al hj hb aw HR ax ae;go_wp2_with fail;go_loopw [17] (λaq wr=>∃(n:Nat) (F:Ms),n<=Q k/\aq=U (n:Int)/\Hid (R=((iG G (k.drop n) (l.drop n) o).bd λ_=>aF o) F)/\Hid (Rm a wr b d e G c.N F m<|z+2*n)/\Hid (aJ a b ar m wr m)/\Hid (Gr s1.c F.c)/\Hid (gU wr m ab (Y ad (Q l) ac) l)) (λaq _=>Q k-(intOf aq).toNat);case atStart=>exact⟨0,s1,wQ _,K,bn,R1,aJ.y<|ì _ _,Á _,bo⟩
 case round=>
  obtain⟨n,F,c9,rfl,a5,q,H,t,T⟩:=hrel;by_cases b8:n<Q k
  .have hx:=bj.u k[n]<|mQ b8;have ap:0<=k[n]/\k[n]<=1000000:=W;have a3:=a5.u;rw[List.drop_eq_getElem_cons b8,zq,C0d,ji]at a3;have b4:=A3 HL.u q.u.P λ_ _ aa=>aa;obtain⟨gl,bt,-,c5,bz,bp,b3⟩:=D5 b4 W;subst bt;have v0:=b3 n (U k[n]) (by grind[C8]);have ao:=yQ HJ.u t.u.S;have b0:=λu x=>(bi.u u x).gr t.u;obtain⟨b',a9,bg,a8,p3,-,-,D,-,-⟩:=q.u.scope<|gQ ao;rw[af.u]at bg;cases bg;obtain⟨u,x⟩:∃u,u=l[n]?.getD vO:=⟨_,K⟩;rw[<-x]at a3;have bv:aZ F.c u:=by
    rw[x];cases r:l[n]? with
    |none=>grind[BQ]
    |some y=>grind
   have bc:∀ύ,I No wr ύ->μ ε 175 #[pV b,U k[n],.agg #[U u.g,.int à u.n,ι ⟨ξ u.t⟩,Γ<|pad m.tb u.h]] ύ λr A=>(∃P,r=Â P/\RP a b d e G c.N (z+2400) w g s Kj R (Â P) A)\/∃B,r=π (.agg #[U u.g,.int à u.n,ι ⟨ξ u.t⟩,Γ<|pad m.tb u.h])/\A.cell? (J L 0)=C (.map<|C a9)/\L<V A.heap/\(Ï 175 (.map<|C a9) (U k[n])<|.agg #[U u.g,.int à u.n,ι ⟨ξ u.t⟩,Γ<|pad m.tb u.h]).run ε A=.ok () B/\
    Hid (∃S,R=((iG G (k.drop<|n+1) (l.drop<|n+1) o).bd λ_=>aF o) S/\Rm a B b d e G c.N S m (z+2*(n+1))/\aJ a b ar m B m/\Gr s1.c S.c/\gU B m ab (Y ad (Q l) ac) l):=by
    intro ύ hW;have a7:=aJ.y (wB:=a) (mb:=b) (g:=m) hW;refine(Gp (q.u.y hW) W k[n] ap u).mono ?_;rintro r A ⟨a6,v⟩;cases M:dJ G k[n] u F with
    |stk=>rw[M]at v;exact v.elim
    |back u s1=>rw[M]at v;exact v.elim
    |over y k' s3=>
     rw[M]at v;obtain⟨rfl,rfl,h4⟩:=v;refine .inl ⟨_,K,?_⟩;rw[a3,I5 M];exact⟨m,[],K,F1.u.trans<|H.u.trans<|a7.trans a6,h4.more W⟩
    |ok y s3=>
     rw[M]at v;obtain⟨rfl,b1,-,rfl,h4⟩:=v;have bs:o<Q s3.c.S:=by rw[b1];exact ao
     obtain⟨b',r',t1,t2,t3,B,t4,t5,t6⟩:=h4.ke (gQ bs) ap (v:=y) η W;rw[af.u]at t1;cases t1;have b2:A.cell? (J L 0)=C (.map<|C a9):=by
      have:=(a7.trans a6).r6 q.u p3;unfold δ at D⊢;simp only at D⊢;rw[this];exact D
     have hr:r'=a9:=by
      rw[b2]at t3;simpa using t3.symm
     subst hr;refine .inr ⟨B,K,b2,t2,t4,pS s3 o k[n] y,?_,W,H.u.trans<|(a7.trans a6).trans t6,?_,T.u.eu q.u ((a7.trans a6).trans t6) b0⟩
     .rw[a3,J0 M,J0<|show eY o k[n] y s3=.ok () (pS s3 o k[n] y) from K]
     .have:=t.u;rw[<-b1]at this;exact this.trans<|vF o _
   have ag:=O bc;have ay:=O x;unfold Δ at bp;have c8:(n:Int)<(Q k:Int):=W;clear b3 b4 hx ap a3 a5 bc ao b0 bv x p3;generalize k[n]=aa at*;by_cases b9:n<Q l
   .have bu:(n:Int)<(Q l:Int):=W;go_wp2_with fail;refine(a4.u _).mono ?_;rintro r au ⟨rfl,p⟩;have b6:=A3 T.u.1 p λ_ _ aa=>aa;obtain⟨gh,br,-,c6,c4,bq,a2⟩:=D5 b6 W;subst br;obtain⟨ah,ai,aj,c3⟩:=MZ (tb:=m.tb)<|gQ b9;have N:=ay.u;rw[gQ b9,Option.getD_some]at N;rw[<-N]at ah ai aj c3;have d0:=a2 _ _ ah;have d1:=a2 _ _ ai;have d2:=a2 _ _ aj;have d3:=a2 _ _ c3;have bx:=A4 p D;have bw:=yQ a8 p.size;have CA:=O<|B6 p<|ν No au<|γ #[U u.g,.int à u.n,ι ⟨ξ u.t⟩,Γ<|pad m.tb u.h] 180;unfold Δ at bq;clear b6 a2 ah ai aj c3 N p D a8 a4 T q H t;go_wp2_with fail;go_region_with (go_at_call 175;refine(ag.u _<|B6 CA.u<|Ψ No _ 1).mono ?_;rintro r A (⟨P,rfl,hh⟩|⟨B,rfl,e1,e2,e3,E4⟩);exact⟨K,hh⟩);all_goals go_wp2_with fail
    all_goals
     obtain⟨S,be,p,bf,k4,k5⟩:=E4.u;exact⟨⟨n+1,S,W,ï,be,p,bf,k4,k5⟩,by grind[intOf]⟩
   .have bu:¬(n:Int)<(Q l:Int):=W;go_wp2_with fail;refine(a4.u _).mono ?_;rintro r au ⟨rfl,p⟩;have N:=ay.u;rw[List.getElem?_eq_none W,Option.getD_none]at N;have bx:=A4 p D;have bw:=yQ a8 p.size;have CA:=O<|B6 p<|ν No au<|γ #[U 8,.int à 0,ι ⟨#[]⟩,Γ none] 180;subst N;clear p D a8 a4 T q H t;simp only[vO,pad,Option.map_none]at ag;go_wp2_with fail;go_region_with (go_at_call 175;refine(ag.u _<|B6 CA.u<|Ψ No _ 1).mono ?_;rintro r A (⟨P,rfl,hh⟩|⟨B,rfl,e1,e2,e3,E4⟩);exact⟨K,hh⟩);all_goals go_wp2_with fail
    all_goals
     obtain⟨S,be,p,bf,k4,k5⟩:=E4.u;grind[intOf]
  .have b5:n=Q k:=W;have Z:=a5.u;rw[b5,List.drop_length]at Z;replace Z:R=.ok o F:=Z;have bm:Hid (RP a b d e G c.N (z+2400) w g s Kj R (π<|pV L) wr):=by
    show RP _ _ _ _ _ _ _ _ _ _ _ _ _ _;rw[Z];exact⟨m,_,K,F1.u.trans H.u,q.u.more W,G1.u.trans t.u,yQ HJ.u t.u.S,by rw[af.u]⟩
   have ca:¬(n:Int)<(Q k:Int):=W;clear Z b5 a5 q H t T;go_wp2;go_ret;exact bm.u
end
def Zx(q)(f g)(i)(h)(a b c d)(j)(w:E)(l:δ w (J q 0)=C a)(t:δ w (J q 1)=C b)(u:δ w (J q 2)=C c)(x:δ w (J q 3)=C d)(A:∀o,w.frozen? (J q o)=κ):
 CallsD ε 292 #[pV q] (.panicking<|{v:=.iface 185<|.agg #[U f,.int à g,ι i,Γ h],recovered:=κ}::j) w λe n p=>
  e=rT/\n=.panicking ({v:=.iface 185<|.agg #[U f,.int à g,ι i,Γ h],recovered:=τ}::j)/\p=ω (σ (σ (σ (σ w (J q 0)<|U f) (J q 1)<|.int à g) (J q 2)<|.string i) (J q 3)<|Γ h) (γ #[U f,.int à g,ι i,Γ h] 185):=by
 refine callsD_of_wpS func292 K λs r m=>?_;apply wpS_seq;apply wpS_region;simp[wpOpsS,go_sem,recoverD,m,ntmps292,Exit.thenS];refine wpS_of_wp ?_;have z:∀w:E,(Instr.typeAssert (.iface 185<|.agg #[U f,.int à g,ι i,Γ h]) 20 185 τ).run ε w=.ok (.tuple #[.agg #[U f,.int à g,ι i,Γ h],.bool τ]) w:=λ_=>î;have k:(#[pV q]++((Array.replicate 15 Φ).setIfInBounds 3<|.iface 185<|.agg #[U f,.int à g,ι i,Γ h]).setIfInBounds 0 (.iface 185<|.agg #[U f,.int à g,ι i,Γ h]):Array υ)=#[pV q,.iface 185<|.agg #[U f,.int à g,ι i,Γ h],Φ,Φ,.iface 185<|.agg #[U f,.int à g,ι i,Γ h],Φ,Φ,Φ,Φ,Φ,Φ,Φ,Φ,Φ,Φ,Φ]:=K;rw[k];have y:=World.block_lt_of_cell? w _ l;go_wp2;exact⟨K,_,K,_,by simp[ã,results292],K,K,K⟩
def Zy(q)(w:E):
 CallsD ε 292 #[pV q] .returning w λe d f=>
  e=rT/\d=.returning/\I No w f:=by
 refine callsD_of_wpS func292 K λb g a=>?_;apply wpS_seq;apply wpS_region;simp[wpOpsS,go_sem,recoverD,a,ntmps292,Exit.thenS];refine wpS_of_wp ?_;have h:∀w:E,(Instr.typeAssert .nilIface 20 185 τ).run ε w=.ok (.tuple #[.agg #[U 0,.int à 0,ι ⟨#[]⟩,Γ none],.bool κ]) w:=λ_=>î;have c:(#[pV q]++((Array.replicate 15 Φ).setIfInBounds 3 .nilIface).setIfInBounds 0 .nilIface:Array υ)=#[pV q,.nilIface,Φ,Φ,.nilIface,Φ,Φ,Φ,Φ,Φ,Φ,Φ,Φ,Φ,Φ,Φ]:=K;rw[c];go_wp2;cases b;simp only at a;subst a;exact⟨K,_,K,_,by simp[ã,results292],K,K,ν _ _ _⟩
def ij(q)(a i)(b)(w:E):
 CallsD ε 292 #[pV q] (.panicking<|{v:=.iface 61<|.agg #[U a,U i],recovered:=κ}::b) w λe f g=>
  e=Â [{v:=.iface 61<|.agg #[U a,U i],recovered:=κ}]/\f=.panicking ({v:=.iface 61<|.agg #[U a,U i],recovered:=τ}::b)/\I No w g:=by
 refine callsD_of_wpS func292 K λj h d=>?_;apply wpS_seq;apply wpS_region;simp[wpOpsS,go_sem,recoverD,d,ntmps292,Exit.thenS];refine wpS_of_wp ?_;have k:∀w:E,(Instr.typeAssert (.iface 61<|.agg #[U a,U i]) 20 185 τ).run ε w=.ok (.tuple #[.agg #[U 0,.int à 0,ι ⟨#[]⟩,Γ none],.bool κ]) w:=λ_=>î;have c:(#[pV q]++((Array.replicate 15 Φ).setIfInBounds 3<|.iface 61<|.agg #[U a,U i]).setIfInBounds 0 (.iface 61<|.agg #[U a,U i]):Array υ)=#[pV q,.iface 61<|.agg #[U a,U i],Φ,Φ,.iface 61<|.agg #[U a,U i],Φ,Φ,Φ,Φ,Φ,Φ,Φ,Φ,Φ,Φ,Φ]:=K;rw[c];go_wp2;exact⟨K,_,K,K,K,ν _ _ _⟩
section
variable{b w e:E}{a pb f gq z:Nat}{h:υ}{G:Int->Option Int}{c:Cx}{s:Ms}{g d:Gh}
theorem Xe{j l}(i)(k:j->X l):(aF i).bd k=k i:=rfl
def Ui{p w2}{q}{tmps}{m:X (List Vl)}{R}{ps}(h6:tmps[6]?=C (pV q))(hb:p.heap[q]?=C Ab)(ho:g.ow q=none)(hq:V w.heap<=q)(B:q≠a)(hB:V b.heap<=q)(y:aJ b a w g p g)(l:R=m.cat s)
 (j:RP b a pb gq G c.N z p g s Kn (m s) (Â ps) w2):Leaves ε Tryz.f274 tmps (RP b a pb gq G c.N z w g s Kv R) [{target:=.fn (.func 292) #[pV q],args:=#[]}] (.panicking ps) w2:=by
 unfold X.cat at l;cases n:m s with
 |stk=>rw[n]at j;exact j.elim
 |ok a6 F=>
  rw[n]at j;obtain⟨d,v,k,_⟩:=j;grind
 |over x i F=>
  rw[n]at j l;obtain⟨d,D,k,o,r⟩:=j;unfold ov at k;simp at k;subst k;refine leaves_cons (f:=292) (args:=#[pV q]) θ (by simp[go_sem]) ?_;refine(ij q x i _ w2).mono ?_;rintro S u' a5 ⟨rfl,rfl,A⟩;simp;rw[l];exact⟨d,{v:=.iface 61<|.agg #[U x,U i],recovered:=τ}::D,K,y.trans<|o.trans<|aJ.y A,r.y A⟩
 |back u F=>
  rw[n]at j l;obtain⟨d,D,k,o,r,T,Z⟩:=j;unfold bk bT at k;simp at k;subst k;obtain⟨t,P⟩:=o.eu hb ho B ζ ζ;obtain⟨H,L,M,N,yz,yl⟩:=eU t<|ì No _;refine leaves_cons (f:=292) (args:=#[pV q]) θ (by simp[go_sem]) ?_;refine(Zx q u.g u.n ⟨ξ u.t⟩ (pad d.tb u.h) _ _ _ _ [] w2 H L M N yz).mono ?_;rintro S u' a5 ⟨rfl,rfl,rfl⟩;have a4:RP b a pb gq G c.N z w g s Kv R (π<|.agg #[U u.g,.int à u.n,ι ⟨ξ u.t⟩,Γ<|pad d.tb u.h]) (ω (σ (σ (σ (w2.setCell (J q 0)<|U u.g) (J q 1)<|.int à u.n) (J q 2)<|ι ⟨ξ u.t⟩) (J q 3)<|Γ<|pad d.tb u.h)<|γ #[U u.g,.int à u.n,ι ⟨ξ u.t⟩,Γ<|pad d.tb u.h] 185):=by
   rw[l];exact⟨d,_,K,((y.trans o).je hq _ _ _ _).trans<|aJ.y<|ν _ _ _,(r.je t P hB B _ _ _ _).y<|ν _ _ _,T,u,K,Z,K⟩
  simp;refine⟨_,?_,a4⟩;simp[ã,results274,go_sem,h6,H,L,M,N,yl]
def kT(c:Cx)(G:Int->Option Int)(k:Nat)(t:Th)(i:List Vl):X (List Vl):=(fM t.sc).bd λj=>(iG G (aA c.N t.nd).M i j).bd λ_=>rn c.N (aR c) G k (.b (aA c.N t.nd).a)<|C j
def Ni(k)(t)(i:List Vl):kT c G k t i=((fM t.sc).bd λj=>(iG G (aA c.N t.nd).M i j).bd λ_=>aF j).bd λj=>rn c.N (aR c) G k (.b (aA c.N t.nd).a) (C j):=by
 grind[kT,MB,Xe]
def RP.ub{o}{p}{r:Rr o}{N}{q}(j:RP b a pb gq G N z w g s p r q e):∃d,aJ b a w g e d:=by
 cases r with
 |stk=>exact j.elim
 |ok y n=>obtain⟨d,v,k,l,m⟩:=j;grind
 |over x i n=>obtain⟨d,t,k,l,m⟩:=j;grind
 |back u n=>obtain⟨d,t,k,l,m⟩:=j;grind
def Nx{k}(A:fJ b c pb f h)(hB:nK b a pb gq G c k){n}(M:Rm b n a pb gq G c.N s g z)(hz:z+4000<=1000000000){t:Th}(ae:iL s.c t.sc){i}(B:i<Q c.N)(a8:t.nd=i)(a5:c.N[i].x=6){la}{lc}(hl:ρ b 0 3 1 (Y la (Q c.N[i].M) lc) (Q c.N[i].M)<|C8 c.N[i].M){l}{a2}{F}{D}(T:∀ah∈l,aZ s.c ah)(ab:gU n g a2 (Y F (Q l) D) l)(aa:kT c G k t l s≠.stk){KP:E->Prop}(P:∀e d,aJ b a n g e d->KP e):
 ∀v,I No n v->μ ε 293 #[pV a,Y la (Q c.N[i].M) lc,Y F (Q l) D,Γ<|pad g.sb t.sc] v λm u=>(∃o,m=Â o/\RP b a pb gq G c.N (z+2400) n g s Kn (kT c G k t l s) (Â o) u)\/∃pj,m=π (Γ pj)/\KP u/\
  Hid (∀y,I No u y->μ ε 31 #[pV a,U c.N[i].a,Γ pj] y λm p=>(∃o,m=Â o/\RP b a pb gq G c.N (z+2400) n g s Kn (kT c G k t l s) (Â o) p)\/m=rT/\KP p/\Hid (RP b a pb gq G c.N (z+2400) n g s Kn (kT c G k t l s) (rT) p)):=by
 intro v R;have r:=aJ.y (wB:=b) (mb:=a) (g:=g) R;obtain⟨af,al,ag⟩:=(A.ok.ew i B).k6 a5;have a9:aA c.N t.nd=c.N[i]:=by rw[a8,B7 B]
 have a7:∀x∈c.N[i].M,0<=x/\x<Q c.N:=λx hx=>by
  obtain⟨j,rfl,h1,h2,_⟩:=af x hx;omega
 obtain⟨ja,ai,_,ak,aj⟩:=ag;have a6:=A.ok.ls i B;refine(D6d A (M.y R) hz ae hl a7 a6 T (ab.eu M r T) K).mono ?_;rintro m u hq;have q:=Ni (c:=c) (G:=G) k t l;rw[a9]at q;obtain⟨o,rfl,hh⟩|⟨j,s2,g2,am,rfl,H,-,L,r2,a4,hj,rfl⟩:=RP.cut (λj=>rn c.N (aR c) G k (.b c.N[i].a)<|C j) hq
 .refine .inl ⟨o,K,?_⟩;rw[q];exact hh.pre r<|Á _
 .refine .inr ⟨pad g2.sb<|C j,K,P _ _<|r.trans L,λy S=>?_⟩;have Z:=aa;rw[q,H]at Z;refine(nK.at hB (r2.y S) W (λj' m=>η) ⟨W,W,by grind[B7]⟩ K Z).mono ?_;rintro m p N;have hp:RP b a pb gq G c.N (z+2400) n g s Kn (kT c G k t l s) m p:=by
   rw[q,H];exact N.pre ((r.trans L).trans<|aJ.y S) a4
  obtain⟨o,rfl⟩|rfl:=N.ends
  .grind
  .obtain⟨g3,a3⟩:=hp.ub;exact .inr ⟨K,P _ _ a3,hp⟩
def OJ{R:ò->E->Prop}{m n}(k:m[6]?=n[6]?):∀(j) (u) (w:E),Leaves ε Tryz.f274 m R j u w->Leaves ε Tryz.f274 n R j u w
 |[],.returning,w,i=>by
  obtain⟨v,H,A⟩:=i;refine⟨v,?_,A⟩;simp_all[ã,results292]
 |[],.panicking c,w,i=>i
 |[],.run,w,i=>i
 |F::j,u,w,i=>by
  obtain⟨D,y,p,x,o,r,t,B⟩:=i;refine⟨D,y,p,x,o,r,t,B.mono λq M e l=>?_⟩;cases q with
  |returned v=>exact OJ k j _ _ l
  |panicked c=>exact OJ k j _ _ l
  |outgrown=>omega
def Ph{m:X (List Vl)}(i:m.cat s≠.stk):m s≠.stk:=λj=>i (by grind[X.cat])
def Uk{n w3 w4}{q}{m:X (List Vl)}(H:n.heap[q]?=C Ab)(M:g.ow q=none)(N:V w.heap<=q)(x:q≠a)(D:V b.heap<=q)(F:aJ b a w g n g)
 (i:RP b a pb gq G c.N z n g s Kn (m s) (rT) w3) (r:I No w3 w4):
 (w4.cell? (J q 0)=C (U 0)/\w4.cell? (J q 1)=C (.int à 0)/\w4.cell? (J q 2)=C (ι ⟨#[]⟩)/\w4.cell? (J q 3)=C (Γ none)/\(∀o,w4.frozen? (J q o)=κ)/\q<w4.heap.size)/\
 ∀j,I No (σ (σ (σ (w4.setCell (J q 0)<|U 8) (J q 1)<|.int à 0) (J q 2)<|ι ⟨#[]⟩) (J q 3)<|Γ none) j->
  (δ j (J q 0)=C (U 8)/\δ j (J q 1)=C (.int à 0)/\δ j (J q 2)=C (ι ⟨#[]⟩)/\δ j (J q 3)=C (Γ none))/\RP b a pb gq G c.N z w g s Kv (m.cat s) (π<|.agg #[U 8,.int à 0,ι ⟨#[]⟩,Γ none]) j:=by
 cases k:m s with
 |stk=>rw[k]at i;exact i.elim
 |over a8 a5 u=>
  rw[k]at i;obtain⟨_,_,l,_⟩:=i;cases l
 |back a6 u=>
  rw[k]at i;obtain⟨_,_,l,_⟩:=i;cases l
 |ok a4 u=>
  rw[k]at i;obtain⟨d,a7,l,v,A,B,h5⟩:=i;obtain⟨p,y⟩:=(v.trans<|aJ.y r).eu H M x ζ ζ;obtain⟨R,S,T,Z,yz,yl⟩:=eU p<|ì No _;refine⟨⟨R,S,T,Z,yz,yl⟩,λj t=>?_⟩;have P:=ð _ q 3 _ _ (Γ none)<|ð _ q 2 _ _ (ι ⟨#[]⟩)<|ð _ q 1 _ _ (.int à 0)<|ð w4 q 0 _ _ (U 8) p;obtain⟨z0,z1,z2,z3,-,-⟩:=eU P t;refine⟨⟨z0,z1,z2,z3⟩,?_⟩;have L:m.cat s=.ok [vO] u:=by unfold X.cat;rw[k]
  rw[L];exact⟨d,_,K,((F.trans<|v.trans<|aJ.y r).je N _ _ _ _).trans<|aJ.y t,((A.y r).je p y D x _ _ _ _).y t,B,vO,K,BQ _,K⟩
def TZ(b:E)(a pb gq:Nat)(G:Int->Option Int)(c:Cx)(k:Nat):Prop:=∀(w) (s) (g) (z j:Nat) (t) (n) (i) (B) (m) (l),Rm b w a pb gq G c.N s g z->z+4000<=1000000000->s.c.T[j]?=C t->t.k=64->g.tb[j]?=C n->(∀u∈i,aZ s.c u)->gU w g B (Y m (Q i) l) i->(kT c G k t i).cat s≠.stk->
 μ ε 274 #[pV a,pV n,Y m (Q i) l] w (RP b a pb gq G c.N (z+2400) w g s Kv<|(kT c G k t i).cat s)
def Nq{k}(hS:fJ b c pb f h)(hB:nK b a pb gq G c k)(l:Rm b w a pb gq G c.N s g z)(hz:z+4000<=1000000000){a2:Nat}{t}(ht:s.c.T[a2]?=C t)(hk:t.k=64){j}(az:g.tb[a2]?=C j){o}{aw}{S}{R}(ae:∀b6∈o,aZ s.c b6)(ao:gU w g aw (Y S (Q o) R) o)(an:(kT c G k t o).cat s≠.stk):
 μ ε 274 #[pV a,pV j,Y S (Q o) R] w (RP b a pb gq G c.N (z+2400) w g s Kv<|(kT c G k t o).cat s):=by
 have b1:=uG;have ai:=l.ok.T a2 t ht;obtain⟨am,b2,ah⟩:=ai.nd hk;obtain⟨i,hi⟩:=È am;have ag:i<Q c.N:=W;rw[hi,B7 ag]at ah;obtain⟨bb,_,hT,_⟩:=l.mem;obtain⟨b',pv,b9,ba,ap,b3,a3,_,_,_⟩:=hT a2 t ht;rw[az]at ap;cases ap;have t2:δ w (J j 2)=C (U (i:Int)):=by rw[ä w j 2 _ _ _ a3,<-hi];rfl
 have t3:δ w (J j 3)=C (Γ<|pad g.sb t.sc):=cr a3 K;have tl:=(aG a3);obtain⟨fz,lt,m0,m1,m2,m3,m4⟩:=l.mc;obtain⟨gn,nc,m,n,q0,q1,q2,q3,q4,q5,⟨x0,x1,x2,x3,x4,x5,x6,x7,x8⟩,ho⟩:=hS.node l ag;obtain⟨af,T,B⟩:=iT w Ab<|Ac c.N[i] m n;have Z:=aJ.y (wB:=b) (mb:=a) (g:=g) B;have F:g.ow (V w.heap)=none/\a<V w.heap/\V b.heap<=V w.heap:=⟨l.new<|vQ _,l.mc.2.1,l.P.size⟩;have ak:=Nx hS hB (l.y B) hz ai.sc ag hi ah ho ae (ao.eu l Z ae) (Ph an) (KP:=λx=>δ x (J (V w.heap+1) 1)=C (U c.N[i].a)/\δ x (J (V w.heap+1) 4)=C (Y m (Q c.N[i].M) n)/\V w.heap+1<V x.heap) λe d hf=>by
  obtain⟨-,z1,-,-,z4,-,-,-,-,zl⟩:=qK (w:=w.alloc Ab) (l.y<|ν _ _ _) hf;simp only[Ô]at z1 z4 zl;exact⟨z1,z4,zl⟩
 have a4:=O ak;have y:=O λtmps ps x h6 H=>Ui (tmps:=tmps) (ps:=ps) (w2:=x) (m:=kT c G k t o) (pb:=pb) (gq:=gq) (G:=G) (c:=c) (s:=s) (z:=z+2400) h6 af F.1 (vQ _) W F.2.2 Z K H;have M:=O λar au H hc=>Uk (w3:=ar) (w4:=au) (m:=kT c G k t o) (pb:=pb) (gq:=gq) (G:=G) (c:=c) (s:=s) (z:=z+2400) af F.1 (vQ _) W F.2.2 Z H hc;have aj:=O yE;have a5:Hid (δ (Ø<|(w.alloc Ab).alloc<|Ac c.N[i] m n) (J (V w.heap+1) 1)=C (U c.N[i].a)):=(ä _ _ 1 _ _ _ T).trans K;have a6:Hid (δ (Ø<|(w.alloc Ab).alloc<|Ac c.N[i] m n) (J (V w.heap+1) 4)=C (Y m (Q c.N[i].M) n)):=(ä _ _ 4 _ _ _ T).trans K;have N:=O<|A4 (B6 B<|Ψ No _ 1) t3;change Hid (δ (Ø _) _=_) at N;have a7:Hid (V w.heap+1<V (Ø<|(w.alloc Ab).alloc<|Ac c.N[i] m n).heap):=(aG T);have a8:Hid (j<V (Ø<|(w.alloc Ab).alloc<|Ac c.N[i] m n).heap):=yQ tl B.size;have b8:(i:Int)<(Q c.N:Int):=W;obtain⟨P,hP⟩:∃P,P=RP b a pb gq G c.N (z+2400) w g s Kv ((kT c G k t o).cat s):=⟨_,K⟩;rw[<-hP]at y M⊢;generalize pad g.sb t.sc=ps at*;generalize c.N[i]=nd at*;obtain⟨kd,v,vb,vc,u,tx,vn,vt,vp⟩:=nd;simp only[Ac]at*;subst ah;clear hS l ak B ho af T Z F hT b3 a3 ai ao ae an am b2 ht hB hP;go_enter_defers func274,ntmps274;go_wp2_with fail;refine Code.wp_mono (Q:=λr a' e=>r=.normal/\a'={tmps:=#[pV a,pV j,Y S (Q o) R,Φ,Φ,Φ,pV (V w.heap),pV<|V w.heap+1,.func (Fn.func 292) #[] #[pV (V w.heap)],pV a,pV a,pV a,pV pb,pV pb,pV pb,pV pb,Y (C<|J gn 0) (Q c.N) nc,pV j,pV j,Γ<|C<|J j 2,U (i:Int),Γ<|C<|J gn<|i*9,.agg #[U 6,U v,U vb,U vc,Y m (Q u) n,ι ⟨ξ tx⟩,U vn,U vt,U vp],Φ,Φ,Φ,Φ,Φ,Φ,Φ,Φ,Φ,Φ,Φ,Φ,Φ,Φ],defers:=[{target:=.fn (.func 292) #[pV (V w.heap)],args:=#[]}]}/\e=Ø ((w.alloc Ab).alloc<|aM 6 v vb vc (Y m (Q u) n) tx vn vt vp)) (λr a' e D=>?_) ?_;rotate_left
 .as_aux_lemma=>
   clear a4 y M aj a5 a6 N a7 a8;go_region;exact⟨K,K,K⟩
 obtain⟨rfl,rfl,rfl⟩:=D;go_wp2_with fail;have n1:=a5.u;have n4:=a6.u;have b4:=N.u;have nl:=a7.u;have b5:=a8.u;have L:=O<|Ψ No ((w.alloc Ab).alloc<|aM 6 v vb vc (Y m (Q u) n) tx vn vt vp) 1;change Hid (I _ _<|Ø _) at L;generalize Ø ((w.alloc Ab).alloc<|aM 6 v vb vc (Y m (Q u) n) tx vn vt vp)=ύ at n1 n4 b4 nl b5 L⊢;clear t2 t3 tl fz lt m0 m1 m2 m3 m4 q0 q1 q2 q3 q4 q5 x0 x1 x2 x3 x4 x5 x6 x7 x8 a5 a6 N a7 a8 b1;have p:∀(aa:Nat) (aq:υ),aa≠6->∀c a9 w,bodyPostD ε Tryz.f274 P (.panic c) (ë a9 (C aa) aq) w->bodyPostD ε Tryz.f274 P (.panic c) a9 w:=λaa aq hd c a9 w l=>OJ (by simp[ë,hd]) _ _ _ l;refine wp_region_held_drew (S:=λe=>δ e (J (V w.heap+1) 1)=C (U v)/\δ e (J (V w.heap+1) 4)=C (Y m (Q u) n)) î ⟨n1,n4⟩ λay=>?_;refine tA 0 23 (pV a) ?_ (hQ:=p 23 _ ζ);simp only[ë,aT,a0,a1];refine tA 1 24 (Γ<|C<|J (V w.heap+1) 1) ?_ (hQ:=p 24 _ ζ);simp only[ë,aT,a0,a1];refine tA 3 26 (pV a) ?_ (hQ:=p 26 _ ζ);simp only[ë,aT,a0,a1];refine tA 4 27 (Γ<|C<|J (V w.heap+1) 4) ?_ (hQ:=p 27 _ ζ);simp only[ë,aT,a0,a1];refine tA 6 29 (Y S (Q o) R) ?_ (hQ:=p 29 _ ζ);simp only[ë,aT,a0,a1];refine tA 7 30 (pV j) ?_ (hQ:=p 30 _ ζ);simp only[ë,aT,a0,a1];refine tA 8 31 (pV j) ?_ (hQ:=p 31 _ ζ);simp only[ë,aT,a0,a1];refine tA 9 32 (Γ<|C<|J j 3) ?_ (hQ:=p 32 _ ζ);simp only[ë,aT,a0,a1];refine tA 2 25 (U v) ?_ (hQ:=p 25 _ ζ);simp only[ë,aT,a0,a1];refine tA 5 28 (Y m (Q u) n) ?_ (hQ:=p 28 _ ζ);simp only[ë,aT,a0,a1];refine wpAnyH_ready (rs:=[10]) î θ ?_;refine AllReadyH.cons (o:=Oper.mk (C 33) _ _ _ _ _) K (λA q=>?_) AllReadyH.nil;go_simp;refine q _ _ ⟨n1,n4⟩ λ_=>?_;clear q A ay;refine wpAnyH_ready (rs:=[11]) î θ ?_;refine AllReadyH.cons (o:=Oper.mk (C 34) _ _ _ _ _) K (λA q=>?_) AllReadyH.nil;go_simp;refine(a4.u _<|B6 L.u<|Ψ No _ 1).mono ?_;rintro r x (⟨qs,rfl,D⟩|⟨pj,rfl,⟨u1,u4,u2⟩,T6⟩)
 .exact y.u _ _ _ K D
 refine q _ _ ⟨u1,u4⟩ λ_=>?_;clear q A;refine wpAnyH_ready (rs:=[12]) î θ ?_;refine AllReadyH.cons (o:=Oper.mk (C 35) _ _ _ _ _) K (λA q=>?_) AllReadyH.nil;go_simp;refine(T6.u _<|ì _ _).mono ?_;rintro r ar (⟨qs,rfl,D⟩|⟨rfl,⟨y1,y4,y2⟩,E4⟩)
 .exact y.u _ _ _ K D
 refine q _ _ ⟨y1,y4⟩ λ_=>?_;clear q A;refine wpAnyH_done î ?_ _;clear p;go_wp2_with fail;refine(aj.u _).mono ?_;rintro r au ⟨rfl,k4⟩;obtain⟨⟨r0,bc,r2,r3,rz,rl⟩,al⟩:=M.u _ _ E4.u k4;have ax:=O al;clear al k4 E4 T6 a4 L M y;go_wp2_with fail;refine leaves_cons (f:=292) (args:=#[pV (V w.heap)]) θ (by simp[go_sem]) ?_;refine(Zy (V w.heap) _).mono ?_;rintro r u' b7 ⟨rfl,rfl,b0⟩;obtain⟨⟨z0,z1,z2,z3⟩,H⟩:=ax.u b7 b0;simp only[Leaves,settle];refine⟨_,?_,H⟩;simp[ã,results274,go_sem,z0,z1,z2,z3]
def wC(i:Int):X Unit:=bR λc=>if c.ca=40 then .over 2 i else .ok () {c with ca:=c.ca+1}
def wD:X Unit:=bR λc=>.ok () {c with ca:=c.ca-1}
def EL(s)(i j):Gr s.c (cS s i j).c:=⟨λ_ t k=>⟨t,k,K⟩,vQ _⟩
def My(k)(t)(i):Ca (kT c G k t i).cat:=.cat<|.bd (.kr _) λ_=>.bd (QP _ _ _ _) λ_=>Et _ _ _ _ _ _
def Sf{m:E}{j:Gh}{i}{q k}{y}{R:Rr (List Vl)}(H:V w.heap<=q)(x:m.heap[q]?=C Ab)(F:j.ow q=none)(p:q≠a)(u:V b.heap<=q)(hF:aJ b a w g m j)(l:Rm b m a pb gq G c.N i j z)(D:Gr s.c i.c)(L:aZ i.c y)(A:i.c.ca=k+1)(v:R=(wD.bd λ_=>aF [y]) i)(o):
 RP b a pb gq G c.N z w g s Kv R (π<|.agg #[U y.g,.int à y.n,ι ⟨ξ y.t⟩,Γ<|pad j.tb y.h]) ((σ (σ (σ (σ (σ m (J a 3)<|U k) (J q 0)<|U y.g) (J q 1)<|.int à y.n) (J q 2)<|ι ⟨ξ y.t⟩) (J q 3)<|Γ<|pad j.tb y.h).alloc o):=by
 have P:=l.ok.ca;obtain⟨M,n⟩:=l.nr (s':=cS i k i.c.th) (z':=z) 3 (U k) K K K K (RB l.ok W ⟨vQ _,l.ok.th⟩) (λS N=>Ω) (by grind[cS]);obtain⟨r,t⟩:=n.eu x F p ζ ζ;have B:wD i=.ok () (cS i k i.c.th):=by simp[wD,bR,cS,A]
 rw[v,J0 B];exact⟨j,_,K,((hF.trans n).je H _ _ _ _).trans<|aJ.y<|ν _ _ _,(M.je r t u p _ _ _ _).y<|ν _ _ _,D.trans<|EL _ _ _,y,K,L.gr<|EL _ _ _,K⟩
def Yx{k}(hS:fJ b c pb f h)(hV:gA b a pb gq G c k)(bj:∀k',k'<k->gA b a pb gq G c k')(bi:TZ b a pb gq G c k)(A:Rm b w a pb gq G c.N s g z)(hz:z+4000<=1000000000){D:Option Nat}(ap:iL s.c D){i}(b7:i<Q c.N)(b6:c.N[i].x=7){R:Rr (List Vl)}
 (hR:R=((rn c.N (aR c) G k (.v c.N[i].a) D).bd λaa=>(rn c.N (aR c) G k (.vs c.N[i].M) D).bd λag=>(eO (i:Int) (r1 aa) 64).bd λ_=>(wC (i:Int)).bd λ_=>(fR<|r1 aa).bd λah=>((kT c G k ah ag).cat).bd λr=>wD.bd λ_=>aF r) s) (bq:R≠.stk):
 μ ε 232 #[pV a,U i,Γ<|pad g.sb D] w (RP b a pb gq G c.N (z+2400) w g s Kv R):=by
 have bo:=hS.ok.ew i b7;obtain⟨br,bs⟩:=bo.k7 b6;have cu:=hS.ok.ls i b7;obtain⟨fz,lt,m0,m1,m2,m3,m4⟩:=A.mc;obtain⟨gn,nc,la,lc,q0,q1,q2,q3,q4,q5,⟨x0,x1,x2,x3,x4,x5,x6,x7,x8⟩,ho⟩:=hS.node A b7;obtain⟨bm,ce,ca⟩:=iT w Ab<|Ac c.N[i] la lc;have bn:=aJ.y (wB:=b) (mb:=a) (g:=g) ca;have b8:g.ow (V w.heap)=none/\a<V w.heap/\V b.heap<=V w.heap:=⟨A.new<|vQ _,A.mc.2.1,A.P.size⟩;have bw:=O b8;have a8:Hid (∀v l,aJ b a _ g v l->_):=λv l hf=>hf.eu bm b8.1 W ζ ζ;have a6:Hid (∀v l,aJ b a ((w.alloc Ab).alloc<|Ac c.N[i] la lc) g v l->_):=λ_ _=>qK<|A.y<|ν _ _ _;have ax:=O (hV.at (A.y ca) W ap (M4 br)<|P8<|by rw[<-hR];omega);have bg:Hid (∀bb s1 g1,Rm b bb a pb gq G c.N s1 g1 z->iL s1.c D->rn c.N (aR c) G k (.vs c.N[i].M) D s1≠.stk->_):=λbb s1 g1 (h1:Rm b bb a pb gq G c.N s1 g1 z) ci cf=>XE bj h1 W ci ho (λcm hx=>M4<|bs cm hx) W cf;have aj:=O (λ(d:Gh) (hp:g.sb<+:d.sb)=>N8 hp (o:=D) λb9 o=>by rw[A.sl];exact ap b9 o);have F:=O bn;have HR:=O hR;have a7:=O bq;have ak:=O ap;have ai:=O bi;have HD:=O wH;have bz:=O<|yG 5 (i:Int);have ct:(i:Int)<(Q c.N:Int):=W;generalize pad g.sb D=ps at*;generalize c.N[i]=nd at*;obtain⟨kd,va,vb,vc,ls,tx,vn,vt,vp⟩:=nd;simp only[Ac]at*;subst b6;clear hS hV bj bi A hR bq br bs bo ca ho bm ce bn ap b8;go_in;go_wp2_with fail;refine ax.u.mono ?_;rintro o v N;obtain⟨P,rfl,M⟩|⟨c5,s2,l,bu,rfl,H,-,ay,r2,b4,u,rfl,hu,rfl⟩:=RP.cut (K':=Kv) (λaa=>(rn c.N (aR c) G k (.vs ls) D).bd λag=>(eO (i:Int) (r1 aa) 64).bd λ_=>(wC (i:Int)).bd λ_=>(fR<|r1 aa).bd λah=>((kT c G k ah ag).cat).bd λr=>wD.bd λ_=>aF r) N
 .exact⟨K,by rw[HR.u];exact(M.pre F.u<|Á _).more W⟩
 have hM:r1 [u]=u:=K;have am:=HR.u;rw[H,hM]at am;have cb:=ν No v<|γ #[U u.g,.int à u.n,ι ⟨ξ u.t⟩,Γ<|pad l.tb u.h] 180;have fb:=ay.trans<|aJ.y (wB:=b) (mb:=a) (g:=l) cb;have bp:l.ow (V v.heap)=none/\a<V v.heap:=⟨r2.new<|vQ _,r2.mc.2.1⟩;obtain⟨x0,x1,x2,x3,x4,x5,x6,x7,x8,xl⟩:=a6.u _ l fb;simp only[Ô]at x0 x1 x2 x3 x4 x5 x6 x7 x8 xl;have a9:=O (bg.u _ s2 l (r2.y cb) (ak.u.gr b4)<|P8<|by rw[<-am];exact a7.u);rw[aj.u l ay.sb]at a9;have a5:Hid (∀x y,aJ b a _ l x y->_):=λx y (hf:aJ b a (v.alloc<|γ #[U u.g,.int à u.n,ι ⟨u.t.toArray⟩,Γ<|pad l.tb u.h] 180) l x y)=>eU (hf.eu (rY v _) bp.1 W ζ ζ).1<|ì No _;have F2:=O fb;have G2:=O b4;have bf:=O am;have HU:=O hu;have c4:=O r2.tl;clear N H ay r2 b4 hu am ax fb cb bp hM bg;unfold bT;go_wp2_with fail;refine a9.u.mono ?_;rintro o x N;obtain⟨P,rfl,M⟩|⟨av,m,y,bu,rfl,H,-,L,S,ab,an,af⟩:=RP.cut (K':=Kv) (λag=>(eO (i:Int) u 64).bd λ_=>(wC (i:Int)).bd λ_=>(fR u).bd λah=>((kT c G k ah ag).cat).bd λr=>wD.bd λ_=>aF r) N
 .exact⟨K,by rw[bf.u];exact((M.pre F2.u G2.u).pre F.u<|Á _).more W⟩
 have p:=bf.u;rw[H]at p;obtain⟨ad,ac,rfl⟩:=B8 af.1;obtain⟨t0,t1,t2,t3,tz,tl⟩:=a5.u x y L;have aq:=HU.u.gr ab;have ar:=(N8 L.tb λb9 o=>by rw[c4.u];exact HU.u.lt b9 o).symm;have F3:=O<|F2.u.trans L;have bv:=O L;have G3:=O<|G2.u.trans ab;have T:=O S;have bc:=O an;have bx:=O af;have au:Hid (∀j,I No x j->_):=λj (B:I No x j)=>(S.y B).mc;have aw:=O λe (B:I No x e)=>a5.u e y<|bv.u.trans<|aJ.y B;by_cases Z:u.g=64
 .obtain⟨jt,th,bt,cw,z1,z2,z3,z4,z5,-,-⟩:=S.kh aq W;rw[J0<|nY Z]at p;rw[ar,z5]at t3 aw;have cd:=S.ok.ca;by_cases al:m.c.ca=40
  .have ae:wC (i:Int) m=.over 5 (i:Int) m:=by simp[wC,bR,al]
   rw[I5 ae]at p;have HP:Hid (∀j,I No x j->RP b a pb gq G c.N (z+2400) w g s Kv R (ov 5 (i:Int) []) j):=λj B=>by
    rw[p];exact⟨y,[],K,F.u.trans<|F3.u.trans<|aJ.y B,(T.u.y B).more W⟩
   clear N H L S ab an af aq ar p ae z1 z2 z3 z4 z5 a9 a5 a8 a6 ai a7 ak aj HU;generalize u.g=ug at*;subst Z;go_wp2_with fail;refine(HD.u _ _ _ _ _ _ _).mono ?_;rintro o j ⟨q,rfl⟩;simp only[if_true];obtain⟨c8,cj,-,-,-,c3,-⟩:=au.u j q;rw[al]at c3;have K4:=O q;clear q;go_wp2_with fail;refine(bz.u _).mono ?_;rintro o n ⟨rfl,rfl⟩;exact⟨K,HP.u _ K4.u⟩
  .obtain⟨t,b5⟩:∃ck,ck=m.c.ca:=⟨_,K⟩;have ae:wC (i:Int) m=.ok () (cS m (t+1) m.c.th):=by simp[wC,bR,al,cS,b5]
   rw[J0 ae,J0<|xX (s:=cS m (t+1) m.c.th) z1 z2]at p;have be:Hid (∀j,I No x j->μ ε 274 #[pV a,pV bt,Y ad (Q av) ac] (σ j (J a 3)<|U<|(t:Int)+1) λo n=>(∃P,o=Â P/\RP b a pb gq G c.N (z+2400) w g s Kv R (Â P) n)\/∃yg yn yt yp,o=π (.agg #[U yg,.int à yn,ι yt,Γ yp])/\(δ n (J (V w.heap) 0)=C (U 0)/\δ n (J (V w.heap) 1)=C (.int à 0)/\δ n (J (V w.heap) 2)=C (ι ⟨#[]⟩)/\δ n (J (V w.heap) 3)=C (Γ none)/\(∀ba,n.frozen? (J (V w.heap) ba)=κ)/\V w.heap<V n.heap)/\((∀ba,n.frozen? (J a ba)=κ)/\a<V n.heap/\δ n (J a 3)=C (U<|(t:Int)+1))/\
    Hid (RP b a pb gq G c.N (z+2400) w g s Kv R (π<|.agg #[U yg,.int à yn,ι yt,Γ yp])<|(σ (σ (σ (σ (σ n (J a 3)<|U (t:Int)) (J (V w.heap) 0)<|U yg) (J (V w.heap) 1)<|.int à yn) (J (V w.heap) 2)<|.string yt) (J (V w.heap) 3)<|Γ yp).alloc<|γ #[U yg,.int à yn,ι yt,Γ yp] 180)):=λj q=>by
    obtain⟨r4,f4⟩:=(T.u.y q).nr (s':=cS m (t+1) m.c.th) (z':=z) 3 (U<|(t:Int)+1) K K K K (RB T.u.ok W ⟨vQ _,T.u.ok.th⟩) (λcv ev=>Ω) (by grind[cS]);have az:=(aJ.y (wB:=b) (mb:=a) (g:=y) q).trans f4;have cg:=P8 (by rw[<-p];exact a7.u);refine(ai.u _ (cS m (t+1) m.c.th) y z jt th bt av _ ad ac r4 hz z2 (z3.trans Z) z4 (λa4 hy=>(bc.u a4 hy).gr<|EL _ _ _) (bx.u.eu T.u az bc.u) cg).mono ?_;rintro o n ch;obtain⟨P,rfl,M⟩|⟨c5,s5,g5,bu,rfl,e5,c6,c7,r5,c9,a4,rfl,hy,rfl⟩:=RP.cut (K':=Kv) (λr=>wD.bd λ_=>aF r) ch
    .refine .inl ⟨P,K,?_⟩;rw[p];exact M.pre (F.u.trans<|F3.u.trans az)<|G3.u.trans<|EL _ _ _
    .have ao:=My (c:=c) (G:=G) k th av<|cS m (t+1) m.c.th;rw[c6]at ao;have ao:s5.c.ca=t+1:=ao;have bh:=F3.u.trans<|az.trans c7;obtain⟨a2,a3⟩:=a8.u n g5 bh;obtain⟨n1,n2,n3⟩:=bw.u;obtain⟨cp,zl,-,-,-,zc,-⟩:=r5.mc;refine .inr ⟨a4.g,a4.n,⟨ξ a4.t⟩,pad g5.tb a4.h,K,eU a2<|ì No _,⟨cp,zl,η⟩,?_⟩;exact Sf (vQ _) a2 a3 W n3 (F.u.trans bh) r5 (G3.u.trans<|(EL _ _ _).trans c9) hy ao (p.trans e5) _
   clear N H L S ab an af aq ar p ae z1 z2 z3 z4 z5 a9 a5 a8 a6 ai a7 ak aj HU;have cq:(t:Int)<40:=W;have cs:((t:Int)==40)=κ:=â;generalize u.g=ug at*;subst Z;go_wp2_with fail;refine(HD.u _ _ _ _ _ _ _).mono ?_;rintro o j ⟨q,rfl⟩;simp only[if_true];obtain⟨c8,cj,-,-,-,c3,-⟩:=au.u j q;rw[<-b5]at c3;obtain⟨b0,b1,b2,b3,-,bl⟩:=aw.u j q;have bd:=O<|be.u j q;clear q be au aw b5 al cd;go_wp2_with fail;refine bd.u.mono ?_;rintro o n (⟨P,rfl,M⟩|⟨yg,yn,yt,yp,rfl,⟨y0,y1,y2,y3,yz,yl⟩,⟨cz,cl,cc⟩,E4⟩)
   .exact⟨K,M⟩
   clear bd;go_wp2;refine ç (by simp[ã,results232,go_sem,y0,y1,y2,y3,yl];rfl) K ?_;exact E4.u
 .rw[I5<|qY Z]at p;have HP:Hid (∀j,I No x j->RP b a pb gq G c.N (z+2400) w g s Kv R (ov 3 (i:Int) []) j):=λj B=>by
   rw[p];exact⟨y,[],K,F.u.trans<|F3.u.trans<|aJ.y B,(T.u.y B).more W⟩
  clear N H L S ab an af aq ar p a9 a5 a8 a6 ai a7 ak aj HU;go_wp2_with fail;refine(HD.u _ _ _ _ _ _ _).mono ?_;rintro o j ⟨q,rfl⟩;rw[wY Z];exact⟨K,HP.u _ q⟩
theorem Rv.of{m v}{q}{R}{r}(B:m.heap[q]?=C Ab)(D:g.ow q=none)(F:V w.heap<=q)(t:q≠a)(A:V b.heap<=q)(hF:aJ b a w g m g)(l:RP b a pb gq G c.N z m g s Kv R r v):Dn (RP b a pb gq G c.N z w g s Kv R) q r v:=by
 cases R with
 |stk=>exact l.elim
 |over a6 i u=>
  obtain⟨d,o,rfl,j,k⟩:=l;exact .inl ⟨_,K,d,o,K,hF.trans j,k⟩
 |back a4 u=>
  obtain⟨d,o,rfl,j,k,n⟩:=l;exact .inl ⟨_,K,d,o,K,hF.trans j,k,n⟩
 |ok Z u=>
  obtain⟨d,a5,rfl,j,k,n,y,rfl,H,rfl⟩:=l;obtain⟨p,x⟩:=j.eu B D t ζ ζ;obtain⟨L,M,N,P,T,S⟩:=eU p<|ì No _;exact .inr ⟨_,_,_,_,K,L,M,N,P,T,S,d,_,K,(hF.trans j).je F _ _ _ _,k.je p x A t _ _ _ _,n,y,K,H,K⟩
def Qk{k}(o:fJ b c pb f h)(F:gA b a pb gq G c k)(H:∀N,N<k->gA b a pb gq G c N)(D:TZ b a pb gq G c k):CE b a pb gq G c (iB c 7) λi r=>rn c.N (aR c) G (k+1) (.e i) r:=by
 refine Ad o ?_;rintro w s g z r i R P S j a8 M n m a6 y l v t x A p a3 ho m0 q2 _ _ ⟨⟩;have hz:z<=1000000000:=W;rw[mZ]at l;simp only[B7 n,m]at l;simp only[Ö,if_false,if_true]at l;have a2:=O p;have ab:=o.ok.tx c.N[i]<|mQ n;have L:=(Yx o F H D A a8 M n m l y).mono λa4 q hq=>Rv.of v p.1 (vQ _) W p.2.2 x (hq.more<|show z+2400<=z+3000 by omega);have B:=O L;have Z:=O x;have R0:=O A;have HR:=O l;have a9:(i:Int)<(Q c.N:Int):=W;generalize pad g.sb r=ps at*;generalize c.N[i]=nd at*;obtain⟨kd,va,vb,vc,ls,tx,vn,vt,vp⟩:=nd;simp only[Ac]at*;subst m;clear o j l y a6 t ho v x A M p F H D L HR a3 a2 R0 Z;go_in;go_wp2_with fail;refine B.u.mono ?_;rintro a4 q (⟨ac,rfl,hh⟩|⟨vg,ad,af,ae,rfl,y0,y1,y2,y3,yz,yl,T⟩)
 .exact⟨K,hh⟩
 go_wp2;refine ç (by simp[ã,results176,go_sem,y0,y1,y2,y3];rfl) K ?_;exact T.u
def AR{k}(L:fJ b c pb f h)(hV:gA b a pb gq G c k):CE b a pb gq G c (iB c 12) λi q=>rn c.N (aR c) G (k+1) (.e i) q:=by
 refine Ad L ?_;rintro w s g z q i af la lc n b4 M x v a7 a8 o ag T ah r0 a9 P ho m0 q2 _ _ ⟨⟩;have hz:z<=1000000000:=W;rw[mZ]at o;simp only[B7 x,v]at o;simp only[Ö,if_false,if_true]at o;have ab:=O a9;have b3:=L.ok.tx c.N[i]<|mQ x;have F:Hid (∀j l,aJ b a ((w.alloc Ab).alloc<|Ac c.N[i] la lc) g j l->_):=λ_ _=>qK<|n.y<|ν _ _ _;have aj:=hV.at r0 hz M (M4 (a7.k2 W).1) (P8<|by rw[<-o];omega);have al:=M4 (a7.k2 W).2;have R:=O aj;have HV:=O hV;have ae:=O al;have aa:=O a8;have ad:=O M;have ac:=O (λ(d:Gh) (hp:g.sb<+:d.sb)=>N8 hp (o:=q) λav H=>by rw[n.sl];exact M av H);have D:=O ah;have R0:=O r0;have N:=O o;have b1:(i:Int)<(Q c.N:Int):=W;generalize pad g.sb q=ps at*;generalize c.N[i]=nd at*;obtain⟨kd,va,vb,vc,ls,B,vn,vt,vp⟩:=nd;simp only[Ac]at*;subst v;clear L n o a8 a7 T ho ag ah r0 M a9 hV aj al;go_in;go_wp2_with fail;refine R.u.mono ?_;rintro H j hq;obtain⟨am,rfl,t⟩|⟨az,s2,l,an,rfl,e1,-,a4,A,a5,u,rfl,hu,rfl⟩:=RP.cut (K':=Kv) (λay=>(rn c.N (aR c) G k (.v vb) q).bd λy=>(mD (i:Int) B (r1 ay)<|r1 y).bd λax=>aF [ax]) hq
 .exact⟨K,by rw[N.u];exact(t.pre D.u<|Á _).more W⟩
 have hM:r1 [u]=u:=K;have a6:=N.u;rw[e1,hM]at a6;have Z:=ν No j<|γ #[U u.g,.int à u.n,ι ⟨ξ u.t⟩,Γ<|pad l.tb u.h] 180;have r:=a4.trans<|aJ.y (wB:=b) (mb:=a) (g:=l) Z;have ai:l.ow (V j.heap)=none/\a<V j.heap:=⟨A.new<|vQ _,A.mc.2.1⟩;obtain⟨a2,a3⟩:=P.u _ l r;obtain⟨n1,n2,n3⟩:=ab.u;obtain⟨x0,x1,x2,x3,x4,x5,x6,x7,x8,xl⟩:=F.u _ l r;simp only[Ô]at x0 x1 x2 x3 x4 x5 x6 x7 x8 xl;have ak:=JF (KP:=λm=>(δ m (J (V w.heap+1) 5)=C (ι ⟨B.toArray⟩)/\V w.heap+1<V m.heap)/\δ m (J (V j.heap) 0)=C (U u.g)/\δ m (J (V j.heap) 1)=C (.int à u.n)/\δ m (J (V j.heap) 2)=C (ι ⟨ξ u.t⟩)/\δ m (J (V j.heap) 3)=C (Γ<|pad l.tb u.h)/\(∀aw,m.frozen? (J (V j.heap) aw)=κ)/\V j.heap<V m.heap) (F2:=237) (args:=λan=>#[U (i:Int),ι ⟨B.toArray⟩,bT l.tb u,an]) (op:=λy=>mD (i:Int) B u y) HV.u (A.y Z) hz (ad.u.gr a5) ae.u a6 aa.u (D.u.trans r) a5 a2 a3 (vQ _) W n3
  (λe d p=>by
   obtain⟨-,-,-,-,-,z5,-,-,-,zl⟩:=F.u e d<|r.trans p;simp only[Ô]at z5 zl;exact⟨⟨z5,zl⟩,eU (p.eu (rY j _) ai.1 W ζ ζ).1<|ì No _⟩)
  (λm s3 g3 y r3 ap ao hy=>by
   have au:=(wR ao.tb hu A.tl).1.symm;have hx:=B3f r3 (i:Int) B (hu.gr ap) hy;rw[<-au]at hx;exact hx);have S:=O ak;rw[ac.u l a4.sb]at S;have b0:=rY j<|γ #[U u.g,.int à u.n,ι ⟨ξ u.t⟩,Γ<|pad l.tb u.h] 180;clear hq e1 a4 A a5 hu a6 R hM r Z ai ak HV ae aa ad ac F P ab R0 D N a2 a3 n1 n2 n3;unfold bT at S⊢;go_wp2_with fail;go_region_with (first|(go_at_call 114;refine(S.u _<|Ψ No _ 1).mono ?_;rintro H m (⟨am,rfl,t⟩|⟨ug,un,ut,up,rfl,⟨⟨t1,t2⟩,t3,t4,t5,t6,t7,t8⟩,T6⟩);exact⟨K,t⟩)|(go_at_call 237;refine(T6.u _<|ì _ _).mono ?_;rintro H b8 (⟨am,rfl,t⟩|⟨vg,b5,b7,b6,rfl,y0,y1,y2,y3,yz,yl,E4⟩);exact⟨K,t⟩));all_goals go_wp2_with fail
 all_goals refine ç (by simp[ã,results176,go_sem,y0,y1,y2,y3];rfl) K ?_
 all_goals exact E4.u
def LS{k}(H:fJ b c pb f h)(hV:gA b a pb gq G c k):CE b a pb gq G c (iB c 9) λi q=>rn c.N (aR c) G (k+1) (.e i) q:=by
 refine Ad H ?_;rintro w s g z q i ae la lc n b3 L x v a6 a7 o af S ag r0 a8 N ho m0 q2 _ _ ⟨⟩;have hz:z<=1000000000:=W;rw[mZ]at o;simp only[B7 x,v]at o;simp only[Ö,if_false,if_true]at o;have aa:=O a8;have b2:=H.ok.tx c.N[i]<|mQ x;have D:Hid (∀j l,aJ b a ((w.alloc Ab).alloc<|Ac c.N[i] la lc) g j l->_):=λ_ _=>qK<|n.y<|ν _ _ _;have ai:=hV.at r0 hz L (M4 (a6.k2 W).1) (P8<|by rw[<-o];omega);have ak:=M4 (a6.k2 W).2;have P:=O ai;have HV:=O hV;have ad:=O ak;have a9:=O a7;have ac:=O L;have ab:=O (λ(d:Gh) (hp:g.sb<+:d.sb)=>N8 hp (o:=q) λau F=>by rw[n.sl];exact L au F);have B:=O ag;have R0:=O r0;have M:=O o;have b0:(i:Int)<(Q c.N:Int):=W;generalize pad g.sb q=ps at*;generalize c.N[i]=nd at*;obtain⟨kd,va,vb,vc,ls,tx,vn,vt,vp⟩:=nd;simp only[Ac]at*;subst v;clear H n o a7 a6 S ho af ag r0 L a8 hV ai ak;go_in;go_wp2_with fail;refine P.u.mono ?_;rintro F j hq;obtain⟨al,rfl,t⟩|⟨ay,s2,l,am,rfl,e1,-,Z,A,a4,u,rfl,hu,rfl⟩:=RP.cut (K':=Kv) (λax=>(rn c.N (aR c) G k (.v vb) q).bd λy=>(mY (i:Int) (r1 ax)<|r1 y).bd λaw=>aF [aw]) hq
 .exact⟨K,by rw[M.u];exact(t.pre B.u<|Á _).more W⟩
 have hM:r1 [u]=u:=K;have a5:=M.u;rw[e1,hM]at a5;have T:=ν No j<|γ #[U u.g,.int à u.n,ι ⟨ξ u.t⟩,Γ<|pad l.tb u.h] 180;have r:=Z.trans<|aJ.y (wB:=b) (mb:=a) (g:=l) T;have ah:l.ow (V j.heap)=none/\a<V j.heap:=⟨A.new<|vQ _,A.mc.2.1⟩;obtain⟨a2,a3⟩:=N.u _ l r;obtain⟨n1,n2,n3⟩:=aa.u;obtain⟨x0,x1,x2,x3,x4,x5,x6,x7,x8,xl⟩:=D.u _ l r;simp only[Ô]at x0 x1 x2 x3 x4 x5 x6 x7 x8 xl;have aj:=JF (KP:=λm=>(δ m (J (V w.heap+1) 5)=C (ι ⟨ξ tx⟩)/\V w.heap+1<V m.heap)/\δ m (J (V j.heap) 0)=C (U u.g)/\δ m (J (V j.heap) 1)=C (.int à u.n)/\δ m (J (V j.heap) 2)=C (ι ⟨ξ u.t⟩)/\δ m (J (V j.heap) 3)=C (Γ<|pad l.tb u.h)/\(∀av,m.frozen? (J (V j.heap) av)=κ)/\V j.heap<V m.heap) (F2:=234) (args:=λam=>#[U (i:Int),bT l.tb u,am]) (op:=λy=>mY (i:Int) u y) HV.u (A.y T) hz (ac.u.gr a4) ad.u a5 a9.u (B.u.trans r) a4 a2 a3 (vQ _) W n3
  (λe d p=>by
   obtain⟨-,-,-,-,-,z5,-,-,-,zl⟩:=D.u e d<|r.trans p;simp only[Ô]at z5 zl;exact⟨⟨z5,zl⟩,eU (p.eu (rY j _) ah.1 W ζ ζ).1<|ì No _⟩)
  (λm s3 g3 y r3 ao an hy=>by
   have ar:=(wR an.tb hu A.tl).1.symm;have hx:=KN r3 (i:Int) (hu.gr ao) hy;rw[<-ar]at hx;exact hx);have R:=O aj;rw[ab.u l Z.sb]at R;have az:=rY j<|γ #[U u.g,.int à u.n,ι ⟨ξ u.t⟩,Γ<|pad l.tb u.h] 180;clear hq e1 Z A a4 hu a5 P hM r T ah aj HV ad a9 ac ab D N aa R0 B M a2 a3 n1 n2 n3;unfold bT at R⊢;go_wp2_with fail;go_region_with (first|(go_at_call 114;refine(R.u _<|Ψ No _ 1).mono ?_;rintro F m (⟨al,rfl,t⟩|⟨ug,un,ut,up,rfl,⟨⟨t1,t2⟩,t3,t4,t5,t6,t7,t8⟩,T6⟩);exact⟨K,t⟩)|(go_at_call 234;refine(T6.u _<|ì _ _).mono ?_;rintro F b7 (⟨al,rfl,t⟩|⟨vg,b4,b6,b5,rfl,y0,y1,y2,y3,yz,yl,E4⟩);exact⟨K,t⟩));all_goals go_wp2_with fail
 all_goals refine ç (by simp[ã,results176,go_sem,y0,y1,y2,y3];rfl) K ?_
 all_goals exact E4.u
def AQ{k}(n:fJ b c pb f h):CE b a pb gq G c (iB c 5) λi y=>rn c.N (aR c) G (k+1) (.e i) y:=by
 refine Ad n ?_;rintro w s g z y i R N P j af a8 p o a5 H l v m x t q a2 ho m0 q2 _ _ ⟨⟩;rw[mZ]at l;simp only[B7 p,o]at l;simp at l;have Z:=O q;have L:=Dv n.ok p<|.inl o;have F:∀r,I No b r->(Ì 64 (.map<|C f) (U i) κ).run ε r=.ok (U<|aR c i) r:=λr hW=>(n.names.P hW λad=>ad).get i (by have:=n.ok.fp;omega);obtain⟨j0,j1,e0,D,B⟩:=YN (P8<|by rw[<-l];omega);subst e0;have u:=l;rw[J0 B]at u;have M:=(Zc t L D).mono λa3 ac a7=>Bz v q.1 (vQ _) W q.2.2 x t (Á _) u a7;have A:=O M;have l0:=F _<|B6 j.P m;have aa:=A4 m q2;have a9:=A4 m m0;have T:=O x;have R0:=O t;have HR:=O l;clear u M F D B;generalize aR c i=xn at*;generalize pad g.sb (C j0)=ps at*;generalize c.N[i]=nd at*;obtain⟨kd,va,vb,vc,ls,tx,vn,vt,vp⟩:=nd;simp only[Ac]at*;subst o;clear n j l H a5 m ho v x t a8 q L a2 Z R0 T HR;go_in;go_wp2_with fail;refine A.u.mono ?_;rintro a3 ac (⟨ag,rfl,hh⟩|⟨vg,ah,aj,ai,rfl,y0,y1,y2,y3,yz,yl,S⟩)
 .exact⟨K,hh⟩
 go_wp2;refine ç (by simp[ã,results176,go_sem,y0,y1,y2,y3];rfl) K ?_;exact S.u
end
