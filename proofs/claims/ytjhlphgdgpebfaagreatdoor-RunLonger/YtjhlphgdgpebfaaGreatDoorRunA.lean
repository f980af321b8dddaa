/-
  A part of the proof.
-/
import Derived.Test.YtjhlphgdgpebfaaGreatDoorCheckA
import Derived.Laws.StructEq
import Derived.Laws.Pointers
import Derived.LaidEql
set_option maxHeartbeats 0
set_option linter.all false
set_option maxRecDepth 100000
namespace Go.Proofs.YtjhlphgdgpebfaaGreatDoor
open _root_.Array renaming size->V
open Bool renaming false->κ,true->τ
open Decidable renaming decide->å
open Go renaming Value->χ,Ending->é,Calls->μ,bodyPost_ret->ä,results->â,frozen_of_row->ã,cell_of_row->á,maxLen->Γ,heap_setCell_same->ê
open Ending renaming panicked->ø,returned->π
open Instr renaming lookup->þ,mapUpdate->Á
open IntKind renaming i64->ω,i32->Φ
open Obj renaming cells->γ
open Go.Proofs.Tryz renaming prog->η
open Value renaming string->ζ,pointer->υ,slice->Y,ownBlock->Δ
open World renaming alloc->σ,ownsRow->ξ,setCell->ρ,cell?->δ,size_alloc->Ã,news_of_block->Æ
open List renaming toArray->ν,length->Q,prefix_refl->í,getElem?_eq_some_iff->À,getElem?_append_right->Ï
open Option renaming some->C,getD_some->Ø
open Go.Proofs.Tryz
open Go.RowKit Go.Maps
def UH(v:χ):Option (DataW χ×List MemPlace):=C (.held v,[])
structure gH(k:TypeId)(w:E)(q m:Nat)(f:Lit->Option χ):Prop where
 own:∃n D,w.ownsMap η k UH q n D/\n<=m/\IsMap D/\∀(s:Lit) (d:DataW χ),D.atKey s d=match f s with
  |C j=>.held j
  |none=>d
section
variable{k t e:TypeId}{w w':E}{q m:Nat}{f:Lit->Option χ}
def gH.new(k)(w:E)(m):gH k (σ w<|.map #[] 0) (V w.heap) m (λ_=>none):=⟨0,.map [],World.ownsMap_made w _ _ _,wQ _,isMap_empty,λ_ _=>K⟩
def gH.more{a}(h:gH k w q m f)(d:m<=a):gH k w q a f:=by
 obtain⟨n,D,b,c,r⟩:=h.own;exact⟨n,D,b,W,r⟩
theorem gH.isMap(h:gH k w q m f):∃b a,w.heap[q]?=C (.map b a):=by
 obtain⟨n,D,⟨b,a,c,_⟩,_⟩:=h.own;grind
theorem gH.P(h:gH k w q m f)(b:w'.heap[q]?=w.heap[q]?):gH k w' q m f:=by
 obtain⟨n,D,⟨c,a,d,g⟩,r⟩:=h.own;exact⟨n,D,⟨c,a,b.trans d,g⟩,r⟩
def gH.look(h:gH k w q m f)(p:Keyed η k)(v:prog.underlying t=C (.map k e)){z}(x:(zeroValue e).run η w=.ok z w){o}{b}(u:keyOf η k o=C b)(c):
 (þ t (.map<|C q) o c).run η w=.ok (if c then .tuple #[(f b).getD z,.bool (f b).isSome] else (f b).getD z) w:=by
 obtain⟨n,D,⟨G,A,s,F,_,rfl⟩,_,_,r⟩:=h.own;have a:=r b .nil;obtain⟨i,_,g⟩|⟨B,y,_,_,i,l,g,_⟩:=fit_look c p v x s F u
 .rw[g]at a;cases d:f b with
  |none=>rw[i];rfl
  |some j=>rw[d]at a;cases a
 .rw[g]at a;simp only[UH,zQ]at l;subst l;cases d:f b with
  |none=>rw[d]at a;cases a
  |some j=>
   rw[d]at a;simp at a;rw[i,a];rfl
def gH.put(h:gH k w q m f)(g:Keyed η k)(s:prog.underlying t=C (.map k e)){c}{a}(j:keyOf η k c=C a)(B:WideAt.IsKeyLit a)(F:m<=1000000000)(v)(b)(y:b a=C v)(z:∀u,u≠a->b u=f u):
 ∃w',(Á t (.map<|C q) c v).run η w=.ok () w'/\gH k w' q (m+1) b/\I (λk=>k=q) w w':=by
 obtain⟨n,D,o,G,l,A⟩:=h.own;obtain⟨w',r,p,i⟩:=o.update g s Ä j (show UH v=C (.held v,[]) from K);refine⟨w',r,⟨n+1,_,p,W,l.put _ _,λu d=>?_⟩,(I.grown i).mono λk _ x=>θ⟩;by_cases H:u=a<;>grind[atKey_put_same,atKey_put_other]
end
inductive Rl where
 |t (i:Nat)
 |p (i:Nat)
 |l (i:Nat)
 |s (i:Nat)
 |o (i:Nat)
structure Gh where
 tb:List Nat
 sb:List Nat
 ow:Nat->Option Rl
def pad(a:List Nat)(o:Option Nat):Option Addr:=o.map λi=>(J (a.getD i 0) 0)
def gF(a:List Nat)(v:Vl):List χ:=[.int ω v.g,.int Φ v.n,ζ ⟨ν v.t⟩,υ<|pad a v.h]
def bT(a:List Nat)(v:Vl):χ:=.agg #[.int ω v.g,.int Φ v.n,ζ ⟨ν v.t⟩,υ<|pad a v.h]
def mK(f:bZ->Option Vl)(a:List Nat):Lit->Option χ
 |.string x=>(f x).map<|bT a
 |_=>none
def oD(f:Int->Option Vl)(a:List Nat):Lit->Option χ
 |.int ω x=>(f x).map<|bT a
 |_=>none
def sE(B:Nat)(w:E)(g:Gh)(m i:Nat)(t:Th):Prop:=∃b d c e,g.tb[i]?=C b/\g.ow b=C (.t i)/\w.heap[b]?=C (γ #[d,Y c (Q t.l) e,.int ω t.nd,υ<|pad g.sb t.sc] 163 (0,0))/\
 (if t.k=16 then∃q,d=.map (C q)/\g.ow q=C (.p i)/\gH 9 w q m (mK t.p g.tb) else d=.map none)/\
 ξ w B 135 4 (Y c (Q t.l) e) (Q t.l) (t.l.flatMap<|gF g.tb)/\∀a,c=C a->g.ow a.block=C (.l i)
def uS(w:E)(g:Gh)(m i:Nat)(s:Sc):Prop:=∃b q,g.sb[i]?=C b/\g.ow b=C (.s i)/\w.heap[b]?=C (γ #[.map<|C q,υ<|pad g.sb s.up] 132 (0,0))/\g.ow q=C (.o i)/\gH 3 w q m (oD s.o g.tb)
def strs(l:List bZ):List χ:=l.map λx=>ζ ⟨ν x⟩
def jN(l:List<|Int×Int):List χ:=l.flatMap λp=>[U p.1,U p.2]
structure Rm(wB w:E)(mb pb gq:Nat)(G:Int->Option Int)(N:List Nd)(s:Ms)(g:Gh)(z:Nat):Prop where
 P:I No wB w
 j5:V wB.heap<=mb/\g.ow mb=none/\g.ow gq=none
 gs:cQ w gq 5000 G
 blk:∃lv ev,w.heap[mb]?=C (γ #[pV pb,.map<|C gq,U (s.fu:Int),U (s.c.ca:Int),U (s.c.th:Int),lv,ev] 48 (0,0))/\
  ξ w (V wB.heap) 9 1 lv (Q s.ln) (strs s.ln)/\ξ w (V wB.heap) 50 2 ev (Q s.ev) (jN s.ev)
 tl:Q g.tb=Q s.c.T
 sl:Q g.sb=Q s.c.S
 low:∀k r,g.ow k=C r->V wB.heap<=k/\k<V w.heap
 ty:∀k r,g.ow k=C r->∀cs e fz,w.heap[k]?=C (γ cs e fz)->e≠9/\e≠50
 ok:iE N s.c
 mem:∃m,m+Q s.ln+Q s.ev+4000*s.fu=z/\(∀i t,s.c.T[i]?=C t->sE (V wB.heap) w g m i t)/\∀i q,s.c.S[i]?=C q->uS w g m i q
theorem N8{a b}(h:a<+:b){o}(c:∀i,o=C i->i<Q a):pad b o=pad a o:=by
 obtain⟨r,rfl⟩:=h;cases o with
 |none=>rfl
 |some i=>
  grind[pad]
theorem wR{a b}(h:a<+:b){c}{v}(f:aZ c v)(d:Q a=Q c.T):bT b v=bT a v/\gF b v=gF a v:=by
 have:=N8 h (o:=v.h) (λi e=>by rw[d];exact f.lt i e);unfold bT gF;grind
theorem OX{a:Type}{f f':a->List χ}{l:List a}(h:∀v∈l,f' v=f v):l.flatMap f'=l.flatMap f:=by
 induction l<;>grind
theorem TJ{a b}(h:a<+:b){c}{f}(g:∀x v,f x=C v->aZ c v)(d:Q a=Q c.T):mK f b=mK f a:=by
 funext l;cases l<;>try rfl
 rename_i x;simp only[mK];cases e:f x<;>grind[wR]
theorem Yp{a b}(h:a<+:b){c}{f}(g:∀x v,f x=C v->aZ c v)(d:Q a=Q c.T):oD f b=oD f a:=by
 funext l;cases l<;>try rfl
 rename_i k x;cases k<;>try rfl
 simp only[oD];cases e:f x<;>grind[wR]
def sE.up{B}{w v}{g a}{m u i}{t}{N}{c}(h:sE B w g m i t)(f:jP N c t)(s:Q g.tb=Q c.T)(L:Q g.sb=Q c.S)(d:g.tb<+:a.tb)(D:g.sb<+:a.sb)(H:m<=u)
 (r:∀k,g.ow k=C (.t i)\/g.ow k=C (.p i)\/g.ow k=C (.l i)->v.heap[k]?=w.heap[k]?/\a.ow k=g.ow k):sE B v a u i t:=by
 obtain⟨b,pv,Z,lc,e1,l,A,n,o,e6⟩:=h;obtain⟨P,R⟩:=r b<|.inl l;refine⟨b,pv,Z,lc,?_,R.trans l,?_,?_,?_,λa4 ha=>?_⟩
 .obtain⟨a5,hr⟩:=d;grind
 .rw[P,A,N8 D λj e=>by rw[L];exact f.sc j e]
 .split
  .rename_i G;rw[yY G]at n;obtain⟨q,rfl,p,F⟩:=n;obtain⟨S,T⟩:=r q<|.inr<|.inl p;rw[TJ d f.p s];exact⟨q,K,T.trans p,(F.P S).more H⟩
  grind
 .rw[OX (f:=gF g.tb) (f':=gF a.tb) λa3 M=>(wR d (f.l a3 M) s).2];refine⟨o.1,o.2.imp id λ⟨x,y,z,a2,r2,r3,r4⟩=>⟨x,y,z,a2,r2,?_,r4⟩⟩;grind
 grind
def uS.up{w n}{g a}{m l i}{q}{c}(h:uS w g m i q)(y:∀x v,q.o x=C v->aZ c v)(G:∀j,q.up=C j->j<Q g.sb)(t:Q g.tb=Q c.T)(p:g.tb<+:a.tb)(s:g.sb<+:a.sb)(u:m<=l)
 (f:∀k,g.ow k=C (.s i)\/g.ow k=C (.o i)->n.heap[k]?=w.heap[k]?/\a.ow k=g.ow k):uS n a l i q:=by
 obtain⟨b,r,D,d,F,e,o⟩:=h;obtain⟨L,z⟩:=f b<|.inl d;obtain⟨A,B⟩:=f r<|.inr e;refine⟨b,r,?_,z.trans d,?_,B.trans e,?_⟩
 .obtain⟨x,H⟩:=s;grind
 .grind[N8]
 .rw[Yp p y t];exact(o.P A).more u
def DR(d:E)(c:Nat)(w:E)(g:Gh)(k:Nat):Prop:=k=c\/(∃r,g.ow k=C r/\∀j,r≠Rl.s j)\/(V d.heap<=k/\∃a e b,w.heap[k]?=C (γ a e b)/\(e=9\/e=50))
structure aJ(wB:E)(mb:Nat)(w:E)(g:Gh)(w':E)(g':Gh):Prop where
 P:I (DR wB mb w g) w w'
 ow:∀k r,k<V w.heap->g'.ow k=C r->g.ow k=C r
 tb:g.tb<+:g'.tb
 sb:g.sb<+:g'.sb
theorem aJ.y{wB}{mb}{w a}{g}(h:I No w a):aJ wB mb w g a g:=⟨h.mono λ_ _ x=>x.elim,λ_ _ _ e=>e,í _,í _⟩
theorem aJ.no{i}{d}{w f}{g a}(h:aJ i d w g f a){k}(b:k<V w.heap)(c:g.ow k=none):a.ow k=none:=by
 cases e:a.ow k with
 |none=>rfl
 |some r=>rw[h.ow k r b e]at c;omega
theorem aJ.trans{j}{f}{a b c}{g l m}(h:aJ j f a g b l)(k:aJ j f b l c m):aJ j f a g c m:=by
 refine⟨⟨k.P.os.trans h.P.os,k.P.tape.trans h.P.tape,k.P.output.trans h.P.output,kQ h.P.size k.P.size,λi d n=>?_⟩,λi r d e=>h.ow i r d<|k.ow i r (yQ d h.P.size) e,h.tb.trans k.tb,h.sb.trans k.sb⟩;have o:=h.P.block i d n;refine(k.P.block i (yQ d h.P.size) λx=>n ?_).trans o;obtain x|⟨r,x,x2⟩|⟨x,cs,e,fz,y,z⟩:=x
 .exact .inl x
 .exact .inr<|.inl ⟨r,h.ow i r d x,x2⟩
 .exact .inr<|.inr ⟨x,cs,e,fz,θ,z⟩
def aJ.eu{m}{i}{w j}{g c}(h:aJ m i w g j c){k}{a}{e}{b}(d:w.heap[k]?=C (γ a e b))(l:g.ow k=none)(p:k≠i)(n:e≠9)(o:e≠50):j.heap[k]?=C (γ a e b)/\c.ow k=none:=by
 have f:=(aG d);refine⟨(h.P.block k f λx=>?_).trans d,h.no f l⟩;obtain x|⟨r,x,_⟩|⟨_,cs',e',fz',y,z⟩:=x<;>grind
section
variable{wB w a:E}{mb c b z:Nat}{G:Int->Option Int}{N:List Nd}{s:Ms}{g:Gh}
def Rm.gen{S}{f}{n}{F d}(h:Rm wB w mb c b G N s g z)(p:I S w a)(M:∀k,k<V w.heap->S k->V wB.heap<=k/\k≠b)
 (hb:∃R H,a.heap[mb]?=C (γ #[pV c,.map<|C b,U f.fu,U f.c.ca,U f.c.th,R,H] 48 (0,0))/\
  ξ a (V wB.heap) 9 1 R (Q f.ln) (strs f.ln)/\ξ a (V wB.heap) 50 2 H (Q f.ev) (jN f.ev))
 (o:g.tb<+:n.tb/\g.sb<+:n.sb/\∀k,k<V w.heap->n.ow k=g.ow k) (a8:Q n.tb=Q f.c.T) (a7:Q n.sb=Q f.c.S)
 (a3:∀k r,V w.heap<=k->n.ow k=C r->k<V a.heap/\∀y e A,a.heap[k]?=C (γ y e A)->e≠9/\e≠50)
 (aa:∀k r,g.ow k=C r->S k->∀y e A,a.heap[k]?=C (γ y e A)->e≠9/\e≠50)
 (a5:iE N f.c) (hz:d+Q f.ln+Q f.ev+4000*f.fu+z<=F+Q s.ln+Q s.ev+4000*s.fu)
 (hT:∀i t,f.c.T[i]?=C t->(s.c.T[i]?=C t/\∀k,g.ow k=C (.t i)\/g.ow k=C (.p i)\/g.ow k=C (.l i)->¬S k)\/∀m v,m+Q s.ln+Q s.ev+4000*s.fu=z->m+d<=v->(∀i t,s.c.T[i]?=C t->sE (V wB.heap) w g m i t)->sE (V wB.heap) a n v i t)
 (a2:∀i q,f.c.S[i]?=C q->(s.c.S[i]?=C q/\∀k,g.ow k=C (.s i)\/g.ow k=C (.o i)->¬S k)\/∀m v,m+Q s.ln+Q s.ev+4000*s.fu=z->m+d<=v->(∀i q,s.c.S[i]?=C q->uS w g m i q)->uS a n v i q):Rm wB a mb c b G N f n F:=by
 obtain⟨ab,a9,h1,_⟩:=h.blk;have a4:=(aG h1);obtain⟨m,P,Z,T⟩:=h.mem;have L:∀k r,n.ow k=C r->(k<V w.heap/\g.ow k=C r)\/V w.heap<=k:=λk r u=>θ;refine⟨h.P.trans p λk j x=>?_,⟨h.j5.1,by rw[o.2.2 _ a4];exact h.j5.2.1,by rw[o.2.2 _ h.gs.lt];exact h.j5.2.2⟩,h.gs.P p λx=>(M b h.gs.lt x).2 K,hb,a8,a7,λk r u=>?_,λk r u=>?_,a5,F-(Q f.ln+Q f.ev+4000*f.fu),W,λi t ht=>?_,λi q hq=>?_⟩
 .have:=(M k (yQ j h.P.size) x).1;omega
 .obtain⟨l,e⟩|l:=L k r u
  .exact⟨(h.low k r e).1,yQ l p.size⟩
  .exact⟨kQ h.P.size l,(a3 k r l u).1⟩
 .obtain⟨l,e⟩|l:=L k r u
  .by_cases hx:S k
   .grind
   .rw[p.block k l hx];exact h.ty k r e
  grind
 .obtain⟨e,D⟩|B:=hT i t ht
  .refine(Z i t e).up (h.ok.T i t e) h.tl h.sl o.1 o.2.1 W λk j=>?_;have l:k<V w.heap:=by obtain j|j|j:=j<;>exact(h.low k _ j).2
   exact⟨p.block k l<|D k j,o.2.2 k l⟩
  .exact B m _ P W Z
 .obtain⟨e,D⟩|B:=a2 i q hq
  .refine(T i q e).up (h.ok.S i q e).1 (λa6 e1=>?_) h.tl o.1 o.2.1 W λk j=>?_
   .have:=(h.ok.S i q e).2 a6 e1;have h4:=(À.1 e).1;rw[h.sl];omega
   .have l:k<V w.heap:=by obtain j|j:=j<;>exact(h.low k _ j).2
    exact⟨p.block k l<|D k j,o.2.2 k l⟩
  .exact B m _ P W T
theorem Rm.rows{S}(h:Rm wB w mb c b G N s g z)(i:I S w a)(u:∀k,k<V w.heap->S k->k≠mb/\∀p e t,w.heap[k]?=C (γ p e t)->e≠9/\e≠50):
 ∃f d,a.heap[mb]?=C (γ #[pV c,.map<|C b,U s.fu,U s.c.ca,U s.c.th,f,d] 48 (0,0))/\
  ξ a (V wB.heap) 9 1 f (Q s.ln) (strs s.ln)/\ξ a (V wB.heap) 50 2 d (Q s.ev) (jN s.ev):=by
 obtain⟨f,d,l,m,n⟩:=h.blk;have o:=(aG l);refine⟨f,d,(i.block mb o λx=>(u mb o x).1 K).trans l,A3 m i λq j x=>?_,A3 n i λq j x=>?_⟩
 .obtain⟨_,r,v⟩:=A9 m q j;grind
 .obtain⟨_,r,v⟩:=A9 n q j;grind
def Rm.calm{S}(h:Rm wB w mb c b G N s g z)(n:I S w a)(m:∀k,k<V w.heap->S k->V wB.heap<=k/\k≠mb/\g.ow k=none/\∃j e l,w.heap[k]?=C (γ j e l)/\e≠9/\e≠50):Rm wB a mb c b G N s g z:=by
 have u:∀k r,g.ow k=C r->¬S k:=λk r f x=>by
  have:=(m k (h.low k r f).2 x).2.2.1;grind
 refine h.gen (d:=0) n (λk d x=>?_) (h.rows n λk d x=>?_) ⟨í _,í _,λ_ _=>K⟩ h.tl h.sl (λk r d f=>?_) (λk r f x=>(u k r f x).elim) h.ok W (λi t A=>.inl ⟨A,λk d=>?_⟩) λi q v=>.inl ⟨v,λk d=>?_⟩
 .obtain⟨p,_,_,j,e,l,y,_⟩:=m k d x;exact⟨p,λo=>h.gs.et<|o ▸ y⟩
 .grind
 .have:=(h.low k r f).2;omega
 .grind
 grind
theorem Rm.y(h:Rm wB w mb c b G N s g z)(d:I No w a):Rm wB a mb c b G N s g z:=h.calm d λ_ _ x=>x.elim
def Rm.more{d}(h:Rm wB w mb c b G N s g z)(l:z<=d):Rm wB w mb c b G N s g d:=
 h.gen (S:=λ_=>False) (d:=0) (I.refl _ _) (λ_ _ x=>x.elim) h.blk ⟨í _,í _,λ_ _=>K⟩ h.tl h.sl (λk r j f=>by have:=(h.low k r f).2;omega) (λ_ _ _ x=>x.elim) h.ok W (λ_ _ i=>.inl ⟨i,λ_ _ x=>x⟩) λ_ _ e=>.inl ⟨e,λ_ _ x=>x⟩
def Rm.new(h:Rm wB w mb c b G N s g z){k}(d:V w.heap<=k):g.ow k=none:=by
 cases e:g.ow k with
 |none=>rfl
 |some r=>have:=(h.low k r e).2;omega
def aJ.r6{f}(i:aJ wB mb w g a f)(h:Rm wB w mb c b G N s g z){k j}(d:g.ow k=C (.s j)):a.heap[k]?=w.heap[k]?:=
 i.P.block k (h.low k _ d).2 λx=>by
  obtain x|⟨r,x,x2⟩|⟨_,cs,e,fz,y,y2⟩:=x
  .have:=h.j5.2.1;grind
  .grind
  .have:=h.ty k _ d cs e fz y;grind
end
def ov(e i:Int)(a:List PanicEntry):é:=ø<|{v:=.iface 43<|.agg #[U e,U i],recovered:=κ}::a.map λp=>{p with goexit:=κ}
def JM{w a}{q o}{v}(h:I No w a)(c:V w.heap<=q):I No w (ρ a (J q o) v):=
 h.trans (I.set a (J q o) v) λi b x=>θ
def yG(e i)(w:E):μ η 60 #[U e,U i] w λx a=>x=ov e i []/\a=w:=by
 go_in;go_wp2;exact⟨K,K,K⟩
def IL(n)(w:E):μ η 146 #[.int Φ n] w λx a=>x=π (.agg #[U 1,.int Φ n,ζ ⟨#[]⟩,υ none])/\I No w a:=by
 go_in;go_wp2;refine ä (by simp[â,results146,go_sem]) K ⟨K,I.alloc _ _ _⟩
def TP(t)(w:E):μ η 147 #[ζ t] w λx a=>x=π (.agg #[U 4,.int Φ 0,ζ t,υ none])/\I No w a:=by
 go_in;go_wp2;refine ä (by simp[â,results147,go_sem]) K ⟨K,I.alloc _ _ _⟩
def yE(w:E):μ η 114 #[] w λx a=>x=π (.agg #[U 8,.int Φ 0,ζ ⟨#[]⟩,υ none])/\I No w a:=by
 go_in;go_wp2;refine ä (by simp[â,results114,go_sem]) K ⟨K,I.alloc _ _ _⟩
def CM(b)(w:E):μ η 115 #[.bool b] w λx a=>x=π (.agg #[U 2,.int Φ<|if b then 1 else 0,ζ ⟨#[]⟩,υ none])/\I No w a:=by
 cases b;all_goals
  go_in;go_wp2;refine ä (by simp[â,results115,go_sem]) K ⟨K,I.alloc _ _ _⟩
def wH(i a c)(t)(p)(g)(w:E):μ η 107 #[U i,.agg #[U a,.int Φ c,ζ t,p],U g] w λx d=>I No w d/\x=if a=g then rT else ov 3 i []:=by
 by_cases h:a=g
 .subst h;rw[yY K];go_in;go_wp2;go_end0;grind[I.alloc]
 .have f:(a !=g)=τ:=by simpa using h
  rw[wY h];have b:=O<|yG 3 i;go_in;go_wp2_with fail;refine(b.u _).mono ?_;rintro e j ⟨rfl,rfl⟩;exact⟨K,I.alloc _ _ _,K⟩
def Ji(a b)(t)(p)(w:E):μ η 113 #[.agg #[U a,.int Φ b,ζ t,p]] w λx c=>x=π (ζ ⟨ν (pA a)⟩)/\I No w c:=by
 unfold pA;go_in;go_wp2;all_goals go_ret
 all_goals simp_all
 all_goals exact I.alloc _ _ _
def Gk(b)(h)(n c)(x)(w:E)(k:δ w (J b 1)=C (Y h n c)):
 μ η 109 #[pV b,U x] w λe i=>e=π (.bool<|å<|0<=x/\x<n)/\i=w:=by
 by_cases d:0<=x
 .by_cases g:x<n
  .have f:å (0<=x)=τ:=by simpa using d
   have j:å (x<n)=τ:=by simpa using g
   have a:å (0<=x/\x<n)=τ:=by simpa using And.intro d g
   rw[a];go_in;go_wp2;go_ret;exact⟨K,K⟩
  .have f:å (0<=x)=τ:=by simpa using d
   have a:å (0<=x/\x<n)=κ:=à;rw[a];go_in;go_wp2;go_ret;exact⟨K,K⟩
 .have f:å (0<=x)=κ:=by simpa using d
  have a:å (0<=x/\x<n)=κ:=à;rw[a];go_in;go_wp2;go_ret;exact⟨K,K⟩
def Tryz.og:(prog.fieldsOf 135).toList.map (fun f=>(f.name== "_",f.type,f.offset))=[(κ,3,0),(κ,21,1),(κ,9,2),(κ,133,3)]:=Ψ
def C8f(g n f h)(t i)(p o)(r)(w:E)(N:(Op.equalIn 9999 133 (υ p)<|υ o).run η w=.ok r w):
 (Op.equalIn 10000 135 (.agg #[U g,.int Φ n,ζ t,υ p])<|.agg #[U f,.int Φ h,ζ i,υ o]).run η w=.ok (g==f&&n==h&&t.toList==i.toList&&r) w:=by
 rw[run_equalIn_agg w 9999 135 _ _ Ψ ι];have a:=Tryz.og;generalize (prog.fieldsOf 135).toList=L at a;obtain⟨f0,Z,rfl,j,a⟩:=List.map_eq_cons_iff.1 a;obtain⟨a4,L2,rfl,k,a⟩:=List.map_eq_cons_iff.1 a;obtain⟨a5,L3,rfl,l,a⟩:=List.map_eq_cons_iff.1 a;obtain⟨a6,L4,rfl,m,a⟩:=List.map_eq_cons_iff.1 a;obtain rfl:=List.map_eq_nil_iff.1 a;simp at j k l m;obtain⟨a1,q,s⟩:=j;obtain⟨u,v,x⟩:=k;obtain⟨y,z,A⟩:=l;obtain⟨B,D,F⟩:=m;have G:=run_equalIn_int w 9998 3 ω ω g f underlying3;have H:=run_equalIn_int w 9998 21 Φ Φ n h underlying21;have M:=run_equalIn_string w 9998 9 t i underlying9;simp only[Op.eqFields,a1,q,s,u,v,x,y,z,A,B,D,F,ne_eq,not_false_eq_true,if_true];have P:∀(b c d e:χ),(Go.part 3 #[b,c,d,e] 0).run η w=.ok b w:=λ_ _ _ _=>Ψ;have R:∀(b c d e:χ),(Go.part 21 #[b,c,d,e] 1).run η w=.ok c w:=λ_ _ _ _=>Ψ;have S:∀(b c d e:χ),(Go.part 9 #[b,c,d,e] 2).run η w=.ok d w:=λ_ _ _ _=>Ψ;have T:∀(b c d e:χ),(Go.part 133 #[b,c,d,e] 3).run η w=.ok e w:=λ_ _ _ _=>Ψ;simp only[Sem.run_bind,P,R,S,T,Result.andThen_ok,G,H,M,N,Sem.run_ite];cases g==f<;>cases n==h<;>cases t.toList==i.toList<;>cases r<;>rfl
theorem WT(l:bZ):(⟨ν l⟩:ByteArray).toList=l:=ι
def Dz(a)(o)(w:E):(Op.equalIn 9999 133 (υ<|pad a o)<|υ none).run η w=.ok (o==none) w:=by
 have:=run_equalIn_pointer_nil (P:=η) w 9998 133 (pad a o) Ψ;cases o<;>exact this
def Ga(a)(v)(k n)(w:E):(binOp .neq 135 (bT a v)<|.agg #[U k,.int Φ n,ζ ⟨#[]⟩,υ none]).run η w=.ok (.bool<|!v.beq ⟨k,n,[],none⟩) w:=by
 have h:=C8f v.g v.n k n ⟨ν v.t⟩ ⟨#[]⟩ _ none _ w<|Dz a v.h w;have e:=WT [];rw[WT,e]at h;unfold bT;rw[run_neq_struct,h];rfl
def TW(f)(v)(w:E):μ η 67 #[bT f v] w λx m=>x=π (.bool v.j8)/\I No w m:=by
 have i:=O yE;have k:=O<|CM κ;have t:=Ga f v 8 0;have u:=Ga f v 2 0;have e:v.j8=(!v.beq ⟨8,0,[],none⟩&&!v.beq ⟨2,0,[],none⟩):=K;rw[e];generalize v.beq ⟨8,0,[],none⟩=l at*;generalize v.beq ⟨2,0,[],none⟩=j at*;unfold bT at*;generalize pad f v.h=p at*;have g:Hid (∀a,I No (σ w<|γ #[U v.g,.int Φ v.n,ζ ⟨ν v.t⟩,υ p] 135) a->δ a (J (V w.heap) 0)=C (U v.g)/\δ a (J (V w.heap) 1)=C (.int Φ v.n)/\δ a (J (V w.heap) 2)=C (ζ ⟨ν v.t⟩)/\δ a (J (V w.heap) 3)=C (υ p)):=λa c=>
  ⟨A4 c<|FU K,A4 c<|FU K,A4 c<|FU K,A4 c<|FU K⟩;have h:=O<|I.alloc No w<|γ #[U v.g,.int Φ v.n,ζ ⟨ν v.t⟩,υ p] 135;cases l
 .go_in;go_wp2;go_region_with (first|(go_at_call 114;refine(i.u _).mono ?_;rintro e n ⟨rfl,b⟩;replace b:=O<|B6 (I.drewN No _ 1) b;obtain⟨o,q,r,s⟩:=g.u _ b.u)|(go_at_call 115;refine(k.u _).mono ?_;rintro e y ⟨rfl,d⟩;replace d:=O<|B6 b.u d;obtain⟨z,A,B,D⟩:=g.u _ d.u));all_goals go_wp2
  all_goals go_ret
  all_goals exact⟨by cases j<;>rfl,B6 h.u d.u⟩
 .go_in;go_wp2;go_region_with (go_at_call 114;refine(i.u _).mono ?_;rintro e n ⟨rfl,b⟩;replace b:=O<|B6 (I.drewN No _ 1) b;obtain⟨o,q,r,s⟩:=g.u _ b.u);all_goals go_wp2
  all_goals go_ret
  all_goals exact⟨by cases j<;>rfl,B6 h.u b.u⟩
def uT(d:List Nat)(s:Ms)(w:E)(r:Rr Vl)(e:é)(f:E):Prop:=I No w f/\match r with
 |.ok v c=>c=s/\aZ s.c v/\e=π (bT d v)
 |.over a b c=>c=s/\e=ov a b []
 |_=>False
theorem J0{b d}{m:X b}{k:b->X d}{s c}{a}(h:m s=.ok a c):(m.bd k) s=k a c:=by
 grind[X.bd]
theorem I5{b c}{m:X b}{k:b->X c}{s a}{e i}(h:m s=.over e i a):(m.bd k) s=.over e i a:=by
 grind[X.bd]
def P8{a b}{m:X a}{k:a->X b}{s}(h:(m.bd k) s≠.stk):m s≠.stk:=λe=>h (by grind[X.bd])
theorem nY{i g}{v}{s}(h:v.g=g):eO i v g s=.ok () s:=by
 simp_all[eO,bR,yY]
theorem qY{i g}{v}{s}(h:v.g≠g):eO i v g s=.over 3 i s:=by
 simp_all[eO,bR,wY]
def eU{w w'}{q}{a b c d}(h:w.heap[q]?=C (γ #[a,b,c,d] 135 (0,0)))(f:I No w w'):
 δ w' (J q 0)=C a/\δ w' (J q 1)=C b/\δ w' (J q 2)=C c/\δ w' (J q 3)=C d/\(∀o,w'.frozen? (J q o)=κ)/\q<V w'.heap:=by
 have e:=(f.block q (aG h) id).trans h;exact⟨cr e K,cr e K,cr e K,cr e K,λo=>ã _ _ o _ _ e,(aG e)⟩
theorem iT(w)(x y):((w.alloc x).alloc y).heap[V w.heap]?=C x/\((w.alloc x).alloc y).heap[V w.heap+1]?=C y/\I No w ((w.alloc x).alloc y):=by
 have h:=rY (w.alloc x) y;rw[Ã]at h;exact⟨by grind[Below.heap_alloc,rY],h,B6 (I.alloc _ _ _)<|I.alloc _ _ _⟩
def EZ(w)(x y z):(((w.alloc x).alloc y).alloc z).heap[V w.heap]?=C x/\(((w.alloc x).alloc y).alloc z).heap[V w.heap+1]?=C y/\(((w.alloc x).alloc y).alloc z).heap[V w.heap+1+1]?=C z/\I No w (((w.alloc x).alloc y).alloc z):=by
 grind[iT,rY,Ã,Below.heap_alloc,B6,I.alloc]
def mJ{w a}{q}{c d e f}(h:I No w a)(b:V w.heap<=q):I No w (ρ (ρ (ρ (ρ a (J q 0) c) (J q 1) d) (J q 2) e) (J q 3) f):=
 JM (JM (JM (JM h b) b) b) b
def C3f(n):-2147483648<=wr n/\wr n<=2147483647:=by
 grind[wr]
def IF(c)(n):aZ c (vN<|wr n):=⟨by simp[vN],C3f n,by simp[vN],by simp[vN]⟩
def TL(c){t}(h:Q t<=4000):aZ c (vT t):=⟨h,by simp[vT],by simp[vT],by simp[vT]⟩
def BP(c)(b):aZ c (vB b):=by grind[aZ,vB]
theorem BQ(c):aZ c vO:=by grind[aZ,vO]
def Mj(g):Q (pA g)<=8:=by
 unfold pA;repeat' split
 all_goals simp
def B6f(q)(s)(i)(g)(v)(w:E):μ η 155 #[U i,ζ ⟨ν g⟩,bT q v] w (uT q s w<|kP i g v s):=by
 have L:=O IL;have P:=O TP;have M:=O CM;have x:=O wH;have N:=O Ji;have H:=O<|TW q v;obtain⟨A,B,y⟩:=iT w (γ #[U v.g,.int Φ v.n,ζ ⟨ν v.t⟩,υ<|pad q v.h] 135)<|γ #[U 0,.int Φ 0,ζ ⟨#[]⟩,υ none] 135;have m:=O y;have G:=O λt=>eU (w':=t) A;have r:=O λt=>eU (w':=t) B;clear y;clear A B;unfold bT at*;by_cases n:g=[33]
 .subst n;have d:kP i [33] v s=.ok (vB<|!v.j8) s:=K;rw[d];generalize v.j8=c at*;cases c;all_goals
   go_in;go_wp2_with fail;refine(H.u _).mono ?_;rintro e u ⟨rfl,a⟩;go_wp2_with fail;refine(M.u _ _).mono ?_;rintro e F ⟨rfl,f⟩;have b:=O<|B6 a f;obtain⟨h,j,k,l,z,D⟩:=r.u _ b.u;clear a f;go_wp2;exact ä (by simp[â,results155,go_sem,h,j,k,l];rfl) K ⟨mJ (B6 m.u b.u) W,K,BP _ _,K⟩
 by_cases o:g=[116,121,112,101,111,102]
 .subst o;have d:kP i [116,121,112,101,111,102] v s=.ok (vT<|pA v.g) s:=K;rw[d];have Z:=Mj v.g;go_in;go_wp2_with fail;refine(N.u _ _ _ _ _).mono ?_;rintro e u ⟨rfl,a⟩;generalize pA v.g=a4 at*;go_wp2_with fail;refine(P.u _ _).mono ?_;rintro e F ⟨rfl,f⟩;have b:=O<|B6 a f;obtain⟨h,j,k,l,z,D⟩:=r.u _ b.u;clear a f;go_wp2;exact ä (by simp[â,results155,go_sem,h,j,k,l];rfl) K ⟨mJ (B6 m.u b.u) W,K,TL _ W,K⟩
 have S:(g==[33])=κ:=by simpa using n
 have T:(g==[116,121,112,101,111,102])=κ:=by simpa using o
 by_cases p:v.g=1
 .have d:kP i g v s=.ok (vN<|wr<|-v.n) s:=by
   unfold kP;rw[wY n,wY o];exact(J0<|nY p).trans K
  rw[d];clear d;generalize v.g=vg at*;subst p;generalize v.n=a3 at*;go_in;go_wp2_with fail;refine(x.u _ _ _ _ _ _ _).mono ?_;rintro e u ⟨a,rfl⟩;simp only[if_true];have R:=O a;obtain⟨x0,x1,x2,x3,-,a2⟩:=G.u _ a;clear a;go_wp2_with fail;refine(L.u _ _).mono ?_;rintro e F ⟨rfl,f⟩;have b:=O<|B6 R.u f;obtain⟨h,j,k,l,z,D⟩:=r.u _ b.u;clear f;go_wp2;exact ä (by simp[â,results155,go_sem,h,j,k,l,wrap32];rfl) K ⟨mJ (B6 m.u b.u) W,K,IF _ _,K⟩
 .have d:kP i g v s=.over 3 i s:=by
   unfold kP;rw[wY n,wY o];exact I5<|qY p
  rw[d];go_in;go_wp2_with fail;refine(x.u _ _ _ _ _ _ _).mono ?_;rintro e u ⟨a,rfl⟩;rw[wY p];exact⟨K,B6 m.u a,K,K⟩
def KM(i f q d p)(u s)(t r)(w:E):μ η 195 #[U i,.agg #[U f,.int Φ q,ζ u,t],.agg #[U d,.int Φ p,ζ s,r]] w λe c=>I No w c/\e=if f=1/\d=1 then π (.tuple #[.int Φ q,.int Φ p]) else ov 3 i []:=by
 have b:=O wH;obtain⟨z,A,y⟩:=iT w (γ #[U f,.int Φ q,ζ u,t] 135)<|γ #[U d,.int Φ p,ζ s,r] 135;have g:=O y;have x:=O λc=>eU (w':=c) z;have j:=O λc=>eU (w':=c) A;by_cases m:f=1
 .subst m;by_cases n:d=1
  .subst n;rw[yY ⟨K,K⟩];go_in;go_wp2_with fail;refine(b.u _ _ _ _ _ _ _).mono ?_;rintro e v ⟨a,rfl⟩;simp;have k:=O a;obtain⟨F,G,H,L,-,B⟩:=j.u _ a;go_wp2_with fail;refine(b.u _ _ _ _ _ _ _).mono ?_;rintro e D ⟨o,rfl⟩;simp;have l:=O<|B6 k.u o;obtain⟨P,R,S,T,-,M⟩:=x.u _ l.u;obtain⟨Z,z1,z2,z3,-,N⟩:=j.u _ l.u;go_wp2;go_quiet (fail);go_wp2;go_ret2;exact⟨B6 g.u<|B6 l.u<|I.drewN _ _ _,K⟩
  .rw[wY λh=>n h.2];go_in;go_wp2_with fail;refine(b.u _ _ _ _ _ _ _).mono ?_;rintro e v ⟨a,rfl⟩;simp;have k:=O a;obtain⟨F,G,H,L,-,B⟩:=j.u _ a;go_wp2_with fail;refine(b.u _ _ _ _ _ _ _).mono ?_;rintro e D ⟨o,rfl⟩;rw[wY n];exact⟨K,B6 g.u<|B6 k.u o,K⟩
 .rw[wY λh=>m h.1];go_in;go_wp2_with fail;refine(b.u _ _ _ _ _ _ _).mono ?_;rintro e v ⟨a,rfl⟩;rw[wY m];exact⟨K,B6 g.u a,K⟩
def Pv(t:bZ):(⟨ν t⟩:ByteArray).extract 0 (min (Q t:Int) 200).toNat=⟨ν (t.take 200)⟩:=by
 have e:(min (Q t:Int) 200).toNat=min (Q t) 200:=W;rw[e];apply ByteArray.ext;simp;omega
def Yy(t:bZ)(w:E):μ η 194 #[ζ ⟨ν t⟩] w λe a=>e=π (.agg #[U 4,.int Φ 0,ζ ⟨ν (t.take 200)⟩,υ none])/\I No w a:=by
 have d:=O TP;have g:=rY w<|γ #[U 0,.int Φ 0,ζ ⟨#[]⟩,υ none] 135;have c:=O λa=>eU (w':=a) g;have h:=Pv t;generalize t.take 200=u at*;go_in;go_wp2_with fail;try rw[h]
 refine(d.u _ _).mono ?_;rintro e o ⟨rfl,b⟩;have f:=O b;obtain⟨i,j,k,l,m,n⟩:=c.u _ b;go_wp2;exact ä (by simp[â,results194,go_sem,i,j,k,l]) K ⟨K,mJ (B6 (I.alloc _ _ _) f.u) W⟩
def Ÿ{d}{t e}(a:prog.underlying t=C (.pointer e)){w:E}(b):(Op.equalIn (d+1) t (υ none)<|υ<|C b).run η w=.ok κ w:=by
 simp[Op.equalIn,run_underlying a]
theorem Ee{d}{t e}(f:prog.underlying t=C (.pointer e)){w:E}{n}(c:(sizeOf e).run η w=.ok (n+1) w){a b}{r}(h:(sameAddr a b).run η w=.ok r w):(Op.equalIn (d+1) t (υ<|C a)<|υ<|C b).run η w=.ok r w:=by
 simp[Op.equalIn,run_underlying f,c,h]
def LG{P w}{L M v z}{G}{N}{s}{g}(h:Rm P w L M v G N s g z){a b}(x:∀i,a=C i->i<Q s.c.T)(y:∀i,b=C i->i<Q s.c.T){c}(A:I No w c):
 (Op.equalIn 9999 133 (υ<|pad g.tb a)<|υ<|pad g.tb b).run η c=.ok (a==b) c:=by
 obtain⟨a4,_,k,_⟩:=(h.y A).mem;have l:prog.underlying 133=C (.pointer 163):=Ψ;cases b with
 |none=>exact Dz g.tb a c
 |some j=>
  obtain⟨t,F⟩:∃t,s.c.T[j]?=C t:=⟨_,gQ<|y j K⟩;obtain⟨f,pv,Z,lc,m,R,n,_⟩:=k j t F;have p:pad g.tb (C j)=C (J f 0):=by simp[pad,lQ,m]
  rw[p];cases a with
  |none=>exact Ÿ l _
  |some i=>
   obtain⟨u,H⟩:∃t,s.c.T[i]?=C t:=⟨_,gQ<|x i K⟩;obtain⟨d,a5,a2,a3,q,S,r,_⟩:=k i u H;have o:pad g.tb (C i)=C (J d 0):=by simp[pad,lQ,q]
   have D:(sizeOf 163).run η c=.ok 4 c:=Ψ;rw[o];by_cases T:i=j
   .grind[Ee,run_sameAddr_same]
   .have B:((J d 0):Addr)≠(J f 0):=λe=>θ;rw[Ee l D<|run_sameAddr_other c B r n];simp_all
section
variable{d w:E}{b c a z:Nat}{G:Int->Option Int}{N:List Nd}{s:Ms}{g:Gh}
def Zb(h:Rm d w b c a G N s g z)(a5){p t}(ha:aZ s.c p)(hb:aZ s.c t):μ η 154 #[U a5,ζ ⟨ν ([61,61])⟩,bT g.tb p,bT g.tb t] w (uT g.tb s w<|.ok (vB<|p.beq t) s):=by
 have P:=O CM;have M:=O λy (hc:I No w y)=>LG h ha.lt hb.lt hc;obtain⟨f,j,m,R⟩:=p;obtain⟨i,k,n,S⟩:=t;obtain⟨r,x⟩:∃r,r=(R==S):=⟨_,K⟩;have HR:=O x;simp only[bT,Vl.beq]at*;rw[<-x]at M⊢;clear x;generalize pad g.tb R=pa at*;generalize pad g.tb S=a6 at*;obtain⟨-,-,a2,T⟩:=EZ w (γ #[U f,.int Φ j,ζ ⟨ν m⟩,υ pa] 135) (γ #[U i,.int Φ k,ζ ⟨ν n⟩,υ a6] 135)<|γ #[U 0,.int Φ 0,ζ ⟨#[]⟩,υ none] 135;have H:=O T;have L:=O λy=>eU (w':=y) a2;have E:=M.u _ T;have a3:f≠i\/(f=i/\j≠k)\/(f=i/\j=k/\m≠n)\/(f=i/\j=k/\m=n):=by
  by_cases u:f=i<;>by_cases h2:j=k<;>by_cases h3:m=n<;>simp[*]
 obtain⟨q,o⟩:∃q,q=(f==i&&j==k&&m==n&&r):=⟨_,K⟩;rw[<-o];obtain u|⟨rfl,u⟩|⟨rfl,rfl,u⟩|⟨rfl,rfl,rfl⟩:=a3;rotate_left 3
 .simp at o;subst o;cases q;all_goals
   go_in;go_wp2_with fail;refine(P.u _ _).mono ?_;rintro e a7 ⟨rfl,v⟩;have l:=O v;obtain⟨A,B,D,F,Z,lt⟩:=L.u _ l.u;go_wp2;exact ä (by simp[â,results154,go_sem,A,B,D,F];rfl) K ⟨mJ (B6 H.u l.u) W,K,BP _ _,K⟩
 all_goals
  have a4:q=κ:=by simp[o,u]
  subst a4;clear o E;go_in;go_wp2_with fail;refine(P.u _ _).mono ?_;rintro e a7 ⟨rfl,v⟩;have l:=O v;obtain⟨A,B,D,F,Z,lt⟩:=L.u _ l.u;clear v;go_wp2;exact ä (by simp[â,results154,go_sem,A,B,D,F];rfl) K ⟨mJ (B6 H.u l.u) W,K,BP _ _,K⟩
def B3f(a3:Rm d w b c a G N s g z)(i)(h){f j}(Z:aZ s.c f)(hb:aZ s.c j):μ η 154 #[U i,ζ ⟨ν h⟩,bT g.tb f,bT g.tb j] w (uT g.tb s w<|mD i h f j s):=by
 by_cases T:h=[61,61]
 .subst T;exact Zb a3 i Z hb
 have HN:=O IL;have HT:=O CM;have HD:=O wH;have D:=O KM;obtain⟨a4,a5,a6,ca⟩:=EZ w (γ #[U f.g,.int Φ f.n,ζ ⟨ν f.t⟩,υ<|pad g.tb f.h] 135) (γ #[U j.g,.int Φ j.n,ζ ⟨ν j.t⟩,υ<|pad g.tb j.h] 135)<|γ #[U 0,.int Φ 0,ζ ⟨#[]⟩,υ none] 135;have p:=O ca;have a8:=O λu=>eU (w':=u) a4;have a9:=O λu=>eU (w':=u) a5;have H:=O λu=>eU (w':=u) a6;have ae:=Z.1;have af:=hb.1;clear a4 a5 a6 a3 Z hb ca;unfold bT at*;have e1:(h==[61,61])=κ:=by simpa using T
 obtain⟨R,k⟩:∃R,R=mD i h f j s:=⟨_,K⟩;rw[<-k];unfold mD at k;rw[wY T]at k;by_cases m:h=[43]/\f.g=4
 .rw[yY m]at k;obtain⟨rfl,m⟩:=m;by_cases t:j.g=4
  .rw[J0<|nY t]at k;have hl:Q ((f.t++j.t).take 200)<=4000:=à;generalize hu:(f.t++j.t).take 200=ac at*;replace k:R=.ok (vT ac) s:=k;subst k;have a2:Hid (∀w:E,_):=λw=>Yy (f.t++j.t) w;rw[hu]at a2;have ad:(⟨ν f.t⟩:ByteArray)++⟨ν j.t⟩=⟨ν (f.t++j.t)⟩:=by apply ByteArray.ext;simp
   generalize f.g=L at*;generalize j.g=bg at*;subst m t;go_in;go_wp2_with fail;refine(HD.u _ _ _ _ _ _ _).mono ?_;rintro e v ⟨l,rfl⟩;simp only[if_true];have K1:=O l;obtain⟨x0,x1,x2,x3,-,ai⟩:=a8.u _ l;obtain⟨u0,u1,u2,u3,-,aj⟩:=a9.u _ l;clear l;go_wp2_with fail;refine(a2.u _).mono ?_;rintro e a7 ⟨rfl,o⟩;have n:=O<|B6 K1.u o;obtain⟨x,y,A,B,fz,lt⟩:=H.u _ n.u;clear o x0 x1 x2 x3 u0 u1 u2 u3;go_wp2;exact ä (by simp[â,results154,go_sem,x,y,A,B];rfl) K ⟨mJ (B6 p.u n.u) W,K,TL _ hl,K⟩
  .rw[I5<|qY t]at k;subst k;generalize f.g=L at*;subst m;go_in;go_wp2_with fail;refine(HD.u _ _ _ _ _ _ _).mono ?_;rintro e v ⟨l,rfl⟩;rw[wY t];exact⟨K,B6 p.u l,K,K⟩
 rw[wY m]at k;have F:h=[43]->¬f.g=4:=λe1 e2=>m ⟨e1,e2⟩;by_cases q:f.g=1/\j.g=1
 .rw[J0<|nY q.1,J0<|nY q.2]at k;have ab:h=[43]\/h=[45]\/h=[42]\/(h≠[43]/\h≠[45]/\h≠[42]):=by
   by_cases M:h=[43]<;>by_cases P:h=[45]<;>by_cases S:h=[42]<;>simp[*]
  obtain rfl|rfl|rfl|⟨M,P,S⟩:=ab;rotate_left 3
  .rw[wY M,wY P,wY S]at k;have d1:(h==[43])=κ:=by simpa using M
   have d2:(h==[45])=κ:=by simpa using P
   have d3:(h==[42])=κ:=by simpa using S
   obtain⟨r,hr⟩:∃r,r=å (f.n<j.n):=⟨_,K⟩;rw[<-hr]at k;replace k:R=.ok (vB r) s:=k;subst k;have hd:=hr.symm;clear hr m F;generalize f.g=L at*;generalize j.g=bg at*;obtain⟨rfl,rfl⟩:=q;cases r;all_goals
    go_in;go_wp2_with fail;refine(D.u _ _ _ _ _ _ _ _ _ _).mono ?_;rintro e v ⟨l,rfl⟩;simp only[and_self,if_true];go_wp2_with fail;refine(HT.u _ _).mono ?_;rintro e a7 ⟨rfl,o⟩;have n:=O<|B6 l o;obtain⟨x,y,A,B,fz,lt⟩:=H.u _ n.u;clear l o;go_wp2;exact ä (by simp[â,results154,go_sem,x,y,A,B];rfl) K ⟨mJ (B6 p.u n.u) W,K,BP _ _,K⟩
  all_goals
   subst k;clear m F;generalize f.g=L at*;generalize j.g=bg at*;obtain⟨rfl,rfl⟩:=q;go_in;go_wp2_with fail;refine(D.u _ _ _ _ _ _ _ _ _ _).mono ?_;rintro e v ⟨l,rfl⟩;simp only[and_self,if_true];go_wp2_with fail;refine(HN.u _ _).mono ?_;rintro e a7 ⟨rfl,o⟩;have n:=O<|B6 l o;obtain⟨x,y,A,B,fz,lt⟩:=H.u _ n.u;clear l o;go_wp2;exact ä (by simp[â,results154,go_sem,x,y,A,B,wrap32];rfl) K ⟨mJ (B6 p.u n.u) W,K,IF _ _,K⟩
 .have aa:R=.over 3 i s:=by
   by_cases t:f.g=1
   .grind[J0,nY,I5,qY]
   .grind[I5,qY]
  subst aa;clear k;have ah:(h==[43]&&f.g==4)=κ:=by simpa using F
  by_cases h4:h=[43]
  .subst h4;have h5:=F K;go_in;go_wp2_with fail;refine(D.u _ _ _ _ _ _ _ _ _ _).mono ?_;rintro e v ⟨l,rfl⟩;rw[wY q];exact⟨K,B6 p.u l,K,K⟩
  .have d1:(h==[43])=κ:=by simpa using h4
   go_in;go_wp2_with fail;refine(D.u _ _ _ _ _ _ _ _ _ _).mono ?_;rintro e v ⟨l,rfl⟩;rw[wY q];exact⟨K,B6 p.u l,K,K⟩
end
def Tbl (w:E):Prop:=Lib.TabIs η w "internal/strconv.uint64pow10" .u64 Lib.pow10Tab/\∃g,prog.globalNamed "internal/strconv.uint64pow10"=C g/\g<V w.heap
theorem Tbl.P{w w'}(h:Tbl w)(a:I No w w'):Tbl w':=by
 obtain⟨e,g,c,b⟩:=h;have d:=a.block g b id;refine⟨?_,g,c,yQ b a.size⟩;grind[Lib.TabIs,World.var?]
def zr(w)(a):I No w (Go.Sort.grow w a):=⟨K,K,K,ι,λk b _=>by grind[Go.Sort.grow]⟩
def Ny(h)(v)(u:-2147483648<=v.n/\v.n<=2147483647)(w)(j:Tbl w):μ η 65 #[bT h v] w λe a=>e=π (ζ ⟨ν v.ma⟩)/\I No w a:=by
 have o:Hid (∀a:E,I No w a->μ η 111 #[U v.n] a λe l=>e=π (ζ ⟨ν (Lib.itoa v.n)⟩)/\I No a l):=λa s=>by
  refine(Tryz.strconv_Itoa v.n W W a (j.P s).1).mono ?_;rintro e l ⟨rfl,q,t,rfl⟩;exact⟨K,B6 (I.drewN No _ q)<|zr _ t⟩
 have n:=O Tryz.strconv_FormatBool;have p:=O Ji;have r:=rY w<|γ #[U v.g,.int Φ v.n,ζ ⟨ν v.t⟩,υ<|pad h v.h] 135;have b:=O<|I.alloc No w<|γ #[U v.g,.int Φ v.n,ζ ⟨ν v.t⟩,υ<|pad h v.h] 135;clear r j;have i:v.ma=if v.g=1 then Lib.itoa v.n else if v.g=2 then Lib.formatBool (v.n==1) else if v.g=4 then v.t else pA v.g:=K;rw[i];clear i;unfold bT;by_cases c:v.g=1
 .rw[yY c];generalize v.g=k at*;subst c;generalize Lib.itoa v.n=x at*;go_in;go_wp2_with fail;refine(o.u _ b.u).mono ?_;rintro e m ⟨rfl,g⟩;go_wp2;go_ret;exact⟨K,B6 b.u g⟩
 rw[wY c];by_cases d:v.g=2
 .rw[yY d];generalize v.g=k at*;subst d;go_in;go_wp2_with fail;refine(n.u _ _).mono ?_;rintro e m ⟨rfl,rfl⟩;go_wp2;go_ret;exact⟨K,b.u⟩
 rw[wY d];by_cases f:v.g=4
 .rw[yY f];generalize v.g=k at*;subst f;go_in;go_wp2;go_ret;exact⟨K,b.u⟩
 rw[wY f];go_in;go_wp2_with fail;refine(p.u _ _ _ _ _).mono ?_;rintro e m ⟨rfl,g⟩;go_wp2;go_ret;exact⟨K,B6 b.u g⟩
section
variable{a w:E}{c d b z:Nat}{G:Int->Option Int}{N:List Nd}{s:Ms}{g:Gh}
def Rm.kh(h:Rm a w c d b G N s g z){v}(o:aZ s.c v)(q:16<=v.g):∃j t e m,v.h=C j/\s.c.T[j]?=C t/\t.k=v.g/\g.tb[j]?=C e/\pad g.tb v.h=C (J e 0)/\m+Q s.ln+Q s.ev+4000*s.fu=z/\sE (V a.heap) w g m j t:=by
 obtain⟨m,r,i,_⟩:=h.mem;obtain⟨_,_,_,f⟩:=o;cases l:v.h with
 |none=>grind
 |some j=>
  rw[l]at f;obtain⟨t,n,u⟩:=f;have k:=i j t n;obtain⟨e,_,_,_,p,_⟩:=k;grind[pad]
theorem xX{v}{j}{t}(h:v.h=C j)(e:s.c.T[j]?=C t):fR v s=.ok t s:=by
 simp_all[fR,bR,Option.bind_some]
def B9f(h:Rm a w c d b G N s g z)(a4){v}(hv:aZ s.c v)(x)(hx:Q x<=1000000):μ η 150 #[U a4,bT g.tb v,ζ ⟨ν x⟩] w (uT g.tb s w<|mB a4 v x s):=by
 have HN:=O IL;have HO:=O yE;have S:=O wH;obtain⟨a9,aa,T⟩:=iT w (γ #[U v.g,.int Φ v.n,ζ ⟨ν v.t⟩,υ<|pad g.tb v.h] 135)<|γ #[U 0,.int Φ 0,ζ ⟨#[]⟩,υ none] 135;have l:=O T;have a7:=O λj=>eU (w':=j) a9;have a3:=O λj=>eU (w':=j) aa;clear a9 aa;obtain⟨R,f⟩:∃R,R=mB a4 v x s:=⟨_,K⟩;rw[<-f];unfold mB at f;by_cases n:v.g=32/\x=[108,101,110,103,116,104]
 .rw[yY n]at f;obtain⟨a5,t,p,ag,y,k,e3,A,e5,-,e6⟩:=h.kh hv W;rw[J0<|xX y k]at f;replace f:R=.ok (vN<|wr (Q t.l)) s:=f;have ak:=(h.ok.T a5 t k).fq;have al:=h.ok.th;obtain⟨b',pv,la,lc,B,_,m,_⟩:=e6;rw[A]at B;cases B;have q:((σ (σ w<|γ #[U v.g,.int Φ v.n,ζ ⟨ν v.t⟩,υ<|pad g.tb v.h] 135)<|γ #[U 0,.int Φ 0,ζ ⟨#[]⟩,υ none] 135)).heap[p]?=_:=(T.block p (aG m) id).trans m;have ac:=á _ _ 1 _ _ _ q;simp only[List.getElem?_toArray,List.getElem?_cons_succ,List.getElem?_cons_zero]at ac;have lb:=(aG q);simp only[Ã]at lb;clear m q T h hv k A;subst f;unfold bT;obtain⟨n,rfl⟩:=n;generalize pad g.tb v.h=ah at*;subst e5;generalize v.g=vg at*;subst n;generalize Q t.l=a6 at*;have hw:wr (a6:Int)=a6:=by unfold wr;omega
  have ab:=IF s.c (a6:Int);rw[hw]at ab⊢;go_in;go_wp2_with fail;refine(HN.u _ _).mono ?_;rintro e aj ⟨rfl,D⟩;have u:=O D;obtain⟨H,L,M,P,fz,lt⟩:=a3.u _ u.u;clear D;go_wp2;exact ä (by simp[â,results150,go_sem,H,L,M,P];rfl) K ⟨mJ (B6 l.u u.u) W,K,ab,K⟩
 rw[wY n]at f;have Z:v.g=32->¬x=[108,101,110,103,116,104]:=λy k=>n ⟨y,k⟩;by_cases o:v.g=16
 .rw[J0<|nY o]at f;obtain⟨a5,t,p,ag,y,k,e3,A,e5,-,e6⟩:=h.kh hv W;rw[J0<|xX y k]at f;replace f:R=.ok ((t.p x).getD vO) s:=f;have ad:=h.ok.T a5 t k;obtain⟨b',pv,la,lc,B,_,m,f4,_⟩:=e6;rw[A]at B;cases B;rw[yY<|e3.trans o]at f4;obtain⟨a2,rfl,a8,f6⟩:=f4;have ql:=(h.low a2 _ a8).2;have r:Hid (∀j,I No w j->(þ 160 (.map<|C a2) (ζ ⟨ν x⟩) τ).run η j=.ok (.tuple #[((t.p x).map<|bT g.tb).getD<|.agg #[U 0,.int Φ 0,ζ ⟨#[]⟩,υ none],.bool (t.p x).isSome]) j/\δ j (J p 0)=C (.map<|C a2)/\p<V j.heap):=λj hc=>by
   have hz:(zeroValue 135).run η j=.ok (.agg #[U 0,.int Φ 0,ζ ⟨#[]⟩,υ none]) j:=Ψ;have:=(f6.P<|hc.block a2 ql id).look EO underlying160 hz (DH x hx) τ;have q:=(hc.block p (aG m) id).trans m;refine⟨by simpa[mK]using this,cr q K,(aG q)⟩
  clear m a8 f6 T h hv k A Z;have Z:å (v.g=32)=κ:=by simp[o]
  unfold bT;generalize pad g.tb v.h=ah at*;subst e5;generalize v.g=vg at*;subst o;cases hp:t.p x with
  |none=>
   rw[hp]at f r;simp only[Option.getD_none]at f;subst f;go_in;go_wp2_with fail;refine(S.u _ _ _ _ _ _ _).mono ?_;rintro e F ⟨i,rfl⟩;simp only[if_true];obtain⟨l1,l2,l3⟩:=r.u F<|B6 l.u i;have K1:=O i;obtain⟨x0,x1,x2,x3,-,af⟩:=a7.u _ i;clear i;go_wp2_with fail;refine(HO.u _).mono ?_;rintro e aj ⟨rfl,D⟩;have u:=O<|B6 K1.u<|B6 (I.alloc No _ _) D;obtain⟨H,L,M,P,fz,lt⟩:=a3.u _ u.u;clear D x0 x1 x2 x3 l1 l2;go_wp2;exact ä (by simp[â,results150,go_sem,H,L,M,P];rfl) K ⟨mJ (B6 l.u u.u) W,K,BQ _,K⟩
  |some ai=>
   rw[hp]at f r;simp only[Ø]at f;subst f;have ae:=ad.p x ai hp;simp only[Option.map_some,Ø,bT]at r;go_in;go_wp2_with fail;refine(S.u _ _ _ _ _ _ _).mono ?_;rintro e F ⟨i,rfl⟩;simp only[if_true];obtain⟨l1,l2,l3⟩:=r.u F<|B6 l.u i;have K1:=O i;obtain⟨x0,x1,x2,x3,-,af⟩:=a7.u _ i;obtain⟨H,L,M,P,fz,lt⟩:=a3.u _ i;clear i;go_wp2;exact ä (by simp[â,results150,go_sem,H,L,M,P,lt];rfl) K ⟨B6 (mJ (B6 l.u K1.u) W)<|I.alloc _ _ _,K,ae,K⟩
 .rw[I5<|qY o]at f;subst f;unfold bT;by_cases h3:v.g=32
  .have h4:(x==[108,101,110,103,116,104])=κ:=by simpa using Z h3
   clear Z n;generalize v.g=vg at*;subst h3;go_in;go_wp2_with fail;refine(S.u _ _ _ _ _ _ _).mono ?_;rintro e F ⟨i,rfl⟩;rw[wY o];exact⟨K,B6 l.u i,K,K⟩
  .go_in;go_wp2_with fail;refine(S.u _ _ _ _ _ _ _).mono ?_;rintro e F ⟨i,rfl⟩;rw[wY o];exact⟨K,B6 l.u i,K,K⟩
end
def Jv(i g t f c)(u s)(q r)(w:E)(M:-2147483648<=c/\c<=2147483647):μ η 108 #[U i,.agg #[U g,.int Φ t,ζ u,υ q],.agg #[U f,.int Φ c,ζ s,υ r]] w λe d=>I No w d/\e=if g=32/\f=1 then π (.tuple #[υ q,U c]) else ov 3 i []:=by
 have b:=O wH;obtain⟨z,A,y⟩:=iT w (γ #[U g,.int Φ t,ζ u,υ q] 135)<|γ #[U f,.int Φ c,ζ s,υ r] 135;have j:=O y;have x:=O λd=>eU (w':=d) z;have k:=O λd=>eU (w':=d) A;by_cases n:g=32
 .subst n;by_cases o:f=1
  .subst o;rw[yY ⟨K,K⟩];go_in;go_wp2_with fail;refine(b.u _ _ _ _ _ _ _).mono ?_;rintro e v ⟨a,rfl⟩;simp;have l:=O a;obtain⟨F,G,H,L,-,B⟩:=k.u _ a;go_wp2_with fail;refine(b.u _ _ _ _ _ _ _).mono ?_;rintro e D ⟨p,rfl⟩;simp;have m:=O<|B6 l.u p;obtain⟨R,S,T,Z,-,N⟩:=x.u _ m.u;obtain⟨z0,z1,z2,z3,-,P⟩:=k.u _ m.u;go_wp2;go_quiet (fail);go_wp2;go_ret2;exact⟨B6 j.u<|B6 m.u<|I.drewN _ _ _,K⟩
  .rw[wY λh=>o h.2];go_in;go_wp2_with fail;refine(b.u _ _ _ _ _ _ _).mono ?_;rintro e v ⟨a,rfl⟩;simp;have l:=O a;obtain⟨F,G,H,L,-,B⟩:=k.u _ a;go_wp2_with fail;refine(b.u _ _ _ _ _ _ _).mono ?_;rintro e D ⟨p,rfl⟩;rw[wY o];exact⟨K,B6 j.u<|B6 l.u p,K⟩
 .rw[wY λh=>n h.1];go_in;go_wp2_with fail;refine(b.u _ _ _ _ _ _ _).mono ?_;rintro e v ⟨a,rfl⟩;rw[wY n];exact⟨K,B6 j.u a,K⟩
theorem YB{h:Type}{k}(b:h->List χ)(g:∀x,Q (b x)=k):∀(l:List h) (i c) (f),c<k->(l.flatMap b)[i*k+c]?=(b l[i])[c]?
 |[],_,_,f,_=>θ
 |a::r,0,c,_,d=>θ
 |a::r,i+1,c,f,d=>by
  have e:(i+1)*k+c=Q (b a)+(i*k+c):=by rw[g,Nat.succ_mul];omega
  rw[List.flatMap_cons,e,Ï W,Nat.add_sub_cancel_left,YB b g r i c θ d];simp
def MZ{tb}{l:List Vl}{j}{v}(h:l[j]?=C v):(l.flatMap<|gF tb)[j*4]?=C (U v.g)/\(l.flatMap<|gF tb)[j*4+1]?=C (.int Φ v.n)/\(l.flatMap<|gF tb)[j*4+2]?=C (ζ ⟨ν v.t⟩)/\(l.flatMap<|gF tb)[j*4+3]?=C (υ<|pad tb v.h):=by
 obtain⟨a,e⟩:=À.1 h;have k:=λo b=>YB (k:=4) (gF tb) (λ_=>K) l j o a b;subst e;exact⟨k 0 W,k 1 W,k 2 W,k 3 W⟩
section
variable{a w:E}{c d b z:Nat}{G:Int->Option Int}{N:List Nd}{s:Ms}{g:Gh}
def KN(a6:Rm a w c d b G N s g z)(i){v f}(hv:aZ s.c v)(ha:aZ s.c f):μ η 151 #[U i,bT g.tb v,bT g.tb f] w (uT g.tb s w<|mY i v f s):=by
 have HO:=O yE;have B:=O λi vg vn ug vt ut vp up w=>Jv i vg vn ug f.n vt ut vp up w ha.2.1;obtain⟨-,-,a8,ca⟩:=EZ w (γ #[U v.g,.int Φ v.n,ζ ⟨ν v.t⟩,υ<|pad g.tb v.h] 135) (γ #[U f.g,.int Φ f.n,ζ ⟨ν f.t⟩,υ<|pad g.tb f.h] 135)<|γ #[U 0,.int Φ 0,ζ ⟨#[]⟩,υ none] 135;have n:=O ca;have a2:=O λl=>eU (w':=l) a8;obtain⟨R,h⟩:∃R,R=mY i v f s:=⟨_,K⟩;rw[<-h];unfold mY at h;by_cases q:v.g=32/\f.g=1
 .rw[J0<|nY q.1,J0<|nY q.2]at h;obtain⟨ac,t,o,ai,e1,e2,e3,e4,e5,-,e6⟩:=a6.kh hv W;rw[J0<|xX e1 e2]at h;replace h:R=.ok (if 0<=f.n then t.l.getD f.n.toNat vO else vO) s:=h;have aa:=a6.ok.T ac t e2;obtain⟨b',pv,u,y,a3,_,a4,_,a7,_⟩:=e6;rw[e4]at a3;cases a3;have HQ:Hid (∀l,I No w l->δ l (J o 1)=C (Y u (Q t.l) y)/\o<V l.heap/\ξ l (V a.heap) 135 4 (Y u (Q t.l) y) (Q t.l) (t.l.flatMap<|gF g.tb)):=λl hc=>by
   have a5:=(hc.block o (aG a4) id).trans a4;exact⟨cr a5 K,(aG a5),A3 a7 hc λ_ _ x=>x⟩
  have HH:=O Gk;unfold bT;generalize pad g.tb v.h=aj at*;subst e5;generalize v.g=vg at*;generalize f.g=ag at*;obtain⟨rfl,rfl⟩:=q;generalize f.n=x at*;by_cases r:0<=x/\x<Q t.l
  .obtain⟨k,rfl⟩:=Int.eq_ofNat_of_zero_le r.1;have M:k<Q t.l:=W;rw[yY r.1]at h;have hg:t.l.getD (Int.toNat k) vO=t.l[k]:=by rw[tQ,lQ,gQ M];rfl
   rw[hg]at h;have ab:=aa.l _<|mQ M;have L:=MZ (tb:=g.tb)<|gQ M;generalize t.l[k]=ak at*;subst h;have H:å (0<=(k:Int)/\k<(Q t.l:Int))=τ:=by simpa using r
   go_in;go_wp2_with fail;refine(B.u _ _ _ _ _ _ _ _ _).mono ?_;rintro e m ⟨j,rfl⟩;simp;obtain⟨P,q2,q3⟩:=HQ.u m<|B6 n.u j;have p:=O j;have A:=O<|HH.u o u _ y k m P;go_wp2_with fail;refine A.u.mono ?_;rintro e ae ⟨rfl,rfl⟩;rw[H];obtain⟨gl,rfl,-,ah,af,a9,F⟩:=D5 q3 W;have v0:=F _ _ L.1;have v1:=F _ _ L.2.1;have v2:=F _ _ L.2.2.1;obtain⟨S,T,Z,y3,fz,lt⟩:=a2.u _ p.u;unfold Γ at a9;go_wp2;exact ä (by simp[â,results151,go_sem,S,T,Z,y3];rfl) K ⟨mJ (B6 n.u p.u) W,K,ab,K⟩
  .have D:R=.ok vO s:=by
    rw[h];by_cases h0:0<=x
    .grind
    .grind
   subst D;clear h;have H:å (0<=x/\x<Q t.l)=κ:=by simpa using r
   go_in;go_wp2_with fail;refine(B.u _ _ _ _ _ _ _ _ _).mono ?_;rintro e m ⟨j,rfl⟩;simp;obtain⟨P,q2,q3⟩:=HQ.u m<|B6 n.u j;have p:=O j;have A:=O<|HH.u o u _ y x m P;go_wp2_with fail;refine A.u.mono ?_;rintro e ae ⟨rfl,rfl⟩;rw[H];go_wp2_with fail;refine(HO.u _).mono ?_;rintro e al ⟨rfl,ad⟩;have K3:=O<|B6 p.u ad;obtain⟨S,T,Z,y3,fz,lt⟩:=a2.u _ K3.u;go_wp2;exact ä (by simp[â,results151,go_sem,S,T,Z,y3];rfl) K ⟨mJ (B6 n.u K3.u) W,K,BQ _,K⟩
 .have D:R=.over 3 i s:=by
   by_cases h3:v.g=32
   .grind[J0,nY,I5,qY]
   .grind[I5,qY]
  subst D;clear h;unfold bT;go_in;go_wp2_with fail;refine(B.u _ _ _ _ _ _ _ _ _).mono ?_;rintro e m ⟨j,rfl⟩;rw[wY q];exact⟨K,B6 n.u j,K,K⟩
end
def bk(a:List Nat)(v:Vl)(_:List PanicEntry):é:=ø [{v:=.iface 141<|bT a v,recovered:=κ}]
def RP(h:E)(f k j:Nat)(G:Int->Option Int)(N:List Nd)(z:Nat)(w:E)(g:Gh)(s:Ms){m}(n:m->Ms->Gh->E->χ->Prop)(r:Rr m)(e:é)(d:E):Prop:=match r with
 |.stk=>False
 |.ok a c=>∃b v,e=π v/\aJ h f w g d b/\Rm h d f k j G N c b z/\Gr s.c c.c/\n a c b d v
 |.over x i c=>∃b l,e=ov x i l/\aJ h f w g d b/\Rm h d f k j G N c b z
 |.back u c=>∃b l,e=bk b.tb u l/\aJ h f w g d b/\Rm h d f k j G N c b z/\Gr s.c c.c/\aZ c.c u
section
variable{d w b:E}{a f e z:Nat}{G:Int->Option Int}{N:List Nd}{s:Ms}{g:Gh}
def Rm.kr(h:Rm d w a f e G N s g z){u:Option Nat}(F:iL s.c u){q m}(v:I No w b)(hq:V w.heap<=q)(Z:V w.heap<=m)(a2:q≠m)(P:gH 3 b q 0 λ_=>none)(H:b.heap[m]?=C (γ #[.map<|C q,υ<|pad g.sb u] 132 (0,0))):
 ∃t,Rm d b a f e G N {s with c:={s.c with S:=s.c.S++[⟨λ_=>none,u⟩]}} t z/\aJ d a w g b t/\pad t.sb (C (Q s.c.S))=C (J m 0):=by
 obtain⟨T,R,a4⟩:=P.isMap;have A:g.sb<+:g.sb++[m]:=List.prefix_append _ _;have D:∀k,k<V w.heap->(if k=q then C (Rl.o (Q s.c.S)) else if k=m then C (.s (Q s.c.S)) else g.ow k)=g.ow k:=λk y=>θ;refine⟨⟨g.tb,g.sb++[m],λk=>if k=q then C (.o (Q s.c.S)) else if k=m then C (.s (Q s.c.S)) else g.ow k⟩,?_,⟨v.mono λ_ _ x=>x.elim,λk r y n=>(D k y).symm.trans n,í _,A⟩,?_⟩
 .refine h.gen (d:=0) v (λk _ x=>x.elim) (h.rows v λk _ x=>x.elim) ⟨í _,A,D⟩ h.tl (by simp[h.sl]) (λk r y p=>?_) (λk r _ x=>x.elim) (h.ok.kr F) θ (λi a5 M=>.inl ⟨M,λk _ x=>x.elim⟩) λi q' o=>?_
  .simp only at p;split at p
   .grind
   .split at p
    .grind
    .have:=(h.low k r p).2;omega
  .simp only at o;obtain B|B:=Nat.lt_or_ge i (Q s.c.S)
   .grind
   .rw[Ï B]at o;obtain n|n:=Nat.eq_zero_or_pos<|i-Q s.c.S
    .have L:i=Q s.c.S:=W;subst L;rw[n]at o;simp at o;subst o;refine .inr λa3 m' _ _ _=>⟨m,q,by simp[h.sl],?_,?_,yY K,(show gH 3 b q 0 _ from ?_).more<|wQ _⟩
     .grind
     .rw[H,N8 A λj n=>by rw[h.sl];exact F j n]
     .have n:oD (λ_=>none) g.tb=λ_=>none:=by
       funext l;cases l<;>try rfl
       rename_i k x;cases k<;>rfl
      grind
    grind
 .simp[pad,lQ,h.sl]
def Je(h:Rm d w a f e G N s g z){u:Option Nat}(o:iL s.c u):μ η 31 #[υ<|pad g.sb u] w (RP d a f e G N z w g s (λj i c _ v=>j<Q i.c.S/\v=υ (pad c.sb<|C j))<|fM u s):=by
 have n:I No w (σ (σ w<|.map #[] 0)<|γ #[.map<|C (V w.heap),υ<|pad g.sb u] 132):=B6 (I.alloc _ _ _)<|I.alloc _ _ _;have q:=(gH.new 3 w 0).P (w':=σ (σ w<|.map #[] 0)<|γ #[.map<|C (V w.heap),υ<|pad g.sb u] 132) (Below.heap_alloc _ _ _ ι);obtain⟨c,l,m,r⟩:=h.kr o n (vQ _) W W q (iT w _ _).2.1;have k:Hid (RP d a f e G N z w g s (λj i c _ v=>j<Q i.c.S/\v=υ (pad c.sb<|C j)) (fM u s) (π<|pV<|V w.heap+1)<|σ (σ w<|.map #[] 0)<|γ #[.map<|C (V w.heap),υ<|pad g.sb u] 132):=
  ⟨c,_,K,m,l,CF u,ι,θ⟩;generalize pad g.sb u=p at*;have t:=@run_makeMap η;go_in;go_wp2;go_ret;exact k.u
def Rm.scope(h:Rm d w a f e G N s g z){j}{q}(t:s.c.S[j]?=C q):∃c r,pad g.sb (C j)=C (J c 0)/\c<V w.heap/\g.ow c=C (.s j)/\g.ow r=C (.o j)/\r<V w.heap/\δ w (J c 0)=C (.map<|C r)/\δ w (J c 1)=C (υ<|pad g.sb q.up)/\
 ∃m,m+Q s.ln+Q s.ev+4000*s.fu=z/\gH 3 w r m (oD q.o g.tb):=by
 obtain⟨m,p,_,o⟩:=h.mem;obtain⟨c,r,u,l,i,k,n⟩:=o j q t;exact⟨c,r,by grind[pad,lQ],(aG i),l,k,(h.low _ _ k).2,cr i K,cr i K,m,p,n⟩
def ZV{q:Sc}{x}(i:0<=x/\x<=1000000){r m}(h:gH 3 w r m<|oD q.o g.tb)(c):
 (þ 130 (.map<|C r) (U x) c).run η w=.ok (if c then .tuple #[((q.o x).map<|bT g.tb).getD<|.agg #[U 0,.int Φ 0,ζ ⟨#[]⟩,υ none],.bool (q.o x).isSome] else ((q.o x).map<|bT g.tb).getD<|.agg #[U 0,.int Φ 0,ζ ⟨#[]⟩,υ none]) w:=by
 have j:(zeroValue 135).run η w=.ok (.agg #[U 0,.int Φ 0,ζ ⟨#[]⟩,υ none]) w:=Ψ;have:=h.look yV underlying130 j (zH x i) c;simpa[oD]using this
def zT(g:Gh):χ->Nat
 |υ (C c)=>g.sb.idxOf c.block
 |_=>0
def Rm.qt(h:Rm d w a f e G N s g z){j}(o:j<Q s.c.S):zT g (υ<|pad g.sb<|C j)=j:=by
 obtain⟨m,_,_,k⟩:=h.mem;obtain⟨c,r,i,u,_⟩:=k j _<|gQ o;have l:pad g.sb (C j)=C (J c 0):=by simp[pad,lQ,i]
 rw[l];show g.sb.idxOf c=j;have q:=List.mem_of_getElem? i;have p:=List.idxOf_lt_length_iff.2 q;have n:g.sb.idxOf c<Q s.c.S:=by rw[<-h.sl];exact p
 obtain⟨t,y,v,x,_⟩:=k _ _<|gQ n;grind
def A4d{S}{x}{k i j}(h:W9 S x k (C i)=C j):∃q,S[i]?=C q/\(((q.o x).isSome=τ/\i=j)\/((q.o x).isSome=κ/\∃c m,q.up=C c/\W9 S x m (C c)=C j)):=by
 cases k with
 |zero=>grind[W9]
 |succ k=>
  rw[W9]at h;cases l:S[i]? with
  |none=>grind
  |some q=>
   rw[l]at h;simp only at h;refine⟨q,K,?_⟩;split at h
   .grind
   .rename_i n;refine .inr ⟨θ,?_⟩;cases o:q.up with
    |none=>grind[W9]
    |some c=>grind
def Jy(h:Rm d w a f e G N s g z){x}(hx:0<=x/\x<=1000000){k r j}(S:W9 s.c.S x k (C r)=C j):μ η 106 #[υ<|pad g.sb<|C r,U x] w λL b=>L=π (υ<|pad g.sb<|C j)/\I No w b:=by
 have H:=O h;have B:=O S;go_in;go_wp2;go_loopw [0] (λv wr=>∃i A,v=υ (pad g.sb<|C i)/\Hid (W9 s.c.S x A (C i)=C j)/\Hid (I No w wr)) (λv _=>zT g v);case atStart=>exact⟨r,k,K,B,I.refl _ _⟩
 case round=>
  obtain⟨i,A,rfl,F,CR⟩:=hrel;obtain⟨q,n,Z⟩:=A4d F.u;have a2:=(À.1 n).1;have t:=H.u.y CR.u;obtain⟨a5,a8,m,e2,-,-,e4,e5,M,a7,-,P⟩:=t.scope n;have c:=ZV hx P τ;have u:=O<|t.qt a2;rw[m]at u;have a3:=(H.u.ok.S i q n).2;rw[m];obtain⟨l,rfl⟩|⟨l,p,a4,y,T⟩:=Z
  .rw[l]at c;obtain⟨v,o⟩:=Option.isSome_iff_exists.1 l;rw[o]at c;simp only[Option.map_some,Ø,if_true,bT]at c;go_wp2;go_ret;exact⟨by rw[m];rfl,B6 CR.u<|I.alloc _ _ _⟩
  .have o:q.o x=none:=by simpa using l
   rw[o]at c;simp at c;have a6:=a3 p y;rw[y]at M;have R:p<Q s.c.S:=W;have D:=O<|(H.u.y CR.u).qt R;go_wp2;exact⟨⟨p,a4,K,T,B6 CR.u<|I.alloc _ _ _⟩,by rw[D.u,u.u];omega⟩
theorem Sv{x}{c}{j}(h:W9 s.c.S x (Q s.c.S) c=C j):iQ x c s=.ok j s:=by
 simp_all[iQ,bR]
def YN{x}{c}(h:iQ x c s≠.stk):∃i j,c=C i/\W9 s.c.S x (Q s.c.S) c=C j/\iQ x c s=.ok j s:=by
 cases k:W9 s.c.S x (Q s.c.S) c with
 |none=>simp_all[absurd,iQ,bR]
 |some j=>
  cases c with
  |none=>grind[W9]
  |some i=>grind[Sv]
def NH{S}{x}:∀{k i j},W9 S x k (C i)=C j->∃q v,S[j]?=C q/\q.o x=C v
 |0,i,j,h=>by grind[W9]
 |k+1,i,j,h=>by
  rw[W9]at h;cases c:S[i]? with
  |none=>grind
  |some q=>
   rw[c]at h;simp only at h;split at h
   .grind[Option.isSome_iff_exists]
   .cases l:q.up with
    |none=>grind[W9]
    |some m=>rw[l]at h;exact NH h
def Zc(h:Rm d w a f e G N s g z){x}(y:0<=x/\x<=1000000){A j}(u:W9 s.c.S x (Q s.c.S) (C A)=C j):μ η 148 #[υ<|pad g.sb<|C A,U x] w (uT g.tb s w<|jA j x s):=by
 obtain⟨q,v,k,l⟩:=NH u;have P:jA j x s=.ok v s:=by simp only[jA,bR,k,Option.bind_some,l]
 rw[P];have R:=rY w<|γ #[U 0,.int Φ 0,ζ ⟨#[]⟩,υ none] 135;have B:=O λb=>eU (w':=b) R;have t:=I.alloc No w<|γ #[U 0,.int Φ 0,ζ ⟨#[]⟩,υ none] 135;have D:=O<|Jy (h.y t) y u;have n:=O t;have T:=(h.ok.S j q k).1 x v l;have F:Hid (∀b,I No w b->∃c r,pad g.sb (C j)=C (J c 0)/\c<V b.heap/\δ b (J c 0)=C (.map<|C r)/\(þ 130 (.map<|C r) (U x) κ).run η b=.ok (bT g.tb v) b):=λb S=>by
  obtain⟨c,r,i,o,-,-,p,L,e6,a3,-,M⟩:=(h.y S).scope k;have:=ZV y M κ;rw[l]at this;exact⟨c,r,i,o,L,by simpa using this⟩
 go_in;go_wp2_with fail;refine D.u.mono ?_;rintro a2 Z ⟨rfl,m⟩;obtain⟨c,r,i,o,e3,p⟩:=F.u Z<|B6 n.u m;rw[i];obtain⟨y0,y1,y2,y3,fz,lt⟩:=B.u _ m;have H:=O m;simp only[bT]at p;go_wp2;exact ä (by simp[â,results148,go_sem,y0,y1,y2,y3];rfl) K ⟨mJ (B6 n.u H.u) W,K,T,K⟩
def pS(s:Ms)(j:Nat)(x:Int)(v:Vl):Ms:={s with c:={s.c with S:=s.c.S.modify j λq=>⟨λy=>if y=x then C v else q.o y,q.up⟩}}
def Yr(h)(c)(x)(v):oD (λy=>if y=x then C v else h y) c (.int ω x)=C (bT c v)/\∀u,u≠.int ω x->oD (λy=>if y=x then C v else h y) c u=oD h c u:=by
 refine⟨by simp[oD],λu i=>?_⟩;cases u<;>try rfl
 rename_i k y;cases k<;>try rfl
 grind[oD]
def Rm.ke(h:Rm d w a f e G N s g z){j}{q}(y:s.c.S[j]?=C q){x}(hx:0<=x/\x<=1000000){v}(hv:aZ s.c v)(hz:z<=1000000000):
 ∃c r,pad g.sb (C j)=C (J c 0)/\c<V w.heap/\δ w (J c 0)=C (.map<|C r)/\∃b,(Á 130 (.map<|C r) (.int ω x)<|bT g.tb v).run η w=.ok () b/\
  Rm d b a f e G N (pS s j x v) g (z+1)/\aJ d a w g b g:=by
 obtain⟨c,r,t,B,e3,D,e5,u,e7,ab,e8,F⟩:=h.scope y;obtain⟨h1,h2⟩:=Yr q.o g.tb x v;obtain⟨b,a4,M,n⟩:=F.put yV underlying130 (zH x hx) (show WideAt.IsKeyLit (.int ω x) from trivial) W (bT g.tb v) _ h1 h2;obtain⟨es,cl,a9⟩:=F.isMap;obtain⟨a6,a5,aa⟩:=M.isMap;refine⟨c,r,t,B,u,b,a4,?_,⟨n.mono λk _ x=>.inr<|.inl ⟨.o j,(show k=r from x) ▸ D,λ_ l=>θ⟩,λ_ _ _ l=>l,í _,í _⟩⟩;refine h.gen (d:=1) n (λk _ x=>?_) (h.rows n λk _ x=>?_) ⟨í _,í _,λ_ _=>K⟩ h.tl (by simp[pS,h.sl]) (λk r hk P=>?_) (λk p P x=>?_) (h.ok.ke j x hv) (by grind[pS]) (λi ac ht=>.inl ⟨ht,λk hk x=>?_⟩) λi q' o=>?_
 .have A:=x;subst A;refine⟨(h.low k _ D).1,λl=>?_⟩;have:=h.j5.2.2;grind
 .have A:=x;subst A;refine⟨λl=>?_,λcs l fz ad=>?_⟩
  .have:=h.j5.2.1;grind
  grind
 .have:=(h.low k r P).2;omega
 .grind
 .grind
 .simp only[pS]at o;rw[List.getElem?_modify]at o;by_cases a3:j=i
  .subst a3;simp only[if_true,y,Option.map_eq_map,Option.map_some,zQ]at o;subst o;refine .inr λm0 m' a8 hd hS=>?_;obtain⟨m,p,H,T,L,Z,a7⟩:=hS j q y;have R:m=c:=by
    simp only[pad,Option.map_some,lQ,H,Ø,zQ,Addr.mk.injEq,and_true]at t;exact t
   subst R;have S:p=r:=by
    rw[á _ _ 0 _ _ _ L]at u;simpa using u
   subst S;have a2:m≠p:=λl=>θ;refine⟨m,p,H,T,(n.block m B a2).trans L,Z,M.more W⟩
  grind
def Zd(h:Rm d w a f e G N s g z){x}(t:0<=x/\x<=1000000){l j}(r:W9 s.c.S x (Q s.c.S) (C l)=C j){v}(M:aZ s.c v)(P:z<=1000000000):μ η 62 #[υ<|pad g.sb<|C l,.int ω x,bT g.tb v] w λm b=>m=rT/\Rm d b a f e G N (pS s j x v) g (z+1)/\aJ d a w g b g:=by
 obtain⟨a3,v',L,-⟩:=NH r;have F:=rY w<|γ #[.int ω v.g,.int Φ v.n,ζ ⟨ν v.t⟩,υ<|pad g.tb v.h] 135;have A:=O λb=>eU (w':=b) F;have H:=I.alloc No w<|γ #[.int ω v.g,.int Φ v.n,ζ ⟨ν v.t⟩,υ<|pad g.tb v.h] 135;have B:Hid (∀b,I No w b->_):=λb k=>Jy (h.y k) t r;have D:Hid (∀b,I No w b->_):=λb k=>(h.y k).ke L t M P;have i:Hid (∀n,I No w _):=λn=>B6 H<|I.drewN No _ n;unfold bT at*;generalize pad g.sb (C l)=a2 at*;go_in;go_wp2;go_region_with (go_at_call 106;refine(B.u _<|i.u 1).mono ?_;rintro m R ⟨rfl,c⟩;obtain⟨S,a4,o,T,Z,a5,e4,p,q⟩:=D.u R<|B6 (i.u 1) c;rw[o];obtain⟨y0,y1,y2,y3,fz,lt⟩:=A.u _<|B6 (I.drewN No _ 1) c;have u:=O p;have y:=O<|(aJ.y<|B6 (i.u 1) c).trans q;clear c o p q);all_goals go_end0
 all_goals exact⟨K,u.u,y.u⟩
def Rm.mc(h:Rm d w a f e G N s g z):(∀o,w.frozen? (J a o)=κ)/\a<V w.heap/\δ w (J a 0)=C (pV f)/\δ w (J a 1)=C (.map<|C e)/\δ w (J a 2)=C (.int ω s.fu)/\δ w (J a 3)=C (.int ω s.c.ca)/\δ w (J a 4)=C (.int ω s.c.th):=by
 obtain⟨j,i,c,_⟩:=h.blk;exact⟨λo=>ã _ _ o _ _ c,(aG c),cr c K,cr c K,cr c K,cr c K,cr c K⟩
def Rm.nr(h:Rm d w a f e G N s g z){s'}{z'}(o)(v)(F:s'.c.T=s.c.T)(D:s'.c.S=s.c.S)(M:s'.ln=s.ln)(H:s'.ev=s.ev)(R:iE N s'.c)
 (Z:∀p j,(#[pV f,.map<|C e,.int ω (s.fu:Int),.int ω (s.c.ca:Int),.int ω (s.c.th:Int),p,j]).setIfInBounds o v=#[pV f,.map<|C e,.int ω s'.fu,.int ω s'.c.ca,.int ω s'.c.th,p,j])
 (hz:4000*s'.fu+z<=z'+4000*s.fu):Rm d (ρ w (J a o) v) a f e G N s' g z'/\aJ d a w g (ρ w (J a o) v) g:=by
 have l:=I.set w (J a o) v;obtain⟨p,j,B,t,u⟩:=h.blk;refine⟨?_,⟨l.mono λk _ x=>.inl x,λ_ _ _ c=>c,í _,í _⟩⟩;have P:∀k r,g.ow k=C r->¬k=a:=λk r n c=>by
  have:=h.j5.2.1;grind
 refine h.gen (d:=0) l (λk _ x=>?_) ⟨p,j,?_,?_,?_⟩ ⟨í _,í _,λ_ _=>K⟩ (by rw[F];exact h.tl) (by rw[D];exact h.sl) (λk r y n=>?_) (λk r n x=>(P k r n x).elim) R θ (λi a2 T=>.inl ⟨θ,λk y x=>?_⟩) λi q m=>.inl ⟨θ,λk y x=>?_⟩
 .have S:=x;subst S;refine⟨h.j5.1,λc=>h.gs.et<|c ▸ B⟩
 .grind[ê]
 .rw[M];refine A3 t l λq m x=>?_;obtain⟨_,A,L⟩:=A9 t q m;grind
 .rw[H];refine A3 u l λq m x=>?_;obtain⟨_,A,L⟩:=A9 u q m;grind
 .have:=(h.low k r n).2;omega
 .grind
 grind
def Bf(h:Rm d w a f e G N s g z)(D:z<=1000000000):μ η 32 #[pV a] w λj b=>aJ d a w g b g/\match aU s with
 |.ok _ c=>j=rT/\Rm d b a f e G N c g (z-4000)/\c.c=s.c
 |.over x i c=>j=ov x i []/\Rm d b a f e G N c g z/\c=s
 |_=>False:=by
 obtain⟨v,F,m0,m1,m2,m3,m4⟩:=h.mc;have r:=h.mem;unfold aU;by_cases k:s.fu=0
 .rw[yY k];have q:=O<|yG 4 (-1) w;have p:=O<|aJ.y (wB:=d) (mb:=a) (g:=g)<|I.refl No w;have o:=O h;rw[k]at m2;go_in;go_wp2_with fail;refine q.u.mono ?_;rintro j L ⟨rfl,rfl⟩;exact⟨K,p.u,K,o.u,trivial⟩
 .rw[wY k];obtain⟨n,t⟩:∃n,s.fu=n+1:=⟨s.fu-1,W⟩;obtain⟨m,A,_⟩:=r;have B:n<=1000000:=W;have y:((n:Int)+1==0)=κ:=à;have l:=O (h.nr (s':={s with fu:=s.fu-1}) (z':=z-4000) 2 (.int ω n) K K K K h.ok (λH u=>θ) θ);rw[t]at m2;push_cast at m2;go_in;go_wp2;go_end0;exact⟨l.u.2,K,l.u.1,trivial⟩
def NQ(c)(n k):Gr c {c with th:=n,ca:=k}:=⟨λ_ t h=>⟨t,h,K⟩,vQ _⟩
def cS(s:Ms)(ca th:Nat):Ms:={s with c:={s.c with ca:=ca,th:=th}}
def RB(h:iE N s.c){i c}(j:i<=40)(k:s.c.th<=c/\c<=2000):iE N (cS s i c).c:=
 h.of (NQ s.c c i) k j (λ_ _ m=>.inl m) λ_ _ l=>.inl l
def IQ(h:Rm d w a f e G N s g z)(i):μ η 110 #[pV a,.int ω i] w λk b=>aJ d a w g b g/\
 (s.c.th=2000/\bX i s=.over 6 i s/\k=ov 6 i []/\Rm d b a f e G N s g z\/s.c.th<2000/\bX i s=.ok () (cS s s.c.ca<|s.c.th+1)/\k=rT/\Rm d b a f e G N (cS s s.c.ca<|s.c.th+1) g z):=by
 obtain⟨r,v,m0,m1,m2,m3,m4⟩:=h.mc;have u:=h.ok.th;by_cases c:s.c.th=2000
 .have p:=O<|yG 6 i w;have o:=O<|aJ.y (wB:=d) (mb:=a) (g:=g)<|I.refl No w;have n:=O h;have l:Hid (bX i s=.over 6 i s):=by simp only[bX,bR,yY c];rfl
  have j:=O c;rw[c]at m4;go_in;go_wp2_with fail;refine p.u.mono ?_;rintro k y ⟨rfl,rfl⟩;exact⟨K,o.u,.inl ⟨j.u,l.u,K,n.u⟩⟩
 .have m:=O (h.nr (s':=cS s s.c.ca<|s.c.th+1) (z':=z) 4 (.int ω<|s.c.th+1) K K K K (RB h.ok h.ok.ca W) (λx q=>Θ)<|by grind[cS]);have l:Hid (bX i s=.ok () (cS s s.c.ca<|s.c.th+1)):=by simp only[bX,bR,wY c];rfl
  have j:Hid (s.c.th<2000):=by show _<_;omega
  have t:((s.c.th:Int)==2000)=κ:=à;go_in;go_wp2;go_end0;exact⟨m.u.2,.inr ⟨j.u,l.u,K,m.u.1⟩⟩
end
def Tryz.qg:(prog.info? 50).map (λi=>(i.zero,i.size,i.bytes))=C (C<|.agg #[U 0,U 0],2,16):=Ψ
section
variable{b w c:E}{a e d z:Nat}{G:Int->Option Int}{N:List Nd}{s:Ms}{g:Gh}
def Rm.om{S}{j}{D}(h:Rm b w a e d G N s g z)(A:I S w c)(p:∀k,k<V w.heap->S k->k=a\/(V b.heap<=k/\∃n f o,w.heap[k]?=C (γ n f o)/\(f=9\/f=50)))(u:j.c=s.c)(M:j.fu=s.fu)
 (L:∃B v,c.heap[a]?=C (γ #[pV e,.map<|C d,U s.fu,U s.c.ca,U s.c.th,B,v] 48 (0,0))/\
  ξ c (V b.heap) 9 1 B (Q j.ln) (strs j.ln)/\ξ c (V b.heap) 50 2 v (Q j.ev) (jN j.ev))
 (T:Q j.ln+Q j.ev+z<=D+Q s.ln+Q s.ev):Rm b c a e d G N j g D/\aJ b a w g c g:=by
 have H:∀k r,g.ow k=C r->¬S k:=λk r m x=>by
  obtain f|⟨_,n,f,o,y,z⟩:=p k (h.low k r m).2 x
  .have:=h.j5.2.1;grind
  .have:=h.ty k r m n f o y;grind
 obtain⟨_,_,F,_⟩:=h.blk;refine⟨?_,⟨A.mono λk l x=>(p k l x).imp id .inr,λ_ _ _ f=>f,í _,í _⟩⟩;refine h.gen (d:=0) A (λk l x=>?_) θ ⟨í _,í _,λ_ _=>K⟩ (by rw[u];exact h.tl) (by rw[u];exact h.sl) (λk r l m=>?_) (λk r m x=>(H k r m x).elim) (by rw[u];exact h.ok) W (λi t R=>.inl ⟨θ,λk l x=>?_⟩) λi q P=>.inl ⟨θ,λk l x=>?_⟩
 .obtain f|⟨f,n,t,o,y,_⟩:=p k l x
  .subst f;exact⟨h.j5.1,λf=>h.gs.et<|f ▸ F⟩
  .exact⟨f,λf=>h.gs.et<|f ▸ y⟩
 .have:=(h.low k r m).2;omega
 .grind
 grind
def Rm.uc(h:Rm b w a e d G N s g z){l}{m}(o:δ w (J a 6)=C (Y l (Q s.ev) m)){f}(p:I (λk=>Δ (Y l (Q s.ev) m)=C k) w f)(i x){j}(P:ξ f (V b.heap) 50 2 j (Q s.ev+1)<|jN s.ev++[U i,U x]):
 Rm b (ρ f (J a 6) j) a e d G N {s with ev:=s.ev++[(i,x)]} g (z+1)/\aJ b a w g (ρ f (J a 6) j) g:=by
 obtain⟨D,ev,n,u,v⟩:=h.blk;have t:ev=Y l (Q s.ev) m:=by
  rw[á _ _ 6 _ _ _ n]at o;simpa using o
 subst t;have A:=(aG n);have M:=A9 v;have B:¬Δ (Y l (Q s.ev) m)=C a:=λF=>θ;have r:I (λk=>k=a\/Δ (Y l (Q s.ev) m)=C k) w (ρ f (J a 6) j):=(p.mono λ_ _ x=>.inr x).trans (I.set f (J a 6) j) λk _ x=>.inl x;have y:=(p.block a A B).trans n;refine h.om r (λk H x=>x.imp id λx=>?_) K K ⟨D,j,?_,?_,?_⟩ θ
 .grind
 .rw[ê f a 6 _ _ _ y];rfl
 .refine A3 u r λq L x=>?_;grind[A9]
 grind[A3,I.set,A9,zQ,xW,absurd,jN]
def aJ.je{f}{l}(h:aJ b a w g f l){q}(v:V w.heap<=q)(m n p r):aJ b a w g (ρ (ρ (ρ (ρ f (J q 0) m) (J q 1) n) (J q 2) p) (J q 3) r) l:=by
 have k:∀{j:E} o (x:χ),I (DR b a w g) w j->I (DR b a w g) w (ρ j (J q o) x):=λo x t=>t.trans (I.set _ (J q o) x) λi u y=>θ;exact⟨k 3 r<|k 2 p<|k 1 n<|k 0 m h.P,h.ow,h.tb,h.sb⟩
def Rm.je(h:Rm b w a e d G N s g z){q}{m}(r:w.heap[q]?=C (γ m 135 (0,0)))(p:g.ow q=none)(n:V b.heap<=q)(o:q≠a)(f i j l):Rm b (ρ (ρ (ρ (ρ w (J q 0) f) (J q 1) i) (J q 2) j) (J q 3) l) a e d G N s g z:=
 h.calm ((((I.set w (J q 0) f).trans (I.set _ (J q 1) i) λ_ _ x=>x).trans (I.set _ (J q 2) j) λ_ _ x=>x).trans (I.set _ (J q 3) l) λ_ _ x=>x) λk _ x=>θ
def Gp(h:Rm b w a e d G N s g z)(hz:z<=1000000000)(i)(hi:0<=i/\i<=1000000)(v):μ η 104 #[pV a,U i,bT g.tb v] w λo c=>aJ b a w g c g/\match dJ G i v s with
 |.ok ak q=>ak=v/\q.c=s.c/\q.fu=s.fu/\o=π (bT g.tb v)/\Rm b c a e d G N q g (z+1)
 |.over x k q=>q=s/\o=ov x k []/\Rm b c a e d G N s g z
 |_=>False:=by
 obtain⟨a4,a5,H⟩:=iT w (γ #[U v.g,.int Φ v.n,ζ ⟨ν v.t⟩,υ<|pad g.tb v.h] 135)<|γ #[U 0,.int Φ 0,ζ ⟨#[]⟩,υ none] 135;have CA:=O H;have a9:=O λc=>eU (w':=c) a4;have aa:=O λc=>eU (w':=c) a5;have f:=h.y H;obtain⟨fz,lt,m0,m1,m2,m3,m4⟩:=f.mc;have u:=f.gs.look i hi;have D:=O<|aJ.y (wB:=b) (mb:=a) (g:=g) H;have R:=O a4;have S:=O a5;have ab:Hid (g.ow (V w.heap)=none/\g.ow (V w.heap+1)=none/\a<V w.heap/\V b.heap<=V w.heap):=⟨h.new<|vQ _,h.new W,h.mc.2.1,h.P.size⟩;unfold dJ;cases p:G i with
 |none=>
  rw[p]at u;have T:Hid (∀x y,I No w<|(w.alloc x).alloc y):=λx y=>(iT w x y).2.2;have H0:Hid (∀c,I No w c->Rm b c a e d G N s g (z+1)):=λc M=>(h.y M).more W;simp only[Option.getD_none,Option.isSome_none]at u;clear h f p;unfold bT;go_in;go_wp2;exact ä (by simp[â,results104,go_sem]) K ⟨aJ.y<|T.u _ _,trivial,trivial,trivial,K,H0.u _<|T.u _ _⟩
 |some t=>
  rw[p]at u;simp only[Ø,Option.isSome_some]at u;by_cases L:bits .and ω v.g t=0
  .have HS:=O<|yG 2 i;have H':=O f;simp only[yY L];clear h f p;unfold bT;go_in;go_wp2_with fail;refine(HS.u _).mono ?_;rintro o aw ⟨rfl,rfl⟩;exact⟨K,D.u,trivial,K,H'.u⟩
  .have am:(bits .and ω v.g t==0)=κ:=by simpa using L
   simp only[wY L];obtain⟨i0,ae,ah,ai,aj⟩:=info_parts Tryz.qg;obtain⟨ap,ev,b1,b2,n⟩:=f.blk;obtain⟨l,m,rfl⟩:=B8 n;have c6:δ _ (J a 6)=C (Y l (Q s.ev) m):=(á _ _ 6 _ _ _ b1).trans K;have an:Q s.ev<=1000000000:=by obtain⟨aq,hm,_⟩:=f.mem;omega
   have a7:Δ (Y l (Q s.ev) m)≠C a:=λo=>by
    obtain⟨_,al,y⟩:=A9 n a o;grind
   have ag:=f.P.size;simp only[Ã]at ag lt;have P:=B6 (I.alloc No (σ (σ w<|γ #[U v.g,.int Φ v.n,ζ ⟨ν v.t⟩,υ<|pad g.tb v.h] 135)<|γ #[U 0,.int Φ 0,ζ ⟨#[]⟩,υ none] 135)<|γ #[U i,U v.g] 50)<|I.drewN No _ 1;have HY:=O<|A3 n P λ_ _ x=>x;have B:=O P;have ao:=VS n;have Z:Hid (∀j v',I (λk=>Δ (Y l (Q s.ev) m)=C k) _ j->ξ j (V b.heap) 50 2 v' (Q s.ev+1) (jN s.ev++[U i,U v.g])->_):=λj v' M hv=>f.uc c6 M i v.g hv;clear h f p b1 b2 n P;unfold bT;go_in;go_wp2_with fail;go_region_law (
    refine step_append_lies _ Θ _ _ _ Θ (V b.heap) 50 i0 (.agg #[U 0,U 0]) 2 16 underlying24 ae ah ai aj K W (Y l (Q s.ev) m) (Q s.ev) (jN s.ev) Θ HY.u (J (V w.heap+1+1) 0) 1 1 [U i,U v.g] Θ Θ (Æ (cs:=#[U i,U v.g]) (t:=50) (fr:=(0,0)) (EZ w _ _ _).2.2.1) (by simp[Value.oneCell']) W Ä W à (V w.heap+1+1+1) ι ?_;intro gg ac j a8 r ad af;have z4:δ j (J a 6)=C (Y l (Q s.ev) m):=by rw[r.cell_far _ à<|Ne.symm a7];exact A4 B.u c6
    have y4:j.frozen? (J a 6)=κ:=by rw[r.frozen_far _ à<|Ne.symm a7];exact U4 ð<|fz 6);all_goals
    have a6:I (λk=>Δ (Y l (Q s.ev) m)=C k) _ j:=(B.u.mono λ_ _ x=>x.elim).trans (I.grown r) λk hk x=>x.symm;obtain⟨a3,A⟩:=Z.u _ _ a6 a8;obtain⟨n1,n2,n3,n4⟩:=ab.u;obtain⟨a1,-⟩:=A.eu R.u n1 W ε ε;obtain⟨F,-⟩:=A.eu S.u n2 W ε ε;obtain⟨ar,au,av,p3,-,pl⟩:=eU a1<|I.refl No _;obtain⟨q0,q1,q2,q3,qz,ql⟩:=eU F<|I.refl No _;have HR:=O (a3.je F n2 W W);have HK:=O<|D.u.trans A;clear B a6 a8 r ad af Z a3 A a1 F HY z4 y4 R S D CA a9 aa;generalize ρ j (J a 6) (Y (C<|J gg 0) (Q s.ev+1) ac)=ax at*;go_wp2;exact ä (by simp[â,results104,go_sem,q0,q1,q2,q3]) K ⟨HK.u.je W _ _ _ _,trivial,trivial,trivial,K,HR.u _ _ _ _⟩
end
structure fJ(wB:E)(c:Cx)(pb qb:Nat)(nv:χ):Prop where
 ok:jG c
 ey:cU wB nv c.N
 names:cQ wB qb 5000<|lS c
 blk:∃yv mn lb fv ov,wB.heap[pb]?=C (γ (rM c nv yv mn lb qb fv ov) 66 (0,0))
 uh:Tbl wB
 pg:∀i:Nat,∀h:i<Q c.N,c.N[i].x=26->∀x∈c.N[i].M,0<=x/\x<Q c.N/\17<=(aA c.N x).x/\(aA c.N x).x<=25
def aR(c:Cx)(i:Int):Int:=(lS c i).getD 0
def Kv(a:List Vl)(c:Ms)(b:Gh)(_:E)(v:χ):Prop:=∃u,a=[u]/\aZ c.c u/\v=bT b.tb u
def Kn(_:List Vl)(_:Ms)(_:Gh)(_:E)(v:χ):Prop:=v=.tuple #[]
def CR(f:E)(b e d:Nat)(G:Int->Option Int)(c:Cx)(F:Nat)(h:List Vl->Ms->Gh->E->χ->Prop)(P:Int->Prop)(m:Int->Option Nat->X (List Vl)):Prop:=
 ∀(w) (s) (g) (z) (a) (i),Rm f w b e d G c.N s g z->z<=1000000000->iL s.c a->P i->m i a s≠.stk->
  μ η F #[pV b,U i,υ<|pad g.sb a] w (RP f b e d G c.N z w g s h<|m i a s)
def oM(c:Cx)(i:Int):Prop:=0<=i/\i<Q c.N/\aP (aA c.N i).x
def CE(f:E)(b e d:Nat)(G:Int->Option Int)(c:Cx)(P:Int->Prop)(m:Int->Option Nat->X (List Vl)):Prop:=
 ∀(w) (s) (g) (z) (a) (i),Rm f w b e d G c.N s g z->z+4000<=1000000000->iL s.c a->P i->m i a s≠.stk->
  μ η 105 #[pV b,U i,υ<|pad g.sb a] w (RP f b e d G c.N (z+3000) w g s Kv<|m i a s)
def CT(e:E)(a d b:Nat)(G:Int->Option Int)(c:Cx)(F:Nat)(P:Int->Prop)(m:Int->Option Nat->X (List Vl)):Prop:=
 ∀(w) (s) (g) (z) (j) (i),Rm e w a d b G c.N s g z->z<=1000000000->j<Q s.c.S->P i->m i (C j) s≠.stk->
  μ η F #[pV a,U i,υ<|pad g.sb<|C j] w (RP e a d b G c.N (z+1) w g s Kn<|m i (C j) s)
def LL(c:Cx)(i:Int):Prop:=0<=i/\i<Q c.N/\17<=(aA c.N i).x/\(aA c.N i).x<=25
def iB(c:Cx)(k i:Int):Prop:=0<=i/\i<Q c.N/\(aA c.N i).x=k
section
variable{c w d:E}{a f e z:Nat}{G:Int->Option Int}{N:List Nd}{s:Ms}{g:Gh}
def RP.pre{H}{q}{r:Rr H}{t}{F}{y}{D}(o:aJ c a w g F y)(A:Gr s.c D.c)(h:RP c a f e G N z F y D q r t d):RP c a f e G N z w g s q r t d:=by
 cases r with
 |stk=>exact h
 |ok L B=>
  obtain⟨b,v,j,k,l,m,n⟩:=h;exact⟨b,v,j,o.trans k,l,A.trans m,n⟩
 |over x i B=>
  obtain⟨b,p,j,k,l⟩:=h;exact⟨b,p,j,o.trans k,l⟩
 |back u B=>
  obtain⟨b,p,j,k,l,m,n⟩:=h;exact⟨b,p,j,o.trans k,l,A.trans m,n⟩
def RP.more{A}{p}{r:Rr A}{q}{y}(n:z<=y)(h:RP c a f e G N z w g s p r q d):RP c a f e G N y w g s p r q d:=by
 cases r with
 |stk=>exact h
 |ok B t=>
  obtain⟨b,v,j,k,l,m⟩:=h;exact⟨b,v,j,k,l.more n,m⟩
 |over x i t=>
  obtain⟨b,o,j,k,l⟩:=h;exact⟨b,o,j,k,l.more n⟩
 |back u t=>
  obtain⟨b,o,j,k,l,m⟩:=h;exact⟨b,o,j,k,l.more n,m⟩
def RP.fail{r v}{y}{K'}{m:X r}{k:r->X v}{l}(h:RP c a f e G N z w g s y (m s) l d)(D:∀t j,m s≠.ok t j):(∃b,l=ø b)/\RP c a f e G N z w g s K' ((m.bd k) s) l d:=by
 unfold X.bd;cases q:m s with
 |stk=>rw[q]at h;exact h.elim
 |ok t j=>grind
 |over x i j=>
  rw[q]at h;obtain⟨n,b,rfl,o,p⟩:=h;exact⟨⟨_,K⟩,n,b,K,o,p⟩
 |back u j=>
  rw[q]at h;obtain⟨n,b,rfl,o,p,A,B⟩:=h;exact⟨⟨_,K⟩,n,b,K,o,p,A,B⟩
def RP.cut{p y}{q}{K'}{m:X p}(k:p->X y){l}(h:RP c a f e G N z w g s q (m s) l d):
 (∃o,l=ø o/\RP c a f e G N z w g s K' ((m.bd k) s) (ø o) d)\/∃j b n v,l=π v/\(m.bd k) s=k j b/\m s=.ok j b/\aJ c a w g d n/\Rm c d a f e G N b n z/\Gr s.c b.c/\q j b n d v:=by
 cases t:m s with
 |stk=>rw[t]at h;exact h.elim
 |ok j b=>
  rw[t]at h;obtain⟨n,v,A,r,B,D,F⟩:=h;grind[J0]
 |over x i b=>
  obtain⟨⟨o,rfl⟩,r⟩:=RP.fail (K':=K') (k:=k) h λj b l=>θ;grind
 |back u b=>
  obtain⟨⟨o,rfl⟩,r⟩:=RP.fail (K':=K') (k:=k) h λj b l=>θ;grind
def WJ{i}{s b}(h:aU s=.ok i b):s.fu≠0/\b={s with fu:=s.fu-1}:=by
 grind[aU]
def DY{b i}(h:i=b):Gr b i:=h ▸ Gr.refl _
def Oe{j}{k}(az:jG j)(hE:CE c a f e G j (oM j) λi m=>rn j.N (aR j) G k (.e i) m):
 CR c a f e G j 61 Kv (oM j) λi m=>rn j.N (aR j) G (k+1) (.v i) m:=by
 intro w s g z m i h hz aj A ai;have ay:0<=i/\i<=1000000:=by have:=az.fp;have:=A.1;have:=A.2.1;omega
 have ah:=rY w<|γ #[U 0,.int Φ 0,ζ ⟨#[]⟩,υ none] 135;have F:=I.alloc No w<|γ #[U 0,.int Φ 0,ζ ⟨#[]⟩,υ none] 135;have B:=O (⟨h.new<|vQ _,h.mc.2.1,h.P.size⟩:g.ow (V w.heap)=none/\a<V w.heap/\V c.heap<=V w.heap);have ab:=O<|Bf (h.y F) hz;have av:Hid (s.fu≠0->4000<=z):=λh0=>by obtain⟨b5,hm,_⟩:=h.mem;omega
 have ap:Hid (∀d g',aJ c a _ g d g'->_):=λd g' hf=>hf.eu ah B.u.1 (by have:=B.u.2.1;omega) ε ε;have a6:=O<|aJ.y (wB:=c) (mb:=a) (g:=g) F;have HE:=O hE;have au:=O aj;have HI:=O A;have q:=O ai;show μ _ _ _ _<|RP c a f e G j.N z w g s Kv<|(aU.bd λ_=>(rn j.N (aR j) G k (.e i) m).bd λr=>(dJ G i<|r1 r).bd λv=>aF [v]) s;replace q:Hid ((aU.bd λ_=>(rn j.N (aR j) G k (.e i) m).bd λr=>(dJ G i<|r1 r).bd λv=>aF [v]) s≠.stk):=q;obtain⟨ac,R⟩:∃ac,ac=(aU.bd λ_=>(rn j.N (aR j) G k (.e i) m).bd λr=>(dJ G i<|r1 r).bd λv=>aF [v]) s:=⟨_,K⟩;rw[<-R]at q⊢;have HR:=O R;generalize hp:pad g.sb m=b6 at*;clear h F ah hE ai aj A R;go_in;go_wp2_with fail;refine ab.u.mono ?_;rintro ad b1 ⟨t,n⟩;cases l:aU s with
 |stk=>rw[l]at n;exact n.elim
 |back u p=>rw[l]at n;exact n.elim
 |over b3 b0 p=>
  rw[l]at n;obtain⟨rfl,x,rfl⟩:=n;rw[HR.u,I5 l];exact⟨K,g,[],K,a6.u.trans t,x⟩
 |ok aw p=>
  rw[l]at n;obtain⟨rfl,x,T⟩:=n;have b4:=av.u (WJ l).1;have y:=HR.u;rw[J0 l]at y;have Z:=q.u;rw[y]at Z;have ak:iL p.c m:=by rw[T];exact au.u
  have D:=O (HE.u b1 p g (z-4000) m i x W ak HI.u<|P8 Z);have a7:=O<|a6.u.trans t;have al:=O t;rw[hp]at D;have a9:=O y;have a4:=O T;clear t x l y Z ab ak T;go_wp2_with fail;refine D.u.mono ?_;rintro ad b7 hx;obtain⟨ps,rfl,hh⟩|⟨aw,s2,M,v,rfl,e1,-,H,r2,ae,u,rfl,hu,rfl⟩:=RP.cut (λr=>(dJ G i<|r1 r).bd λv=>aF [v]) hx
  .rw[a9.u];exact⟨K,(hh.pre a7.u<|DY a4.u).more W⟩
  .have HG:=O<|Gp r2 W i ay u;have S:=a9.u;rw[e1]at S;have aa:=O S;have a8:=O<|a7.u.trans H;have am:=O<|al.u.trans H;have HU:=O hu;have ao:=O<|(DY a4.u).trans ae;clear hx e1 S H r2 ae D hu;unfold bT at HG⊢;go_wp2_with fail;refine HG.u.mono ?_;rintro ad b2 ⟨L,o⟩;have af:r1 [u]=u:=K;cases l:dJ G i u s2 with
   |stk=>rw[l]at o;exact o.elim
   |back u p=>rw[l]at o;exact o.elim
   |over b3 b0 s3=>
    rw[l]at o;obtain⟨rfl,rfl,P⟩:=o;rw[aa.u,af,I5 l];exact⟨K,M,[],K,a8.u.trans L,P.more W⟩
   |ok b s3=>
    rw[l]at o;obtain⟨rfl,ax,-,rfl,P⟩:=o;have ag:=aa.u;rw[af,J0 l]at ag;obtain⟨a2,a3⟩:=ap.u b2 M<|am.u.trans L;obtain⟨q0,q1,q2,q3,qz,ql⟩:=eU a2<|I.refl No _;obtain⟨n1,n2,n3⟩:=B.u;have ar:=O ((P.je a2 a3 W W));have an:=O<|a8.u.trans L;have a5:=O ax;have aq:=O ag;go_wp2;refine ä (by simp[â,results61,go_sem,q0,q1,q2,q3];rfl) K ?_;rw[aq.u];exact⟨M,_,K,an.u.je (vQ _) _ _ _ _,(ar.u _ _ _ _).more W,ao.u.trans<|DY a5.u,_,K,by rw[a5.u];exact HU.u,K⟩
end
def Tryz.nt:(prog.info? 135).map (λi=>(i.zero,i.size,i.bytes))=C (C<|.agg #[U 0,.int Φ 0,ζ ⟨#[]⟩,υ none],4,40):=Ψ
def gU(w:E)(g:Gh)(B:Nat)(v:χ)(l:List Vl):Prop:=ξ w B 135 4 v (Q l) (l.flatMap<|gF g.tb)/\∀q,Δ v=C q->g.ow q=none
def Ks(B:Nat)(a:List Vl)(c:Ms)(b:Gh)(d:E)(v:χ):Prop:=(∀u∈a,aZ c.c u)/\gU d b B v a
theorem A2e{N}{b}{G}(k)(i)(l:uZ)(c)(f)(s):
 ((rn N b G (k+1) (.vs<|i::l) c).bd λq=>aF<|f++q) s=((rn N b G k (.v i) c).bd λr=>(rn N b G k (.vs l) c).bd λq=>aF<|(f++[r1 r])++q) s:=by
 rw[rn];unfold X.bd;cases rn N b G k (.v i) c s with
 |ok a d=>
  simp only;cases rn N b G k (.vs l) c d<;>simp_all[rn,aF,bR]
 |over e i d=>rfl
 |back v d=>rfl
 |stk=>rfl
section
variable{a w i:E}{c f d z:Nat}{G:Int->Option Int}{N:List Nd}{s:Ms}{g h:Gh}
def gU.eu{B}{v}{l}(p:gU w g B v l)(m:Rm a w c f d G N s g z)(k:aJ a c w g i h)(D:∀u∈l,aZ s.c u):gU i h B v l:=by
 obtain⟨j,t⟩:=p;obtain⟨_,_,F,_⟩:=m.blk;refine⟨?_,λq b=>?_⟩
 .rw[OX (f:=gF g.tb) (f':=gF h.tb) λu A=>(wR k.tb (D u A) m.tl).2];refine A3 j k.P λq b x=>?_;obtain⟨_,o,n⟩:=A9 j q b;obtain x|⟨r,x,_⟩|⟨_,cs,e,fz,y,y2⟩:=x<;>grind
 .obtain⟨_,o,n⟩:=A9 j q b;exact k.no (aG n)<|t q b
theorem gU.grow{B}{v e}{l}(o:gU w g B v l)(j:Rm a w c f d G N s g z)(D:V a.heap<=B)(r:I (λk=>Δ v=C k) w i){u}(L:ξ i B 135 4 e (Q l+1)<|l.flatMap (gF g.tb)++gF g.tb u)(b:Δ e=Δ v\/∃n,Δ e=C n/\V w.heap<=n):gU i g B e (l++[u])/\Rm a i c f d G N s g z:=by
 obtain⟨p,A⟩:=o;obtain⟨_,_,t,_⟩:=j.blk;refine⟨⟨θ,λq m=>?_⟩,j.calm r λk _ x=>?_⟩
 .obtain b|⟨n,b,hn⟩:=b
  .grind
  .rw[b]at m;cases m;exact j.new hn
 .obtain⟨H,y,F⟩:=A9 p k x;grind
def aJ.fresh{j b}{h}(e:aJ a c w g j h){S}(m:I S j b)(l:∀k,k<V w.heap->¬S k):aJ a c w g b h:=⟨e.P.trans m λo n x=>(l o n x).elim,e.ow,e.tb,e.sb⟩
def XE{b}{p}(hV:∀k,k<p->CR a c f d G b 61 Kv (oM b) λah m=>rn b.N (aR b) G k (.v ah) m)
 (M:Rm a w c f d G b.N s g z) (hz:z<=1000000000) {m} (ag:iL s.c m) {l} {la} {lc} (hl:ξ a 0 3 1 (Y la (Q l) lc) (Q l)<|C8 l) (aw:∀ah∈l,oM b ah) (hn:Q l<=100000) (ae:rn b.N (aR b) G p (.vs l) m s≠.stk):
 μ η 153 #[pV c,Y la (Q l) lc,υ<|pad g.sb m] w (RP a c f d G b.N z w g s (Ks (V w.heap))<|rn b.N (aR b) G p (.vs l) m s):=by
 obtain⟨R,hR⟩:∃R,R=rn b.N (aR b) G p (.vs l) m s:=⟨_,K⟩;have an:R=((rn b.N (aR b) G p (.vs<|l.drop 0) m).bd λq=>aF<|[]++q) s:=by
  rw[hR,List.drop_zero];unfold X.bd;cases rn b.N (aR b) G p (.vs l) m s<;>rfl
 rw[<-hR]at ae⊢;obtain⟨i0,b9,bc,bd,be⟩:=info_parts Tryz.nt;have HH:=O M;have HV:=O hV;have b6:=O ag;have HL:=O hl;have b2:=O aw;have a5:=O ae;have b4:=O an;have bb:=M.P.size;have HP:=O (λ(h:Gh) (hp:g.sb<+:h.sb)=>N8 hp (o:=m) λj e=>by rw[M.sl];exact ag j e);generalize pad g.sb m=br at*;clear M hV ag hl aw ae hR an;go_in;go_wp2_with fail;go_loopw [7,12] (λv7 ai wr=>∃(n k:Nat) (o:List Vl) (t:Ms) (r:Gh),n<=Q l/\ai=U (n:Int)/\Q o=n/\k<=p/\Hid (R=((rn b.N (aR b) G k (.vs<|l.drop n) m).bd λq=>aF<|o++q) t)/\Hid (Rm a wr c f d G b.N t r z)/\Hid (aJ a c w g wr r)/\Hid (Gr s.c t.c)/\Hid (∀u∈o,aZ t.c u)/\Hid (gU wr r (V w.heap) v7 o)) (λ_ ai _=>Q l-(intOf ai).toNat);case atStart=>exact⟨0,p,[],s,g,wQ _,K,K,vQ _,b4,HH,aJ.y<|I.refl _ _,Gr.refl _,(λ_ T=>θ),kW _ _ _ _,λq P=>by grind[Δ]⟩
 case round=>
  obtain⟨n,k,o,t,r,bo,rfl,D,hk,H,A,v,y,F,a4⟩:=hrel;have a2:=O D;clear D;by_cases ax:n<Q l
  .obtain⟨k,rfl⟩:∃j,k=j+1:=by
    cases k with
    |zero=>exact absurd (H.u.trans K) a5.u
    |succ j=>simp
   have hx:=b2.u l[n]<|mQ ax;have S:=H.u;rw[List.drop_eq_getElem_cons ax,A2e]at S;have ay:=P8 (by rw[<-S];exact a5.u);have ar:=A3 HL.u A.u.P λ_ _ x=>x;obtain⟨gl,ba,-,bm,bj,b8,aq⟩:=D5 ar W;subst ba;have v0:=aq n (U l[n]) (by grind[C8]);have a8:=O<|HV.u k W wr t r z m l[n] A.u hz (b6.u.gr y.u) hx ay;rw[HP.u r v.u.sb]at a8;have a7:=O S;unfold Γ at b8;have bn:(n:Int)<(Q l:Int):=W;clear aq ar hx S ay H;generalize l[n]=x at*;go_wp2_with fail;refine a8.u.mono ?_;rintro e Z P;obtain⟨ps,rfl,hh⟩|⟨bh,s2,B,bs,rfl,e1,-,L,r2,a9,u,rfl,T,rfl⟩:=RP.cut (K':=Ks (V w.heap)) (λbf=>(rn b.N (aR b) G k (.vs<|l.drop<|n+1) m).bd λq=>aF<|(o++[r1 bf])++q) P
   .have:RP a c f d G b.N z w g s (Ks (V w.heap)) R (ø ps) Z:=by rw[a7.u];exact hh.pre v.u y.u
    exact⟨K,this⟩
   .have am:=a4.u.eu A.u L F.u;have hB:=aJ.y (wB:=a) (mb:=c) (g:=B)<|I.alloc No Z<|γ #[U u.g,.int Φ u.n,ζ ⟨ν u.t⟩,υ<|pad B.tb u.h] 135;have hA2:=λu T=>(F.u u T).gr a9;have aa:=am.eu r2 hB hA2;have a3:=O aa;have al:=O<|r2.y<|I.alloc No Z<|γ #[U u.g,.int Φ u.n,ζ ⟨ν u.t⟩,υ<|pad B.tb u.h] 135;have ak:=O<|v.u.trans<|L.trans hB;have b1:=O<|y.u.trans a9;have b0:Hid (∀aj∈o++[u],aZ s2.c aj):=λaj hy=>θ;have a6:=O aa.1;have ac:=a7.u;rw[e1]at ac;have b5:=O ac;have bq:=kQ v.u.P.size L.P.size;have D:=a2.u;have bi:Q o<=100000:=W;rw[D]at a6;clear P am aa hB hA2 e1 ac L r2 a9 a8 T a7 a4 A v y F D;unfold bT;go_wp2_with (at_builtin;refine wpList_append_own_at _ K _ _ 161 K (V w.heap) 135 i0 _ 4 40 underlying161 b9 bc bd be K ε _ n _ K a6.u (J (V Z.heap) 0) 1 1 [U u.g,.int Φ u.n,ζ ⟨ν u.t⟩,υ<|pad B.tb u.h] K K ?c1 ?c2 ?c3 ?c4 ?c5 ?_);case c1=>grind[Æ,pad,rY]
    case c2=>intro aj hy;simp at hy;obtain rfl|rfl|rfl|rfl:=hy<;>rfl
    case c3=>grind[Γ]
    case c4=>omega
    case c5=>simp;omega
    intro v' bg af au _ ap;have ad:I (λk=>Δ u7=C k) _ bg:=(I.grown au).mono λk _ x=>x.symm;have az:∀q,q<V w.heap->¬Δ u7=C q:=λq P e=>by
     have:=(A9 a3.u.1 q e).1;omega
    rw[<-a2.u]at af;obtain⟨l4,r4⟩:=a3.u.grow al.u bb ad af<|ap.imp id λe=>⟨_,e,ι⟩;have L4:=O l4;have R4:=O r4;have F4:=O<|ak.u.fresh ad az;have b7:Hid (Q (o++[u])=n+1):=by show _=_;simp[a2.u]
    clear l4 r4 ad af au ap a6 a3 al ak az;go_wp2;exact⟨⟨n+1,k,o++[u],s2,B,W,ç,b7.u,W,b5,R4,F4,b1,b0,L4⟩,by grind[intOf]⟩
  .have av:n=Q l:=W;have ab:=H.u;rw[av,List.drop_length]at ab;have ao:R=.ok o t:=by
    cases k with
    |zero=>exact absurd (ab.trans K) a5.u
    |succ k=>
     simp_all[rn,aR,aF,X.bd,bR]
   have b3:Hid (RP a c f d G b.N z w g s (Ks (V w.heap)) R (π u7) wr):=by
    show RP _ _ _ _ _ _ _ _ _ _ _ _ _ _;rw[ao];exact⟨r,u7,K,v.u,A.u,y.u,F.u,a4.u⟩
   have bp:¬(n:Int)<(Q l:Int):=W;clear ab ao av;go_wp2;go_ret;exact b3.u
end
section
variable{b w j:E}{d a f e z:Nat}{i:χ}{G:Int->Option Int}{c:Cx}{s:Ms}{g h:Gh}
def fJ.node(t:fJ b c a f i)(q:Rm b w d a e G c.N s g z){k}(H):
 ∃l n o p,a<V w.heap/\δ w (J a 0)=C (Y (C<|J l 0) (Q c.N) n)/\δ w (J a 4)=C (.map<|C f)/\l<V w.heap/\Q c.N<=n/\n<=9223372036854775807/\(δ w (J l<|k*9)=C (U c.N[k].x)/\δ w (J l<|k*9+1)=C (U c.N[k].a)/\δ w (J l<|k*9+2)=C (U c.N[k].b)/\δ w (J l<|k*9+3)=C (U c.N[k].c)/\
  δ w (J l<|k*9+4)=C (Y o (Q c.N[k].M) p)/\δ w (J l<|k*9+5)=C (ζ ⟨ν c.N[k].text⟩)/\δ w (J l<|k*9+6)=C (U c.N[k].n)/\δ w (J l<|k*9+7)=C (U c.N[k].ty)/\δ w (J l<|k*9+8)=C (U c.N[k].at'))/\
  ξ b 0 3 1 (Y o (Q c.N[k].M) p) (Q c.N[k].M) (C8 c.N[k].M):=by
 obtain⟨yv,mn,lb,fv,ov,u⟩:=t.blk;have D:=(aG u);have r:=(q.P.block a D id).trans u;obtain⟨l,n,o,p,L,F,y,h2,A,B,h5⟩:=t.ey.at (Below.refl _ _) k H;obtain⟨M,N,P,R,S,T,Z,k7,k8⟩:=A;have m:=λ{v:Addr} {a2:χ} (x:b.cell? v=C a2)=>A4 q.P x;refine⟨l,n,o,p,(aG r),?_,?_,yQ F q.P.size,y,Ä,⟨m M,m N,m P,m R,m S,m T,m Z,m k7,m k8⟩,B⟩
 .rw[á _ _ 0 _ _ _ r,<-L];rfl
 .rw[á _ _ 4 _ _ _ r];rfl
def Mz{r}(hS:fJ b c a f i)(hT:∀k,k<r->CT b d a e G c 33 (LL c) λm x=>rn c.N (aR c) G k (.s m) x):
 CR b d a e G c 18 Kn (iB c 26) λm x=>rn c.N (aR c) G (r+1) (.b m) x:=by
 intro w s g z x m am hz av hi aa;obtain⟨aq,ba,a9⟩:=hi;obtain⟨m,rfl⟩:=Int.eq_ofNat_of_zero_le aq;have S:m<Q c.N:=W;rw[B7 S]at a9;have aw:=hS.pg m S a9;obtain⟨R,hR⟩:∃R,R=((fM x).bd λl=>rn c.N (aR c) G r (.ss c.N[m].M)<|C l) s:=⟨_,K⟩;have an:rn c.N (aR c) G (r+1) (.b m) x s=R:=by rw[hR,rn,B7 S]
 simp only[an]at aa⊢;have af:=O<|Je am av;have HT:=O hT;have a4:=O aa;have HR:=O hR;have b4:=O aw;have HX:Hid (∀B A p,Rm b B d a e G c.N A p z->_):=λB A p h1=>(⟨h1.mc,hS.node h1 S⟩:_/\_);clear am hS hT aa hR an aw av aq ba a9;generalize pad g.sb x=bv at*;go_in;go_wp2_with fail;refine af.u.mono ?_;rintro N B M;obtain⟨ps,rfl,hh⟩|⟨l,A,p,be,rfl,L,-,ai,T,ak,hj,rfl⟩:=RP.cut (λl=>rn c.N (aR c) G r (.ss c.N[m].M)<|C l) M
 .have:RP b d a e G c.N z w g s Kn R (ø ps) B:=by rw[HR.u];exact hh
  exact⟨K,this⟩
 obtain⟨⟨fz,lt,m0,m1,m2,m3,m4⟩,gn,nc,la,lc,q0,q1,q2,q3,q4,q5,⟨x0,x1,x2,x3,x4,x5,x6,x7,x8⟩,ho⟩:=HX.u B A p T;have HO:=O ho;have b1:=O T;have a2:=O ai;have ae:=O ak;have ay:=O hj;have a7:=HR.u;rw[L]at a7;have b2:=O a7;have b0:=O (λ(h:Gh) (hp:p.sb<+:h.sb)=>N8 hp (o:=C l) λj' N=>by cases N;rw[T.sl];omega);generalize pad p.sb (C l)=pj at*;generalize c.N[m].M=o at*;clear M L ho T ai ak hj a7 af m1 m2 m3 m4 x0 x1 x2 x3 x5 x6 x7 x8 HR;go_wp2;go_loopw [24] (λab wr=>∃(n k:Nat) (v:Ms) (t:Gh),n<=Q o/\ab=U n/\k<=r/\Hid (R=rn c.N (aR c) G k (.ss<|o.drop n) (C l) v)/\Hid (Rm b wr d a e G c.N v t z)/\Hid (aJ b d B p wr t)/\Hid (Gr A.c v.c)) (λab _=>Q o-(intOf ab).toNat);case atStart=>exact⟨0,r,A,p,wQ _,K,vQ _,b2,b1,aJ.y<|I.refl _ _,Gr.refl _⟩
 case round=>
  obtain⟨n,k,v,t,br,rfl,hk,a5,H,D,F⟩:=hrel;by_cases au:n<Q o
  .obtain⟨k,rfl⟩:∃l,k=l+1:=by
    cases k with
    |zero=>exact absurd (a5.u.trans K) a4.u
    |succ l=>simp
   have hx:=b4.u o[n]<|mQ au;have y:=a5.u;rw[List.drop_eq_getElem_cons au,rn]at y;have b9:=A3 HO.u H.u.P λ_ _ ac=>ac;obtain⟨gl,bc,-,bq,bp,b7,b8⟩:=D5 b9 W;subst bc;have v0:=b8 n (U o[n]) (by grind[C8]);have b3:=O<|Bf H.u hz;have b6:Hid (v.fu≠0->4000<=z):=λh0=>by obtain⟨bu,hm,_⟩:=H.u.mem;omega
   have ah:=O y;have b5:=O hx;unfold Γ at b7;generalize o[n]=ac at*;go_wp2_with fail;refine b3.u.mono ?_;rintro N ax ⟨aj,q⟩;cases u:aU v with
   |stk=>rw[u]at q;exact q.elim
   |back bw Z=>rw[u]at q;exact q.elim
   |over bg j' Z=>
    rw[u]at q;obtain⟨rfl,h3,rfl⟩:=q;have:RP b d a e G c.N z w g s Kn R (ov bg j' []) ax:=by
     rw[ah.u,I5 u];exact⟨t,[],K,a2.u.trans<|D.u.trans aj,h3⟩
    exact⟨K,this⟩
   |ok bn Z=>
    rw[u]at q;obtain⟨rfl,h3,ap⟩:=q;have bt:=b6.u (WJ u).1;have y:=ah.u;rw[J0 u]at y;have bd:=P8 (by rw[<-y];exact a4.u);have bb:l<Q Z.c.S:=by rw[ap];exact yQ ay.u F.u.S
    have a6:=O<|HT.u k W ax Z t (z-4000) l ac h3 W bb b5.u bd;rw[b0.u t D.u.sb]at a6;have ag:=O y;have a3:=O<|D.u.trans aj;have ad:=O ap;go_wp2_with fail;refine a6.u.mono ?_;rintro N bf M;obtain⟨ps,rfl,hh⟩|⟨bo,s4,g4,be,rfl,L,-,f4,r4,al,rfl⟩:=RP.cut (λ_=>rn c.N (aR c) G k (.ss<|o.drop<|n+1)<|C l) M
    .have:RP b d a e G c.N z w g s Kn R (ø ps) bf:=by
      rw[ag.u];exact(hh.pre (a2.u.trans a3.u)<|ae.u.trans<|F.u.trans<|DY ad.u).more W
     exact⟨K,this⟩
    .have a8:=ag.u;rw[L]at a8;have bm:=O a8;have bj:=O (r4.more<|show z-4000+1<=z by omega);have bh:=O<|a3.u.trans f4;have bi:=O<|F.u.trans<|(DY ad.u).trans al;clear M L a8 f4 r4 al a6 a3 H D F;go_wp2;grind[intOf]
  .have ar:n=Q o:=W;have P:=a5.u;rw[ar,List.drop_length]at P;have ao:R=.ok [] v:=by
    cases k with
    |zero=>exact absurd (P.trans K) a4.u
    |succ k=>
     rw[P,rn];rfl
   have az:Hid (RP b d a e G c.N z w g s Kn R (rT) wr):=by
    show RP _ _ _ _ _ _ _ _ _ _ _ _ _ _;rw[ao];exact⟨t,_,K,a2.u.trans D.u,H.u,ae.u.trans F.u,K⟩
   have bs:¬(n:Int)<(Q o:Int):=W;clear P ao ar;go_wp2;go_end0;exact az.u
end
