/-
  A part of the proof.
-/
import Derived.Test.YteocidgdmjaffaaGreatDoorPlainR
import Derived.Test.YteocidgdmjaffaaGreatDoorCheckA
import Derived.Laws.StructEq
import Derived.Laws.Pointers
import Derived.LaidEql
set_option maxHeartbeats 0
set_option linter.all false
set_option maxRecDepth 100000
namespace Go.Proofs.YteocidgdmjaffaaGreatDoor
open Go.Proofs.Tryz
open Go.RowKit Go.Maps
def KO(v:Value):Option (DataW Value×List MemPlace):=some (.held v,[])
structure fM(k:TypeId)(w:E)(q m:Nat)(f:Lit->Option Value):Prop where
 own:∃n D,w.ownsMap prog k KO q n D/\n<=m/\IsMap D/\∀(s:Lit) (d:DataW Value),D.atKey s d=match f s with
  |some j=>.held j
  |none=>d
section
variable{k t e:TypeId}{w w':E}{q m:Nat}{f:Lit->Option Value}
def fM.new(k)(w:E)(m):fM k (w.alloc (.map #[] 0)) w.heap.size m (λ_=>none):=⟨0,.map [],World.ownsMap_made w _ _ _,wQ _,isMap_empty,λ_ _=>rfl⟩
def fM.more{a}(h:fM k w q m f)(d:m<=a):fM k w q a f:=by
 obtain⟨n,D,b,c,r⟩:=h.own;exact⟨n,D,b,by omega,r⟩
theorem fM.isMap(h:fM k w q m f):∃b a,w.heap[q]?=some (.map b a):=by
 obtain⟨n,D,⟨b,a,c,_⟩,_⟩:=h.own;grind
theorem fM.P(h:fM k w q m f)(b:w'.heap[q]?=w.heap[q]?):fM k w' q m f:=by
 obtain⟨n,D,⟨c,a,d,g⟩,r⟩:=h.own;exact⟨n,D,⟨c,a,b.trans d,g⟩,r⟩
def fM.look(h:fM k w q m f)(p:Keyed prog k)(v:prog.underlying t=some (.map k e)){z}(x:(zeroValue e).run prog w=.ok z w){o}{b}(u:keyOf prog k o=some b)(c):
 (Instr.lookup t (.map (some q)) o c).run prog w=.ok (if c then .tuple #[(f b).getD z,.bool (f b).isSome] else (f b).getD z) w:=by
 obtain⟨n,D,⟨G,A,s,F,_,rfl⟩,_,_,r⟩:=h.own;have a:=r b .nil;obtain⟨i,_,g⟩|⟨B,y,_,_,i,l,g,_⟩:=fit_look c p v x s F u
 .rw[g]at a;cases d:f b with
  |none=>rw[i];rfl
  |some j=>rw[d]at a;cases a
 .rw[g]at a;simp only[KO,zQ]at l;subst l;cases d:f b with
  |none=>rw[d]at a;cases a
  |some j=>
   rw[d]at a;simp at a;rw[i,a];rfl
theorem fM.put(h:fM k w q m f)(g:Keyed prog k)(s:prog.underlying t=some (.map k e)){c}{a}(j:keyOf prog k c=some a)(B:WideAt.IsKeyLit a)(F:m<=1000000000)(v)(b)(y:b a=some v)(z:∀u,u≠a->b u=f u):
 ∃w',(Instr.mapUpdate t (.map (some q)) c v).run prog w=.ok () w'/\fM k w' q (m+1) b/\I (λk=>k=q) w w':=by
 obtain⟨n,D,o,G,l,A⟩:=h.own;obtain⟨w',r,p,i⟩:=o.update g s (by grind[maxLen]) j (show KO v=some (.held v,[]) from rfl);refine⟨w',r,⟨n+1,_,p,by omega,l.put _ _,λu d=>?_⟩,(I.grown i).mono (λk _ x=>by grind)⟩;by_cases H:u=a<;>grind[atKey_put_same,atKey_put_other]
end
inductive Rl where
 |t (i:Nat)
 |p (i:Nat)
 |l (i:Nat)
 |s (i:Nat)
 |o (i:Nat)
structure Gh where
 tb:List Nat
 sb:List Nat
 ow:Nat->Option Rl
def pad(a:List Nat)(o:Option Nat):Option Addr:=o.map λi=>(J (a.getD i 0) 0)
def fJ(a:List Nat)(v:Vl):List Value:=[.int .i64 v.g,.int .i32 v.n,.string ⟨v.t.toArray⟩,.pointer (pad a v.h)]
def bN(a:List Nat)(v:Vl):Value:=.agg #[.int .i64 v.g,.int .i32 v.n,.string ⟨v.t.toArray⟩,.pointer (pad a v.h)]
def kG(f:Y->Option Vl)(a:List Nat):Lit->Option Value
 |.string x=>(f x).map (bN a)
 |_=>none
def lJ(f:Int->Option Vl)(a:List Nat):Lit->Option Value
 |.int .i64 x=>(f x).map (bN a)
 |_=>none
def oV(B:Nat)(w:E)(g:Gh)(m i:Nat)(t:Th):Prop:=∃b d c e,g.tb[i]?=some b/\g.ow b=some (.t i)/\w.heap[b]?=some (.cells #[d,.slice c t.l.length e,.int .i64 t.nd,.pointer (pad g.sb t.sc)] 174 (0,0))/\
 (if t.k=16 then∃q,d=.map (some q)/\g.ow q=some (.p i)/\fM 9 w q m (kG t.p g.tb) else d=.map none)/\
 w.ownsRow B 150 4 (.slice c t.l.length e) t.l.length (t.l.flatMap (fJ g.tb))/\∀a,c=some a->g.ow a.block=some (.l i)
def qG(w:E)(g:Gh)(m i:Nat)(s:Sc):Prop:=∃b q,g.sb[i]?=some b/\g.ow b=some (.s i)/\w.heap[b]?=some (.cells #[.map (some q),.pointer (pad g.sb s.up)] 147 (0,0))/\g.ow q=some (.o i)/\fM 3 w q m (lJ s.o g.tb)
def strs(l:List Y):List Value:=l.map λx=>.string ⟨x.toArray⟩
def jN(l:List (Int×Int)):List Value:=l.flatMap λp=>[U p.1,U p.2]
structure Rm(wB w:E)(mb pb gq:Nat)(G:Int->Option Int)(N:List C)(s:Ms)(g:Gh)(z:Nat):Prop where
 P:I No wB w
 ju:wB.heap.size<=mb/\g.ow mb=none/\g.ow gq=none
 gs:eK w gq 5000 G
 eo:∃lv ev,w.heap[mb]?=some (.cells #[pV pb,.map (some gq),U (s.fu:Int),U (s.c.ca:Int),U (s.c.th:Int),lv,ev] 67 (0,0))/\
  w.ownsRow wB.heap.size 9 1 lv s.ln.length (strs s.ln)/\w.ownsRow wB.heap.size 40 2 ev s.ev.length (jN s.ev)
 tl:g.tb.length=s.c.T.length
 sl:g.sb.length=s.c.S.length
 low:∀k r,g.ow k=some r->wB.heap.size<=k/\k<w.heap.size
 ty:∀k r,g.ow k=some r->∀cs e fz,w.heap[k]?=some (.cells cs e fz)->e≠9/\e≠40
 ok:gX N s.c
 mem:∃m,m+s.ln.length+s.ev.length+4000*s.fu=z/\(∀i t,s.c.T[i]?=some t->oV wB.heap.size w g m i t)/\∀i q,s.c.S[i]?=some q->qG w g m i q
theorem J6{a b}(h:a<+:b){o}(c:∀i,o=some i->i<a.length):pad b o=pad a o:=by
 obtain⟨r,rfl⟩:=h;cases o with
 |none=>rfl
 |some i=>
  grind[pad]
theorem sY{a b}(h:a<+:b){c}{v}(f:bF c v)(d:a.length=c.T.length):bN b v=bN a v/\fJ b v=fJ a v:=by
 have:=J6 h (o:=v.h) (λi e=>by rw[d];exact f.lt i e);unfold bN fJ;grind
theorem GU{a:Type}{f f':a->List Value}{l:List a}(h:∀v∈l,f' v=f v):l.flatMap f'=l.flatMap f:=by
 induction l<;>grind
theorem EG{a b}(h:a<+:b){c}{f}(g:∀x v,f x=some v->bF c v)(d:a.length=c.T.length):kG f b=kG f a:=by
 funext l;cases l<;>try rfl
 rename_i x;simp only[kG];cases e:f x<;>grind[sY]
theorem Cc{a b}(h:a<+:b){c}{f}(g:∀x v,f x=some v->bF c v)(d:a.length=c.T.length):lJ f b=lJ f a:=by
 funext l;cases l<;>try rfl
 rename_i k x;cases k<;>try rfl
 simp only[lJ];cases e:f x<;>grind[sY]
def oV.up{B}{w v}{g a}{m u i}{t}{N}{c}(h:oV B w g m i t)(f:iP N c t)(s:g.tb.length=c.T.length)(L:g.sb.length=c.S.length)(d:g.tb<+:a.tb)(D:g.sb<+:a.sb)(H:m<=u)
 (r:∀k,g.ow k=some (.t i)\/g.ow k=some (.p i)\/g.ow k=some (.l i)->v.heap[k]?=w.heap[k]?/\a.ow k=g.ow k):oV B v a u i t:=by
 obtain⟨b,Z,V,W,e1,l,A,n,o,e6⟩:=h;obtain⟨P,R⟩:=r b (.inl l);refine⟨b,Z,V,W,?_,R.trans l,?_,?_,?_,λa4 ha=>?_⟩
 .obtain⟨a5,hr⟩:=d;grind
 .rw[P,A,J6 D (λj e=>by rw[L];exact f.sc j e)]
 .split
  .rename_i G;rw[wY G]at n;obtain⟨q,rfl,p,F⟩:=n;obtain⟨S,T⟩:=r q (.inr (.inl p));rw[EG d f.p s];exact⟨q,rfl,T.trans p,(F.P S).more H⟩
  grind
 .rw[GU (f:=fJ g.tb) (f':=fJ a.tb) λa3 M=>(sY d (f.l a3 M) s).2];refine⟨o.1,o.2.imp id λ⟨x,y,z,a2,r2,r3,r4⟩=>⟨x,y,z,a2,r2,?_,r4⟩⟩;grind
 grind
def qG.up{w n}{g a}{m l i}{q}{c}(h:qG w g m i q)(y:∀x v,q.o x=some v->bF c v)(G:∀j,q.up=some j->j<g.sb.length)(t:g.tb.length=c.T.length)(p:g.tb<+:a.tb)(s:g.sb<+:a.sb)(u:m<=l)
 (f:∀k,g.ow k=some (.s i)\/g.ow k=some (.o i)->n.heap[k]?=w.heap[k]?/\a.ow k=g.ow k):qG n a l i q:=by
 obtain⟨b,r,D,d,F,e,o⟩:=h;obtain⟨L,z⟩:=f b (.inl d);obtain⟨A,B⟩:=f r (.inr e);refine⟨b,r,?_,z.trans d,?_,B.trans e,?_⟩
 .obtain⟨x,H⟩:=s;grind
 .grind[J6]
 .rw[Cc p y t];exact(o.P A).more u
def yC(d:E)(c:Nat)(w:E)(g:Gh)(k:Nat):Prop:=k=c\/(∃r,g.ow k=some r/\∀j,r≠Rl.s j)\/(d.heap.size<=k/\∃a e b,w.heap[k]?=some (.cells a e b)/\(e=9\/e=40))
structure aH(wB:E)(mb:Nat)(w:E)(g:Gh)(w':E)(g':Gh):Prop where
 P:I (yC wB mb w g) w w'
 ow:∀k r,k<w.heap.size->g'.ow k=some r->g.ow k=some r
 tb:g.tb<+:g'.tb
 sb:g.sb<+:g'.sb
theorem aH.y{wB}{mb}{w a}{g}(h:I No w a):aH wB mb w g a g:=⟨h.mono λ_ _ x=>x.elim,λ_ _ _ e=>e,List.prefix_refl _,List.prefix_refl _⟩
theorem aH.no{i}{d}{w f}{g a}(h:aH i d w g f a){k}(b:k<w.heap.size)(c:g.ow k=none):a.ow k=none:=by
 cases e:a.ow k with
 |none=>rfl
 |some r=>rw[h.ow k r b e]at c;omega
theorem aH.trans{j}{f}{a b c}{g l m}(h:aH j f a g b l)(k:aH j f b l c m):aH j f a g c m:=by
 refine⟨⟨k.P.os.trans h.P.os,k.P.tape.trans h.P.tape,k.P.output.trans h.P.output,kQ h.P.size k.P.size,λi d n=>?_⟩,λi r d e=>h.ow i r d (k.ow i r (yQ d h.P.size) e),h.tb.trans k.tb,h.sb.trans k.sb⟩;have o:=h.P.block i d n;refine(k.P.block i (yQ d h.P.size) λx=>n ?_).trans o;obtain x|⟨r,x,x2⟩|⟨x,cs,e,fz,y,z⟩:=x
 .exact .inl x
 .exact .inr (.inl ⟨r,h.ow i r d x,x2⟩)
 .exact .inr (.inr ⟨x,cs,e,fz,by grind,z⟩)
def aH.et{m}{i}{w j}{g c}(h:aH m i w g j c){k}{a}{e}{b}(d:w.heap[k]?=some (.cells a e b))(l:g.ow k=none)(p:k≠i)(n:e≠9)(o:e≠40):j.heap[k]?=some (.cells a e b)/\c.ow k=none:=by
 have f:=(aI d);refine⟨(h.P.block k f λx=>?_).trans d,h.no f l⟩;obtain x|⟨r,x,_⟩|⟨_,cs',e',fz',y,z⟩:=x<;>grind
section
variable{wB w a:E}{mb c b z:Nat}{G:Int->Option Int}{N:List C}{s:Ms}{g:Gh}
def Rm.gen{S}{f}{n}{F d}(h:Rm wB w mb c b G N s g z)(p:I S w a)(M:∀k,k<w.heap.size->S k->wB.heap.size<=k/\k≠b)
 (hb:∃R H,a.heap[mb]?=some (.cells #[pV c,.map (some b),U f.fu,U f.c.ca,U f.c.th,R,H] 67 (0,0))/\
  a.ownsRow wB.heap.size 9 1 R f.ln.length (strs f.ln)/\a.ownsRow wB.heap.size 40 2 H f.ev.length (jN f.ev))
 (o:g.tb<+:n.tb/\g.sb<+:n.sb/\∀k,k<w.heap.size->n.ow k=g.ow k) (a8:n.tb.length=f.c.T.length) (a7:n.sb.length=f.c.S.length)
 (a3:∀k r,w.heap.size<=k->n.ow k=some r->k<a.heap.size/\∀y e A,a.heap[k]?=some (.cells y e A)->e≠9/\e≠40)
 (aa:∀k r,g.ow k=some r->S k->∀y e A,a.heap[k]?=some (.cells y e A)->e≠9/\e≠40)
 (a5:gX N f.c) (hz:d+f.ln.length+f.ev.length+4000*f.fu+z<=F+s.ln.length+s.ev.length+4000*s.fu)
 (hT:∀i t,f.c.T[i]?=some t->(s.c.T[i]?=some t/\∀k,g.ow k=some (.t i)\/g.ow k=some (.p i)\/g.ow k=some (.l i)->¬S k)\/∀m v,m+s.ln.length+s.ev.length+4000*s.fu=z->m+d<=v->(∀i t,s.c.T[i]?=some t->oV wB.heap.size w g m i t)->oV wB.heap.size a n v i t)
 (a2:∀i q,f.c.S[i]?=some q->(s.c.S[i]?=some q/\∀k,g.ow k=some (.s i)\/g.ow k=some (.o i)->¬S k)\/∀m v,m+s.ln.length+s.ev.length+4000*s.fu=z->m+d<=v->(∀i q,s.c.S[i]?=some q->qG w g m i q)->qG a n v i q):Rm wB a mb c b G N f n F:=by
 obtain⟨ab,a9,Z,_⟩:=h.eo;have a4:=(aI Z);obtain⟨m,P,V,T⟩:=h.mem;have L:∀k r,n.ow k=some r->(k<w.heap.size/\g.ow k=some r)\/w.heap.size<=k:=λk r u=>by
  grind
 refine⟨h.P.trans p λk j x=>?_,⟨h.ju.1,by rw[o.2.2 _ a4];exact h.ju.2.1,by rw[o.2.2 _ h.gs.lt];exact h.ju.2.2⟩,h.gs.P p λx=>(M b h.gs.lt x).2 rfl,hb,a8,a7,λk r u=>?_,λk r u=>?_,a5,F-(f.ln.length+f.ev.length+4000*f.fu),by omega,λi t ht=>?_,λi q hq=>?_⟩
 .have:=(M k (yQ j h.P.size) x).1;omega
 .obtain⟨l,e⟩|l:=L k r u
  .exact⟨(h.low k r e).1,yQ l p.size⟩
  .exact⟨kQ h.P.size l,(a3 k r l u).1⟩
 .obtain⟨l,e⟩|l:=L k r u
  .by_cases hx:S k
   .grind
   .rw[p.block k l hx];exact h.ty k r e
  grind
 .obtain⟨e,D⟩|B:=hT i t ht
  .refine(V i t e).up (h.ok.T i t e) h.tl h.sl o.1 o.2.1 (by omega) λk j=>?_;have l:k<w.heap.size:=by obtain j|j|j:=j<;>exact(h.low k _ j).2
   exact⟨p.block k l (D k j),o.2.2 k l⟩
  .exact B m _ P (by omega) V
 .obtain⟨e,D⟩|B:=a2 i q hq
  .refine(T i q e).up (h.ok.S i q e).1 (λa6 W=>?_) h.tl o.1 o.2.1 (by omega) λk j=>?_
   .have:=(h.ok.S i q e).2 a6 W;have h4:=(List.getElem?_eq_some_iff.1 e).1;rw[h.sl];omega
   .have l:k<w.heap.size:=by obtain j|j:=j<;>exact(h.low k _ j).2
    exact⟨p.block k l (D k j),o.2.2 k l⟩
  .exact B m _ P (by omega) T
theorem Rm.rows{S}(h:Rm wB w mb c b G N s g z)(i:I S w a)(u:∀k,k<w.heap.size->S k->k≠mb/\∀p e t,w.heap[k]?=some (.cells p e t)->e≠9/\e≠40):
 ∃f d,a.heap[mb]?=some (.cells #[pV c,.map (some b),U s.fu,U s.c.ca,U s.c.th,f,d] 67 (0,0))/\
  a.ownsRow wB.heap.size 9 1 f s.ln.length (strs s.ln)/\a.ownsRow wB.heap.size 40 2 d s.ev.length (jN s.ev):=by
 obtain⟨f,d,l,m,n⟩:=h.eo;have o:=(aI l);refine⟨f,d,(i.block mb o λx=>(u mb o x).1 rfl).trans l,A3 m i λq j x=>?_,A3 n i λq j x=>?_⟩
 .obtain⟨_,r,v⟩:=A9 m q j;grind
 .obtain⟨_,r,v⟩:=A9 n q j;grind
def Rm.calm{S}(h:Rm wB w mb c b G N s g z)(n:I S w a)(m:∀k,k<w.heap.size->S k->wB.heap.size<=k/\k≠mb/\g.ow k=none/\∃j e l,w.heap[k]?=some (.cells j e l)/\e≠9/\e≠40):Rm wB a mb c b G N s g z:=by
 have u:∀k r,g.ow k=some r->¬S k:=λk r f x=>by
  have:=(m k (h.low k r f).2 x).2.2.1;grind
 refine h.gen (d:=0) n (λk d x=>?_) (h.rows n λk d x=>?_) ⟨List.prefix_refl _,List.prefix_refl _,λ_ _=>rfl⟩ h.tl h.sl (λk r d f=>?_) (λk r f x=>(u k r f x).elim) h.ok (by omega) (λi t A=>.inl ⟨A,λk d=>?_⟩) (λi q v=>.inl ⟨v,λk d=>?_⟩)
 .obtain⟨p,_,_,j,e,l,y,_⟩:=m k d x;exact⟨p,λo=>h.gs.eu (o ▸ y)⟩
 .grind
 .have:=(h.low k r f).2;omega
 .grind
 grind
theorem Rm.y(h:Rm wB w mb c b G N s g z)(d:I No w a):Rm wB a mb c b G N s g z:=h.calm d λ_ _ x=>x.elim
def Rm.more{d}(h:Rm wB w mb c b G N s g z)(l:z<=d):Rm wB w mb c b G N s g d:=
 h.gen (S:=λ_=>False) (d:=0) (I.refl _ _) (λ_ _ x=>x.elim) h.eo ⟨List.prefix_refl _,List.prefix_refl _,λ_ _=>rfl⟩ h.tl h.sl (λk r j f=>by have:=(h.low k r f).2;omega) (λ_ _ _ x=>x.elim) h.ok (by omega) (λ_ _ i=>.inl ⟨i,λ_ _ x=>x⟩) (λ_ _ e=>.inl ⟨e,λ_ _ x=>x⟩)
def Rm.new(h:Rm wB w mb c b G N s g z){k}(d:w.heap.size<=k):g.ow k=none:=by
 cases e:g.ow k with
 |none=>rfl
 |some r=>have:=(h.low k r e).2;omega
def aH.qh{f}(i:aH wB mb w g a f)(h:Rm wB w mb c b G N s g z){k j}(d:g.ow k=some (.s j)):a.heap[k]?=w.heap[k]?:=
 i.P.block k (h.low k _ d).2 λx=>by
  obtain x|⟨r,x,x2⟩|⟨_,cs,e,fz,y,y2⟩:=x
  .have:=h.ju.2.1;grind
  .grind
  .have:=h.ty k _ d cs e fz y;grind
end
def ov(e i:Int)(a:List PanicEntry):Ending:=.panicked ({v:=.iface 64 (.agg #[U e,U i]),recovered:=false}::a.map λp=>{p with goexit:=false})
def zG{w a}{q o}{v}(h:I No w a)(c:w.heap.size<=q):I No w (a.setCell (J q o) v):=
 h.trans (I.set a (J q o) v) λi b x=>by
  grind
def uI(e i)(w:E):Calls prog 92 #[U e,U i] w λx a=>x=ov e i []/\a=w:=by
 go_in;go_wp2;exact⟨rfl,rfl,rfl⟩
def CH(n)(w:E):Calls prog 176 #[.int .i32 n] w λx a=>x=.returned (.agg #[U 1,.int .i32 n,.string ⟨#[]⟩,.pointer none])/\I No w a:=by
 go_in;go_wp2;refine bodyPost_ret (by simp[results,results176,go_sem]) rfl ⟨rfl,I.alloc _ _ _⟩
def FV(t)(w:E):Calls prog 177 #[.string t] w λx a=>x=.returned (.agg #[U 4,.int .i32 0,.string t,.pointer none])/\I No w a:=by
 go_in;go_wp2;refine bodyPost_ret (by simp[results,results177,go_sem]) rfl ⟨rfl,I.alloc _ _ _⟩
def uH(w:E):Calls prog 142 #[] w λx a=>x=.returned (.agg #[U 8,.int .i32 0,.string ⟨#[]⟩,.pointer none])/\I No w a:=by
 go_in;go_wp2;refine bodyPost_ret (by simp[results,results142,go_sem]) rfl ⟨rfl,I.alloc _ _ _⟩
def xB(b)(w:E):Calls prog 143 #[.bool b] w λx a=>x=.returned (.agg #[U 2,.int .i32 (if b then 1 else 0),.string ⟨#[]⟩,.pointer none])/\I No w a:=by
 cases b;all_goals
  go_in;go_wp2;refine bodyPost_ret (by simp[results,results143,go_sem]) rfl ⟨rfl,I.alloc _ _ _⟩
def sM(i a c)(t)(p)(g)(w:E):Calls prog 135 #[U i,.agg #[U a,.int .i32 c,.string t,p],U g] w λx d=>I No w d/\x=if a=g then rT else ov 3 i []:=by
 by_cases h:a=g
 .subst h;rw[wY rfl];go_in;go_wp2;go_end0;grind[I.alloc]
 .have f:(a !=g)=true:=by simpa using h
  rw[zY h];have b:=O (uI 3 i);go_in;go_wp2_with fail;refine(b.u _).mono ?_;rintro e j ⟨rfl,rfl⟩;exact⟨rfl,I.alloc _ _ _,rfl⟩
def SJ(a b)(t)(p)(w:E):Calls prog 141 #[.agg #[U a,.int .i32 b,.string t,p]] w λx c=>x=.returned (.string ⟨(mJ a).toArray⟩)/\I No w c:=by
 unfold mJ;go_in;go_wp2;all_goals go_ret
 all_goals simp_all
 all_goals exact I.alloc _ _ _
def RK(b)(h)(n c)(x)(w:E)(k:w.cell? (J b 1)=some (.slice h n c)):
 Calls prog 137 #[pV b,U x] w λe i=>e=.returned (.bool (decide (0<=x/\x<n)))/\i=w:=by
 by_cases d:0<=x
 .by_cases g:x<n
  .have f:decide (0<=x)=true:=by simpa using d
   have j:decide (x<n)=true:=by simpa using g
   have a:decide (0<=x/\x<n)=true:=by simpa using And.intro d g
   rw[a];go_in;go_wp2;go_ret;exact⟨rfl,rfl⟩
  .have f:decide (0<=x)=true:=by simpa using d
   have a:decide (0<=x/\x<n)=false:=by simp;omega
   rw[a];go_in;go_wp2;go_ret;exact⟨rfl,rfl⟩
 .have f:decide (0<=x)=false:=by simpa using d
  have a:decide (0<=x/\x<n)=false:=by simp;omega
  rw[a];go_in;go_wp2;go_ret;exact⟨rfl,rfl⟩
def Tryz.m7:(prog.fieldsOf 150).toList.map (fun f=>(f.name== "_",f.type,f.offset))=[(false,3,0),(false,21,1),(false,9,2),(false,148,3)]:=by kernel_rfl
def Xt(g n f h)(t i)(p o)(r)(w:E)(N:(Op.equalIn 9999 148 (.pointer p) (.pointer o)).run prog w=.ok r w):
 (Op.equalIn 10000 150 (.agg #[U g,.int .i32 n,.string t,.pointer p]) (.agg #[U f,.int .i32 h,.string i,.pointer o])).run prog w=.ok (g==f&&n==h&&t.toList==i.toList&&r) w:=by
 rw[run_equalIn_agg w 9999 150 _ _ (by kernel_rfl) (by simp)];have a:=Tryz.m7;generalize (prog.fieldsOf 150).toList=L at a;obtain⟨f0,V,rfl,j,a⟩:=List.map_eq_cons_iff.1 a;obtain⟨a4,W,rfl,k,a⟩:=List.map_eq_cons_iff.1 a;obtain⟨a5,Z,rfl,l,a⟩:=List.map_eq_cons_iff.1 a;obtain⟨a6,L4,rfl,m,a⟩:=List.map_eq_cons_iff.1 a;obtain rfl:=List.map_eq_nil_iff.1 a;simp at j k l m;obtain⟨a1,q,s⟩:=j;obtain⟨u,v,x⟩:=k;obtain⟨y,z,A⟩:=l;obtain⟨B,D,F⟩:=m;have G:=run_equalIn_int w 9998 3 .i64 .i64 g f underlying3;have H:=run_equalIn_int w 9998 21 .i32 .i32 n h underlying21;have M:=run_equalIn_string w 9998 9 t i underlying9;simp only[Op.eqFields,a1,q,s,u,v,x,y,z,A,B,D,F,ne_eq,not_false_eq_true,if_true];have P:∀(b c d e:Value),(Go.part 3 #[b,c,d,e] 0).run prog w=.ok b w:=λ_ _ _ _=>by kernel_rfl
 have R:∀(b c d e:Value),(Go.part 21 #[b,c,d,e] 1).run prog w=.ok c w:=λ_ _ _ _=>by kernel_rfl
 have S:∀(b c d e:Value),(Go.part 9 #[b,c,d,e] 2).run prog w=.ok d w:=λ_ _ _ _=>by kernel_rfl
 have T:∀(b c d e:Value),(Go.part 148 #[b,c,d,e] 3).run prog w=.ok e w:=λ_ _ _ _=>by kernel_rfl
 simp only[Sem.run_bind,P,R,S,T,Result.andThen_ok,G,H,M,N,Sem.run_ite];cases g==f<;>cases n==h<;>cases t.toList==i.toList<;>cases r<;>rfl
theorem UW(l:Y):(⟨l.toArray⟩:ByteArray).toList=l:=by simp
def QH(a)(o)(w:E):(Op.equalIn 9999 148 (.pointer (pad a o)) (.pointer none)).run prog w=.ok (o==none) w:=by
 have:=run_equalIn_pointer_nil (P:=prog) w 9998 148 (pad a o) (by kernel_rfl);cases o<;>exact this
def RG(a)(v)(k n)(w:E):(binOp .neq 150 (bN a v) (.agg #[U k,.int .i32 n,.string ⟨#[]⟩,.pointer none])).run prog w=.ok (.bool (!v.beq ⟨k,n,[],none⟩)) w:=by
 have h:=Xt v.g v.n k n ⟨v.t.toArray⟩ ⟨#[]⟩ _ none _ w (QH a v.h w);have e:=UW [];rw[UW,e]at h;unfold bN;rw[run_neq_struct,h];rfl
def FJ(f)(v)(w:E):Calls prog 99 #[bN f v] w λx m=>x=.returned (.bool v.j3)/\I No w m:=by
 have i:=O uH;have k:=O (xB false);have t:=RG f v 8 0;have u:=RG f v 2 0;have e:v.j3=(!v.beq ⟨8,0,[],none⟩&&!v.beq ⟨2,0,[],none⟩):=rfl;rw[e];generalize v.beq ⟨8,0,[],none⟩=l at*;generalize v.beq ⟨2,0,[],none⟩=j at*;unfold bN at*;generalize pad f v.h=p at*;have g:Hid (∀a,I No (w.alloc (.cells #[U v.g,.int .i32 v.n,.string ⟨v.t.toArray⟩,.pointer p] 150)) a->a.cell? (J w.heap.size 0)=some (U v.g)/\a.cell? (J w.heap.size 1)=some (.int .i32 v.n)/\a.cell? (J w.heap.size 2)=some (.string ⟨v.t.toArray⟩)/\a.cell? (J w.heap.size 3)=some (.pointer p)):=λa c=>
  ⟨A4 c (AG rfl),A4 c (AG rfl),A4 c (AG rfl),A4 c (AG rfl)⟩;have h:=O (I.alloc No w (.cells #[U v.g,.int .i32 v.n,.string ⟨v.t.toArray⟩,.pointer p] 150));cases l
 .go_in;go_wp2;go_region_with (first|(go_at_call 142;refine(i.u _).mono ?_;rintro e n ⟨rfl,b⟩;replace b:=O (B6 (I.drewN No _ 1) b);obtain⟨o,q,r,s⟩:=g.u _ b.u)|(go_at_call 143;refine(k.u _).mono ?_;rintro e y ⟨rfl,d⟩;replace d:=O (B6 b.u d);obtain⟨z,A,B,D⟩:=g.u _ d.u));all_goals go_wp2
  all_goals go_ret
  all_goals exact⟨by cases j<;>rfl,B6 h.u d.u⟩
 .go_in;go_wp2;go_region_with (go_at_call 142;refine(i.u _).mono ?_;rintro e n ⟨rfl,b⟩;replace b:=O (B6 (I.drewN No _ 1) b);obtain⟨o,q,r,s⟩:=g.u _ b.u);all_goals go_wp2
  all_goals go_ret
  all_goals exact⟨by cases j<;>rfl,B6 h.u b.u⟩
def qM(d:List Nat)(s:Ms)(w:E)(r:Rr Vl)(e:Ending)(f:E):Prop:=I No w f/\match r with
 |.ok v c=>c=s/\bF s.c v/\e=.returned (bN d v)
 |.over a b c=>c=s/\e=ov a b []
 |_=>False
theorem I5{b d}{m:X b}{k:b->X d}{s c}{a}(h:m s=.ok a c):(m.bd k) s=k a c:=by
 grind[X.bd]
theorem I1{b c}{m:X b}{k:b->X c}{s a}{e i}(h:m s=.over e i a):(m.bd k) s=.over e i a:=by
 grind[X.bd]
def K8{a b}{m:X a}{k:a->X b}{s}(h:(m.bd k) s≠.stk):m s≠.stk:=λe=>h (by grind[X.bd])
theorem W6{i g}{v}{s}(h:v.g=g):dX i v g s=.ok () s:=by
 simp_all[dX,bU,wY]
theorem oF{i g}{v}{s}(h:v.g≠g):dX i v g s=.over 3 i s:=by
 simp_all[dX,bU,zY]
def dU{w w'}{q}{a b c d}(h:w.heap[q]?=some (.cells #[a,b,c,d] 150 (0,0)))(f:I No w w'):
 w'.cell? (J q 0)=some a/\w'.cell? (J q 1)=some b/\w'.cell? (J q 2)=some c/\w'.cell? (J q 3)=some d/\(∀o,w'.frozen? (J q o)=false)/\q<w'.heap.size:=by
 have e:=(f.block q (aI h) id).trans h;exact⟨cr e rfl,cr e rfl,cr e rfl,cr e rfl,λo=>frozen_of_row _ _ o _ _ e,(aI e)⟩
theorem gV(w)(x y):((w.alloc x).alloc y).heap[w.heap.size]?=some x/\((w.alloc x).alloc y).heap[w.heap.size+1]?=some y/\I No w ((w.alloc x).alloc y):=by
 have h:=yY (w.alloc x) y;rw[World.size_alloc]at h;exact⟨by grind[Below.heap_alloc,yY],h,B6 (I.alloc _ _ _) (I.alloc _ _ _)⟩
def zE(w)(x y z):(((w.alloc x).alloc y).alloc z).heap[w.heap.size]?=some x/\(((w.alloc x).alloc y).alloc z).heap[w.heap.size+1]?=some y/\(((w.alloc x).alloc y).alloc z).heap[w.heap.size+1+1]?=some z/\I No w (((w.alloc x).alloc y).alloc z):=by
 grind[gV,yY,World.size_alloc,Below.heap_alloc,B6,I.alloc]
def kE{w a}{q}{c d e f}(h:I No w a)(b:w.heap.size<=q):I No w ((((a.setCell (J q 0) c).setCell (J q 1) d).setCell (J q 2) e).setCell (J q 3) f):=
 zG (zG (zG (zG h b) b) b) b
def Ye(n):-2147483648<=wr n/\wr n<=2147483647:=by
 grind[wr]
def CD(c)(n):bF c (vN (wr n)):=⟨by simp[vN],Ye n,by simp[vN],by simp[vN]⟩
def GF(c){t}(h:t.length<=4000):bF c (vT t):=⟨h,by simp[vT],by simp[vT],by simp[vT]⟩
def xC(c)(b):bF c (vB b):=by grind[bF,vB]
theorem xD(c):bF c vO:=by grind[bF,vO]
def Yj(g):(mJ g).length<=8:=by
 unfold mJ;repeat' split
 all_goals simp
def Yw(r)(s)(i)(g)(v)(w:E):Calls prog 185 #[U i,.string ⟨g.toArray⟩,bN r v] w (qM r s w (Y6 i g v s)):=by
 have M:=O CH;have R:=O FV;have N:=O xB;have y:=O sM;have P:=O SJ;have L:=O (FJ r v);obtain⟨B,D,z⟩:=gV w (.cells #[U v.g,.int .i32 v.n,.string ⟨v.t.toArray⟩,.pointer (pad r v.h)] 150) (.cells #[U 0,.int .i32 0,.string ⟨#[]⟩,.pointer none] 150);have m:=O z;have H:=O (λu=>dU (w':=u) B);have t:=O (λu=>dU (w':=u) D);clear z;clear B D;unfold bN at*;by_cases o:g=[33]
 .subst o;have d:Y6 i [33] v s=.ok (vB (!v.j3)) s:=rfl;rw[d];generalize v.j3=c at*;cases c;all_goals
   go_in;go_wp2_with fail;refine(L.u _).mono ?_;rintro e x ⟨rfl,a⟩;go_wp2_with fail;refine(N.u _ _).mono ?_;rintro e G ⟨rfl,f⟩;have b:=O (B6 a f);obtain⟨h,j,k,l,A,F⟩:=t.u _ b.u;clear a f;go_wp2;exact bodyPost_ret (by simp[results,results185,go_sem,h,j,k,l];rfl) rfl ⟨kE (B6 m.u b.u) (by omega),rfl,xC _ _,rfl⟩
 by_cases p:g=[116,121,112,101,111,102]
 .subst p;have d:Y6 i [116,121,112,101,111,102] v s=.ok (vT (mJ v.g)) s:=rfl;rw[d];have W:=Yj v.g;go_in;go_wp2_with fail;refine(P.u _ _ _ _ _).mono ?_;rintro e x ⟨rfl,a⟩;generalize mJ v.g=a2 at*;go_wp2_with fail;refine(R.u _ _).mono ?_;rintro e G ⟨rfl,f⟩;have b:=O (B6 a f);obtain⟨h,j,k,l,A,F⟩:=t.u _ b.u;clear a f;go_wp2;exact bodyPost_ret (by simp[results,results185,go_sem,h,j,k,l];rfl) rfl ⟨kE (B6 m.u b.u) (by omega),rfl,GF _ (by omega),rfl⟩
 have T:(g==[33])=false:=by simpa using o
 have V:(g==[116,121,112,101,111,102])=false:=by simpa using p
 by_cases q:v.g=1
 .have d:Y6 i g v s=.ok (vN (wr (-v.n))) s:=by
   unfold Y6;rw[zY o,zY p];exact(I5 (W6 q)).trans rfl
  rw[d];clear d;generalize v.g=vg at*;subst q;generalize v.n=n at*;go_in;go_wp2_with fail;refine(y.u _ _ _ _ _ _ _).mono ?_;rintro e x ⟨a,rfl⟩;simp only[if_true];have S:=O a;obtain⟨x0,x1,x2,x3,-,Z⟩:=H.u _ a;clear a;go_wp2_with fail;refine(M.u _ _).mono ?_;rintro e G ⟨rfl,f⟩;have b:=O (B6 S.u f);obtain⟨h,j,k,l,A,F⟩:=t.u _ b.u;clear f;go_wp2;exact bodyPost_ret (by simp[results,results185,go_sem,h,j,k,l,wrap32];rfl) rfl ⟨kE (B6 m.u b.u) (by omega),rfl,CD _ _,rfl⟩
 .have d:Y6 i g v s=.over 3 i s:=by
   unfold Y6;rw[zY o,zY p];exact I1 (oF q)
  rw[d];go_in;go_wp2_with fail;refine(y.u _ _ _ _ _ _ _).mono ?_;rintro e x ⟨a,rfl⟩;rw[zY q];exact⟨rfl,B6 m.u a,rfl,rfl⟩
def CL(i f q d p)(u s)(t r)(w:E):Calls prog 219 #[U i,.agg #[U f,.int .i32 q,.string u,t],.agg #[U d,.int .i32 p,.string s,r]] w λe c=>I No w c/\e=if f=1/\d=1 then .returned (.tuple #[.int .i32 q,.int .i32 p]) else ov 3 i []:=by
 have b:=O sM;obtain⟨z,A,y⟩:=gV w (.cells #[U f,.int .i32 q,.string u,t] 150) (.cells #[U d,.int .i32 p,.string s,r] 150);have g:=O y;have x:=O (λc=>dU (w':=c) z);have j:=O (λc=>dU (w':=c) A);by_cases m:f=1
 .subst m;by_cases n:d=1
  .subst n;rw[wY ⟨rfl,rfl⟩];go_in;go_wp2_with fail;refine(b.u _ _ _ _ _ _ _).mono ?_;rintro e v ⟨a,rfl⟩;simp;have k:=O a;obtain⟨F,G,H,L,-,B⟩:=j.u _ a;go_wp2_with fail;refine(b.u _ _ _ _ _ _ _).mono ?_;rintro e D ⟨o,rfl⟩;simp;have l:=O (B6 k.u o);obtain⟨P,R,S,T,-,M⟩:=x.u _ l.u;obtain⟨V,W,Z,z3,-,N⟩:=j.u _ l.u;go_wp2;go_quiet (fail);go_wp2;go_ret2;exact⟨B6 g.u (B6 l.u (I.drewN _ _ _)),rfl⟩
  .rw[zY (λh=>n h.2)];go_in;go_wp2_with fail;refine(b.u _ _ _ _ _ _ _).mono ?_;rintro e v ⟨a,rfl⟩;simp;have k:=O a;obtain⟨F,G,H,L,-,B⟩:=j.u _ a;go_wp2_with fail;refine(b.u _ _ _ _ _ _ _).mono ?_;rintro e D ⟨o,rfl⟩;rw[zY n];exact⟨rfl,B6 g.u (B6 k.u o),rfl⟩
 .rw[zY (λh=>m h.1)];go_in;go_wp2_with fail;refine(b.u _ _ _ _ _ _ _).mono ?_;rintro e v ⟨a,rfl⟩;rw[zY m];exact⟨rfl,B6 g.u a,rfl⟩
def tj(t:Y):(⟨t.toArray⟩:ByteArray).extract 0 (min (t.length:Int) 200).toNat=⟨(t.take 200).toArray⟩:=by
 have e:(min (t.length:Int) 200).toNat=min t.length 200:=by omega
 rw[e];apply ByteArray.ext;simp;omega
def Hm(t:Y)(w:E):Calls prog 218 #[.string ⟨t.toArray⟩] w λe a=>e=.returned (.agg #[U 4,.int .i32 0,.string ⟨(t.take 200).toArray⟩,.pointer none])/\I No w a:=by
 have d:=O FV;have g:=yY w (.cells #[U 0,.int .i32 0,.string ⟨#[]⟩,.pointer none] 150);have c:=O (λa=>dU (w':=a) g);have h:=tj t;generalize t.take 200=u at*;go_in;go_wp2_with fail;try rw[h]
 refine(d.u _ _).mono ?_;rintro e o ⟨rfl,b⟩;have f:=O b;obtain⟨i,j,k,l,m,n⟩:=c.u _ b;go_wp2;exact bodyPost_ret (by simp[results,results218,go_sem,i,j,k,l]) rfl ⟨rfl,kE (B6 (I.alloc _ _ _) f.u) (by omega)⟩
def Vk{d}{t e}(a:prog.underlying t=some (.pointer e)){w:E}(b):(Op.equalIn (d+1) t (.pointer none) (.pointer (some b))).run prog w=.ok false w:=by
 simp[Op.equalIn,run_underlying a]
theorem QK{d}{t e}(f:prog.underlying t=some (.pointer e)){w:E}{n}(c:(sizeOf e).run prog w=.ok (n+1) w){a b}{r}(h:(sameAddr a b).run prog w=.ok r w):(Op.equalIn (d+1) t (.pointer (some a)) (.pointer (some b))).run prog w=.ok r w:=by
 simp[Op.equalIn,run_underlying f,c,h]
def DF{P w}{L M v z}{G}{N}{s}{g}(h:Rm P w L M v G N s g z){a b}(x:∀i,a=some i->i<s.c.T.length)(y:∀i,b=some i->i<s.c.T.length){c}(A:I No w c):
 (Op.equalIn 9999 148 (.pointer (pad g.tb a)) (.pointer (pad g.tb b))).run prog c=.ok (a==b) c:=by
 obtain⟨a3,_,k,_⟩:=(h.y A).mem;have l:prog.underlying 148=some (.pointer 174):=by kernel_rfl
 cases b with
 |none=>exact QH g.tb a c
 |some j=>
  obtain⟨t,F⟩:∃t,s.c.T[j]?=some t:=⟨_,gQ (y j rfl)⟩;obtain⟨f,pv,V,Z,m,R,n,_⟩:=k j t F;have p:pad g.tb (some j)=some (J f 0):=by simp[pad,lQ,m]
  rw[p];cases a with
  |none=>exact Vk l _
  |some i=>
   obtain⟨u,H⟩:∃t,s.c.T[i]?=some t:=⟨_,gQ (x i rfl)⟩;obtain⟨d,a4,W,a2,q,S,r,_⟩:=k i u H;have o:pad g.tb (some i)=some (J d 0):=by simp[pad,lQ,q]
   have D:(sizeOf 174).run prog c=.ok 4 c:=by kernel_rfl
   rw[o];by_cases T:i=j
   .grind[QK,run_sameAddr_same]
   .have B:((J d 0):Addr)≠(J f 0):=λe=>by
     grind
    rw[QK l D (run_sameAddr_other c B r n)];simp_all
section
variable{d w:E}{b c a z:Nat}{G:Int->Option Int}{N:List C}{s:Ms}{g:Gh}
def Ht(h:Rm d w b c a G N s g z)(a5){p t}(W:bF s.c p)(Z:bF s.c t):Calls prog 184 #[U a5,.string ⟨([61,61]).toArray⟩,bN g.tb p,bN g.tb t] w (qM g.tb s w (.ok (vB (p.beq t)) s)):=by
 have P:=O xB;have M:=O (λy (hc:I No w y)=>DF h W.lt Z.lt hc);obtain⟨f,j,m,R⟩:=p;obtain⟨i,k,n,S⟩:=t;obtain⟨r,x⟩:∃r,r=(R==S):=⟨_,rfl⟩;have HR:=O x;simp only[bN,Vl.beq]at*;rw[<-x]at M⊢;clear x;generalize pad g.tb R=pa at*;generalize pad g.tb S=a6 at*;obtain⟨-,-,a2,T⟩:=zE w (.cells #[U f,.int .i32 j,.string ⟨m.toArray⟩,.pointer pa] 150) (.cells #[U i,.int .i32 k,.string ⟨n.toArray⟩,.pointer a6] 150) (.cells #[U 0,.int .i32 0,.string ⟨#[]⟩,.pointer none] 150);have H:=O T;have L:=O (λy=>dU (w':=y) a2);have E:=M.u _ T;have a3:f≠i\/(f=i/\j≠k)\/(f=i/\j=k/\m≠n)\/(f=i/\j=k/\m=n):=by
  by_cases u:f=i<;>by_cases h2:j=k<;>by_cases h3:m=n<;>simp[*]
 obtain⟨q,o⟩:∃q,q=(f==i&&j==k&&m==n&&r):=⟨_,rfl⟩;rw[<-o];obtain u|⟨rfl,u⟩|⟨rfl,rfl,u⟩|⟨rfl,rfl,rfl⟩:=a3;rotate_left 3
 .simp at o;subst o;cases q;all_goals
   go_in;go_wp2_with fail;refine(P.u _ _).mono ?_;rintro e a7 ⟨rfl,v⟩;have l:=O v;obtain⟨A,B,D,F,V,lt⟩:=L.u _ l.u;go_wp2;exact bodyPost_ret (by simp[results,results184,go_sem,A,B,D,F];rfl) rfl ⟨kE (B6 H.u l.u) (by omega),rfl,xC _ _,rfl⟩
 all_goals
  have a4:q=false:=by simp[o,u]
  subst a4;clear o E;go_in;go_wp2_with fail;refine(P.u _ _).mono ?_;rintro e a7 ⟨rfl,v⟩;have l:=O v;obtain⟨A,B,D,F,V,lt⟩:=L.u _ l.u;clear v;go_wp2;exact bodyPost_ret (by simp[results,results184,go_sem,A,B,D,F];rfl) rfl ⟨kE (B6 H.u l.u) (by omega),rfl,xC _ _,rfl⟩
def Zd(a3:Rm d w b c a G N s g z)(i)(h){f j}(V:bF s.c f)(W:bF s.c j):Calls prog 184 #[U i,.string ⟨h.toArray⟩,bN g.tb f,bN g.tb j] w (qM g.tb s w (lD i h f j s)):=by
 by_cases T:h=[61,61]
 .subst T;exact Ht a3 i V W
 have HN:=O CH;have HT:=O xB;have HD:=O sM;have D:=O CL;obtain⟨a4,a5,a6,ca⟩:=zE w (.cells #[U f.g,.int .i32 f.n,.string ⟨f.t.toArray⟩,.pointer (pad g.tb f.h)] 150) (.cells #[U j.g,.int .i32 j.n,.string ⟨j.t.toArray⟩,.pointer (pad g.tb j.h)] 150) (.cells #[U 0,.int .i32 0,.string ⟨#[]⟩,.pointer none] 150);have p:=O ca;have a8:=O (λu=>dU (w':=u) a4);have a9:=O (λu=>dU (w':=u) a5);have H:=O (λu=>dU (w':=u) a6);have ae:=V.1;have af:=W.1;clear a4 a5 a6 a3 V W ca;unfold bN at*;have e1:(h==[61,61])=false:=by simpa using T
 obtain⟨R,k⟩:∃R,R=lD i h f j s:=⟨_,rfl⟩;rw[<-k];unfold lD at k;rw[zY T]at k;by_cases m:h=[43]/\f.g=4
 .rw[wY m]at k;obtain⟨rfl,m⟩:=m;by_cases t:j.g=4
  .rw[I5 (W6 t)]at k;have hl:((f.t++j.t).take 200).length<=4000:=by simp;omega
   generalize hu:(f.t++j.t).take 200=ac at*;replace k:R=.ok (vT ac) s:=k;subst k;have a2:Hid (∀w:E,_):=λw=>Hm (f.t++j.t) w;rw[hu]at a2;have ad:(⟨f.t.toArray⟩:ByteArray)++⟨j.t.toArray⟩=⟨(f.t++j.t).toArray⟩:=by apply ByteArray.ext;simp
   generalize f.g=L at*;generalize j.g=bg at*;subst m t;go_in;go_wp2_with fail;refine(HD.u _ _ _ _ _ _ _).mono ?_;rintro e v ⟨l,rfl⟩;simp only[if_true];have K1:=O l;obtain⟨x0,x1,x2,x3,-,ai⟩:=a8.u _ l;obtain⟨u0,u1,u2,u3,-,aj⟩:=a9.u _ l;clear l;go_wp2_with fail;refine(a2.u _).mono ?_;rintro e a7 ⟨rfl,o⟩;have n:=O (B6 K1.u o);obtain⟨x,y,A,B,fz,lt⟩:=H.u _ n.u;clear o x0 x1 x2 x3 u0 u1 u2 u3;go_wp2;exact bodyPost_ret (by simp[results,results184,go_sem,x,y,A,B];rfl) rfl ⟨kE (B6 p.u n.u) (by omega),rfl,GF _ hl,rfl⟩
  .rw[I1 (oF t)]at k;subst k;generalize f.g=L at*;subst m;go_in;go_wp2_with fail;refine(HD.u _ _ _ _ _ _ _).mono ?_;rintro e v ⟨l,rfl⟩;rw[zY t];exact⟨rfl,B6 p.u l,rfl,rfl⟩
 rw[zY m]at k;have F:h=[43]->¬f.g=4:=λe1 e2=>m ⟨e1,e2⟩;by_cases q:f.g=1/\j.g=1
 .rw[I5 (W6 q.1),I5 (W6 q.2)]at k;have ab:h=[43]\/h=[45]\/h=[42]\/(h≠[43]/\h≠[45]/\h≠[42]):=by
   by_cases M:h=[43]<;>by_cases P:h=[45]<;>by_cases S:h=[42]<;>simp[*]
  obtain rfl|rfl|rfl|⟨M,P,S⟩:=ab;rotate_left 3
  .rw[zY M,zY P,zY S]at k;have d1:(h==[43])=false:=by simpa using M
   have d2:(h==[45])=false:=by simpa using P
   have d3:(h==[42])=false:=by simpa using S
   obtain⟨r,Z⟩:∃r,r=decide (f.n<j.n):=⟨_,rfl⟩;rw[<-Z]at k;replace k:R=.ok (vB r) s:=k;subst k;have hd:=Z.symm;clear Z m F;generalize f.g=L at*;generalize j.g=bg at*;obtain⟨rfl,rfl⟩:=q;cases r;all_goals
    go_in;go_wp2_with fail;refine(D.u _ _ _ _ _ _ _ _ _ _).mono ?_;rintro e v ⟨l,rfl⟩;simp only[and_self,if_true];go_wp2_with fail;refine(HT.u _ _).mono ?_;rintro e a7 ⟨rfl,o⟩;have n:=O (B6 l o);obtain⟨x,y,A,B,fz,lt⟩:=H.u _ n.u;clear l o;go_wp2;exact bodyPost_ret (by simp[results,results184,go_sem,x,y,A,B];rfl) rfl ⟨kE (B6 p.u n.u) (by omega),rfl,xC _ _,rfl⟩
  all_goals
   subst k;clear m F;generalize f.g=L at*;generalize j.g=bg at*;obtain⟨rfl,rfl⟩:=q;go_in;go_wp2_with fail;refine(D.u _ _ _ _ _ _ _ _ _ _).mono ?_;rintro e v ⟨l,rfl⟩;simp only[and_self,if_true];go_wp2_with fail;refine(HN.u _ _).mono ?_;rintro e a7 ⟨rfl,o⟩;have n:=O (B6 l o);obtain⟨x,y,A,B,fz,lt⟩:=H.u _ n.u;clear l o;go_wp2;exact bodyPost_ret (by simp[results,results184,go_sem,x,y,A,B,wrap32];rfl) rfl ⟨kE (B6 p.u n.u) (by omega),rfl,CD _ _,rfl⟩
 .have aa:R=.over 3 i s:=by
   by_cases t:f.g=1
   .grind[I5,W6,I1,oF]
   .grind[I1,oF]
  subst aa;clear k;have ah:(h==[43]&&f.g==4)=false:=by simpa using F
  by_cases h4:h=[43]
  .subst h4;have h5:=F rfl;go_in;go_wp2_with fail;refine(D.u _ _ _ _ _ _ _ _ _ _).mono ?_;rintro e v ⟨l,rfl⟩;rw[zY q];exact⟨rfl,B6 p.u l,rfl,rfl⟩
  .have d1:(h==[43])=false:=by simpa using h4
   go_in;go_wp2_with fail;refine(D.u _ _ _ _ _ _ _ _ _ _).mono ?_;rintro e v ⟨l,rfl⟩;rw[zY q];exact⟨rfl,B6 p.u l,rfl,rfl⟩
end
def Tbl (w:E):Prop:=Lib.TabIs prog w "internal/strconv.uint64pow10" .u64 Lib.pow10Tab/\∃g,prog.globalNamed "internal/strconv.uint64pow10"=some g/\g<w.heap.size
theorem Tbl.P{w w'}(h:Tbl w)(a:I No w w'):Tbl w':=by
 obtain⟨e,g,c,b⟩:=h;have d:=a.block g b id;refine⟨?_,g,c,yQ b a.size⟩;grind[Lib.TabIs,World.var?]
def Ly(w)(a):I No w (Go.Sort.grow w a):=⟨rfl,rfl,rfl,by simp,λk b _=>by grind[Go.Sort.grow]⟩
def Yv(h)(v)(u:-2147483648<=v.n/\v.n<=2147483647)(w)(j:Tbl w):Calls prog 97 #[bN h v] w λe a=>e=.returned (.string ⟨v.kz.toArray⟩)/\I No w a:=by
 have o:Hid (∀a:E,I No w a->Calls prog 139 #[U v.n] a λe l=>e=.returned (.string ⟨(Lib.itoa v.n).toArray⟩)/\I No a l):=λa s=>by
  refine(Tryz.strconv_Itoa v.n (by omega) (by omega) a (j.P s).1).mono ?_;rintro e l ⟨rfl,q,t,rfl⟩;exact⟨rfl,B6 (I.drewN No _ q) (Ly _ t)⟩
 have n:=O Tryz.strconv_FormatBool;have p:=O SJ;have r:=yY w (.cells #[U v.g,.int .i32 v.n,.string ⟨v.t.toArray⟩,.pointer (pad h v.h)] 150);have b:=O (I.alloc No w (.cells #[U v.g,.int .i32 v.n,.string ⟨v.t.toArray⟩,.pointer (pad h v.h)] 150));clear r j;have i:v.kz=if v.g=1 then Lib.itoa v.n else if v.g=2 then Lib.formatBool (v.n==1) else if v.g=4 then v.t else mJ v.g:=rfl;rw[i];clear i;unfold bN;by_cases c:v.g=1
 .rw[wY c];generalize v.g=k at*;subst c;generalize Lib.itoa v.n=x at*;go_in;go_wp2_with fail;refine(o.u _ b.u).mono ?_;rintro e m ⟨rfl,g⟩;go_wp2;go_ret;exact⟨rfl,B6 b.u g⟩
 rw[zY c];by_cases d:v.g=2
 .rw[wY d];generalize v.g=k at*;subst d;go_in;go_wp2_with fail;refine(n.u _ _).mono ?_;rintro e m ⟨rfl,rfl⟩;go_wp2;go_ret;exact⟨rfl,b.u⟩
 rw[zY d];by_cases f:v.g=4
 .rw[wY f];generalize v.g=k at*;subst f;go_in;go_wp2;go_ret;exact⟨rfl,b.u⟩
 rw[zY f];go_in;go_wp2_with fail;refine(p.u _ _ _ _ _).mono ?_;rintro e m ⟨rfl,g⟩;go_wp2;go_ret;exact⟨rfl,B6 b.u g⟩
section
variable{a w:E}{c d b z:Nat}{G:Int->Option Int}{N:List C}{s:Ms}{g:Gh}
def Rm.jy(h:Rm a w c d b G N s g z){v}(o:bF s.c v)(q:16<=v.g):∃j t e m,v.h=some j/\s.c.T[j]?=some t/\t.k=v.g/\g.tb[j]?=some e/\pad g.tb v.h=some (J e 0)/\m+s.ln.length+s.ev.length+4000*s.fu=z/\oV a.heap.size w g m j t:=by
 obtain⟨m,r,i,_⟩:=h.mem;obtain⟨_,_,_,f⟩:=o;cases l:v.h with
 |none=>grind
 |some j=>
  rw[l]at f;obtain⟨t,n,u⟩:=f;have k:=i j t n;obtain⟨e,_,_,_,p,_⟩:=k;grind[pad]
theorem uB{v}{j}{t}(h:v.h=some j)(e:s.c.T[j]?=some t):eW v s=.ok t s:=by
 simp_all[eW,bU,Option.bind_some]
def Yq(h:Rm a w c d b G N s g z)(a3){v}(Z:bF s.c v)(x)(hx:x.length<=1000000):Calls prog 180 #[U a3,bN g.tb v,.string ⟨x.toArray⟩] w (qM g.tb s w (lN a3 v x s)):=by
 have HN:=O CH;have HO:=O uH;have T:=O sM;obtain⟨a8,a9,V⟩:=gV w (.cells #[U v.g,.int .i32 v.n,.string ⟨v.t.toArray⟩,.pointer (pad g.tb v.h)] 150) (.cells #[U 0,.int .i32 0,.string ⟨#[]⟩,.pointer none] 150);have l:=O V;have a6:=O (λj=>dU (w':=j) a8);have a2:=O (λj=>dU (w':=j) a9);clear a8 a9;obtain⟨R,f⟩:∃R,R=lN a3 v x s:=⟨_,rfl⟩;rw[<-f];unfold lN at f;by_cases n:v.g=32/\x=[108,101,110,103,116,104]
 .rw[wY n]at f;obtain⟨a4,t,p,af,A,k,e3,B,e5,-,e6⟩:=h.jy Z (by omega);rw[I5 (uB A k)]at f;replace f:R=.ok (vN (wr t.l.length)) s:=f;have aj:=(h.ok.T a4 t k).fq;have ak:=h.ok.th;obtain⟨b',pv,la,lc,D,_,m,_⟩:=e6;rw[B]at D;cases D;have r:(((w.alloc (.cells #[U v.g,.int .i32 v.n,.string ⟨v.t.toArray⟩,.pointer (pad g.tb v.h)] 150)).alloc (.cells #[U 0,.int .i32 0,.string ⟨#[]⟩,.pointer none] 150))).heap[p]?=_:=(V.block p (aI m) id).trans m;have ab:=cell_of_row _ _ 1 _ _ _ r;simp only[List.getElem?_toArray,List.getElem?_cons_succ,List.getElem?_cons_zero]at ab;have lb:=(aI r);simp only[World.size_alloc]at lb;clear m r V h Z k B;subst f;unfold bN;obtain⟨n,rfl⟩:=n;generalize pad g.tb v.h=ag at*;subst e5;generalize v.g=vg at*;subst n;generalize t.l.length=a5 at*;have hw:wr (a5:Int)=a5:=by unfold wr;omega
  have aa:=CD s.c (a5:Int);rw[hw]at aa⊢;go_in;go_wp2_with fail;refine(HN.u _ _).mono ?_;rintro e ai ⟨rfl,F⟩;have y:=O F;obtain⟨L,M,P,S,fz,lt⟩:=a2.u _ y.u;clear F;go_wp2;exact bodyPost_ret (by simp[results,results180,go_sem,L,M,P,S];rfl) rfl ⟨kE (B6 l.u y.u) (by omega),rfl,aa,rfl⟩
 rw[zY n]at f;have W:v.g=32->¬x=[108,101,110,103,116,104]:=λA k=>n ⟨A,k⟩;by_cases o:v.g=16
 .rw[I5 (W6 o)]at f;obtain⟨a4,t,p,af,A,k,e3,B,e5,-,e6⟩:=h.jy Z (by omega);rw[I5 (uB A k)]at f;replace f:R=.ok ((t.p x).getD vO) s:=f;have ac:=h.ok.T a4 t k;obtain⟨b',pv,la,lc,D,_,m,f4,_⟩:=e6;rw[B]at D;cases D;rw[wY (e3.trans o)]at f4;obtain⟨q,rfl,a7,f6⟩:=f4;have ql:=(h.low q _ a7).2;have u:Hid (∀j,I No w j->(Instr.lookup 171 (.map (some q)) (.string ⟨x.toArray⟩) true).run prog j=.ok (.tuple #[((t.p x).map (bN g.tb)).getD (.agg #[U 0,.int .i32 0,.string ⟨#[]⟩,.pointer none]),.bool (t.p x).isSome]) j/\j.cell? (J p 0)=some (.map (some q))/\p<j.heap.size):=λj hc=>by
   have hz:(zeroValue 150).run prog j=.ok (.agg #[U 0,.int .i32 0,.string ⟨#[]⟩,.pointer none]) j:=by kernel_rfl
   have:=(f6.P (hc.block q ql id)).look wJ underlying171 hz (xT x hx) true;have r:=(hc.block p (aI m) id).trans m;refine⟨by simpa[kG]using this,cr r rfl,(aI r)⟩
  clear m a7 f6 V h Z k B W;have W:decide (v.g=32)=false:=by simp[o]
  unfold bN;generalize pad g.tb v.h=ag at*;subst e5;generalize v.g=vg at*;subst o;cases hp:t.p x with
  |none=>
   rw[hp]at f u;simp only[Option.getD_none]at f;subst f;go_in;go_wp2_with fail;refine(T.u _ _ _ _ _ _ _).mono ?_;rintro e H ⟨i,rfl⟩;simp only[if_true];obtain⟨l1,l2,l3⟩:=u.u H (B6 l.u i);have K1:=O i;obtain⟨x0,x1,x2,x3,-,ae⟩:=a6.u _ i;clear i;go_wp2_with fail;refine(HO.u _).mono ?_;rintro e ai ⟨rfl,F⟩;have y:=O (B6 K1.u (B6 (I.alloc No _ _) F));obtain⟨L,M,P,S,fz,lt⟩:=a2.u _ y.u;clear F x0 x1 x2 x3 l1 l2;go_wp2;exact bodyPost_ret (by simp[results,results180,go_sem,L,M,P,S];rfl) rfl ⟨kE (B6 l.u y.u) (by omega),rfl,xD _,rfl⟩
  |some ah=>
   rw[hp]at f u;simp only[Option.getD_some]at f;subst f;have ad:=ac.p x ah hp;simp only[Option.map_some,Option.getD_some,bN]at u;go_in;go_wp2_with fail;refine(T.u _ _ _ _ _ _ _).mono ?_;rintro e H ⟨i,rfl⟩;simp only[if_true];obtain⟨l1,l2,l3⟩:=u.u H (B6 l.u i);have K1:=O i;obtain⟨x0,x1,x2,x3,-,ae⟩:=a6.u _ i;obtain⟨L,M,P,S,fz,lt⟩:=a2.u _ i;clear i;go_wp2;exact bodyPost_ret (by simp[results,results180,go_sem,L,M,P,S,lt];rfl) rfl ⟨B6 (kE (B6 l.u K1.u) (by omega)) (I.alloc _ _ _),rfl,ad,rfl⟩
 .rw[I1 (oF o)]at f;subst f;unfold bN;by_cases h3:v.g=32
  .have h4:(x==[108,101,110,103,116,104])=false:=by simpa using W h3
   clear W n;generalize v.g=vg at*;subst h3;go_in;go_wp2_with fail;refine(T.u _ _ _ _ _ _ _).mono ?_;rintro e H ⟨i,rfl⟩;rw[zY o];exact⟨rfl,B6 l.u i,rfl,rfl⟩
  .go_in;go_wp2_with fail;refine(T.u _ _ _ _ _ _ _).mono ?_;rintro e H ⟨i,rfl⟩;rw[zY o];exact⟨rfl,B6 l.u i,rfl,rfl⟩
end
def VV(i g t f c)(u s)(q r)(w:E)(M:-2147483648<=c/\c<=2147483647):Calls prog 136 #[U i,.agg #[U g,.int .i32 t,.string u,.pointer q],.agg #[U f,.int .i32 c,.string s,.pointer r]] w λe d=>I No w d/\e=if g=32/\f=1 then .returned (.tuple #[.pointer q,U c]) else ov 3 i []:=by
 have b:=O sM;obtain⟨z,A,y⟩:=gV w (.cells #[U g,.int .i32 t,.string u,.pointer q] 150) (.cells #[U f,.int .i32 c,.string s,.pointer r] 150);have j:=O y;have x:=O (λd=>dU (w':=d) z);have k:=O (λd=>dU (w':=d) A);by_cases n:g=32
 .subst n;by_cases o:f=1
  .subst o;rw[wY ⟨rfl,rfl⟩];go_in;go_wp2_with fail;refine(b.u _ _ _ _ _ _ _).mono ?_;rintro e v ⟨a,rfl⟩;simp;have l:=O a;obtain⟨F,G,H,L,-,B⟩:=k.u _ a;go_wp2_with fail;refine(b.u _ _ _ _ _ _ _).mono ?_;rintro e D ⟨p,rfl⟩;simp;have m:=O (B6 l.u p);obtain⟨R,S,T,V,-,N⟩:=x.u _ m.u;obtain⟨W,Z,z2,z3,-,P⟩:=k.u _ m.u;go_wp2;go_quiet (fail);go_wp2;go_ret2;exact⟨B6 j.u (B6 m.u (I.drewN _ _ _)),rfl⟩
  .rw[zY (λh=>o h.2)];go_in;go_wp2_with fail;refine(b.u _ _ _ _ _ _ _).mono ?_;rintro e v ⟨a,rfl⟩;simp;have l:=O a;obtain⟨F,G,H,L,-,B⟩:=k.u _ a;go_wp2_with fail;refine(b.u _ _ _ _ _ _ _).mono ?_;rintro e D ⟨p,rfl⟩;rw[zY o];exact⟨rfl,B6 j.u (B6 l.u p),rfl⟩
 .rw[zY (λh=>n h.1)];go_in;go_wp2_with fail;refine(b.u _ _ _ _ _ _ _).mono ?_;rintro e v ⟨a,rfl⟩;rw[zY n];exact⟨rfl,B6 j.u a,rfl⟩
theorem ZB{h:Type}{k}(b:h->List Value)(g:∀x,(b x).length=k):∀(l:List h) (i c) (f),c<k->(l.flatMap b)[i*k+c]?=(b l[i])[c]?
 |[],_,_,f,_=>by grind
 |a::r,0,c,_,d=>by
  grind
 |a::r,i+1,c,f,d=>by
  have e:(i+1)*k+c=(b a).length+(i*k+c):=by rw[g,Nat.succ_mul];omega
  rw[List.flatMap_cons,e,List.getElem?_append_right (by omega),Nat.add_sub_cancel_left,ZB b g r i c (by grind) d];simp
def LL{tb}{l:List Vl}{j}{v}(h:l[j]?=some v):(l.flatMap (fJ tb))[j*4]?=some (U v.g)/\(l.flatMap (fJ tb))[j*4+1]?=some (.int .i32 v.n)/\(l.flatMap (fJ tb))[j*4+2]?=some (.string ⟨v.t.toArray⟩)/\(l.flatMap (fJ tb))[j*4+3]?=some (.pointer (pad tb v.h)):=by
 obtain⟨a,e⟩:=List.getElem?_eq_some_iff.1 h;have k:=λo b=>ZB (k:=4) (fJ tb) (λ_=>rfl) l j o a b;subst e;exact⟨k 0 (by omega),k 1 (by omega),k 2 (by omega),k 3 (by omega)⟩
section
variable{a w:E}{c d b z:Nat}{G:Int->Option Int}{N:List C}{s:Ms}{g:Gh}
def CM(a5:Rm a w c d b G N s g z)(i){v f}(hv:bF s.c v)(ha:bF s.c f):Calls prog 181 #[U i,bN g.tb v,bN g.tb f] w (qM g.tb s w (mF i v f s)):=by
 have HO:=O uH;have B:=O (λi vg vn ug vt ut vp up w=>VV i vg vn ug f.n vt ut vp up w ha.2.1);obtain⟨-,-,a7,ca⟩:=zE w (.cells #[U v.g,.int .i32 v.n,.string ⟨v.t.toArray⟩,.pointer (pad g.tb v.h)] 150) (.cells #[U f.g,.int .i32 f.n,.string ⟨f.t.toArray⟩,.pointer (pad g.tb f.h)] 150) (.cells #[U 0,.int .i32 0,.string ⟨#[]⟩,.pointer none] 150);have n:=O ca;have Z:=O (λl=>dU (w':=l) a7);obtain⟨R,h⟩:∃R,R=mF i v f s:=⟨_,rfl⟩;rw[<-h];unfold mF at h;by_cases q:v.g=32/\f.g=1
 .rw[I5 (W6 q.1),I5 (W6 q.2)]at h;obtain⟨ab,t,o,ah,e1,e2,e3,e4,e5,-,e6⟩:=a5.jy hv (by omega);rw[I5 (uB e1 e2)]at h;replace h:R=.ok (if 0<=f.n then t.l.getD f.n.toNat vO else vO) s:=h;have a9:=a5.ok.T ab t e2;obtain⟨b',pv,u,y,a2,_,a3,_,a6,_⟩:=e6;rw[e4]at a2;cases a2;have HQ:Hid (∀l,I No w l->l.cell? (J o 1)=some (.slice u t.l.length y)/\o<l.heap.size/\l.ownsRow a.heap.size 150 4 (.slice u t.l.length y) t.l.length (t.l.flatMap (fJ g.tb))):=λl hc=>by
   have a4:=(hc.block o (aI a3) id).trans a3;exact⟨cr a4 rfl,(aI a4),A3 a6 hc λ_ _ x=>x⟩
  have HH:=O RK;unfold bN;generalize pad g.tb v.h=ai at*;subst e5;generalize v.g=vg at*;generalize f.g=ag at*;obtain⟨rfl,rfl⟩:=q;generalize f.n=x at*;by_cases r:0<=x/\x<t.l.length
  .obtain⟨k,rfl⟩:=Int.eq_ofNat_of_zero_le r.1;have M:k<t.l.length:=by omega
   rw[wY r.1]at h;have hg:t.l.getD (Int.toNat k) vO=t.l[k]:=by rw[tQ,lQ,gQ M];rfl
   rw[hg]at h;have aa:=a9.l _ (mQ M);have L:=LL (tb:=g.tb) (gQ M);generalize t.l[k]=aj at*;subst h;have H:decide (0<=(k:Int)/\k<(t.l.length:Int))=true:=by simpa using r
   go_in;go_wp2_with fail;refine(B.u _ _ _ _ _ _ _ _ _).mono ?_;rintro e m ⟨j,rfl⟩;simp;obtain⟨P,q2,q3⟩:=HQ.u m (B6 n.u j);have p:=O j;have A:=O (HH.u o u _ y k m P);go_wp2_with fail;refine A.u.mono ?_;rintro e ad ⟨rfl,rfl⟩;rw[H];obtain⟨gl,rfl,-,af,ae,a8,F⟩:=D4 q3 (by omega);have v0:=F _ _ L.1;have v1:=F _ _ L.2.1;have v2:=F _ _ L.2.2.1;obtain⟨S,T,V,W,fz,lt⟩:=Z.u _ p.u;unfold maxLen at a8;go_wp2;exact bodyPost_ret (by simp[results,results181,go_sem,S,T,V,W];rfl) rfl ⟨kE (B6 n.u p.u) (by omega),rfl,aa,rfl⟩
  .have D:R=.ok vO s:=by
    rw[h];by_cases h0:0<=x
    .grind
    .grind
   subst D;clear h;have H:decide (0<=x/\x<t.l.length)=false:=by simpa using r
   go_in;go_wp2_with fail;refine(B.u _ _ _ _ _ _ _ _ _).mono ?_;rintro e m ⟨j,rfl⟩;simp;obtain⟨P,q2,q3⟩:=HQ.u m (B6 n.u j);have p:=O j;have A:=O (HH.u o u _ y x m P);go_wp2_with fail;refine A.u.mono ?_;rintro e ad ⟨rfl,rfl⟩;rw[H];go_wp2_with fail;refine(HO.u _).mono ?_;rintro e ak ⟨rfl,ac⟩;have K3:=O (B6 p.u ac);obtain⟨S,T,V,W,fz,lt⟩:=Z.u _ K3.u;go_wp2;exact bodyPost_ret (by simp[results,results181,go_sem,S,T,V,W];rfl) rfl ⟨kE (B6 n.u K3.u) (by omega),rfl,xD _,rfl⟩
 .have D:R=.over 3 i s:=by
   by_cases h3:v.g=32
   .grind[I5,W6,I1,oF]
   .grind[I1,oF]
  subst D;clear h;unfold bN;go_in;go_wp2_with fail;refine(B.u _ _ _ _ _ _ _ _ _).mono ?_;rintro e m ⟨j,rfl⟩;rw[zY q];exact⟨rfl,B6 n.u j,rfl,rfl⟩
end
def bk(a:List Nat)(v:Vl)(_:List PanicEntry):Ending:=.panicked [{v:=.iface 156 (bN a v),recovered:=false}]
def RP(h:E)(f k j:Nat)(G:Int->Option Int)(N:List C)(z:Nat)(w:E)(g:Gh)(s:Ms){m}(n:m->Ms->Gh->E->Value->Prop)(r:Rr m)(e:Ending)(d:E):Prop:=match r with
 |.stk=>False
 |.ok a c=>∃b v,e=.returned v/\aH h f w g d b/\Rm h d f k j G N c b z/\Gr s.c c.c/\n a c b d v
 |.over x i c=>∃b l,e=ov x i l/\aH h f w g d b/\Rm h d f k j G N c b z
 |.back u c=>∃b l,e=bk b.tb u l/\aH h f w g d b/\Rm h d f k j G N c b z/\Gr s.c c.c/\bF c.c u
section
variable{d w b:E}{a f e z:Nat}{G:Int->Option Int}{N:List C}{s:Ms}{g:Gh}
def Rm.kh(h:Rm d w a f e G N s g z){u:Option Nat}(F:hY s.c u){q m}(v:I No w b)(W:w.heap.size<=q)(V:w.heap.size<=m)(Z:q≠m)(P:fM 3 b q 0 (λ_=>none))(H:b.heap[m]?=some (.cells #[.map (some q),.pointer (pad g.sb u)] 147 (0,0))):
 ∃t,Rm d b a f e G N {s with c:={s.c with S:=s.c.S++[⟨λ_=>none,u⟩]}} t z/\aH d a w g b t/\pad t.sb (some s.c.S.length)=some (J m 0):=by
 obtain⟨T,R,a3⟩:=P.isMap;have A:g.sb<+:g.sb++[m]:=List.prefix_append _ _;have D:∀k,k<w.heap.size->(if k=q then some (Rl.o s.c.S.length) else if k=m then some (.s s.c.S.length) else g.ow k)=g.ow k:=λk y=>by grind
 refine⟨⟨g.tb,g.sb++[m],λk=>if k=q then some (.o s.c.S.length) else if k=m then some (.s s.c.S.length) else g.ow k⟩,?_,⟨v.mono λ_ _ x=>x.elim,λk r y n=>(D k y).symm.trans n,List.prefix_refl _,A⟩,?_⟩
 .refine h.gen (d:=0) v (λk _ x=>x.elim) (h.rows v λk _ x=>x.elim) ⟨List.prefix_refl _,A,D⟩ h.tl (by simp[h.sl]) (λk r y p=>?_) (λk r _ x=>x.elim) (h.ok.kh F) (by grind) (λi a4 M=>.inl ⟨M,λk _ x=>x.elim⟩) (λi q' o=>?_)
  .simp only at p;split at p
   .grind
   .split at p
    .grind
    .have:=(h.low k r p).2;omega
  .simp only at o;obtain B|B:=Nat.lt_or_ge i s.c.S.length
   .grind
   .rw[List.getElem?_append_right B]at o;obtain n|n:=Nat.eq_zero_or_pos (i-s.c.S.length)
    .have L:i=s.c.S.length:=by omega
     subst L;rw[n]at o;simp at o;subst o;refine .inr λa2 m' _ _ _=>⟨m,q,by simp[h.sl],?_,?_,wY rfl,(show fM 3 b q 0 _ from ?_).more (wQ _)⟩
     .grind
     .rw[H,J6 A (λj n=>by rw[h.sl];exact F j n)]
     .have n:lJ (λ_=>none) g.tb=λ_=>none:=by
       funext l;cases l<;>try rfl
       rename_i k x;cases k<;>rfl
      grind
    grind
 .simp[pad,lQ,h.sl]
def SG(h:Rm d w a f e G N s g z){u:Option Nat}(o:hY s.c u):Calls prog 58 #[.pointer (pad g.sb u)] w (RP d a f e G N z w g s (λj i c _ v=>j<i.c.S.length/\v=.pointer (pad c.sb (some j))) (eX u s)):=by
 have n:I No w ((w.alloc (.map #[] 0)).alloc (.cells #[.map (some w.heap.size),.pointer (pad g.sb u)] 147)):=B6 (I.alloc _ _ _) (I.alloc _ _ _);have q:=(fM.new 3 w 0).P (w':=(w.alloc (.map #[] 0)).alloc (.cells #[.map (some w.heap.size),.pointer (pad g.sb u)] 147)) (Below.heap_alloc _ _ _ (by simp));obtain⟨c,l,m,r⟩:=h.kh o n (vQ _) (by omega) (by omega) q (gV w _ _).2.1;have k:Hid (RP d a f e G N z w g s (λj i c _ v=>j<i.c.S.length/\v=.pointer (pad c.sb (some j))) (eX u s) (.returned (pV (w.heap.size+1))) ((w.alloc (.map #[] 0)).alloc (.cells #[.map (some w.heap.size),.pointer (pad g.sb u)] 147))):=
  ⟨c,_,rfl,m,l,IZ u,by simp,by grind⟩;generalize pad g.sb u=p at*;have t:=@run_makeMap prog;go_in;go_wp2;go_ret;exact k.u
def Rm.scope(h:Rm d w a f e G N s g z){j}{q}(t:s.c.S[j]?=some q):∃c r,pad g.sb (some j)=some (J c 0)/\c<w.heap.size/\g.ow c=some (.s j)/\g.ow r=some (.o j)/\r<w.heap.size/\w.cell? (J c 0)=some (.map (some r))/\w.cell? (J c 1)=some (.pointer (pad g.sb q.up))/\
 ∃m,m+s.ln.length+s.ev.length+4000*s.fu=z/\fM 3 w r m (lJ q.o g.tb):=by
 obtain⟨m,p,_,o⟩:=h.mem;obtain⟨c,r,u,l,i,k,n⟩:=o j q t;exact⟨c,r,by grind[pad,lQ],(aI i),l,k,(h.low _ _ k).2,cr i rfl,cr i rfl,m,p,n⟩
def MW{q:Sc}{x}(i:0<=x/\x<=1000000){r m}(h:fM 3 w r m (lJ q.o g.tb))(c):
 (Instr.lookup 145 (.map (some r)) (U x) c).run prog w=.ok (if c then .tuple #[((q.o x).map (bN g.tb)).getD (.agg #[U 0,.int .i32 0,.string ⟨#[]⟩,.pointer none]),.bool (q.o x).isSome] else ((q.o x).map (bN g.tb)).getD (.agg #[U 0,.int .i32 0,.string ⟨#[]⟩,.pointer none])) w:=by
 have j:(zeroValue 150).run prog w=.ok (.agg #[U 0,.int .i32 0,.string ⟨#[]⟩,.pointer none]) w:=by kernel_rfl
 have:=h.look wI underlying145 j (xS x i) c;simpa[lJ]using this
def vG(g:Gh):Value->Nat
 |.pointer (some c)=>g.sb.idxOf c.block
 |_=>0
def Rm.oz(h:Rm d w a f e G N s g z){j}(o:j<s.c.S.length):vG g (.pointer (pad g.sb (some j)))=j:=by
 obtain⟨m,_,_,k⟩:=h.mem;obtain⟨c,r,i,u,_⟩:=k j _ (gQ o);have l:pad g.sb (some j)=some (J c 0):=by simp[pad,lQ,i]
 rw[l];show g.sb.idxOf c=j;have q:=List.mem_of_getElem? i;have p:=List.idxOf_lt_length_iff.2 q;have n:g.sb.idxOf c<s.c.S.length:=by rw[<-h.sl];exact p
 obtain⟨t,y,v,x,_⟩:=k _ _ (gQ n);grind
def Rq{S}{x}{k i j}(h:gY S x k (some i)=some j):∃q,S[i]?=some q/\(((q.o x).isSome=true/\i=j)\/((q.o x).isSome=false/\∃c m,q.up=some c/\gY S x m (some c)=some j)):=by
 cases k with
 |zero=>grind[gY]
 |succ k=>
  rw[gY]at h;cases l:S[i]? with
  |none=>grind
  |some q=>
   rw[l]at h;simp only at h;refine⟨q,rfl,?_⟩;split at h
   .grind
   .rename_i n;refine .inr ⟨by grind,?_⟩;cases o:q.up with
    |none=>grind[gY]
    |some c=>grind
def VZ(h:Rm d w a f e G N s g z){x}(hx:0<=x/\x<=1000000){k r j}(S:gY s.c.S x k (some r)=some j):Calls prog 134 #[.pointer (pad g.sb (some r)),U x] w λL b=>L=.returned (.pointer (pad g.sb (some j)))/\I No w b:=by
 have H:=O h;have B:=O S;go_in;go_wp2;go_loopw [0] (λv wr=>∃i A,v=.pointer (pad g.sb (some i))/\Hid (gY s.c.S x A (some i)=some j)/\Hid (I No w wr)) (λv _=>vG g v);case atStart=>exact⟨r,k,rfl,B,I.refl _ _⟩
 case round=>
  obtain⟨i,A,rfl,F,CR⟩:=hrel;obtain⟨q,n,V⟩:=Rq F.u;have W:=(List.getElem?_eq_some_iff.1 n).1;have t:=H.u.y CR.u;obtain⟨a3,a6,m,e2,-,-,e4,e5,M,a5,-,P⟩:=t.scope n;have c:=MW hx P true;have u:=O (t.oz W);rw[m]at u;have Z:=(H.u.ok.S i q n).2;rw[m];obtain⟨l,rfl⟩|⟨l,p,a2,y,T⟩:=V
  .rw[l]at c;obtain⟨v,o⟩:=Option.isSome_iff_exists.1 l;rw[o]at c;simp only[Option.map_some,Option.getD_some,if_true,bN]at c;go_wp2;go_ret;exact⟨by rw[m];rfl,B6 CR.u (I.alloc _ _ _)⟩
  .have o:q.o x=none:=by simpa using l
   rw[o]at c;simp at c;have a4:=Z p y;rw[y]at M;have R:p<s.c.S.length:=by omega
   have D:=O ((H.u.y CR.u).oz R);go_wp2;exact⟨⟨p,a2,rfl,T,B6 CR.u (I.alloc _ _ _)⟩,by rw[D.u,u.u];omega⟩
theorem xg{x}{c}{j}(h:gY s.c.S x s.c.S.length c=some j):gT x c s=.ok j s:=by
 simp_all[gT,bU]
def ZE{x}{c}(h:gT x c s≠.stk):∃i j,c=some i/\gY s.c.S x s.c.S.length c=some j/\gT x c s=.ok j s:=by
 cases k:gY s.c.S x s.c.S.length c with
 |none=>simp_all[absurd,gT,bU]
 |some j=>
  cases c with
  |none=>grind[gY]
  |some i=>grind[xg]
def IY{S}{x}:∀{k i j},gY S x k (some i)=some j->∃q v,S[j]?=some q/\q.o x=some v
 |0,i,j,h=>by grind[gY]
 |k+1,i,j,h=>by
  rw[gY]at h;cases c:S[i]? with
  |none=>grind
  |some q=>
   rw[c]at h;simp only at h;split at h
   .grind[Option.isSome_iff_exists]
   .cases l:q.up with
    |none=>grind[gY]
    |some m=>rw[l]at h;exact IY h
def Hv(h:Rm d w a f e G N s g z){x}(y:0<=x/\x<=1000000){A j}(u:gY s.c.S x s.c.S.length (some A)=some j):Calls prog 178 #[.pointer (pad g.sb (some A)),U x] w (qM g.tb s w (gZ j x s)):=by
 obtain⟨q,v,k,l⟩:=IY u;have P:gZ j x s=.ok v s:=by simp only[gZ,bU,k,Option.bind_some,l]
 rw[P];have R:=yY w (.cells #[U 0,.int .i32 0,.string ⟨#[]⟩,.pointer none] 150);have B:=O (λb=>dU (w':=b) R);have t:=I.alloc No w (.cells #[U 0,.int .i32 0,.string ⟨#[]⟩,.pointer none] 150);have D:=O (VZ (h.y t) y u);have n:=O t;have T:=(h.ok.S j q k).1 x v l;have F:Hid (∀b,I No w b->∃c r,pad g.sb (some j)=some (J c 0)/\c<b.heap.size/\b.cell? (J c 0)=some (.map (some r))/\(Instr.lookup 145 (.map (some r)) (U x) false).run prog b=.ok (bN g.tb v) b):=λb S=>by
  obtain⟨c,r,i,o,-,-,p,L,e6,a3,-,M⟩:=(h.y S).scope k;have:=MW y M false;rw[l]at this;exact⟨c,r,i,o,L,by simpa using this⟩
 go_in;go_wp2_with fail;refine D.u.mono ?_;rintro a2 V ⟨rfl,m⟩;obtain⟨c,r,i,o,e3,p⟩:=F.u V (B6 n.u m);rw[i];obtain⟨W,Z,y2,y3,fz,lt⟩:=B.u _ m;have H:=O m;simp only[bN]at p;go_wp2;exact bodyPost_ret (by simp[results,results178,go_sem,W,Z,y2,y3];rfl) rfl ⟨kE (B6 n.u H.u) (by omega),rfl,T,rfl⟩
def pS(s:Ms)(j:Nat)(x:Int)(v:Vl):Ms:={s with c:={s.c with S:=s.c.S.modify j λq=>⟨λy=>if y=x then some v else q.o y,q.up⟩}}
def Cg(h)(c)(x)(v):lJ (λy=>if y=x then some v else h y) c (.int .i64 x)=some (bN c v)/\∀u,u≠.int .i64 x->lJ (λy=>if y=x then some v else h y) c u=lJ h c u:=by
 refine⟨by simp[lJ],λu i=>?_⟩;cases u<;>try rfl
 rename_i k y;cases k<;>try rfl
 grind[lJ]
def Rm.j2(h:Rm d w a f e G N s g z){j}{q}(y:s.c.S[j]?=some q){x}(hx:0<=x/\x<=1000000){v}(hv:bF s.c v)(hz:z<=1000000000):
 ∃c r,pad g.sb (some j)=some (J c 0)/\c<w.heap.size/\w.cell? (J c 0)=some (.map (some r))/\∃b,(Instr.mapUpdate 145 (.map (some r)) (.int .i64 x) (bN g.tb v)).run prog w=.ok () b/\
  Rm d b a f e G N (pS s j x v) g (z+1)/\aH d a w g b g:=by
 obtain⟨c,r,t,B,e3,D,e5,u,e7,ab,e8,F⟩:=h.scope y;obtain⟨W,Z⟩:=Cg q.o g.tb x v;obtain⟨b,a4,M,n⟩:=F.put wI underlying145 (xS x hx) (show WideAt.IsKeyLit (.int .i64 x) from trivial) (by omega) (bN g.tb v) _ W Z;obtain⟨es,cl,a9⟩:=F.isMap;obtain⟨a6,a5,aa⟩:=M.isMap;refine⟨c,r,t,B,u,b,a4,?_,⟨n.mono λk _ x=>.inr (.inl ⟨.o j,(show k=r from x) ▸ D,λ_ l=>by grind⟩),λ_ _ _ l=>l,List.prefix_refl _,List.prefix_refl _⟩⟩;refine h.gen (d:=1) n (λk _ x=>?_) (h.rows n λk _ x=>?_) ⟨List.prefix_refl _,List.prefix_refl _,λ_ _=>rfl⟩ h.tl (by simp[pS,h.sl]) (λk r hk P=>?_) (λk p P x=>?_) (h.ok.j2 j x hv) (by grind[pS]) (λi ac ht=>.inl ⟨ht,λk hk x=>?_⟩) (λi q' o=>?_)
 .have A:=x;subst A;refine⟨(h.low k _ D).1,λl=>?_⟩;have:=h.ju.2.2;grind
 .have A:=x;subst A;refine⟨λl=>?_,λcs l fz ad=>?_⟩
  .have:=h.ju.2.1;grind
  grind
 .have:=(h.low k r P).2;omega
 .grind
 .grind
 .simp only[pS]at o;rw[List.getElem?_modify]at o;by_cases a3:j=i
  .subst a3;simp only[if_true,y,Option.map_eq_map,Option.map_some,zQ]at o;subst o;refine .inr λm0 m' a8 hd hS=>?_;obtain⟨m,p,H,T,L,V,a7⟩:=hS j q y;have R:m=c:=by
    simp only[pad,Option.map_some,lQ,H,Option.getD_some,zQ,Addr.mk.injEq,and_true]at t;exact t
   subst R;have S:p=r:=by
    rw[cell_of_row _ _ 0 _ _ _ L]at u;simpa using u
   subst S;have a2:m≠p:=λl=>by
    grind
   refine⟨m,p,H,T,(n.block m B a2).trans L,V,M.more (by omega)⟩
  grind
def Hx(h:Rm d w a f e G N s g z){x}(t:0<=x/\x<=1000000){l j}(r:gY s.c.S x s.c.S.length (some l)=some j){v}(M:bF s.c v)(P:z<=1000000000):Calls prog 94 #[.pointer (pad g.sb (some l)),.int .i64 x,bN g.tb v] w λm b=>m=rT/\Rm d b a f e G N (pS s j x v) g (z+1)/\aH d a w g b g:=by
 obtain⟨a3,v',L,-⟩:=IY r;have F:=yY w (.cells #[.int .i64 v.g,.int .i32 v.n,.string ⟨v.t.toArray⟩,.pointer (pad g.tb v.h)] 150);have A:=O (λb=>dU (w':=b) F);have H:=I.alloc No w (.cells #[.int .i64 v.g,.int .i32 v.n,.string ⟨v.t.toArray⟩,.pointer (pad g.tb v.h)] 150);have B:Hid (∀b,I No w b->_):=λb k=>VZ (h.y k) t r;have D:Hid (∀b,I No w b->_):=λb k=>(h.y k).j2 L t M P;have i:Hid (∀n,I No w _):=λn=>B6 H (I.drewN No _ n);unfold bN at*;generalize pad g.sb (some l)=a2 at*;go_in;go_wp2;go_region_with (go_at_call 134;refine(B.u _ (i.u 1)).mono ?_;rintro m R ⟨rfl,c⟩;obtain⟨S,a4,o,T,V,a5,W,p,q⟩:=D.u R (B6 (i.u 1) c);rw[o];obtain⟨y0,y1,y2,y3,Z,lt⟩:=A.u _ (B6 (I.drewN No _ 1) c);have u:=O p;have y:=O ((aH.y (B6 (i.u 1) c)).trans q);clear c o p q);all_goals go_end0
 all_goals exact⟨rfl,u.u,y.u⟩
def Rm.mc(h:Rm d w a f e G N s g z):(∀o,w.frozen? (J a o)=false)/\a<w.heap.size/\w.cell? (J a 0)=some (pV f)/\w.cell? (J a 1)=some (.map (some e))/\w.cell? (J a 2)=some (.int .i64 s.fu)/\w.cell? (J a 3)=some (.int .i64 s.c.ca)/\w.cell? (J a 4)=some (.int .i64 s.c.th):=by
 obtain⟨j,i,c,_⟩:=h.eo;exact⟨λo=>frozen_of_row _ _ o _ _ c,(aI c),cr c rfl,cr c rfl,cr c rfl,cr c rfl,cr c rfl⟩
def Rm.mh(h:Rm d w a f e G N s g z){s'}{z'}(o)(v)(H:s'.c.T=s.c.T)(F:s'.c.S=s.c.S)(P:s'.ln=s.ln)(L:s'.ev=s.ev)(S:gX N s'.c)
 (W:∀p j,(#[pV f,.map (some e),.int .i64 (s.fu:Int),.int .i64 (s.c.ca:Int),.int .i64 (s.c.th:Int),p,j]).setIfInBounds o v=#[pV f,.map (some e),.int .i64 s'.fu,.int .i64 s'.c.ca,.int .i64 s'.c.th,p,j])
 (Z:4000*s'.fu+z<=z'+4000*s.fu):Rm d (w.setCell (J a o) v) a f e G N s' g z'/\aH d a w g (w.setCell (J a o) v) g:=by
 have l:=I.set w (J a o) v;obtain⟨p,j,D,u,y⟩:=h.eo;refine⟨?_,⟨l.mono λk _ x=>.inl x,λ_ _ _ c=>c,List.prefix_refl _,List.prefix_refl _⟩⟩;have R:∀k r,g.ow k=some r->¬k=a:=λk r n c=>by
  have:=h.ju.2.1;grind
 refine h.gen (d:=0) l (λk _ x=>?_) ⟨p,j,?_,?_,?_⟩ ⟨List.prefix_refl _,List.prefix_refl _,λ_ _=>rfl⟩ (by rw[H];exact h.tl) (by rw[F];exact h.sl) (λk r A n=>?_) (λk r n x=>(R k r n x).elim) S (by grind) (λi t V=>.inl ⟨by grind,λk A x=>?_⟩) (λi q m=>.inl ⟨by grind,λk A x=>?_⟩)
 .have T:=x;subst T;refine⟨h.ju.1,λc=>h.gs.eu (c ▸ D)⟩
 .grind[heap_setCell_same]
 .rw[P];refine A3 u l λq m x=>?_;obtain⟨_,B,M⟩:=A9 u q m;grind
 .rw[L];refine A3 y l λq m x=>?_;obtain⟨_,B,M⟩:=A9 y q m;grind
 .have:=(h.low k r n).2;omega
 .grind
 grind
def YR(h:Rm d w a f e G N s g z)(D:z<=1000000000):Calls prog 59 #[pV a] w λj b=>aH d a w g b g/\match aW s with
 |.ok _ c=>j=rT/\Rm d b a f e G N c g (z-4000)/\c.c=s.c
 |.over x i c=>j=ov x i []/\Rm d b a f e G N c g z/\c=s
 |_=>False:=by
 obtain⟨v,F,m0,m1,m2,m3,m4⟩:=h.mc;have r:=h.mem;unfold aW;by_cases k:s.fu=0
 .rw[wY k];have q:=O (uI 4 (-1) w);have p:=O (aH.y (wB:=d) (mb:=a) (g:=g) (I.refl No w));have o:=O h;rw[k]at m2;go_in;go_wp2_with fail;refine q.u.mono ?_;rintro j L ⟨rfl,rfl⟩;exact⟨rfl,p.u,rfl,o.u,trivial⟩
 .rw[zY k];obtain⟨n,t⟩:∃n,s.fu=n+1:=⟨s.fu-1,by omega⟩;obtain⟨m,A,_⟩:=r;have B:n<=1000000:=by omega
  have y:((n:Int)+1==0)=false:=by simp;omega
  have l:=O (h.mh (s':={s with fu:=s.fu-1}) (z':=z-4000) 2 (.int .i64 n) rfl rfl rfl rfl h.ok (λH u=>by grind) (by grind));rw[t]at m2;push_cast at m2;go_in;go_wp2;go_end0;exact⟨l.u.2,rfl,l.u.1,trivial⟩
def LU(c)(n k):Gr c {c with th:=n,ca:=k}:=⟨λ_ t h=>⟨t,h,rfl⟩,vQ _⟩
def cS(s:Ms)(ca th:Nat):Ms:={s with c:={s.c with ca:=ca,th:=th}}
def FE(h:gX N s.c){i c}(j:i<=40)(k:s.c.th<=c/\c<=2000):gX N (cS s i c).c:=
 h.of (LU s.c c i) k j (λ_ _ m=>.inl m) (λ_ _ l=>.inl l)
def BP(h:Rm d w a f e G N s g z)(i):Calls prog 138 #[pV a,.int .i64 i] w λk b=>aH d a w g b g/\
 (s.c.th=2000/\bX i s=.over 6 i s/\k=ov 6 i []/\Rm d b a f e G N s g z\/s.c.th<2000/\bX i s=.ok () (cS s s.c.ca (s.c.th+1))/\k=rT/\Rm d b a f e G N (cS s s.c.ca (s.c.th+1)) g z):=by
 obtain⟨r,v,m0,m1,m2,m3,m4⟩:=h.mc;have u:=h.ok.th;by_cases c:s.c.th=2000
 .have p:=O (uI 6 i w);have o:=O (aH.y (wB:=d) (mb:=a) (g:=g) (I.refl No w));have n:=O h;have l:Hid (bX i s=.over 6 i s):=by simp only[bX,bU,wY c];rfl
  have j:=O c;rw[c]at m4;go_in;go_wp2_with fail;refine p.u.mono ?_;rintro k y ⟨rfl,rfl⟩;exact⟨rfl,o.u,.inl ⟨j.u,l.u,rfl,n.u⟩⟩
 .have m:=O (h.mh (s':=cS s s.c.ca (s.c.th+1)) (z':=z) 4 (.int .i64 (s.c.th+1)) rfl rfl rfl rfl (FE h.ok h.ok.ca (by omega)) (λx q=>by rfl) (by grind[cS]));have l:Hid (bX i s=.ok () (cS s s.c.ca (s.c.th+1))):=by simp only[bX,bU,zY c];rfl
  have j:Hid (s.c.th<2000):=by show _<_;omega
  have t:((s.c.th:Int)==2000)=false:=by simp;omega
  go_in;go_wp2;go_end0;exact⟨m.u.2,.inr ⟨j.u,l.u,rfl,m.u.1⟩⟩
end
def Tryz.om:(prog.info? 40).map (λi=>(i.zero,i.size,i.bytes))=some (some (.agg #[U 0,U 0]),2,16):=by kernel_rfl
section
variable{b w c:E}{a e d z:Nat}{G:Int->Option Int}{N:List C}{s:Ms}{g:Gh}
def Rm.m9{S}{j}{D}(h:Rm b w a e d G N s g z)(A:I S w c)(p:∀k,k<w.heap.size->S k->k=a\/(b.heap.size<=k/\∃n f o,w.heap[k]?=some (.cells n f o)/\(f=9\/f=40)))(u:j.c=s.c)(M:j.fu=s.fu)
 (L:∃B v,c.heap[a]?=some (.cells #[pV e,.map (some d),U s.fu,U s.c.ca,U s.c.th,B,v] 67 (0,0))/\
  c.ownsRow b.heap.size 9 1 B j.ln.length (strs j.ln)/\c.ownsRow b.heap.size 40 2 v j.ev.length (jN j.ev))
 (T:j.ln.length+j.ev.length+z<=D+s.ln.length+s.ev.length):Rm b c a e d G N j g D/\aH b a w g c g:=by
 have H:∀k r,g.ow k=some r->¬S k:=λk r m x=>by
  obtain f|⟨_,n,f,o,y,z⟩:=p k (h.low k r m).2 x
  .have:=h.ju.2.1;grind
  .have:=h.ty k r m n f o y;grind
 obtain⟨_,_,F,_⟩:=h.eo;refine⟨?_,⟨A.mono λk l x=>(p k l x).imp id .inr,λ_ _ _ f=>f,List.prefix_refl _,List.prefix_refl _⟩⟩;refine h.gen (d:=0) A (λk l x=>?_) (by grind) ⟨List.prefix_refl _,List.prefix_refl _,λ_ _=>rfl⟩ (by rw[u];exact h.tl) (by rw[u];exact h.sl) (λk r l m=>?_) (λk r m x=>(H k r m x).elim) (by rw[u];exact h.ok) (by omega) (λi t R=>.inl ⟨by grind,λk l x=>?_⟩) (λi q P=>.inl ⟨by grind,λk l x=>?_⟩)
 .obtain f|⟨f,n,t,o,y,_⟩:=p k l x
  .subst f;exact⟨h.ju.1,λf=>h.gs.eu (f ▸ F)⟩
  .exact⟨f,λf=>h.gs.eu (f ▸ y)⟩
 .have:=(h.low k r m).2;omega
 .grind
 grind
def Rm.rr(h:Rm b w a e d G N s g z){l}{m}(o:w.cell? (J a 6)=some (.slice l s.ev.length m)){f}(p:I (λk=>(Value.slice l s.ev.length m).ownBlock=some k) w f)(i x){j}(P:f.ownsRow b.heap.size 40 2 j (s.ev.length+1) (jN s.ev++[U i,U x])):
 Rm b (f.setCell (J a 6) j) a e d G N {s with ev:=s.ev++[(i,x)]} g (z+1)/\aH b a w g (f.setCell (J a 6) j) g:=by
 obtain⟨D,ev,n,u,v⟩:=h.eo;have t:ev=.slice l s.ev.length m:=by
  rw[cell_of_row _ _ 6 _ _ _ n]at o;simpa using o
 subst t;have A:=(aI n);have M:=A9 v;have B:¬(Value.slice l s.ev.length m).ownBlock=some a:=λF=>by
  grind
 have r:I (λk=>k=a\/(Value.slice l s.ev.length m).ownBlock=some k) w (f.setCell (J a 6) j):=(p.mono λ_ _ x=>.inr x).trans (I.set f (J a 6) j) λk _ x=>.inl x;have y:=(p.block a A B).trans n;refine h.m9 r (λk H x=>x.imp id λx=>?_) rfl rfl ⟨D,j,?_,?_,?_⟩ (by grind)
 .grind
 .rw[heap_setCell_same f a 6 _ _ _ y];rfl
 .refine A3 u r λq L x=>?_;grind[A9]
 grind[A3,I.set,A9,zQ,xW,absurd,jN]
def aH.gm{f}{l}(h:aH b a w g f l){q}(v:w.heap.size<=q)(m n p r):aH b a w g ((((f.setCell (J q 0) m).setCell (J q 1) n).setCell (J q 2) p).setCell (J q 3) r) l:=by
 have k:∀{j:E} o (x:Value),I (yC b a w g) w j->I (yC b a w g) w (j.setCell (J q o) x):=λo x t=>t.trans (I.set _ (J q o) x) λi u y=>by
  grind
 exact⟨k 3 r (k 2 p (k 1 n (k 0 m h.P))),h.ow,h.tb,h.sb⟩
def Rm.gm(h:Rm b w a e d G N s g z){q}{m}(r:w.heap[q]?=some (.cells m 150 (0,0)))(p:g.ow q=none)(n:b.heap.size<=q)(o:q≠a)(f i j l):Rm b ((((w.setCell (J q 0) f).setCell (J q 1) i).setCell (J q 2) j).setCell (J q 3) l) a e d G N s g z:=
 h.calm ((((I.set w (J q 0) f).trans (I.set _ (J q 1) i) λ_ _ x=>x).trans (I.set _ (J q 2) j) λ_ _ x=>x).trans (I.set _ (J q 3) l) λ_ _ x=>x) λk _ x=>by
  grind
def YZ(h:Rm b w a e d G N s g z)(hz:z<=1000000000)(i)(hi:0<=i/\i<=1000000)(v):Calls prog 132 #[pV a,U i,bN g.tb v] w λo c=>aH b a w g c g/\match dL G i v s with
 |.ok ak q=>ak=v/\q.c=s.c/\q.fu=s.fu/\o=.returned (bN g.tb v)/\Rm b c a e d G N q g (z+1)
 |.over x k q=>q=s/\o=ov x k []/\Rm b c a e d G N s g z
 |_=>False:=by
 obtain⟨a4,a5,H⟩:=gV w (.cells #[U v.g,.int .i32 v.n,.string ⟨v.t.toArray⟩,.pointer (pad g.tb v.h)] 150) (.cells #[U 0,.int .i32 0,.string ⟨#[]⟩,.pointer none] 150);have CA:=O H;have a9:=O (λc=>dU (w':=c) a4);have aa:=O (λc=>dU (w':=c) a5);have f:=h.y H;obtain⟨fz,lt,m0,m1,m2,m3,m4⟩:=f.mc;have u:=f.gs.look i hi;have D:=O (aH.y (wB:=b) (mb:=a) (g:=g) H);have R:=O a4;have S:=O a5;have ab:Hid (g.ow w.heap.size=none/\g.ow (w.heap.size+1)=none/\a<w.heap.size/\b.heap.size<=w.heap.size):=⟨h.new (vQ _),h.new (by omega),h.mc.2.1,h.P.size⟩;unfold dL;cases p:G i with
 |none=>
  rw[p]at u;have T:Hid (∀x y,I No w ((w.alloc x).alloc y)):=λx y=>(gV w x y).2.2;have H0:Hid (∀c,I No w c->Rm b c a e d G N s g (z+1)):=λc M=>(h.y M).more (by omega);simp only[Option.getD_none,Option.isSome_none]at u;clear h f p;unfold bN;go_in;go_wp2;exact bodyPost_ret (by simp[results,results132,go_sem]) rfl ⟨aH.y (T.u _ _),trivial,trivial,trivial,rfl,H0.u _ (T.u _ _)⟩
 |some t=>
  rw[p]at u;simp only[Option.getD_some,Option.isSome_some]at u;by_cases L:bits .and .i64 v.g t=0
  .have HS:=O (uI 2 i);have H':=O f;simp only[wY L];clear h f p;unfold bN;go_in;go_wp2_with fail;refine(HS.u _).mono ?_;rintro o aw ⟨rfl,rfl⟩;exact⟨rfl,D.u,trivial,rfl,H'.u⟩
  .have am:(bits .and .i64 v.g t==0)=false:=by simpa using L
   simp only[zY L];obtain⟨i0,ae,ah,ai,aj⟩:=info_parts Tryz.om;obtain⟨ap,ev,Z,b2,n⟩:=f.eo;obtain⟨l,m,rfl⟩:=B8 n;have c6:World.cell? _ (J a 6)=some (.slice l s.ev.length m):=(cell_of_row _ _ 6 _ _ _ Z).trans rfl;have an:s.ev.length<=1000000000:=by obtain⟨aq,hm,_⟩:=f.mem;omega
   have a7:(Value.slice l s.ev.length m).ownBlock≠some a:=λo=>by
    obtain⟨_,al,y⟩:=A9 n a o;grind
   have ag:=f.P.size;simp only[World.size_alloc]at ag lt;have P:=B6 (I.alloc No ((w.alloc (.cells #[U v.g,.int .i32 v.n,.string ⟨v.t.toArray⟩,.pointer (pad g.tb v.h)] 150)).alloc (.cells #[U 0,.int .i32 0,.string ⟨#[]⟩,.pointer none] 150)) (.cells #[U i,U v.g] 40)) (I.drewN No _ 1);have W:=O (A3 n P λ_ _ x=>x);have B:=O P;have ao:=SP n;have V:Hid (∀j v',I (λk=>(Value.slice l s.ev.length m).ownBlock=some k) _ j->j.ownsRow b.heap.size 40 2 v' (s.ev.length+1) (jN s.ev++[U i,U v.g])->_):=λj v' M hv=>f.rr c6 M i v.g hv;clear h f p Z b2 n P;unfold bN;go_in;go_wp2_with fail;go_region_law (
    refine step_append_lies _ (by rfl) _ _ _ (by rfl) b.heap.size 40 i0 (.agg #[U 0,U 0]) 2 16 underlying30 ae ah ai aj rfl (by omega) (.slice l s.ev.length m) s.ev.length (jN s.ev) (by rfl) W.u (J (w.heap.size+1+1) 0) 1 1 [U i,U v.g] (by rfl) (by rfl) (World.news_of_block (cs:=#[U i,U v.g]) (t:=40) (fr:=(0,0)) (zE w _ _ _).2.2.1) (by simp[Value.oneCell']) (by omega) (by grind[maxLen]) (by omega) (by simp;omega) (w.heap.size+1+1+1) (by simp) ?_;intro gg ac j a8 r ad af;have z4:j.cell? (J a 6)=some (.slice l s.ev.length m):=by rw[r.cell_far _ (by simp;omega) (Ne.symm a7)];exact A4 B.u c6
    have y4:j.frozen? (J a 6)=false:=by rw[r.frozen_far _ (by simp;omega) (Ne.symm a7)];exact S6 (by simp_all) (fz 6));all_goals
    have a6:I (λk=>(Value.slice l s.ev.length m).ownBlock=some k) _ j:=(B.u.mono λ_ _ x=>x.elim).trans (I.grown r) λk hk x=>x.symm;obtain⟨a3,A⟩:=V.u _ _ a6 a8;obtain⟨n1,n2,n3,n4⟩:=ab.u;obtain⟨a1,-⟩:=A.et R.u n1 (by omega) (by decide) (by decide);obtain⟨F,-⟩:=A.et S.u n2 (by omega) (by decide) (by decide);obtain⟨ar,au,av,p3,-,pl⟩:=dU a1 (I.refl No _);obtain⟨q0,q1,q2,q3,qz,ql⟩:=dU F (I.refl No _);have HR:=O (a3.gm F n2 (by omega) (by omega));have HK:=O (D.u.trans A);clear B a6 a8 r ad af V a3 A a1 F W z4 y4 R S D CA a9 aa;generalize j.setCell (J a 6) (.slice (some (J gg 0)) (s.ev.length+1) ac)=ax at*;go_wp2;exact bodyPost_ret (by simp[results,results132,go_sem,q0,q1,q2,q3]) rfl ⟨HK.u.gm (by omega) _ _ _ _,trivial,trivial,trivial,rfl,HR.u _ _ _ _⟩
end
structure eN(wB:E)(c:Cx)(pb qb:Nat)(nv:Value):Prop where
 ok:jD c
 fe:cV wB nv c.N
 names:eK wB qb 5000 (mL c)
 eo:∃yv mn lb fv ov,wB.heap[pb]?=some (.cells (tN c nv yv mn lb qb fv ov) 57 (0,0))
 rv:Tbl wB
 qg:∀i:Nat,∀h:i<c.N.length,c.N[i].x=26->∀x∈c.N[i].M,0<=x/\x<c.N.length/\17<=(aC c.N x).x/\(aC c.N x).x<=25
def aP(c:Cx)(i:Int):Int:=(mL c i).getD 0
def Kv(a:List Vl)(c:Ms)(b:Gh)(_:E)(v:Value):Prop:=∃u,a=[u]/\bF c.c u/\v=bN b.tb u
def Kn(_:List Vl)(_:Ms)(_:Gh)(_:E)(v:Value):Prop:=v=.tuple #[]
def CR(f:E)(b e d:Nat)(G:Int->Option Int)(c:Cx)(F:Nat)(h:List Vl->Ms->Gh->E->Value->Prop)(P:Int->Prop)(m:Int->Option Nat->X (List Vl)):Prop:=
 ∀(w) (s) (g) (z) (a) (i),Rm f w b e d G c.N s g z->z<=1000000000->hY s.c a->P i->m i a s≠.stk->
  Calls prog F #[pV b,U i,.pointer (pad g.sb a)] w (RP f b e d G c.N z w g s h (m i a s))
def lU(c:Cx)(i:Int):Prop:=0<=i/\i<c.N.length/\aO (aC c.N i).x
def CE(f:E)(b e d:Nat)(G:Int->Option Int)(c:Cx)(P:Int->Prop)(m:Int->Option Nat->X (List Vl)):Prop:=
 ∀(w) (s) (g) (z) (a) (i),Rm f w b e d G c.N s g z->z+4000<=1000000000->hY s.c a->P i->m i a s≠.stk->
  Calls prog 133 #[pV b,U i,.pointer (pad g.sb a)] w (RP f b e d G c.N (z+3000) w g s Kv (m i a s))
def CT(e:E)(a d b:Nat)(G:Int->Option Int)(c:Cx)(F:Nat)(P:Int->Prop)(m:Int->Option Nat->X (List Vl)):Prop:=
 ∀(w) (s) (g) (z) (j) (i),Rm e w a d b G c.N s g z->z<=1000000000->j<s.c.S.length->P i->m i (some j) s≠.stk->
  Calls prog F #[pV a,U i,.pointer (pad g.sb (some j))] w (RP e a d b G c.N (z+1) w g s Kn (m i (some j) s))
def DM(c:Cx)(i:Int):Prop:=0<=i/\i<c.N.length/\17<=(aC c.N i).x/\(aC c.N i).x<=25
def gC(c:Cx)(k i:Int):Prop:=0<=i/\i<c.N.length/\(aC c.N i).x=k
section
variable{c w d:E}{a f e z:Nat}{G:Int->Option Int}{N:List C}{s:Ms}{g:Gh}
def RP.pre{H}{q}{r:Rr H}{t}{F}{y}{D}(o:aH c a w g F y)(A:Gr s.c D.c)(h:RP c a f e G N z F y D q r t d):RP c a f e G N z w g s q r t d:=by
 cases r with
 |stk=>exact h
 |ok L B=>
  obtain⟨b,v,j,k,l,m,n⟩:=h;exact⟨b,v,j,o.trans k,l,A.trans m,n⟩
 |over x i B=>
  obtain⟨b,p,j,k,l⟩:=h;exact⟨b,p,j,o.trans k,l⟩
 |back u B=>
  obtain⟨b,p,j,k,l,m,n⟩:=h;exact⟨b,p,j,o.trans k,l,A.trans m,n⟩
def RP.more{A}{p}{r:Rr A}{q}{y}(n:z<=y)(h:RP c a f e G N z w g s p r q d):RP c a f e G N y w g s p r q d:=by
 cases r with
 |stk=>exact h
 |ok B t=>
  obtain⟨b,v,j,k,l,m⟩:=h;exact⟨b,v,j,k,l.more n,m⟩
 |over x i t=>
  obtain⟨b,o,j,k,l⟩:=h;exact⟨b,o,j,k,l.more n⟩
 |back u t=>
  obtain⟨b,o,j,k,l,m⟩:=h;exact⟨b,o,j,k,l.more n,m⟩
def RP.fail{r v}{y}{K'}{m:X r}{k:r->X v}{l}(h:RP c a f e G N z w g s y (m s) l d)(D:∀t j,m s≠.ok t j):(∃b,l=.panicked b)/\RP c a f e G N z w g s K' ((m.bd k) s) l d:=by
 unfold X.bd;cases q:m s with
 |stk=>rw[q]at h;exact h.elim
 |ok t j=>grind
 |over x i j=>
  rw[q]at h;obtain⟨n,b,rfl,o,p⟩:=h;exact⟨⟨_,rfl⟩,n,b,rfl,o,p⟩
 |back u j=>
  rw[q]at h;obtain⟨n,b,rfl,o,p,A,B⟩:=h;exact⟨⟨_,rfl⟩,n,b,rfl,o,p,A,B⟩
def RP.cut{p y}{q}{K'}{m:X p}(k:p->X y){l}(h:RP c a f e G N z w g s q (m s) l d):
 (∃o,l=.panicked o/\RP c a f e G N z w g s K' ((m.bd k) s) (.panicked o) d)\/∃j b n v,l=.returned v/\(m.bd k) s=k j b/\m s=.ok j b/\aH c a w g d n/\Rm c d a f e G N b n z/\Gr s.c b.c/\q j b n d v:=by
 cases t:m s with
 |stk=>rw[t]at h;exact h.elim
 |ok j b=>
  rw[t]at h;obtain⟨n,v,A,r,B,D,F⟩:=h;grind[I5]
 |over x i b=>
  obtain⟨⟨o,rfl⟩,r⟩:=RP.fail (K':=K') (k:=k) h λj b l=>by grind
  grind
 |back u b=>
  obtain⟨⟨o,rfl⟩,r⟩:=RP.fail (K':=K') (k:=k) h λj b l=>by grind
  grind
def TM{i}{s b}(h:aW s=.ok i b):s.fu≠0/\b={s with fu:=s.fu-1}:=by
 grind[aW]
def wF{b i}(h:i=b):Gr b i:=h ▸ Gr.refl _
def Yx{j}{k}(ax:jD j)(hE:CE c a f e G j (lU j) λi m=>rn j.N (aP j) G k (.e i) m):
 CR c a f e G j 93 Kv (lU j) λi m=>rn j.N (aP j) G (k+1) (.v i) m:=by
 intro w s g z m i h hz ah A ag;have aw:0<=i/\i<=1000000:=by have:=ax.fh;have:=A.1;have:=A.2.1;omega
 have af:=yY w (.cells #[U 0,.int .i32 0,.string ⟨#[]⟩,.pointer none] 150);have F:=I.alloc No w (.cells #[U 0,.int .i32 0,.string ⟨#[]⟩,.pointer none] 150);have B:=O (⟨h.new (vQ _),h.mc.2.1,h.P.size⟩:g.ow w.heap.size=none/\a<w.heap.size/\c.heap.size<=w.heap.size);have a9:=O (YR (h.y F) hz);have ar:Hid (s.fu≠0->4000<=z):=λh0=>by obtain⟨b3,hm,_⟩:=h.mem;omega
 have an:Hid (∀d g',aH c a _ g d g'->_):=λd g' hf=>hf.et af B.u.1 (by have:=B.u.2.1;omega) (by decide) (by decide);have a4:=O (aH.y (wB:=c) (mb:=a) (g:=g) F);have HE:=O hE;have aq:=O ah;have HI:=O A;have q:=O ag;show Calls _ _ _ _ (RP c a f e G j.N z w g s Kv ((aW.bd λ_=>(rn j.N (aP j) G k (.e i) m).bd λr=>(dL G i (r1 r)).bd λv=>aE [v]) s));replace q:Hid ((aW.bd λ_=>(rn j.N (aP j) G k (.e i) m).bd λr=>(dL G i (r1 r)).bd λv=>aE [v]) s≠.stk):=q;obtain⟨aa,R⟩:∃aa,aa=(aW.bd λ_=>(rn j.N (aP j) G k (.e i) m).bd λr=>(dL G i (r1 r)).bd λv=>aE [v]) s:=⟨_,rfl⟩;rw[<-R]at q⊢;have HR:=O R;generalize hp:pad g.sb m=b4 at*;clear h F af hE ag ah A R;go_in;go_wp2_with fail;refine a9.u.mono ?_;rintro ab az ⟨t,n⟩;cases l:aW s with
 |stk=>rw[l]at n;exact n.elim
 |back u p=>rw[l]at n;exact n.elim
 |over b1 ay p=>
  rw[l]at n;obtain⟨rfl,x,rfl⟩:=n;rw[HR.u,I1 l];exact⟨rfl,g,[],rfl,a4.u.trans t,x⟩
 |ok au p=>
  rw[l]at n;obtain⟨rfl,x,T⟩:=n;have b2:=ar.u (TM l).1;have y:=HR.u;rw[I5 l]at y;have V:=q.u;rw[y]at V;have ai:hY p.c m:=by rw[T];exact aq.u
  have D:=O (HE.u az p g (z-4000) m i x (by omega) ai HI.u (K8 V));have a5:=O (a4.u.trans t);have aj:=O t;rw[hp]at D;have a7:=O y;have W:=O T;clear t x l y V a9 ai T;go_wp2_with fail;refine D.u.mono ?_;rintro ab b5 hx;obtain⟨ps,rfl,hh⟩|⟨au,s2,M,v,rfl,e1,-,H,r2,ac,u,rfl,hu,rfl⟩:=RP.cut (λr=>(dL G i (r1 r)).bd λv=>aE [v]) hx
  .rw[a7.u];exact⟨rfl,(hh.pre a5.u (wF W.u)).more (by omega)⟩
  .have HG:=O (YZ r2 (by omega) i aw u);have S:=a7.u;rw[e1]at S;have a8:=O S;have a6:=O (a5.u.trans H);have ak:=O (aj.u.trans H);have HU:=O hu;have am:=O ((wF W.u).trans ac);clear hx e1 S H r2 ac D hu;unfold bN at HG⊢;go_wp2_with fail;refine HG.u.mono ?_;rintro ab b0 ⟨L,o⟩;have ad:r1 [u]=u:=rfl;cases l:dL G i u s2 with
   |stk=>rw[l]at o;exact o.elim
   |back u p=>rw[l]at o;exact o.elim
   |over b1 ay s3=>
    rw[l]at o;obtain⟨rfl,rfl,P⟩:=o;rw[a8.u,ad,I1 l];exact⟨rfl,M,[],rfl,a6.u.trans L,P.more (by omega)⟩
   |ok b s3=>
    rw[l]at o;obtain⟨rfl,av,-,rfl,P⟩:=o;have ae:=a8.u;rw[ad,I5 l]at ae;obtain⟨a2,a3⟩:=an.u b0 M (ak.u.trans L);obtain⟨q0,q1,q2,q3,qz,ql⟩:=dU a2 (I.refl No _);obtain⟨n1,n2,n3⟩:=B.u;have ap:=O ((P.gm a2 a3 (by omega) (by omega)));have al:=O (a6.u.trans L);have Z:=O av;have ao:=O ae;go_wp2;refine bodyPost_ret (by simp[results,results93,go_sem,q0,q1,q2,q3];rfl) rfl ?_;rw[ao.u];exact⟨M,_,rfl,al.u.gm (vQ _) _ _ _ _,(ap.u _ _ _ _).more (by omega),am.u.trans (wF Z.u),_,rfl,by rw[Z.u];exact HU.u,rfl⟩
end
def Tryz.mj:(prog.info? 150).map (λi=>(i.zero,i.size,i.bytes))=some (some (.agg #[U 0,.int .i32 0,.string ⟨#[]⟩,.pointer none]),4,40):=by kernel_rfl
def fT(w:E)(g:Gh)(B:Nat)(v:Value)(l:List Vl):Prop:=w.ownsRow B 150 4 v l.length (l.flatMap (fJ g.tb))/\∀q,v.ownBlock=some q->g.ow q=none
def Ks(B:Nat)(a:List Vl)(c:Ms)(b:Gh)(d:E)(v:Value):Prop:=(∀u∈a,bF c.c u)/\fT d b B v a
theorem Yb{N}{b}{G}(k)(i)(l:bZ)(c)(f)(s):
 ((rn N b G (k+1) (.vs (i::l)) c).bd λq=>aE (f++q)) s=((rn N b G k (.v i) c).bd λr=>(rn N b G k (.vs l) c).bd λq=>aE ((f++[r1 r])++q)) s:=by
 rw[rn];unfold X.bd;cases rn N b G k (.v i) c s with
 |ok a d=>
  simp only;cases rn N b G k (.vs l) c d<;>simp_all[rn,aE,bU]
 |over e i d=>rfl
 |back v d=>rfl
 |stk=>rfl
section
variable{a w i:E}{c f d z:Nat}{G:Int->Option Int}{N:List C}{s:Ms}{g h:Gh}
def fT.et{B}{v}{l}(p:fT w g B v l)(m:Rm a w c f d G N s g z)(k:aH a c w g i h)(D:∀u∈l,bF s.c u):fT i h B v l:=by
 obtain⟨j,t⟩:=p;obtain⟨_,_,F,_⟩:=m.eo;refine⟨?_,λq b=>?_⟩
 .rw[GU (f:=fJ g.tb) (f':=fJ h.tb) λu A=>(sY k.tb (D u A) m.tl).2];refine A3 j k.P λq b x=>?_;obtain⟨_,o,n⟩:=A9 j q b;obtain x|⟨r,x,_⟩|⟨_,cs,e,fz,y,y2⟩:=x<;>grind
 .obtain⟨_,o,n⟩:=A9 j q b;exact k.no (aI n) (t q b)
theorem fT.grow{B}{v e}{l}(o:fT w g B v l)(j:Rm a w c f d G N s g z)(D:a.heap.size<=B)(r:I (λk=>v.ownBlock=some k) w i){u}(L:i.ownsRow B 150 4 e (l.length+1) (l.flatMap (fJ g.tb)++fJ g.tb u))(b:e.ownBlock=v.ownBlock\/∃n,e.ownBlock=some n/\w.heap.size<=n):fT i g B e (l++[u])/\Rm a i c f d G N s g z:=by
 obtain⟨p,A⟩:=o;obtain⟨_,_,t,_⟩:=j.eo;refine⟨⟨by grind,λq m=>?_⟩,j.calm r λk _ x=>?_⟩
 .obtain b|⟨n,b,hn⟩:=b
  .grind
  .rw[b]at m;cases m;exact j.new hn
 .obtain⟨H,y,F⟩:=A9 p k x;grind
def aH.fresh{j b}{h}(e:aH a c w g j h){S}(m:I S j b)(l:∀k,k<w.heap.size->¬S k):aH a c w g b h:=⟨e.P.trans m λo n x=>(l o n x).elim,e.ow,e.tb,e.sb⟩
def UF{b}{p}(hV:∀k,k<p->CR a c f d G b 93 Kv (lU b) λaf m=>rn b.N (aP b) G k (.v af) m)
 (M:Rm a w c f d G b.N s g z) (hz:z<=1000000000) {m} (ae:hY s.c m) {l} {la} {lc} (hl:a.ownsRow 0 3 1 (.slice la l.length lc) l.length (C7 l)) (au:∀af∈l,lU b af) (hn:l.length<=100000) (ac:rn b.N (aP b) G p (.vs l) m s≠.stk):
 Calls prog 183 #[pV c,.slice la l.length lc,.pointer (pad g.sb m)] w (RP a c f d G b.N z w g s (Ks w.heap.size) (rn b.N (aP b) G p (.vs l) m s)):=by
 obtain⟨R,hR⟩:∃R,R=rn b.N (aP b) G p (.vs l) m s:=⟨_,rfl⟩;have al:R=((rn b.N (aP b) G p (.vs (l.drop 0)) m).bd λq=>aE ([]++q)) s:=by
  rw[hR,List.drop_zero];unfold X.bd;cases rn b.N (aP b) G p (.vs l) m s<;>rfl
 rw[<-hR]at ac⊢;obtain⟨i0,b7,ba,bb,bc⟩:=info_parts Tryz.mj;have HH:=O M;have HV:=O hV;have b4:=O ae;have HL:=O hl;have b0:=O au;have a3:=O ac;have b2:=O al;have b9:=M.P.size;have HP:=O (λ(h:Gh) (hp:g.sb<+:h.sb)=>J6 hp (o:=m) λj e=>by rw[M.sl];exact ae j e);generalize pad g.sb m=bp at*;clear M hV ae hl au ac hR al;go_in;go_wp2_with fail;go_loopw [7,12] (λv7 ag wr=>∃(n k:Nat) (o:List Vl) (t:Ms) (r:Gh),n<=l.length/\ag=U (n:Int)/\o.length=n/\k<=p/\Hid (R=((rn b.N (aP b) G k (.vs (l.drop n)) m).bd λq=>aE (o++q)) t)/\Hid (Rm a wr c f d G b.N t r z)/\Hid (aH a c w g wr r)/\Hid (Gr s.c t.c)/\Hid (∀u∈o,bF t.c u)/\Hid (fT wr r w.heap.size v7 o)) (λ_ ag _=>l.length-(intOf ag).toNat);case atStart=>exact⟨0,p,[],s,g,wQ _,rfl,rfl,vQ _,b2,HH,aH.y (I.refl _ _),Gr.refl _,(λ_ T=>by grind),kW _ _ _ _,λq P=>by grind[Value.ownBlock]⟩
 case round=>
  obtain⟨n,k,o,t,r,bm,rfl,D,hk,H,A,v,y,F,a2⟩:=hrel;have W:=O D;clear D;by_cases av:n<l.length
  .obtain⟨k,rfl⟩:∃j,k=j+1:=by
    cases k with
    |zero=>exact absurd (H.u.trans rfl) a3.u
    |succ j=>simp
   have hx:=b0.u l[n] (mQ av);have S:=H.u;rw[List.drop_eq_getElem_cons av,Yb]at S;have aw:=K8 (by rw[<-S];exact a3.u);have ap:=A3 HL.u A.u.P λ_ _ x=>x;obtain⟨gl,b8,-,bi,bh,b6,ao⟩:=D4 ap (by omega);subst b8;have v0:=ao n (U l[n]) (by grind[C7]);have a6:=O (HV.u k (by omega) wr t r z m l[n] A.u hz (b4.u.gr y.u) hx aw);rw[HP.u r v.u.sb]at a6;have a5:=O S;unfold maxLen at b6;have bj:(n:Int)<(l.length:Int):=by omega
   clear ao ap hx S aw H;generalize l[n]=x at*;go_wp2_with fail;refine a6.u.mono ?_;rintro e V P;obtain⟨ps,rfl,hh⟩|⟨bf,s2,B,bq,rfl,e1,-,L,r2,a7,u,rfl,T,rfl⟩:=RP.cut (K':=Ks w.heap.size) (λbd=>(rn b.N (aP b) G k (.vs (l.drop (n+1))) m).bd λq=>aE ((o++[r1 bd])++q)) P
   .have:RP a c f d G b.N z w g s (Ks w.heap.size) R (.panicked ps) V:=by rw[a5.u];exact hh.pre v.u y.u
    exact⟨rfl,this⟩
   .have ak:=a2.u.et A.u L F.u;have hB:=aH.y (wB:=a) (mb:=c) (g:=B) (I.alloc No V (.cells #[U u.g,.int .i32 u.n,.string ⟨u.t.toArray⟩,.pointer (pad B.tb u.h)] 150));have hA2:=λu T=>(F.u u T).gr a7;have a8:=ak.et r2 hB hA2;have Z:=O a8;have aj:=O (r2.y (I.alloc No V (.cells #[U u.g,.int .i32 u.n,.string ⟨u.t.toArray⟩,.pointer (pad B.tb u.h)] 150)));have ai:=O (v.u.trans (L.trans hB));have az:=O (y.u.trans a7);have ay:Hid (∀ah∈o++[u],bF s2.c ah):=λah hy=>by
     grind
    have a4:=O a8.1;have aa:=a5.u;rw[e1]at aa;have b3:=O aa;have bo:=kQ v.u.P.size L.P.size;have D:=W.u;have bg:o.length<=100000:=by omega
    rw[D]at a4;clear P ak a8 hB hA2 e1 aa L r2 a7 a6 T a5 a2 A v y F D;unfold bN;go_wp2_with (at_builtin;refine wpList_append_own_at _ rfl _ _ 172 rfl w.heap.size 150 i0 _ 4 40 underlying172 b7 ba bb bc rfl (by decide) _ n _ rfl a4.u (J V.heap.size 0) 1 1 [U u.g,.int .i32 u.n,.string ⟨u.t.toArray⟩,.pointer (pad B.tb u.h)] rfl rfl ?c1 ?c2 ?c3 ?c4 ?c5 ?_);case c1=>grind[World.news_of_block,pad,yY]
    case c2=>intro ah hy;simp at hy;obtain rfl|rfl|rfl|rfl:=hy<;>rfl
    case c3=>grind[maxLen]
    case c4=>omega
    case c5=>simp;omega
    intro v' be ad aq _ an;have ab:I (λk=>u7.ownBlock=some k) _ be:=(I.grown aq).mono λk _ x=>x.symm;have ax:∀q,q<w.heap.size->¬u7.ownBlock=some q:=λq P e=>by
     have:=(A9 Z.u.1 q e).1;omega
    rw[<-W.u]at ad;obtain⟨l4,r4⟩:=Z.u.grow aj.u b9 ab ad (an.imp id λe=>⟨_,e,by simp⟩);have L4:=O l4;have R4:=O r4;have F4:=O (ai.u.fresh ab ax);have b5:Hid ((o++[u]).length=n+1):=by show _=_;simp[W.u]
    clear l4 r4 ab ad aq an a4 Z aj ai ax;go_wp2;exact⟨⟨n+1,k,o++[u],s2,B,by omega,by go_num,b5.u,by omega,b3,R4,F4,az,ay,L4⟩,by grind[intOf]⟩
  .have ar:n=l.length:=by omega
   have a9:=H.u;rw[ar,List.drop_length]at a9;have am:R=.ok o t:=by
    cases k with
    |zero=>exact absurd (a9.trans rfl) a3.u
    |succ k=>
     simp_all[rn,aP,aE,X.bd,bU]
   have b1:Hid (RP a c f d G b.N z w g s (Ks w.heap.size) R (.returned u7) wr):=by
    show RP _ _ _ _ _ _ _ _ _ _ _ _ _ _;rw[am];exact⟨r,u7,rfl,v.u,A.u,y.u,F.u,a2.u⟩
   have bn:¬(n:Int)<(l.length:Int):=by omega
   clear a9 am ar;go_wp2;go_ret;exact b1.u
end
section
variable{b w j:E}{d a f e z:Nat}{i:Value}{G:Int->Option Int}{c:Cx}{s:Ms}{g h:Gh}
def eN.node(t:eN b c a f i)(q:Rm b w d a e G c.N s g z){k}(H):
 ∃l n o p,a<w.heap.size/\w.cell? (J a 0)=some (.slice (some (J l 0)) c.N.length n)/\w.cell? (J a 4)=some (.map (some f))/\l<w.heap.size/\c.N.length<=n/\n<=9223372036854775807/\(w.cell? (J l (k*9))=some (U c.N[k].x)/\w.cell? (J l (k*9+1))=some (U c.N[k].a)/\w.cell? (J l (k*9+2))=some (U c.N[k].b)/\w.cell? (J l (k*9+3))=some (U c.N[k].c)/\
  w.cell? (J l (k*9+4))=some (.slice o c.N[k].M.length p)/\w.cell? (J l (k*9+5))=some (.string ⟨c.N[k].text.toArray⟩)/\w.cell? (J l (k*9+6))=some (U c.N[k].n)/\w.cell? (J l (k*9+7))=some (U c.N[k].ty)/\w.cell? (J l (k*9+8))=some (U c.N[k].at'))/\
  b.ownsRow 0 3 1 (.slice o c.N[k].M.length p) c.N[k].M.length (C7 c.N[k].M):=by
 obtain⟨yv,mn,lb,fv,ov,u⟩:=t.eo;have D:=(aI u);have r:=(q.P.block a D id).trans u;obtain⟨l,n,o,p,L,F,y,h2,A,B,h5⟩:=t.fe.at (Below.refl _ _) k H;obtain⟨M,N,P,R,S,T,V,W,Z⟩:=A;have m:=λ{v:Addr} {a2:Value} (x:b.cell? v=some a2)=>A4 q.P x;refine⟨l,n,o,p,(aI r),?_,?_,yQ F q.P.size,y,by grind[maxLen],⟨m M,m N,m P,m R,m S,m T,m V,m W,m Z⟩,B⟩
 .rw[cell_of_row _ _ 0 _ _ _ r,<-L];rfl
 .rw[cell_of_row _ _ 4 _ _ _ r];rfl
def Yr{r}(hS:eN b c a f i)(hT:∀k,k<r->CT b d a e G c 60 (DM c) λm x=>rn c.N (aP c) G k (.s m) x):
 CR b d a e G c 34 Kn (gC c 26) λm x=>rn c.N (aP c) G (r+1) (.b m) x:=by
 intro w s g z x m ak hz ar hi a8;obtain⟨ao,b8,a7⟩:=hi;obtain⟨m,rfl⟩:=Int.eq_ofNat_of_zero_le ao;have S:m<c.N.length:=by omega
 rw[B9 S]at a7;have au:=hS.qg m S a7;obtain⟨R,hR⟩:∃R,R=((eX x).bd λl=>rn c.N (aP c) G r (.ss c.N[m].M) (some l)) s:=⟨_,rfl⟩;have al:rn c.N (aP c) G (r+1) (.b m) x s=R:=by rw[hR,rn,B9 S]
 simp only[al]at a8⊢;have ad:=O (SG ak ar);have HT:=O hT;have a2:=O a8;have HR:=O hR;have b2:=O au;have HX:Hid (∀B A p,Rm b B d a e G c.N A p z->_):=λB A p h1=>(⟨h1.mc,hS.node h1 S⟩:_/\_);clear ak hS hT a8 hR al au ar ao b8 a7;generalize pad g.sb x=bt at*;go_in;go_wp2_with fail;refine ad.u.mono ?_;rintro N B M;obtain⟨ps,rfl,hh⟩|⟨l,A,p,bc,rfl,L,-,ag,T,ai,hj,rfl⟩:=RP.cut (λl=>rn c.N (aP c) G r (.ss c.N[m].M) (some l)) M
 .have:RP b d a e G c.N z w g s Kn R (.panicked ps) B:=by rw[HR.u];exact hh
  exact⟨rfl,this⟩
 obtain⟨⟨fz,lt,m0,m1,m2,m3,m4⟩,gn,nc,la,lc,q0,q1,q2,q3,q4,q5,⟨x0,x1,x2,x3,x4,x5,x6,x7,x8⟩,ho⟩:=HX.u B A p T;have HO:=O ho;have az:=O T;have W:=O ag;have ac:=O ai;have aw:=O hj;have a5:=HR.u;rw[L]at a5;have b0:=O a5;have ay:=O (λ(h:Gh) (hp:p.sb<+:h.sb)=>J6 hp (o:=some l) λj' N=>by cases N;rw[T.sl];omega);generalize pad p.sb (some l)=pj at*;generalize c.N[m].M=o at*;clear M L ho T ag ai hj a5 ad m1 m2 m3 m4 x0 x1 x2 x3 x5 x6 x7 x8 HR;go_wp2;go_loopw [24] (λa9 wr=>∃(n k:Nat) (v:Ms) (t:Gh),n<=o.length/\a9=U n/\k<=r/\Hid (R=rn c.N (aP c) G k (.ss (o.drop n)) (some l) v)/\Hid (Rm b wr d a e G c.N v t z)/\Hid (aH b d B p wr t)/\Hid (Gr A.c v.c)) (λa9 _=>o.length-(intOf a9).toNat);case atStart=>exact⟨0,r,A,p,wQ _,rfl,vQ _,b0,az,aH.y (I.refl _ _),Gr.refl _⟩
 case round=>
  obtain⟨n,k,v,t,bp,rfl,hk,a3,H,D,F⟩:=hrel;by_cases aq:n<o.length
  .obtain⟨k,rfl⟩:∃l,k=l+1:=by
    cases k with
    |zero=>exact absurd (a3.u.trans rfl) a2.u
    |succ l=>simp
   have hx:=b2.u o[n] (mQ aq);have y:=a3.u;rw[List.drop_eq_getElem_cons aq,rn]at y;have b7:=A3 HO.u H.u.P λ_ _ aa=>aa;obtain⟨gl,ba,-,bo,bn,b5,b6⟩:=D4 b7 (by omega);subst ba;have v0:=b6 n (U o[n]) (by grind[C7]);have b1:=O (YR H.u hz);have b4:Hid (v.fu≠0->4000<=z):=λh0=>by obtain⟨bs,hm,_⟩:=H.u.mem;omega
   have af:=O y;have b3:=O hx;unfold maxLen at b5;generalize o[n]=aa at*;go_wp2_with fail;refine b1.u.mono ?_;rintro N av ⟨ah,q⟩;cases u:aW v with
   |stk=>rw[u]at q;exact q.elim
   |back bu V=>rw[u]at q;exact q.elim
   |over be j' V=>
    rw[u]at q;obtain⟨rfl,h3,rfl⟩:=q;have:RP b d a e G c.N z w g s Kn R (ov be j' []) av:=by
     rw[af.u,I1 u];exact⟨t,[],rfl,W.u.trans (D.u.trans ah),h3⟩
    exact⟨rfl,this⟩
   |ok bj V=>
    rw[u]at q;obtain⟨rfl,h3,an⟩:=q;have br:=b4.u (TM u).1;have y:=af.u;rw[I5 u]at y;have bb:=K8 (by rw[<-y];exact a2.u);have b9:l<V.c.S.length:=by rw[an];exact yQ aw.u F.u.S
    have a4:=O (HT.u k (by omega) av V t (z-4000) l aa h3 (by omega) b9 b3.u bb);rw[ay.u t D.u.sb]at a4;have ae:=O y;have Z:=O (D.u.trans ah);have ab:=O an;go_wp2_with fail;refine a4.u.mono ?_;rintro N bd M;obtain⟨ps,rfl,hh⟩|⟨bm,s4,g4,bc,rfl,L,-,f4,r4,aj,rfl⟩:=RP.cut (λ_=>rn c.N (aP c) G k (.ss (o.drop (n+1))) (some l)) M
    .have:RP b d a e G c.N z w g s Kn R (.panicked ps) bd:=by
      rw[ae.u];exact(hh.pre (W.u.trans Z.u) (ac.u.trans (F.u.trans (wF ab.u)))).more (by omega)
     exact⟨rfl,this⟩
    .have a6:=ae.u;rw[L]at a6;have bi:=O a6;have bh:=O (r4.more (show z-4000+1<=z by omega));have bf:=O (Z.u.trans f4);have bg:=O (F.u.trans ((wF ab.u).trans aj));clear M L a6 f4 r4 aj a4 Z H D F;go_wp2;grind[intOf]
  .have ap:n=o.length:=by omega
   have P:=a3.u;rw[ap,List.drop_length]at P;have am:R=.ok [] v:=by
    cases k with
    |zero=>exact absurd (P.trans rfl) a2.u
    |succ k=>
     rw[P,rn];rfl
   have ax:Hid (RP b d a e G c.N z w g s Kn R (rT) wr):=by
    show RP _ _ _ _ _ _ _ _ _ _ _ _ _ _;rw[am];exact⟨t,_,rfl,W.u.trans D.u,H.u,ac.u.trans F.u,rfl⟩
   have bq:¬(n:Int)<(o.length:Int):=by omega
   clear P am ap;go_wp2;go_end0;exact ax.u
end
