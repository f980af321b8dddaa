/-
  A part of the proof.
-/
import Derived.Test.YteocidgdmjaffaaGreatDoorPlainF
import Derived.Laws.Entries
set_option maxHeartbeats 0
set_option linter.all false
set_option maxRecDepth 100000
namespace Go.Proofs.YteocidgdmjaffaaGreatDoor
structure Vl where
 g:Int
 n:Int
 t:Y
 h:Option Nat
def Vl.beq(a b:Vl):Bool:=a.g==b.g&&a.n==b.n&&a.t==b.t&&a.h==b.h
def vN(n:Int):Vl:=⟨1,n,[],none⟩
def vT(t:Y):Vl:=⟨4,0,t,none⟩
def vO:Vl:=⟨8,0,[],none⟩
def vB(b:Bool):Vl:=⟨2,if b then 1 else 0,[],none⟩
def Vl.j3(v:Vl):Bool:=!v.beq vO&&!v.beq (vB false)
def mJ(g:Int):Y:=if g=1 then [110,117,109] else if g=2 then [98,111,111,108] else if g=4 then [116,101,120,116] else if g=8 then [110,117,108,108] else if g=16 then [111,98,106,101,99,116] else if g=32 then [97,114,114,97,121] else [102,117,110,99,116,105,111,110]
def Vl.kz(v:Vl):Y:=if v.g=1 then Lib.itoa v.n else if v.g=2 then Lib.formatBool (v.n==1) else if v.g=4 then v.t else mJ v.g
structure Th where
 k:Int
 p:Y->Option Vl
 l:List Vl
 nd:Int
 sc:Option Nat
structure Sc where
 o:Int->Option Vl
 up:Option Nat
structure Co where
 ca:Nat
 th:Nat
 T:List Th
 S:List Sc
structure Ms where
 c:Co
 fu:Nat
 ln:List Y
 ev:List (Int×Int)
inductive Rr(α:Type) where
 |ok (a:α) (s:Ms)
 |over (e i:Int) (s:Ms)
 |back (v:Vl) (s:Ms)
 |stk
inductive Rc(α:Type) where
 |ok (a:α) (c:Co)
 |over (e:Nat) (i:Int)
 |stk
def X(a):=Ms->Rr a
def X.bd{b c}(m:X b)(k:b->X c):X c:=λs=>match m s with
 |.ok a s=>k a s
 |.over e i s=>.over e i s
 |.back v s=>.back v s
 |.stk=>.stk
def X.cat(m:X (List Vl)):X (List Vl):=λs=>match m s with
 |.ok _ s=>.ok [vO] s
 |.over e i s=>.over e i s
 |.back v s=>.ok [v] s
 |.stk=>.stk
def bU{b}(f:Co->Rc b):X b:=λs=>match f s.c with
 |.ok a c=>.ok a {s with c:=c}
 |.over e i=>.over (e+3) i s
 |.stk=>.stk
def aE{b}(a:b):X b:=bU λc=>.ok a c
def aW:X Unit:=λs=>if s.fu=0 then .over 4 (-1) s else .ok () {s with fu:=s.fu-1}
def rV(l:Y):X Unit:=λs=>.ok () {s with ln:=s.ln++[l]}
def ret(v:Vl):X (List Vl):=λs=>.back v s
def dL(G:Int->Option Int)(i:Int)(v:Vl):X Vl:=λs=>match G i with
 |none=>.ok v s
 |some t=>if bits BinOp.and .i64 v.g t=0 then .over 2 i s else .ok v {s with ev:=s.ev++[(i,v.g)]}
def bX(i:Int):X Unit:=bU λc=>if c.th=2000 then .over 3 i else .ok () {c with th:=c.th+1}
def dX(i:Int)(v:Vl)(g:Int):X Unit:=bU λc=>if v.g=g then .ok () c else .over 0 i
def eW(v:Vl):X Th:=bU λc=>match v.h.bind (c.T[·]?) with
 |some t=>.ok t c
 |none=>.stk
def dZ(t:Th):X Nat:=bU λc=>.ok c.T.length {c with T:=c.T++[t]}
def fK(v:Vl)(t:Th):X Unit:=bU λc=>.ok () {c with T:=c.T.set (v.h.getD 0) t}
def eX(a:Option Nat):X Nat:=bU λc=>.ok c.S.length {c with S:=c.S++[⟨λ_=>none,a⟩]}
def dY(j:Nat)(x:Int)(v:Vl):X Unit:=bU λc=>.ok () {c with S:=c.S.modify j λq=>⟨λy=>if y=x then some v else q.o y,q.up⟩}
def gY(S:List Sc)(x:Int):Nat->Option Nat->Option Nat
 |0,_=>none
 |_,none=>none
 |k+1,some j=>match S[j]? with
  |none=>none
  |some q=>if (q.o x).isSome then some j else gY S x k q.up
def gT(x:Int)(a:Option Nat):X Nat:=bU λc=>match gY c.S x c.S.length a with
 |some j=>.ok j c
 |none=>.stk
def gZ(j:Nat)(x:Int):X Vl:=bU λc=>match (c.S[j]?).bind (·.o x) with
 |some v=>.ok v c
 |none=>.stk
def wr(n:Int):Int:=(n+2147483648) % 4294967296-2147483648
def lD(i:Int)(sg:Y)(a b:Vl):X Vl:=
 if sg=[61,61] then aE (vB (a.beq b))
 else if sg=[43]/\a.g=4 then (dX i b 4).bd λ_=>aE (vT ((a.t++b.t).take 200))
 else (dX i a 1).bd λ_=>(dX i b 1).bd λ_=>aE (if sg=[43] then vN (wr (a.n+b.n)) else if sg=[45] then vN (wr (a.n-b.n)) else if sg=[42] then vN (wr (a.n*b.n)) else vB (decide (a.n<b.n)))
def Y6(i:Int)(sg:Y)(v:Vl):X Vl:=
 if sg=[33] then aE (vB (!v.j3)) else if sg=[116,121,112,101,111,102] then aE (vT (mJ v.g)) else (dX i v 1).bd λ_=>aE (vN (wr (-v.n)))
def lN(i:Int)(v:Vl)(x:Y):X Vl:=
 if v.g=32/\x=[108,101,110,103,116,104] then (eW v).bd λt=>aE (vN (wr t.l.length))
 else (dX i v 16).bd λ_=>(eW v).bd λt=>aE ((t.p x).getD vO)
def mF(i:Int)(v a:Vl):X Vl:=(dX i v 32).bd λ_=>(dX i a 1).bd λ_=>(eW v).bd λt=>aE (if 0<=a.n then t.l.getD a.n.toNat vO else vO)
def lC(i:Int)(x:Y)(o v:Vl):X Unit:=(dX i o 16).bd λ_=>(eW o).bd λt=>fK o {t with p:=λy=>if y=x then some v else t.p y}
def jV(i:Int)(o a v:Vl):X Unit:=(dX i o 32).bd λ_=>(dX i a 1).bd λ_=>(eW o).bd λt=>
 if 0<=a.n/\a.n.toNat<t.l.length then fK o {t with l:=t.l.set a.n.toNat v}
 else if a.n=t.l.length then (bX i).bd λ_=>fK o {t with l:=t.l++[v]}
 else bU λ_=>.over 0 i
def hG(G:Int->Option Int):bZ->List Vl->Nat->X Unit
 |[],_,_=>aE ()
 |p::l,a,j=>(dL G p (a.headD vO)).bd λv=>(dY j p v).bd λ_=>hG G l a.tail j
def parts(b:List Y)(a:List Vl):Y->Option Vl:=(b.zip a).foldl (λf p y=>if y=p.1 then some p.2 else f y) λ_=>none
inductive Md where
 |e (i:Int)
 |v (i:Int)
 |vs (l:bZ)
 |b (i:Int)
 |ss (l:bZ)
 |s (i:Int)
 |w (i:Int)
def r1(r:List Vl):Vl:=r.headD vO
def rn(N:List C)(e:Int->Int)(G:Int->Option Int):Nat->Md->Option Nat->X (List Vl)
 |0,_,_=>λ_=>.stk
 |k+1,.v i,d=>aW.bd λ_=>(rn N e G k (.e i) d).bd λr=>(dL G i (r1 r)).bd λv=>aE [v]
 |_+1,.vs [],_=>aE []
 |k+1,.vs (i::l),d=>(rn N e G k (.v i) d).bd λr=>(rn N e G k (.vs l) d).bd λq=>aE (r1 r::q)
 |k+1,.b i,d=>(eX d).bd λj=>rn N e G k (.ss (aC N i).M) (some j)
 |_+1,.ss [],_=>aE []
 |k+1,.ss (i::l),d=>aW.bd λ_=>(rn N e G k (.s i) d).bd λ_=>rn N e G k (.ss l) d
 |k+1,.w i,d=>(rn N e G k (.v (aC N i).a) d).bd λr=>if (r1 r).j3 then (rn N e G k (.b (aC N i).b) d).bd λ_=>rn N e G k (.w i) d else aE []
 |k+1,.s i,d=>
  let n:=aC N i;let v:=λi=>rn N e G k (.v i) d;if n.x=17 then (v n.a).bd λr=>(dY (d.getD 0) i (r1 r)).bd λ_=>aE []
  else if n.x=18 then (v n.a).bd λr=>(gT (e i) d).bd λj=>(dY j (e i) (r1 r)).bd λ_=>aE []
  else if n.x=19 then (v n.a).bd λo=>(v n.b).bd λr=>(lC i n.text (r1 o) (r1 r)).bd λ_=>aE []
  else if n.x=20 then (v n.a).bd λo=>(v n.b).bd λa=>(v n.c).bd λr=>(jV i (r1 o) (r1 a) (r1 r)).bd λ_=>aE []
  else if n.x=21 then (v n.a).bd λr=>(rV (r1 r).kz).bd λ_=>aE []
  else if n.x=22 then (v n.a).bd λr=>if (r1 r).j3 then rn N e G k (.b n.b) d else if n.c=-1 then aE [] else rn N e G k (.b n.c) d
  else if n.x=23 then rn N e G k (.w i) d
  else if n.x=24 then (v n.a).bd λr=>ret (r1 r)
  else (v n.a).bd λ_=>aE []
 |k+1,.e i,d=>
  let n:=aC N i;let v:=λi=>rn N e G k (.v i) d;if n.x=1 then aE [vN (wr n.n)]
  else if n.x=2 then aE [vT n.text]
  else if n.x=3 then aE [vB (n.n==1)]
  else if n.x=5 then (gT (e i) d).bd λj=>(gZ j (e i)).bd λr=>aE [r]
  else if n.x=6 then (bX i).bd λ_=>(dZ ⟨64,λ_=>none,[],i,d⟩).bd λj=>aE [⟨64,0,[],some j⟩]
  else if n.x=7 then (v n.a).bd λf=>(rn N e G k (.vs n.M) d).bd λh=>(dX i (r1 f) 64).bd λ_=>
   (bU λc=>if c.ca=40 then .over 2 i else .ok () {c with ca:=c.ca+1}).bd λ_=>(eW (r1 f)).bd λt=>
   (X.cat ((eX t.sc).bd λj=>(hG G (aC N t.nd).M h j).bd λ_=>rn N e G k (.b (aC N t.nd).a) (some j))).bd λr=>
   (bU λc=>.ok () {c with ca:=c.ca-1}).bd λ_=>aE r
  else if n.x=8 then (v n.a).bd λo=>(lN i (r1 o) n.text).bd λr=>aE [r]
  else if n.x=9 then (v n.a).bd λo=>(v n.b).bd λa=>(mF i (r1 o) (r1 a)).bd λr=>aE [r]
  else if n.x=10 then (rn N e G k (.vs (n.M.map λx=>(aC N x).a)) d).bd λg=>(bX i).bd λ_=>(dZ ⟨16,parts (n.M.map λx=>(aC N x).text) g,[],0,none⟩).bd λj=>aE [⟨16,0,[],some j⟩]
  else if n.x=11 then (rn N e G k (.vs n.M) d).bd λg=>(bX i).bd λ_=>(dZ ⟨32,λ_=>none,g,0,none⟩).bd λj=>aE [⟨32,0,[],some j⟩]
  else if n.x=12 then (v n.a).bd λa=>(v n.b).bd λb=>(lD i n.text (r1 a) (r1 b)).bd λr=>aE [r]
  else if n.x=13 then (v n.a).bd λa=>(Y6 i n.text (r1 a)).bd λr=>aE [r]
  else if n.x=14 then v n.a
  else aE [vO]
def fC(a:Nat):Ms:=⟨⟨0,0,[],[]⟩,a,[],[]⟩
def jY(N:List C)(b:Int->Int)(G:Int->Option Int)(a:Nat):Option (Int×Int×Ms):=
 match rn N b G (8*a+20) (.b ((N.length:Int)-1)) none (fC a) with
 |.ok _ s=>some (1,-1,s)
 |.over e i s=>some (e,i,s)
 |_=>none
structure Lg(N:List C)(nm:Int->Int)(G G':Int->Option Int) where
 R:{α:Type}->X α->X α->Prop
 stk:∀k md sc,R (λ_=>.stk) (rn N nm G' k md sc)
 bd:∀{α β:Type} {m m':X α} {k k':α->X β},R m m'->(∀a,R (k a) (k' a))->R (m.bd k) (m'.bd k')
 cat:∀{m m':X (List Vl)},R m m'->R m.cat m'.cat
 co:∀{α:Type} (f:Co->Rc α),R (bU f) (bU f)
 jz:R aW aW
 ry:∀l,R (rV l) (rV l)
 ret:∀v,R (ret v) (ret v)
 lu:∀i v,R (dL G i v) (dL G' i v)
section
variable{N:List C}{a:Int->Int}{G G':Int->Option Int}(L:Lg N a G G')
def Lg.ite{g}{c}[Decidable c]{d b e f:X g}(h:L.R d e)(k:L.R b f):L.R (if c then d else b) (if c then e else f):=by
 grind
def WY:∀(l) (b) (j),L.R (hG G l b j) (hG G' l b j)
 |[],_,_=>by rw[hG,hG];exact L.co _
 |p::l,b,j=>L.bd (L.lu _ _) λ_=>L.bd (L.co _) λ_=>WY l b.tail j
def Ub(i)(x)(c b):L.R (lD i x c b) (lD i x c b):=by
 unfold lD;split
 .exact L.co _
 split
 .exact L.bd (L.co _) λ_=>L.co _
 .exact L.bd (L.co _) λ_=>L.bd (L.co _) λ_=>L.co _
def Tv(i)(x)(b):L.R (Y6 i x b) (Y6 i x b):=by
 unfold Y6;repeat' split
 all_goals first|exact L.co _|exact L.bd (L.co _) λ_=>L.co _
def Tp(i)(v)(x):L.R (lN i v x) (lN i v x):=by
 unfold lN;split
 .exact L.bd (L.co _) λ_=>L.co _
 .exact L.bd (L.co _) λ_=>L.bd (L.co _) λ_=>L.co _
def Hh(i)(v b):L.R (mF i v b) (mF i v b):=L.bd (L.co _) λ_=>L.bd (L.co _) λ_=>L.bd (L.co _) λ_=>L.co _
def Tw(i)(x)(o v):L.R (lC i x o v) (lC i x o v):=L.bd (L.co _) λ_=>L.bd (L.co _) λ_=>L.co _
def Tt(i)(o b v):L.R (jV i o b v) (jV i o b v):=L.bd (L.co _) λ_=>L.bd (L.co _) λ_=>L.bd (L.co _) λ_=>by
 repeat' split
 all_goals first|exact L.co _|exact L.bd (L.co _) λ_=>L.co _
def vV:∀(k c) (d) (e),k<=c->L.R (rn N a G k d e) (rn N a G' c d e)
 |0,_,_,_,_=>L.stk _ _ _
 |k+1,c,d,e,h=>by
  obtain⟨c,rfl⟩:∃j,c=j+1:=⟨c-1,by omega⟩;have b:=λd e=>vV k c d e (by omega);cases d with
  |v i=>exact L.bd L.jz λ_=>L.bd (b _ _) λ_=>L.bd (L.lu _ _) λ_=>L.co _
  |vs l=>
   cases l with
   |nil=>rw[rn,rn];exact L.co _
   |cons i l=>exact L.bd (b _ _) λ_=>L.bd (b _ _) λ_=>L.co _
  |b i=>exact L.bd (L.co _) λ_=>b _ _
  |ss l=>
   cases l with
   |nil=>rw[rn,rn];exact L.co _
   |cons i l=>exact L.bd L.jz λ_=>L.bd (b _ _) λ_=>b _ _
  |w i=>
   refine L.bd (b _ _) λr=>?_;split
   .exact L.bd (b _ _) λ_=>b _ _
   .exact L.co _
  |s i=>
   rw[rn,rn];dsimp only;refine L.ite (L.bd (b _ _) λ_=>L.bd (L.co _) λ_=>L.co _) ?_;refine L.ite (L.bd (b _ _) λ_=>L.bd (L.co _) λ_=>L.bd (L.co _) λ_=>L.co _) ?_;refine L.ite (L.bd (b _ _) λ_=>L.bd (b _ _) λ_=>L.bd (Tw L _ _ _ _) λ_=>L.co _) ?_;refine L.ite (L.bd (b _ _) λ_=>L.bd (b _ _) λ_=>L.bd (b _ _) λ_=>L.bd (Tt L _ _ _ _) λ_=>L.co _) ?_;refine L.ite (L.bd (b _ _) λ_=>L.bd (L.ry _) λ_=>L.co _) ?_;refine L.ite ?_ ?_
   .refine L.bd (b _ _) λ_=>?_;repeat' split
    all_goals first|exact b _ _|exact L.co _
   refine L.ite (b _ _) ?_;exact L.ite (L.bd (b _ _) λ_=>L.ret _) (L.bd (b _ _) λ_=>L.co _)
  |e i=>
   rw[rn,rn];dsimp only;refine L.ite (L.co _) ?_;refine L.ite (L.co _) ?_;refine L.ite (L.co _) ?_;refine L.ite (L.bd (L.co _) λ_=>L.bd (L.co _) λ_=>L.co _) ?_;refine L.ite (L.bd (L.co _) λ_=>L.bd (L.co _) λ_=>L.co _) ?_;refine L.ite (L.bd (b _ _) λ_=>L.bd (b _ _) λ_=>L.bd (L.co _) λ_=>L.bd (L.co _) λ_=>L.bd (L.co _) λ_=>L.bd (L.cat (L.bd (L.co _) λ_=>L.bd (WY L _ _ _) λ_=>b _ _)) λ_=>L.bd (L.co _) λ_=>L.co _) ?_;refine L.ite (L.bd (b _ _) λ_=>L.bd (Tp L _ _ _) λ_=>L.co _) ?_;refine L.ite (L.bd (b _ _) λ_=>L.bd (b _ _) λ_=>L.bd (Hh L _ _ _) λ_=>L.co _) ?_;refine L.ite (L.bd (b _ _) λ_=>L.bd (L.co _) λ_=>L.bd (L.co _) λ_=>L.co _) ?_;refine L.ite (L.bd (b _ _) λ_=>L.bd (L.co _) λ_=>L.bd (L.co _) λ_=>L.co _) ?_;refine L.ite (L.bd (b _ _) λ_=>L.bd (b _ _) λ_=>L.bd (Ub L _ _ _ _) λ_=>L.co _) ?_;refine L.ite (L.bd (b _ _) λ_=>L.bd (Tv L _ _ _) λ_=>L.co _) ?_;exact L.ite (b _ _) (L.co _)
end
abbrev Pw(g:Int):Prop:=g=1\/g=2\/g=4\/g=8\/g=16\/g=32\/g=64
def bF(c:Co)(v:Vl):Prop:=v.t.length<=4000/\(-2147483648<=v.n/\v.n<=2147483647)/\(1<=v.g/\v.g<=64/\(v.g=1\/v.g=2\/v.g=4\/v.g=8\/v.g=16\/v.g=32\/v.g=64))/\match v.h with
 |none=>v.g<16
 |some i=>∃t,c.T[i]?=some t/\t.k=v.g
def hY(c:Co)(a:Option Nat):Prop:=∀j,a=some j->j<c.S.length
structure Gr(c c':Co):Prop where
 T:∀(i:Nat) (t:Th),c.T[i]?=some t->∃t':Th,c'.T[i]?=some t'/\t'.k=t.k
 S:c.S.length<=c'.S.length
theorem Gr.refl(c):Gr c c:=⟨λ_ t h=>⟨t,h,rfl⟩,vQ _⟩
theorem Gr.trans{a b c}(h:Gr a b)(k:Gr b c):Gr a c:=⟨λi t e=>by
 obtain⟨f,d,g⟩:=h.T i t e;obtain⟨m,j,l⟩:=k.T i f d;grind,kQ h.S k.S⟩
def bF.pw{c}{v}(h:bF c v):Pw v.g:=h.2.2.1.2.2
def bF.gr{c a}{v}(h:bF c v)(g:Gr c a):bF a v:=by
 obtain⟨d,e,f,b⟩:=h;refine⟨d,e,f,?_⟩;cases j:v.h with
 |none=>grind
 |some i=>
  rw[j]at b;obtain⟨t,k,n⟩:=b;obtain⟨o,l,m⟩:=g.T i t k;grind
def hY.gr{c a}{s}(h:hY c s)(b:Gr c a):hY a s:=λj e=>yQ (h j e) b.S
theorem bF.lt{c}{v}(h:bF c v):∀i,v.h=some i->i<c.T.length:=λi e=>by
 obtain⟨_,_,_,a⟩:=h;grind
structure iP(N:List C)(c:Co)(t:Th):Prop where
 k:t.k=16\/t.k=32\/t.k=64
 p:∀x v,t.p x=some v->bF c v
 l:∀v∈t.l,bF c v
 sc:hY c t.sc
 fq:t.l.length<=1200+c.th
 nd:t.k=64->0<=t.nd/\t.nd<N.length/\(aC N t.nd).x=6
def iP.gr{N}{c a}{t}(h:iP N c t)(b:Gr c a)(f:c.th<=a.th):iP N a t:=
 ⟨h.k,λx v e=>(h.p x v e).gr b,λv d=>(h.l v d).gr b,h.sc.gr b,by have:=h.fq;omega,h.nd⟩
structure gX(N:List C)(c:Co):Prop where
 T:∀(i:Nat) (t:Th),c.T[i]?=some t->iP N c t
 S:∀(i:Nat) (q:Sc),c.S[i]?=some q->(∀x v,q.o x=some v->bF c v)/\∀j,q.up=some j->j<i
 th:c.th<=2000
 ca:c.ca<=40
section
variable{N:List C}{c:Co}
def pY(t):Gr c {c with T:=c.T++[t]}:=⟨λi u h=>⟨u,by grind,rfl⟩,vQ _⟩
def IZ(u:Option Nat):Gr c {c with S:=c.S++[⟨λ_=>none,u⟩]}:=⟨λ_ t h=>⟨t,h,rfl⟩,by simp⟩
def sU(j)(f):Gr c {c with S:=c.S.modify j f}:=⟨λ_ t h=>⟨t,h,rfl⟩,by simp⟩
def rK{j}{t u}(b:c.T[j]?=some t)(a:u.k=t.k):Gr c {c with T:=c.T.set j u}:=⟨λi v h=>by
 grind,vQ _⟩
theorem gX.of(h:gX N c){a}(b:Gr c a)(d:c.th<=a.th/\a.th<=2000)(k:a.ca<=40)(g:∀(i:Nat) (t),a.T[i]?=some t->c.T[i]?=some t\/iP N a t)
 (f:∀(i) (q:Sc),a.S[i]?=some q->c.S[i]?=some q\/(∀x v,q.o x=some v->bF a v)/\∀j,q.up=some j->j<i):gX N a where
 T i t ht:=(g i t ht).elim (λe=>(h.T i t e).gr b d.1) id;S i q hq:=(f i q hq).elim (λe=>⟨λx v l=>((h.S i q e).1 x v l).gr b,(h.S i q e).2⟩) id;th:=d.2;ca:=k
def gX.j6(h:gX N c){t}(b:iP N {c with T:=c.T++[t]} t):gX N {c with T:=c.T++[t]}:=
 h.of (pY t) ⟨vQ _,h.th⟩ h.ca (λi u d=>by
  grind) (λi q a=>.inl a)
def gX.kh(h:gX N c){u:Option Nat}(g:hY c u):gX N {c with S:=c.S++[⟨λ_=>none,u⟩]}:=
 h.of (IZ u) ⟨vQ _,h.th⟩ h.ca (λ_ _ f=>.inl f) (λi q a=>by
  obtain b|b:=Nat.lt_or_ge i c.S.length
  .grind
  .simp only at a;rw[List.getElem?_append_right b]at a;obtain e|e:=Nat.eq_zero_or_pos (i-c.S.length)
   .rw[e]at a;simp at a;subst a;exact .inr ⟨λx v k=>(by grind),λj d=>by have:=g j d;omega⟩
   grind)
def gX.ko(h:gX N c){j}{t u}(d:c.T[j]?=some t)(a:u.k=t.k)(e:iP N {c with T:=c.T.set j u} u):gX N {c with T:=c.T.set j u}:=
 h.of (rK d a) ⟨vQ _,h.th⟩ h.ca (λi v f=>by
  grind) (λi q b=>.inl b)
def gX.j2(h:gX N c)(j)(x){v}(g:bF c v):gX N {c with S:=c.S.modify j λq=>⟨λy=>if y=x then some v else q.o y,q.up⟩}:=
 h.of (sU j _) ⟨vQ _,h.th⟩ h.ca (λ_ _ f=>.inl f) (λi q a=>by
  simp only at a;rw[List.getElem?_modify]at a;split at a
  .cases d:c.S[i]? with
   |none=>grind
   |some e=>
    rw[d]at a;rw[Option.map_eq_map,Option.map_some,zQ]at a;subst a;refine .inr ⟨λy u b=>?_,(h.S i e d).2⟩;dsimp only at b;split at b
    .cases b;exact g.gr (sU j _)
    .exact((h.S i e d).1 y u b).gr (sU j _)
  grind)
end
def Ca{b}(m:X b):Prop:=∀s,match m s with
 |.ok _ a=>a.c.ca=s.c.ca
 |.back _ a=>a.c.ca=s.c.ca
 |_=>True
section
variable{a b:Type}
theorem Ca.bd{m}{k:a->X b}(h:Ca m)(g:∀c,Ca (k c)):Ca (m.bd k):=λs=>by
 have f:=h s;unfold X.bd;cases e:m s with
 |ok c d=>
  rw[e]at f;have j:=g c d;grind
 |back v d=>grind
 |over x i l=>simp
 |stk=>simp
def Ca.co{f:Co->Rc a}(h:∀c e d,f c=.ok e d->d.ca=c.ca):Ca (bU f):=λs=>by
 grind[bU]
def Ca.ite{c}[Decidable c]{d e:X a}(h:Ca d)(k:Ca e):Ca (if c then d else e):=by
 grind
theorem Ca.ff(c:a):Ca (aE c):=Ca.co λ_ _ _ h=>by grind
theorem Ca.cat{m}(h:Ca m):Ca m.cat:=λs=>by
 have c:=h s;grind[X.cat]
def Ca.jz:Ca aW:=λs=>by
 grind[aW]
def Ca.lu(G)(i)(v):Ca (dL G i v):=λs=>by
 grind[dL,bits]
def Ca.jm(i)(v)(g):Ca (dX i v g):=Ca.co λc d e h=>by
 grind
def Ca.j8(v):Ca (eW v):=Ca.co λc d e h=>by
 grind
def Ca.j6(t):Ca (dZ t):=Ca.co λ_ _ _ h=>by grind
def Ca.ko(v)(t):Ca (fK v t):=Ca.co λ_ _ _ h=>by grind
def Ca.kh(u):Ca (eX u):=Ca.co λ_ _ _ h=>by grind
def Ca.j2(j)(x)(v):Ca (dY j x v):=Ca.co λ_ _ _ h=>by grind
def Ca.made(i):Ca (bX i):=Ca.co λc d e h=>by
 grind
def Ca.oq(x)(d):Ca (gT x d):=Ca.co λc e f h=>by
 grind
def Ca.q9(j)(x):Ca (gZ j x):=Ca.co λc d e h=>by
 grind
def sf(i)(x)(c d):Ca (lD i x c d):=by
 unfold lD;exact .ite (.ff _) (.ite (.bd (.jm _ _ _) λ_=>.ff _) (.bd (.jm _ _ _) λ_=>.bd (.jm _ _ _) λ_=>.ff _))
def qi(i)(x)(c):Ca (Y6 i x c):=by
 unfold Y6;exact .ite (.ff _) (.ite (.ff _) (.bd (.jm _ _ _) λ_=>.ff _))
def iz(i)(v)(x):Ca (lN i v x):=by
 unfold lN;exact .ite (.bd (.j8 _) λ_=>.ff _) (.bd (.jm _ _ _) λ_=>.bd (.j8 _) λ_=>.ff _)
def Mc(i)(v c):Ca (mF i v c):=.bd (.jm _ _ _) λ_=>.bd (.jm _ _ _) λ_=>.bd (.j8 _) λ_=>.ff _
def sd(i)(x)(o v):Ca (lC i x o v):=.bd (.jm _ _ _) λ_=>.bd (.j8 _) λ_=>.ko _ _
def ji(i)(o c v):Ca (jV i o c v):=.bd (.jm _ _ _) λ_=>.bd (.jm _ _ _) λ_=>.bd (.j8 _) λ_=>.ite (.ko _ _) (.ite (.bd (.made _) λ_=>.ko _ _) (.co λ_ _ _ h=>by grind))
def LK(G):∀(l) (c) (j),Ca (hG G l c j)
 |[],_,_=>by rw[hG];exact .ff _
 |p::l,c,j=>by rw[hG];exact .bd (.lu _ _ _) λ_=>.bd (.j2 _ _ _) λ_=>LK G l c.tail j
def Mm{f:Co->Rc a}{s c}{u}(h:bU f s=.back u c):False:=by
 grind[bU]
def ik{m:X (List Vl)}{s c}{u}(h:m.cat s=.back u c):False:=by
 grind[X.cat]
def Lp(i)(v){m:Th->X (List Vl)}(h:∀t,Ca (m t))(p:∀t s u n,m t s=.back u n->False):Ca ((bU λc=>if c.ca=40 then .over 2 i else .ok () {c with ca:=c.ca+1}).bd λ_=>(eW v).bd λt=>(m t).bd λr=>(bU λc=>.ok () {c with ca:=c.ca-1}).bd λ_=>aE r):=λs=>by
 by_cases l:s.c.ca=40
 .grind[X.bd,bU]
 .have g:(bU λc=>if c.ca=40 then Rc.over 2 i else .ok () {c with ca:=c.ca+1}) s=.ok () {s with c:={s.c with ca:=s.c.ca+1}}:=by simp[bU,l]
  have k:Ca ((eW v).bd m):=.bd (.j8 v) h;have d:=k {s with c:={s.c with ca:=s.c.ca+1}};unfold X.bd at d⊢;rw[g];simp only;cases e:eW v {s with c:={s.c with ca:=s.c.ca+1}} with
  |ok t f=>
   rw[e]at d;simp only at d⊢;cases o:m t f<;>simp_all[bU,aE]
  |back u f=>exact(Mm e).elim
  |over x j f=>simp
  |stk=>simp
def QS(N)(f)(G):∀(k) (d) (e),Ca (rn N f G k d e)
 |0,d,e=>λs=>by simp[rn]
 |k+1,d,e=>by
  have c:=QS N f G k;cases d with
  |v i=>rw[rn];exact .bd .jz λ_=>.bd (c _ _) λ_=>.bd (.lu _ _ _) λ_=>.ff _
  |vs l=>
   cases l with
   |nil=>rw[rn];exact .ff _
   |cons i l=>rw[rn];exact .bd (c _ _) λ_=>.bd (c _ _) λ_=>.ff _
  |b i=>rw[rn];exact .bd (.kh _) λ_=>c _ _
  |ss l=>
   cases l with
   |nil=>rw[rn];exact .ff _
   |cons i l=>rw[rn];exact .bd .jz λ_=>.bd (c _ _) λ_=>c _ _
  |w i=>rw[rn];exact .bd (c _ _) λ_=>.ite (.bd (c _ _) λ_=>c _ _) (.ff _)
  |s i=>
   rw[rn];dsimp only;refine .ite (.bd (c _ _) λ_=>.bd (.j2 _ _ _) λ_=>.ff _) ?_;refine .ite (.bd (c _ _) λ_=>.bd (.oq _ _) λ_=>.bd (.j2 _ _ _) λ_=>.ff _) ?_;refine .ite (.bd (c _ _) λ_=>.bd (c _ _) λ_=>.bd (sd _ _ _ _) λ_=>.ff _) ?_;refine .ite (.bd (c _ _) λ_=>.bd (c _ _) λ_=>.bd (c _ _) λ_=>.bd (ji _ _ _ _) λ_=>.ff _) ?_;refine .ite (.bd (c _ _) λ_=>.bd (λs=>rfl) λ_=>.ff _) ?_;refine .ite (.bd (c _ _) λ_=>.ite (c _ _) (.ite (.ff _) (c _ _))) ?_;refine .ite (c _ _) ?_;exact .ite (.bd (c _ _) λ_=>λs=>rfl) (.bd (c _ _) λ_=>.ff _)
  |e i=>
   rw[rn];dsimp only;refine .ite (.ff _) ?_;refine .ite (.ff _) ?_;refine .ite (.ff _) ?_;refine .ite (.bd (.oq _ _) λ_=>.bd (.q9 _ _) λ_=>.ff _) ?_;refine .ite (.bd (.made _) λ_=>.bd (.j6 _) λ_=>.ff _) ?_;refine .ite (.bd (c _ _) λ_=>.bd (c _ _) λ_=>.bd (.jm _ _ _) λ_=>Lp _ _ (λt=>.cat (.bd (.kh _) λ_=>.bd (LK _ _ _ _) λ_=>c _ _)) λ_ _ _ _ h=>ik h) ?_;refine .ite (.bd (c _ _) λ_=>.bd (iz _ _ _) λ_=>.ff _) ?_;refine .ite (.bd (c _ _) λ_=>.bd (c _ _) λ_=>.bd (Mc _ _ _) λ_=>.ff _) ?_;refine .ite (.bd (c _ _) λ_=>.bd (.made _) λ_=>.bd (.j6 _) λ_=>.ff _) ?_;refine .ite (.bd (c _ _) λ_=>.bd (.made _) λ_=>.bd (.j6 _) λ_=>.ff _) ?_;refine .ite (.bd (c _ _) λ_=>.bd (c _ _) λ_=>.bd (sf _ _ _ _) λ_=>.ff _) ?_;refine .ite (.bd (c _ _) λ_=>.bd (qi _ _ _) λ_=>.ff _) ?_;exact .ite (c _ _) (.ff _)
end
def Rr.Fu{a}(r:Rr a)(n:Nat):Prop:=match r with
 |.ok _ s=>s.fu<=n
 |.back _ s=>s.fu<=n
 |_=>True
def QT(N)(q)(G)(k)(j)(l)(s)(n)(p:s.fu<=n):(rn N q G k j l s).Fu n:=by
 refine vV (G':=G) {R:=λm _=>∀(s:Ms) n,s.fu<=n->(m s).Fu n,stk:=λ_ _ _ _ _ _=>trivial,bd:=?_,cat:=?_,co:=?_,jz:=?_,ry:=λ_ _ _ h=>h,ret:=λ_ _ _ h=>h,lu:=?_} k k j l (vQ _) s n p
 .intro r u m _ k _ d o s n b;have:=d s n b;unfold X.bd;cases e:m s with
  |ok a g=>rw[e]at this;exact o a g n this
  |back v g=>rw[e]at this;exact this
  |over t i g=>trivial
  |stk=>trivial
 .intro m _ d s n b;have:=d s n b;unfold X.cat;cases e:m s<;>rw[e]at this<;>first|exact this|trivial
 .intro r f s n b;unfold bU;cases f s.c with
  |ok a c=>exact b
  |over e i=>trivial
  |stk=>trivial
 .intro s n b;unfold aW;split
  .trivial
  .show s.fu-1<=n;omega
 .intro i v s n b;unfold dL;split
  .exact b
  .split
   .trivial
   .exact b
def Vt{N}{c}{G}{k}{i}{f}{s l}{a}(h:rn N c G k (.v i) f s=.ok a l):l.fu<s.fu:=by
 cases k with
 |zero=>grind[rn]
 |succ k=>
  rw[rn]at h;unfold X.bd aW at h;by_cases m:s.fu=0
  .grind
  .simp only[zY m]at h;have:=QT N c G k (.e i) f {s with fu:=s.fu-1} (s.fu-1) (vQ _);cases o:rn N c G k (.e i) f {s with fu:=s.fu-1} with
   |stk=>grind
   |over e j d=>grind
   |back v d=>grind
   |ok b d=>
    rw[o]at h this;simp only at h;have p:d.fu<=s.fu-1:=this;unfold dL at h;cases g:G i with
    |none=>
     rw[g]at h;simp only[aE,bU,Rr.ok.injEq]at h;grind
    |some t=>
     rw[g]at h;simp only at h;by_cases n:bits BinOp.and .i64 (r1 b).g t=0
     .grind
     .rw[zY n]at h;simp only[aE,bU,Rr.ok.injEq]at h;grind
def Nj{c}(m:X c)(s:Ms)(Q:c->Ms->Prop)(B:Vl->Ms->Prop):Prop:=match m s with
 |.ok a b=>Q a b
 |.back v b=>B v b
 |.over _ _ _=>True
 |.stk=>False
def rH(s:Ms):Prop:=∀p∈s.ev,Pw p.2
def Rr.Ev{a}(r:Rr a):Prop:=match r with
 |.ok _ s=>rH s
 |.back _ s=>rH s
 |.over _ _ s=>rH s
 |.stk=>True
def Nk{a}(m:X a)(s:Ms)(Q:a->Ms->Prop)(B:Vl->Ms->Prop):Prop:=Nj m s Q B/\(rH s->(m s).Ev)
section
variable{a f:Type}{m:X a}{s:Ms}{Q Q':a->Ms->Prop}{B d:Vl->Ms->Prop}
def Nk.mono(h:Nk m s Q B)(g:∀c b,Q c b->Q' c b)(e:∀v b,B v b->d v b):Nk m s Q' d:=by
 refine⟨?_,h.2⟩;have h:=h.1;grind[Nj]
theorem Nk.bd{k}{R:f->Ms->Prop}(h:Nk m s Q B)(l:∀g j,Q g j->Nk (k g) j R B):Nk (m.bd k) s R B:=by
 obtain⟨h,i⟩:=h;unfold Nk Nj X.bd at*;cases e:m s with
 |ok g j=>rw[e]at h i;exact⟨(l g j h).1,λn=>(l g j h).2 (i n)⟩
 |back v j=>rw[e]at h i;exact⟨h,i⟩
 |over g b c=>rw[e]at i;exact⟨trivial,i⟩
 |stk=>grind
theorem Nk.c{b}(h:Nj (bU b) s Q B):Nk (bU b) s Q B:=by
 refine⟨h,λg=>?_⟩;unfold bU;cases b s.c with
 |ok j c=>exact g
 |over e i=>exact g
 |stk=>trivial
theorem Nk.ff{b}(h:Q b s):Nk (aE b) s Q B:=Nk.c h
def Nk.jz{Q}(h:s.fu≠0->Q () {s with fu:=s.fu-1}):Nk aW s Q B:=by
 unfold Nk Nj aW;by_cases b:s.fu=0
 .rw[wY b];exact⟨trivial,λx=>x⟩
 .rw[zY b];exact⟨h b,λx=>x⟩
def Nk.lu{G}{i}{v}{Q}(j:Pw v.g)(h:∀c,c.c=s.c->c.fu=s.fu->Q v c):Nk (dL G i v) s Q B:=by
 unfold Nk Nj dL;cases G i with
 |none=>exact⟨h s rfl rfl,λx=>x⟩
 |some t=>
  simp only;by_cases e:bits BinOp.and .i64 v.g t=0
  .rw[wY e];exact⟨trivial,λx=>x⟩
  .rw[zY e];refine⟨h _ rfl rfl,λg p b=>?_⟩;obtain b|b:=qW.1 b
   .exact g p b
   grind
end
structure Le(c c':Co):Prop where
 gr:Gr c c'
 sc:∀(j:Nat) (q:Sc),c.S[j]?=some q->∃q':Sc,c'.S[j]?=some q'/\q'.up=q.up/\∀x,(q.o x).isSome->(q'.o x).isSome
theorem Le.refl(c):Le c c:=⟨Gr.refl c,λ_ q h=>⟨q,h,rfl,λ_ h=>h⟩⟩
theorem Le.trans{a b c}(h:Le a b)(k:Le b c):Le a c:=⟨h.gr.trans k.gr,λj q e=>by
 obtain⟨f,d,g,i⟩:=h.sc j q e;obtain⟨l,k1,k2,k3⟩:=k.sc j f d;grind⟩
def Le.same{c a}(h:Gr c a)(b:a.S=c.S):Le c a:=⟨h,λ_ q d=>⟨q,by grind,rfl,λ_ h=>h⟩⟩
inductive Ii(S:List Sc)(x:Int):Option Nat->Prop
 |here {j:Nat} {q:Sc}:S[j]?=some q->(q.o x).isSome->Ii S x (some j)
 |up {j:Nat} {q:Sc}:S[j]?=some q->Ii S x q.up->Ii S x (some j)
def Ii.le{c d}(h:Le c d){x}{e}(i:Ii c.S x e):Ii d.S x e:=by
 induction i with
 |here b j=>
  obtain⟨l,a,_,g⟩:=h.sc _ _ b;exact .here a (g _ j)
 |up b _ k=>
  obtain⟨l,a,f,_⟩:=h.sc _ _ b;exact .up a (f ▸ k)
def Ii.oq{S}{x}{a}(f:∀(i) (q:Sc),S[i]?=some q->∀j,q.up=some j->j<i)(h:Ii S x a):∀k,(∀j,a=some j->j<k)->∃j,gY S x k a=some j:=by
 induction h with
 |@here j q b g=>
  intro k c;obtain⟨k,rfl⟩:∃n,k=n+1:=⟨k-1,by grind⟩;simp_all[gY]
 |@up j q b _ d=>
  intro k c;obtain⟨k,rfl⟩:∃n,k=n+1:=⟨k-1,by grind⟩;rw[gY,b];simp only;split
  .simp
  .exact d k λl e=>by grind
abbrev Aw:=Int->Bool->(Int->Prop)->Prop
def sQ(A:Aw)(c:Co)(t:Th):Prop:=∃f V,A t.nd f V/\∀j,V j->Ii c.S j t.sc
structure Inv(N:List C)(A:Aw)(c:Co):Prop where
 ok:gX N c
 fn:∀(i:Nat) (t:Th),c.T[i]?=some t->t.k=64->sQ A c t
def sQ.le{A}{c a}{t}(h:sQ A c t)(g:Le c a):sQ A a t:=by
 obtain⟨f,V,b,d⟩:=h;exact⟨f,V,b,λj e=>(d j e).le g⟩
def Inv.to{N}{A}{c b}(h:Inv N A c)(j:Le c b)(k:gX N b)(f:∀(i:Nat) (t),b.T[i]?=some t->t.k=64->(∃a,c.T[i]?=some a/\a.k=64/\a.nd=t.nd/\a.sc=t.sc)\/sQ A b t):Inv N A b:=
 ⟨k,λi t l g=>(f i t l g).elim (λ⟨a,d,e,m,n⟩=>by
  have:=(h.fn i a d e).le j;grind[sQ]) id⟩
def jF(N:List C)(x:Int):Prop:=0<=x/\x<N.length/\1<=(aC N x).x/\(aC N x).x<=14
def Su(A:Aw)(x:Int)(f:Bool)(V E:Int->Prop):Prop:=∃a,A x f a/\∀j,a j->V j\/E j
def Nn:Int->Prop:=λ_=>False
structure qT(N:List C)(nm:Int->Int)(A:Aw):Prop where
 var:∀{i f V},A i f V->(aC N i).x=5\/(aC N i).x=18->V (nm i)
 a:∀{i f V},A i f V->(aC N i).x∈[(7:Int),8,9,12,13,14,18,19,20,21,22,23,24,25]->jF N (aC N i).a/\Su A (aC N i).a f V Nn
 b:∀{i f V},A i f V->(aC N i).x∈[(9:Int),12,19,20]->jF N (aC N i).b/\Su A (aC N i).b f V Nn
 c:∀{i f V},A i f V->(aC N i).x=20->jF N (aC N i).c/\Su A (aC N i).c f V Nn
 l:∀{i f V},A i f V->(aC N i).x=7\/(aC N i).x=11->∀x∈(aC N i).M,jF N x/\Su A x f V Nn
 o:∀{i f V},A i f V->(aC N i).x=10->∀x∈(aC N i).M,jF N (aC N x).a/\Su A (aC N x).a f V Nn
 ab:∀{i f V},A i f V->(aC N i).x=22\/(aC N i).x=23->(aC N (aC N i).b).x=26/\Su A (aC N i).b f V Nn
 ac:∀{i f V},A i f V->(aC N i).x=22->(aC N i).c≠-1->(aC N (aC N i).c).x=26/\Su A (aC N i).c f V Nn
 fn:∀{i f V},A i f V->(aC N i).x=6->(aC N (aC N i).a).x=26/\Su A (aC N i).a true V (·∈(aC N i).M)
 eo:∀{i f V},A i f V->(aC N i).x=26->∀p x r,(aC N i).M=p++x::r->(17<=(aC N x).x/\(aC N x).x<=25)/\Su A x f V λj=>j∈p/\(aC N j).x=17
 lt:∀{i f V},A i f V->(aC N i).x=17->jF N (aC N i).a/\Su A (aC N i).a f V λj=>j=i/\(aC N (aC N i).a).x=6
 ret:∀{i f V},A i f V->(aC N i).x=24->f=true
 tx:∀i,(aC N i).text.length<=30
 ls:∀i,(aC N i).M.length<=1200
section
variable{N:List C}{a:Int->Int}{G:Int->Option Int}{A:Aw}
def Qv(N:List C)(A:Aw)(s:Ms)(c:List Vl)(b:Ms):Prop:=(∃v,c=[v]/\bF b.c v)/\Le s.c b.c/\Inv N A b.c/\b.fu<=s.fu
def Km(N:List C)(A:Aw)(n:Nat)(s:Ms)(c:List Vl)(b:Ms):Prop:=(c.length=n/\∀v∈c,bF b.c v)/\Le s.c b.c/\Inv N A b.c/\b.fu<=s.fu
def oW(N:List C)(A:Aw)(s:Ms)(_:List Vl)(b:Ms):Prop:=Le s.c b.c/\Inv N A b.c/\b.fu<=s.fu
def Bk(N:List C)(A:Aw)(f:Bool)(s:Ms)(v:Vl)(b:Ms):Prop:=f=true/\bF b.c v/\Le s.c b.c/\Inv N A b.c/\b.fu<=s.fu
def Nb:Vl->Ms->Prop:=λ_ _=>False
structure Hr(N:List C)(A:Aw)(V:Int->Prop)(sc:Option Nat)(s:Ms):Prop where
 inv:Inv N A s.c
 kv:hY s.c sc
 ly:∀j,V j->Ii s.c.S j sc
def Hr.on{V}{d}{s b}(h:Hr N A V d s)(c:Le s.c b.c)(e:Inv N A b.c):Hr N A V d b:=⟨e,h.kv.gr c.gr,λj f=>(h.ly j f).le c⟩
def Hr.su{V b}{c}{s}(h:Hr N A V c s)(e:∀j,b j->V j\/Nn j):Hr N A b c s:=⟨h.inv,h.kv,λj d=>(e j d).elim (h.ly j) False.elim⟩
theorem Hr.of{V}{c}{s b}(h:Hr N A V c s)(e:b.c=s.c):Hr N A V c b:=⟨e ▸ h.inv,e ▸ h.kv,λj d=>e ▸ h.ly j d⟩
def Yc(n):-2147483648<=wr n/\wr n<=2147483647:=by
 grind[wr]
theorem CC(c)(n):bF c (vN (wr n)):=⟨by simp[vN],Yc n,by simp[vN],by simp[vN]⟩
def GD(c){t}(h:t.length<=4000):bF c (vT t):=⟨h,by simp[vT],by simp[vT],by simp[vT]⟩
theorem BW(c)(b):bF c (vB b):=by grind[bF,vB]
theorem vC(c):bF c vO:=by grind[bF,vO]
def bF.jy{c}{v}(h:bF c v)(d:16<=v.g):∃j t,v.h=some j/\c.T[j]?=some t/\t.k=v.g:=by
 obtain⟨_,_,_,b⟩:=h;grind
def Nk.jm{i g}{v}{s}{Q}{B}(h:v.g=g->Q () s):Nk (dX i v g) s Q B:=by
 refine Nk.c ?_;unfold Nj bU;by_cases b:v.g=g<;>simp_all
def Nk.j8{v}{s}{Q}{B}(c:bF s.c v)(b:16<=v.g)(h:∀j t,v.h=some j->s.c.T[j]?=some t->t.k=v.g->Q t s):Nk (eW v) s Q B:=by
 obtain⟨j,t,d,e,f⟩:=c.jy b;refine Nk.c ?_;unfold Nj bU;simp_all
def Qo(s:Ms)(v:Vl)(b:Ms):Prop:=b=s/\bF s.c v
def Bh{i}{sg}{d b}{s}{B}:Nk (lD i sg d b) s (Qo s) B:=by
 unfold lD;split
 .exact Nk.ff ⟨rfl,BW _ _⟩
 split
 .exact Nk.bd (Nk.jm (Q:=λ_ c=>c=s) λ_=>rfl) λ_ _ e=>Nk.ff ⟨e,GD _ (by grind)⟩
 .refine Nk.bd (Nk.jm (Q:=λ_ c=>c=s) λ_=>rfl) λ_ _ e=>Nk.bd (Nk.jm (Q:=λ_ c=>c=s) λ_=>e) λ_ _ e=>Nk.ff ⟨e,?_⟩;grind[CC,BW]
theorem Gz(g):(mJ g).length<=8:=by
 unfold mJ;repeat' split
 all_goals simp
def Ay{i}{sg}{v}{s}{B}:Nk (Y6 i sg v) s (Qo s) B:=by
 unfold Y6;split
 .exact Nk.ff ⟨rfl,BW _ _⟩
 split
 .exact Nk.ff ⟨rfl,GD _ (by grind[Gz])⟩
 .exact Nk.bd (Nk.jm (Q:=λ_ b=>b=s) λ_=>rfl) λ_ _ e=>Nk.ff ⟨e,CC _ _⟩
def Aq{i}{v}{x}{s}{B}(h:Inv N A s.c)(c:bF s.c v):Nk (lN i v x) s (Qo s) B:=by
 unfold lN;split
 .rename_i g;exact Nk.bd (Nk.j8 (Q:=λ_ b=>b=s) c (by omega) λ_ _ _ _ _=>rfl) λ_ _ e=>Nk.ff ⟨e,CC _ _⟩
 .refine Nk.bd (Nk.jm (Q:=λ_ b=>b=s/\v.g=16) λe=>⟨rfl,e⟩) λ_ d e=>?_;obtain⟨rfl,g⟩:=e;refine Nk.bd (Nk.j8 (Q:=λt b=>b=d/\iP N d.c t) c (by omega) λj t _ f _=>⟨rfl,h.ok.T j t f⟩) λt m e=>?_;obtain⟨rfl,l⟩:=e;refine Nk.ff ⟨rfl,?_⟩;cases k:t.p x with
  |none=>grind[vC]
  |some u=>exact l.p x u k
def Uo{i}{v c}{s}{B}(h:Inv N A s.c)(l:bF s.c v):Nk (mF i v c) s (Qo s) B:=by
 unfold mF;refine Nk.bd (Nk.jm (Q:=λ_ b=>b=s/\v.g=32) λe=>⟨rfl,e⟩) λ_ m e=>?_;obtain⟨rfl,n⟩:=e;refine Nk.bd (Nk.jm (Q:=λ_ b=>b=m) λ_=>rfl) λ_ d e=>?_;subst e;refine Nk.bd (Nk.j8 (Q:=λt b=>b=d/\iP N d.c t) l (by omega) λj t _ f _=>⟨rfl,h.ok.T j t f⟩) λt o e=>?_;obtain⟨rfl,k⟩:=e;refine Nk.ff ⟨rfl,?_⟩;split
 .rw[lQ];cases g:t.l[c.n.toNat]? with
  |none=>grind[vC]
  |some u=>exact k.l u (List.mem_of_getElem? g)
 grind[vC]
def Qu(N:List C)(A:Aw)(s:Ms)(b:Ms):Prop:=Le s.c b.c/\Inv N A b.c/\b.fu<=s.fu
def Fz{c b}{t}(h:iP N c t)(d:Gr c b){p}{l}(g:∀x v,p x=some v->bF b v)(e:∀v∈l,bF b v)(f:l.length<=1200+b.th):iP N b {t with p:=p,l:=l}:=⟨h.k,g,e,h.sc.gr d,f,h.nd⟩
def JM{o:Vl}{t}{s f}{j}{B:Vl->Ms->Prop}{p:Y->Option Vl}{l:List Vl}(h:Qu N A f s)(m:o.h=some j)(c:s.c.T[j]?=some t)(n:∀x v,p x=some v->bF s.c v)(g:∀v∈l,bF s.c v)(k:l.length<=1200+s.c.th):Nk (fK o {t with p:=p,l:=l}) s (λ_ r=>Qu N A f r) B:=by
 have b:=rK (c:=s.c) (u:={t with p:=p,l:=l}) c rfl;have d:Le s.c {s.c with T:=s.c.T.set j {t with p:=p,l:=l}}:=Le.same b rfl;refine Nk.c ?_;unfold Nj bU;simp only[m,Option.getD_some];refine⟨h.1.trans d,h.2.1.to d (h.2.1.ok.ko c rfl (Fz (h.2.1.ok.T j t c) b (λx v e=>(n x v e).gr b) (λv q=>(g v q).gr b) k)) λi u y w=>.inl ?_,h.2.2⟩;grind
def Bc{i}{x}{o v}{s}{B:Vl->Ms->Prop}(h:Inv N A s.c)(l:bF s.c o)(n:bF s.c v):Nk (lC i x o v) s (λ_ b=>Qu N A s b) B:=by
 unfold lC;refine Nk.bd (Nk.jm (Q:=λ_ b=>b=s/\o.g=16) λe=>⟨rfl,e⟩) λ_ k e=>?_;obtain⟨rfl,m⟩:=e;refine Nk.bd (Nk.j8 (Q:=λt b=>b=k/\∃j,o.h=some j/\k.c.T[j]?=some t) l (by omega) λj t f c _=>⟨rfl,j,f,c⟩) λt p e=>?_;obtain⟨rfl,j,f,c⟩:=e;have g:=h.ok.T j t c;refine JM (l:=t.l) ⟨Le.refl _,h,vQ _⟩ f c (λy u d=>?_) g.l g.fq;have d:=d;split at d
 .grind
 .exact g.p y u d
def zN{i}{s f}{B:Vl->Ms->Prop}{Q:Unit->Ms->Prop}(h:Qu N A f s)(g:s.c.th<2000->Qu N A f {s with c:={s.c with th:=s.c.th+1}}->Q () {s with c:={s.c with th:=s.c.th+1}}):Nk (bX i) s Q B:=by
 have l:=h.2.1.ok.th;refine Nk.c ?_;unfold Nj bU;by_cases e:s.c.th=2000
 .grind
 .simp only[zY e];have d:Le s.c {s.c with th:=s.c.th+1}:=Le.same ⟨λ_ t b=>⟨t,b,rfl⟩,vQ _⟩ rfl;exact g (by omega) ⟨h.1.trans d,h.2.1.to d (h.2.1.ok.of d.gr ⟨by simp,by grind⟩ h.2.1.ok.ca (λ_ _ b=>.inl b) λ_ _ k=>.inl k) λ_ t b j=>.inl ⟨t,b,j,rfl,rfl⟩,h.2.2⟩
def Av{i}{o p v}{s}{B:Vl->Ms->Prop}(h:Inv N A s.c)(x:bF s.c o)(z:bF s.c v):Nk (jV i o p v) s (λ_ b=>Qu N A s b) B:=by
 unfold jV;refine Nk.bd (Nk.jm (Q:=λ_ b=>b=s/\o.g=32) λe=>⟨rfl,e⟩) λ_ F e=>?_;obtain⟨rfl,H⟩:=e;refine Nk.bd (Nk.jm (Q:=λ_ b=>b=F) λ_=>rfl) λ_ n e=>?_;subst e;refine Nk.bd (Nk.j8 (Q:=λt b=>b=n/\∃j,o.h=some j/\n.c.T[j]?=some t) x (by omega) λj t g f _=>⟨rfl,j,g,f⟩) λt l e=>?_;obtain⟨rfl,j,g,f⟩:=e;have c:=h.ok.T j t f;split
 .refine JM (p:=t.p) ⟨Le.refl _,h,vQ _⟩ g f c.p (λu d=>?_) (by rw[List.length_set];exact c.fq);obtain e|e:=List.mem_or_eq_of_mem_set d
  .exact c.l u e
  grind
 split
 .refine Nk.bd (zN (Q:=λ_ b=>Qu N A l b/\b.c.T[j]?=some t/\b.c.th=l.c.th+1/\Gr l.c b.c) ⟨Le.refl _,h,vQ _⟩ λ_ m=>⟨m,f,rfl,m.1.gr⟩) λ_ L e=>?_;obtain⟨q,r,w,k⟩:=e;refine JM (p:=t.p) q g r (λy u D=>(c.p y u D).gr k) (λu d=>?_) (by rw[qQ,w];have:=c.fq;grind);rw[qW,zW]at d;obtain d|rfl:=d
  .exact(c.l u d).gr k
  .exact z.gr k
 .exact Nk.c trivial
def JK{t}{s g}{B:Vl->Ms->Prop}{Q:Nat->Ms->Prop}(h:Qu N A g s)(m:iP N {s.c with T:=s.c.T++[t]} t)(k:t.k=64->sQ A s.c t)(j:∀d,Qu N A g d->d.c.T[s.c.T.length]?=some t->Q s.c.T.length d):Nk (dZ t) s Q B:=by
 have c:Le s.c {s.c with T:=s.c.T++[t]}:=Le.same (pY t) rfl;refine Nk.c ?_;unfold Nj bU;refine j _ ⟨h.1.trans c,h.2.1.to c (h.2.1.ok.j6 m) λi u b l=>?_,h.2.2⟩ (by simp);obtain f|f:=Nat.lt_or_ge i s.c.T.length
 .grind
 .simp only at b;rw[List.getElem?_append_right f]at b;obtain e|e:=Nat.eq_zero_or_pos (i-s.c.T.length)
  .rw[e]at b;simp only[List.getElem?_cons_zero,zQ]at b;subst b;exact .inr ((k l).le c)
  grind
def WL{u:Option Nat}{s d}{B:Vl->Ms->Prop}{Q:Nat->Ms->Prop}(h:Qu N A d s)(i:hY s.c u)(e:∀b,Qu N A d b->Le s.c b.c->b.fu=s.fu->b.c.S[s.c.S.length]?=some ⟨λ_=>none,u⟩->Q s.c.S.length b):Nk (eX u) s Q B:=by
 have c:Le s.c {s.c with S:=s.c.S++[⟨λ_=>none,u⟩]}:=⟨IZ u,λj q k=>⟨q,by grind,rfl,λ_ h=>h⟩⟩;refine Nk.c ?_;unfold Nj bU;exact e _ ⟨h.1.trans c,h.2.1.to c (h.2.1.ok.kh i) λ_ t g f=>.inl ⟨t,g,f,rfl,rfl⟩,h.2.2⟩ c rfl (by simp)
def zM{c}(j)(x)(v):Le c {c with S:=c.S.modify j λq=>⟨λy=>if y=x then some v else q.o y,q.up⟩}:=⟨sU j _,λi q b=>by
 simp only;rw[List.getElem?_modify,b];simp only[Option.map_eq_map,Option.map_some];split<;>grind⟩
def JL{j}{x}{v}{s c}{B:Vl->Ms->Prop}(h:Qu N A c s)(g:j<s.c.S.length)(f:bF s.c v):Nk (dY j x v) s (λ_ b=>Qu N A c b/\Ii b.c.S x (some j)/\Le s.c b.c) B:=by
 refine Nk.c ?_;unfold Nj bU;refine⟨⟨h.1.trans (zM j x v),h.2.1.to (zM j x v) (h.2.1.ok.j2 j x f) λ_ t e d=>.inl ⟨t,e,d,rfl,rfl⟩,h.2.2⟩,?_,zM j x v⟩;refine Ii.here (q:=⟨λy=>if y=x then some v else (s.c.S[j]).o y,(s.c.S[j]).up⟩) ?_ (by simp);grind
def NO{x}{b}{s}{B}{V}(h:Hr N A V b s)(d:V x):Nk (gT x b) s (λj f=>f=s/\∃q v,s.c.S[j]?=some q/\q.o x=some v) B:=by
 obtain⟨j,c⟩:=(h.ly x d).oq (λi q e=>(h.inv.ok.S i q e).2) s.c.S.length h.kv;refine Nk.c ?_;unfold Nj bU;simp only[c];refine⟨trivial,?_⟩;clear h d;generalize s.c.S.length=k at c;generalize s.c.S=S at*;induction k generalizing b with
 |zero=>grind[gY]
 |succ k g=>
  cases b<;>grind[gY,Option.isSome_iff_exists]
def Nk.ite{e}{c}[Decidable c]{d b}{s}{Q:e->Ms->Prop}{B}(h:c->Nk d s Q B)(k:¬c->Nk b s Q B):Nk (if c then d else b) s Q B:=by
 grind
theorem Nk.cat{m}{s}{Q R}{B i}(h:Nk m s Q B)(j:∀f d,Q f d->R [vO] d)(k:∀v d,B v d->R [v] d):Nk m.cat s R i:=by
 obtain⟨h,g⟩:=h;unfold Nk Nj X.cat at*;cases e:m s with
 |ok f d=>rw[e]at h g;exact⟨j f d h,g⟩
 |back v d=>rw[e]at h g;exact⟨k v d h,g⟩
 |over f b c=>grind
 |stk=>grind
theorem Qu.refl{s}(h:Inv N A s.c):Qu N A s s:=⟨Le.refl _,h,vQ _⟩
theorem Qu.trans{s b c}(h:Qu N A s b)(k:Qu N A b c):Qu N A s c:=⟨h.1.trans k.1,k.2.1,kQ k.2.2 h.2.2⟩
def Bk.on{f}{s b c}{v}(h:Qu N A s b)(k:Bk N A f b v c):Bk N A f s v c:=⟨k.1,k.2.1,h.1.trans k.2.2.1,k.2.2.2.1,kQ k.2.2.2.2 h.2.2⟩
def Hr.qu{V}{c}{s b}(h:Hr N A V c s)(k:Qu N A s b):Hr N A V c b:=h.on k.1 k.2.1
def ZH{c}{x}(h:Inv N A c)(g:x<=40):Le c {c with ca:=x}/\Inv N A {c with ca:=x}:=by
 have d:Le c {c with ca:=x}:=Le.same ⟨λ_ t b=>⟨t,b,rfl⟩,vQ _⟩ rfl;exact⟨d,h.to d (h.ok.of d.gr ⟨vQ _,h.ok.th⟩ g (λ_ _ b=>.inl b) λ_ _ f=>.inl f) λ_ t b e=>.inl ⟨t,b,e,rfl,rfl⟩⟩
def NP{i}{B:Vl->Ms->Prop}:∀(l) (b:List Vl) (j) (s),Qu N A i s->j<s.c.S.length->(∀v∈b,bF s.c v)->Nk (hG G l b j) s (λ_ c=>Qu N A i c/\Le s.c c.c/\∀p∈l,Ii c.c.S p (some j)) B
 |[],b,j,s,h,_,_=>by
  grind[hG,Nk.ff,Le.refl]
 |p::l,b,j,s,h,q,t=>by
  rw[hG];have o:bF s.c (b.headD vO):=by
   cases b with
   |nil=>grind[vC]
   |cons F r=>grind
  refine Nk.bd (Nk.lu (Q:=λv c=>v=b.headD vO/\c.c=s.c/\c.fu=s.fu) o.pw λc d g=>⟨rfl,d,g⟩) λv z e=>?_;obtain⟨rfl,d,g⟩:=e;have n:Qu N A i z:=⟨d ▸ h.1,d ▸ h.2.1,g ▸ h.2.2⟩;refine Nk.bd (JL n (by grind) (by grind)) λ_ D e=>?_;obtain⟨w,y,f⟩:=e;rw[d]at f;refine(NP l b.tail j D w (yQ q f.gr.S) λv u=>(t v (List.mem_of_mem_tail u)).gr f.gr).mono (λ_ H k=>⟨k.1,f.trans k.2.1,λx m=>?_⟩) λ_ _ h=>h;obtain rfl|m:=jW.1 m
  .exact y.le k.2.1
  grind
def XW:∀(l:List (Y×Vl)) (f:Y->Option Vl) (x) (v),l.foldl (λf p y=>if y=p.1 then some p.2 else f y) f x=some v->f x=some v\/∃p∈l,p.2=v
 |[],f,x,v,h=>.inl h
 |p::l,f,x,v,h=>by
  rw[List.foldl_cons]at h;obtain h|⟨q,h1,h2⟩:=XW l _ x v h<;>grind
def GO(N:List C)(a:Int->Int)(G:Int->Option Int)(A:Aw)(k:Nat):Prop:=∀i f V b s,A i f V->jF N i->Hr N A V b s->8*s.fu+3<=k->Nk (rn N a G k (.e i) b) s (Qv N A s) Nb
def uF(N:List C)(a:Int->Int)(G:Int->Option Int)(A:Aw)(k:Nat):Prop:=∀i f V c s,A i f V->jF N i->Hr N A V c s->8*s.fu+1<=k->Nk (rn N a G k (.v i) c) s (λd b=>Qv N A s d b/\b.fu<s.fu) Nb
def AD(N:List C)(a:Int->Int)(G:Int->Option Int)(A:Aw)(k:Nat):Prop:=∀l f V b s,(∀x∈l,jF N x/\Su A x f V Nn)->Hr N A V b s->8*s.fu+2<=k->Nk (rn N a G k (.vs l) b) s (Km N A l.length s) Nb
def wL(N:List C)(a:Int->Int)(G:Int->Option Int)(A:Aw)(k:Nat):Prop:=∀i f V b s,A i f V->(aC N i).x=26->Hr N A V b s->8*s.fu+2<=k->Nk (rn N a G k (.b i) b) s (oW N A s) (Bk N A f s)
def AE(N:List C)(a:Int->Int)(G:Int->Option Int)(A:Aw)(k:Nat):Prop:=∀i f V p r j s,A i f V->(aC N i).x=26->(aC N i).M=p++r->Hr N A V (some j) s->(∀x∈p,(aC N x).x=17->Ii s.c.S x (some j))->8*s.fu+1<=k->Nk (rn N a G k (.ss r) (some j)) s (oW N A s) (Bk N A f s)
def GN(N:List C)(a:Int->Int)(G:Int->Option Int)(A:Aw)(k:Nat):Prop:=∀i f V j s,A i f V->17<=(aC N i).x/\(aC N i).x<=25->Hr N A V (some j) s->8*s.fu+3<=k->Nk (rn N a G k (.s i) (some j)) s (λc b=>oW N A s c b/\((aC N i).x=17->Ii b.c.S i (some j))) (Bk N A f s)
def AC(N:List C)(a:Int->Int)(G:Int->Option Int)(A:Aw)(k:Nat):Prop:=∀i f V b s,A i f V->(aC N i).x=23->Hr N A V b s->8*s.fu+2<=k->Nk (rn N a G k (.w i) b) s (oW N A s) (Bk N A f s)
def Nb.any{f}{s}(v)(b)(h:Nb v b):Bk N A f s v b:=h.elim
def Af{k}(o:GO N a G A k):uF N a G A (k+1):=by
 intro i f V t s m n p z;rw[rn];refine Nk.bd (Nk.jz (Q:=λ_ b=>b={s with fu:=s.fu-1}/\s.fu≠0) λh=>⟨rfl,h⟩) λ_ B e=>?_;obtain⟨rfl,x⟩:=e;refine Nk.bd (o i f V t _ m n (p.of rfl) (by grind)) λw g q=>?_;obtain⟨⟨v,rfl,r⟩,j,y,l⟩:=q;simp only at j l;refine Nk.bd (Nk.lu (Q:=λu b=>u=v/\b.c=g.c/\b.fu=g.fu) r.pw λb c d=>⟨rfl,c,d⟩) λu D e=>?_;obtain⟨rfl,c,d⟩:=e;refine Nk.ff ⟨⟨⟨u,rfl,by grind⟩,by grind,by grind,by omega⟩,by omega⟩
def DD{k}(w:uF N a G A k)(t:AD N a G A k):AD N a G A (k+1):=by
 intro l f V j s d b L;cases l with
 |nil=>
  rw[rn];exact Nk.ff ⟨⟨rfl,λ_ h=>by grind⟩,Le.refl _,b.inv,vQ _⟩
 |cons i l=>
  rw[rn];obtain⟨g,m,p,r⟩:=d i (by simp);refine Nk.bd (w i f m j s p g (b.su r) (by omega)) λn z q=>?_;obtain⟨⟨⟨v,rfl,y⟩,c,o,F⟩,H⟩:=q;refine Nk.bd (t l f V j z (λx g=>d x (by grind)) (b.on c o) (by omega)) λn M q=>?_;obtain⟨⟨B,D⟩,k1,k2,k3⟩:=q;refine Nk.ff ⟨⟨by grind,λu e=>?_⟩,c.trans k1,k2,by omega⟩;obtain rfl|e:=jW.1 e
  .exact y.gr k1.gr
  grind
def Aj{k}(p:AE N a G A k):wL N a G A (k+1):=by
 intro i f V y s m n d x;rw[rn];refine Nk.bd (WL (Q:=λj c=>Qu N A s c/\Hr N A V (some j) c/\c.fu=s.fu) (Qu.refl d.inv) d.kv λc b g l r=>⟨b,⟨b.2.1,λj e=>?_,λj o=>.up r ((d.ly j o).le g)⟩,l⟩) λj t q=>?_
 .grind
 .obtain⟨b,g,l⟩:=q;exact(p i f V [] _ j t m n rfl g (λ_ h=>by grind) (by omega)).mono (λw u h=>b.trans h) λv u h=>h.on b
def DE(L:qT N a A){k}(D:GN N a G A k)(R:AE N a G A k):AE N a G A (k+1):=by
 intro i f V p r j s m n M b t o;cases r with
 |nil=>
  rw[rn];exact Nk.ff (Qu.refl b.inv)
 |cons x r=>
  rw[rn];obtain⟨S,l,F,H⟩:=L.eo m n p x r M;refine Nk.bd (Nk.jz (Q:=λ_ T=>T={s with fu:=s.fu-1}/\s.fu≠0) λh=>⟨rfl,h⟩) λ_ s1 e=>?_;obtain⟨rfl,Z⟩:=e;have u:Qu N A s {s with fu:=s.fu-1}:=⟨Le.refl _,b.inv,by simp⟩;have P:Hr N A l (some j) {s with fu:=s.fu-1}:=⟨b.inv,b.kv,λy c=>(H y c).elim (b.ly y) λ⟨z,B⟩=>t y z B⟩;refine Nk.bd ((D x f l j _ F S P (by grind)).mono (λ_ _ h=>h) λv g h=>h.on u) λw g q=>?_;have d:=u.trans q.1;have a2:g.fu<=s.fu-1:=q.1.2.2;refine(R i f V (p++[x]) r j g m n (by grind) (b.qu d) (λy c o=>?_) (by omega)).mono (λw W h=>d.trans h) λv W h=>h.on d;obtain c|c:=qW.1 c
  .exact(t y c o).le d.1
  grind
def Ae(L:qT N a A){k}(D:uF N a G A k)(z:wL N a G A k)(F:AC N a G A k):AC N a G A (k+1):=by
 intro i f V g s c l e R;rw[rn];obtain⟨H,o,u,x⟩:=L.a c (by simp_all);obtain⟨B,W,w,y⟩:=L.ab c (.inr l);refine Nk.bd ((D _ f o g s u H (e.su x) (by omega)).mono (λ_ _ h=>h) Nb.any) λj m q=>?_;obtain⟨⟨_,p,r,t⟩,P⟩:=q;have b:Qu N A s m:=⟨p,r,t⟩;refine Nk.ite (λ_=>?_) λ_=>Nk.ff b;refine Nk.bd ((z _ f W g m w B ((e.qu b).su y) (by omega)).mono (λ_ _ h=>h) λv n h=>h.on b) λj n q=>?_;have d:=b.trans q;have:=q.2.2;exact(F i f V g n c l (e.qu d) (by omega)).mono (λj M h=>d.trans h) λv M h=>h.on d
def Ah(L:qT N a A){k}(hv:uF N a G A k)(hb:wL N a G A k)(hw:AC N a G A k)(a9:∀i f V j s,A i f V->(aC N i).x=17->(aC N (aC N i).a).x=6->Hr N A V (some j) s->8*s.fu+3<=k+1->Nk ((rn N a G k (.v (aC N i).a) (some j)).bd λab=>(dY j i (r1 ab)).bd λ_=>aE []) s (λg t=>oW N A s g t/\Ii t.c.S i (some j)) Nb):GN N a G A (k+1):=by
 intro i f V j s l hK p hk;rw[rn];dsimp only;have hj:=p.kv j rfl;have u:∀x c,A x f c->jF N x->(∀y,c y->V y\/Nn y)->∀b,Qu N A s b->Nk (rn N a G k (.v x) (some j)) b (λg t=>(∃v,g=[v]/\bF t.c v)/\Qu N A s t/\Le b.c t.c/\t.fu<s.fu) (Bk N A f s):=λx c S T h3 b H=>by
  have:=H.2.2;exact(hv x f c (some j) b S T ((p.qu H).su h3) (by omega)).mono (λg t q=>⟨q.1.1,H.trans ⟨q.1.2.1,q.1.2.2.1,q.1.2.2.2⟩,q.1.2.1,by omega⟩) Nb.any
 have D:∀{b:Ms},Qu N A s b->(aC N i).x≠17->oW N A s [] b/\((aC N i).x=17->Ii b.c.S i (some j)):=λS T=>⟨S,λh=>absurd h T⟩;refine Nk.ite (λo=>?_) λz=>?_
 .by_cases h6:(aC N (aC N i).a).x=6
  .exact(a9 i f V j s l o h6 p hk).mono (λg t h=>⟨h.1,λ_=>h.2⟩) Nb.any
  .obtain⟨r,c,m,n⟩:=L.lt l o;refine Nk.bd (u _ c m r (λy hy=>(n y hy).imp id λh=>absurd h.2 h6) s (Qu.refl p.inv)) λg b q=>?_;obtain⟨⟨v,rfl,w⟩,d,M,_⟩:=q;refine Nk.bd (JL d (yQ hj M.gr.S) w) λ_ F e=>Nk.ff ⟨e.1,λ_=>e.2.1⟩
 refine Nk.ite (λo=>?_) λac=>?_
 .obtain⟨r,c,m,n⟩:=L.a l (by grind);refine Nk.bd (u _ c m r n s (Qu.refl p.inv)) λg b q=>?_;obtain⟨⟨v,rfl,w⟩,d,M,_⟩:=q;refine Nk.bd (NO (p.qu d) (L.var l (.inr o))) λj' F e=>?_;obtain⟨rfl,q,a2,hq,_⟩:=e;exact Nk.bd (JL d (List.getElem?_eq_some_iff.1 hq).1 w) λ_ B e=>Nk.ff (D e.1 z)
 refine Nk.ite (λo=>?_) λad=>?_
 .obtain⟨r,c,m,n⟩:=L.a l (by grind);obtain⟨Z,R,hA2,W⟩:=L.b l (by grind);refine Nk.bd (u _ c m r n s (Qu.refl p.inv)) λg b q=>?_;obtain⟨⟨v,rfl,w⟩,d,M,_⟩:=q;refine Nk.bd (u _ R hA2 Z W b d) λg F q=>?_;obtain⟨⟨a2,rfl,hu⟩,P,q4,_⟩:=q;exact Nk.bd (Bc P.2.1 (w.gr q4.gr) hu) λ_ B e=>Nk.ff (D (P.trans e) z)
 refine Nk.ite (λo=>?_) λae=>?_
 .obtain⟨r,c,m,n⟩:=L.a l (by simp_all);obtain⟨Z,R,hA2,W⟩:=L.b l (by grind);obtain⟨aa,V3,hA3,a5⟩:=L.c l o;refine Nk.bd (u _ c m r n s (Qu.refl p.inv)) λg b q=>?_;obtain⟨⟨v,rfl,w⟩,d,M,_⟩:=q;refine Nk.bd (u _ R hA2 Z W b d) λg F q=>?_;obtain⟨⟨a2,rfl,hu⟩,P,q4,_⟩:=q;refine Nk.bd (u _ V3 hA3 aa a5 F P) λg B q=>?_;obtain⟨⟨y,rfl,hy⟩,q5,q6,_⟩:=q;exact Nk.bd (Av q5.2.1 ((w.gr q4.gr).gr q6.gr) hy) λ_ s4 e=>Nk.ff (D (q5.trans e) z)
 refine Nk.ite (λo=>?_) λaf=>?_
 .obtain⟨r,c,m,n⟩:=L.a l (by simp_all);refine Nk.bd (u _ c m r n s (Qu.refl p.inv)) λg b q=>?_;exact Nk.bd (Q:=λ_ t=>Qu N A s t) ⟨(show Qu N A s _ from ⟨q.2.1.1,q.2.1.2.1,q.2.1.2.2⟩),λx=>x⟩ λ_ F e=>Nk.ff (D e z)
 refine Nk.ite (λo=>?_) λag=>?_
 .obtain⟨r,c,m,n⟩:=L.a l (by simp_all);obtain⟨a7,a3,hB,hW⟩:=L.ab l (.inl o);refine Nk.bd (u _ c m r n s (Qu.refl p.inv)) λg b q=>?_;obtain⟨_,d,_,H⟩:=q;refine Nk.ite (λ_=>?_) λ_=>Nk.ite (λ_=>Nk.ff (D d z)) λhc=>?_
  .exact(hb _ f a3 (some j) b hB a7 ((p.qu d).su hW) (by omega)).mono (λg B h=>⟨d.trans h,λh=>absurd h z⟩) λv B h=>h.on d
  .obtain⟨a8,W2,a4,a6⟩:=L.ac l o hc;exact(hb _ f W2 (some j) b a4 a8 ((p.qu d).su a6) (by omega)).mono (λg B h=>⟨d.trans h,λh=>absurd h z⟩) λv B h=>h.on d
 refine Nk.ite (λo=>?_) λah=>?_
 .exact(hw i f V (some j) s l o p (by omega)).mono (λg B h=>⟨h,λh=>absurd h z⟩) λ_ _ h=>h
 refine Nk.ite (λo=>?_) λai=>?_
 .obtain⟨r,c,m,n⟩:=L.a l (by simp_all);refine Nk.bd (u _ c m r n s (Qu.refl p.inv)) λg b q=>?_;obtain⟨⟨v,rfl,w⟩,d,_,_⟩:=q;exact⟨⟨L.ret l o,w,d.1,d.2.1,d.2.2⟩,λx=>x⟩
 .obtain⟨r,c,m,n⟩:=L.a l (by rw[show (aC N i).x=25 by omega];decide);refine Nk.bd (u _ c m r n s (Qu.refl p.inv)) λg b q=>Nk.ff (D q.2.1 z)
def Tm{j}{x}{s}{B}{q}{v}(h:Inv N A s.c)(b:s.c.S[j]?=some q)(c:q.o x=some v):Nk (gZ j x) s (Qo s) B:=by
 refine Nk.c ?_;unfold Nj bU;simp only[b,Option.bind_some,c];exact⟨rfl,(h.ok.S j q b).1 x v c⟩
def JY{c}{t}{j}(h:c.T[j]?=some t)(b:1<=t.k/\t.k<=64/\(t.k=1\/t.k=2\/t.k=4\/t.k=8\/t.k=16\/t.k=32\/t.k=64)):bF c ⟨t.k,0,[],some j⟩:=⟨by simp,by simp,b,t,h,rfl⟩
def Vg(L:qT N a A){k}(i)(f)(V:Int->Prop)(j)(s)(M:A i f V)(a2:(aC N i).x=17)(H:(aC N (aC N i).a).x=6)(g:Hr N A V (some j) s)(Z:8*s.fu+3<=k+1):
 Nk ((rn N a G k (.v (aC N i).a) (some j)).bd λr=>(dY j i (r1 r)).bd λ_=>aE []) s (λc b=>oW N A s c b/\Ii b.c.S i (some j)) Nb:=by
 obtain⟨B,D,P,R⟩:=L.lt M a2;have W:=g.kv j rfl;obtain⟨k,rfl⟩:∃n,k=n+1:=⟨k-1,by omega⟩;by_cases F:s.fu=0
 .simp_all[Nk,Nj,rn,X.bd,aW,Rr.Ev]
 obtain⟨k,rfl⟩:∃n,k=n+1:=⟨k-1,by omega⟩;generalize (aC N i).a=c at*;have hs:aW s=.ok () {s with fu:=s.fu-1}:=by unfold aW;rw[zY F]
 by_cases d:s.c.th=2000
 .simp_all[Nk,Nj,rn,X.bd,bX,bU,Rr.Ev,rH]
 have a8:=g.inv.ok.th;have x:Le s.c {s.c with th:=s.c.th+1}:=Le.same ⟨λ_ t d=>⟨t,d,rfl⟩,vQ _⟩ rfl;have a3:=g.inv.ok.of x.gr ⟨by simp,by grind⟩ g.inv.ok.ca (λ_ _ d=>.inl d) λ_ _ hq=>.inl hq;have z:Le s.c {s.c with th:=s.c.th+1,T:=s.c.T++[⟨64,λ_=>none,[],c,some j⟩]}:=x.trans (Le.same (pY _) rfl);have a5:iP N {s.c with th:=s.c.th+1,T:=s.c.T++[⟨64,λ_=>none,[],c,some j⟩]} ⟨64,λ_=>none,[],c,some j⟩:=⟨.inr (.inr rfl),(λ_ _ e=>by grind),(λ_ e=>by grind),g.kv.gr z.gr,by simp,λ_=>⟨B.1,B.2.1,H⟩⟩;have a4:gX N {s.c with th:=s.c.th+1,T:=s.c.T++[⟨64,λ_=>none,[],c,some j⟩]}:=a3.j6 a5;have a7:bF {s.c with th:=s.c.th+1,T:=s.c.T++[⟨64,λ_=>none,[],c,some j⟩]} ⟨64,0,[],some s.c.T.length⟩:=⟨by simp,by simp,by simp,⟨64,λ_=>none,[],c,some j⟩,by simp,rfl⟩;have a6:Nk (rn N a G (k+1+1) (.v c) (some j)) s (λr b=>r=[⟨64,0,[],some s.c.T.length⟩]/\b.c={s.c with th:=s.c.th+1,T:=s.c.T++[⟨64,λ_=>none,[],c,some j⟩]}/\b.fu<=s.fu) Nb:=by
  rw[rn];refine Nk.bd (Nk.jz (Q:=λ_ b=>b={s with fu:=s.fu-1}) λ_=>rfl) λ_ s1 e=>?_;subst e;refine Nk.bd (Q:=λr b=>r=[⟨64,0,[],some s.c.T.length⟩]/\b.c={s.c with th:=s.c.th+1,T:=s.c.T++[⟨64,λ_=>none,[],c,some j⟩]}/\b.fu<=s.fu) ?_ λr p e=>?_
  .rw[rn];unfold Nk Nj;simp_all[X.bd,bX,bU,dZ,aE,Rr.Ev,rH]
  .obtain⟨rfl,l,m⟩:=e;refine Nk.bd (Nk.lu (Q:=λu b=>u=⟨64,0,[],some s.c.T.length⟩/\b.c=p.c/\b.fu=p.fu) (.inr (.inr (.inr (.inr (.inr (.inr rfl)))))) λb l m=>⟨rfl,l,m⟩) λu s3 e=>?_;grind[Nk.ff]
 refine Nk.bd a6 λr s1 e=>?_;obtain⟨rfl,l,m⟩:=e;refine Nk.bd (Q:=λ_ b=>oW N A s [] b/\Ii b.c.S i (some j)) ?_ λ_ p e=>Nk.ff e;refine Nk.c ?_;unfold Nj bU;have o:=z.trans (zM j i ⟨64,0,[],some s.c.T.length⟩);have v:Ii ({s.c with th:=s.c.th+1,T:=s.c.T++[⟨64,λ_=>none,[],c,some j⟩],S:=s.c.S.modify j λq=>⟨λy=>if y=i then some ⟨64,0,[],some s.c.T.length⟩ else q.o y,q.up⟩}:Co).S i (some j):=by
  refine .here (q:=⟨λy=>if y=i then some ⟨64,0,[],some s.c.T.length⟩ else (s.c.S[j]).o y,(s.c.S[j]).up⟩) ?_ (by simp);simp only;rw[List.getElem?_modify,gQ W];simp
 simp only[l];refine⟨⟨o,g.inv.to o (a4.j2 j i a7) λn t d Z=>?_,m⟩,v⟩;simp only at d;obtain w|w:=Nat.lt_or_ge n s.c.T.length
 .grind
 .rw[List.getElem?_append_right w]at d;obtain e|e:=Nat.eq_zero_or_pos (n-s.c.T.length)
  .rw[e]at d;simp only[List.getElem?_cons_zero,zQ]at d;subst d;exact .inr ⟨f,D,P,λy hy=>(R y hy).elim (λh=>(g.ly y h).le o) λh=>h.1 ▸ v⟩
  grind
def Ai(L:qT N a A){a5}(hv:uF N a G A a5)(hs:AD N a G A a5)(hb:wL N a G A a5):GO N a G A (a5+1):=by
 intro i a2 a3 Z s r hX H hk;rw[rn];dsimp only;have V:∀x k,A x a2 k->jF N x->(∀y,k y->a3 y\/Nn y)->∀d,Qu N A s d->Nk (rn N a G a5 (.v x) Z) d (λl b=>(∃v,l=[v]/\bF b.c v)/\Qu N A s b/\Le d.c b.c/\b.fu<s.fu) Nb:=λx k m f h3 d h4=>by
  have:=h4.2.2;exact(hv x a2 k Z d m f ((H.qu h4).su h3) (by omega)).mono (λl b q=>⟨q.1.1,h4.trans ⟨q.1.2.1,q.1.2.2.1,q.1.2.2.2⟩,q.1.2.1,by omega⟩) λ_ _ h=>h
 have S:∀{d:Ms} {v:Vl},Qu N A s d->bF d.c v->Nk (aE [v]) d (Qv N A s) Nb:=λm f=>Nk.ff ⟨⟨_,rfl,f⟩,m⟩;have D:=Qu.refl H.inv;refine Nk.ite (λ_=>S D (CC _ _)) λ_=>?_;refine Nk.ite (λ_=>S D (GD _ (by have:=L.tx i;omega))) λ_=>?_;refine Nk.ite (λ_=>S D (BW _ _)) λ_=>?_;refine Nk.ite (λo=>?_) λ_=>?_
 .refine Nk.bd (NO H (L.var r (.inl o))) λj d e=>?_;obtain⟨rfl,q,v,hq,hv⟩:=e;refine Nk.bd (Tm H.inv hq hv) λu P e=>?_;obtain⟨rfl,hu⟩:=e;grind
 refine Nk.ite (λo=>?_) λ_=>?_
 .refine Nk.bd (zN (Q:=λ_ b=>Qu N A s b) D λ_ h=>h) λ_ d g=>?_;refine Nk.bd (JK (Q:=λn b=>Qu N A s b/\b.c.T[n]?=some ⟨64,λ_=>none,[],i,Z⟩) g ⟨.inr (.inr rfl),(λ_ _ e=>by grind),(λ_ e=>by grind),(H.qu g).kv,by simp,λ_=>⟨hX.1,hX.2.1,o⟩⟩ (λ_=>⟨a2,a3,r,λy M=>(H.ly y M).le g.1⟩) λb m f=>⟨m,f⟩) λn P e=>?_;exact S e.1 (JY (t:=⟨64,λ_=>none,[],i,Z⟩) e.2 (by simp))
 refine Nk.ite (λo=>?_) λ_=>?_
 .obtain⟨w,k,z,B⟩:=L.a r (by grind);refine Nk.bd (V _ k z w B s D) λl d q=>?_;obtain⟨⟨v,rfl,W⟩,g,q2,aj⟩:=q;refine Nk.bd ((hs _ a2 a3 Z d (L.l r (.inl o)) (H.qu g) (by omega)).mono (Q':=λl b=>(∀u∈l,bF b.c u)/\Qu N A s b/\Le d.c b.c/\b.fu<s.fu) (λl b q=>⟨q.1.2,g.trans ⟨q.2.1,q.2.2.1,q.2.2.2⟩,q.2.1,by have:=q.2.2.2;omega⟩) λ_ _ h=>h) λR P q=>?_;obtain⟨a4,q3,q4,ak⟩:=q;refine Nk.bd (Nk.jm (Q:=λ_ b=>b=P/\(r1 [v]).g=64) λe=>⟨rfl,e⟩) λ_ F e=>?_;obtain⟨rfl,hg⟩:=e;have hg:v.g=64:=hg;refine Nk.bd (Q:=λ_ b=>Qu N A F b/\b.c.ca<=40/\b.c.T=F.c.T/\b.c.S=F.c.S/\b.fu=F.fu) ?_ λ_ s4 e=>?_
  .refine Nk.c ?_;unfold Nj bU;by_cases hc:F.c.ca=40
   .grind
   .simp only[zY hc];have:=q3.2.1.ok.ca;obtain⟨m,f⟩:=ZH q3.2.1 (x:=F.c.ca+1) (by omega);exact⟨⟨m,f,vQ _⟩,by omega,trivial,trivial,trivial⟩
  obtain⟨q5,ah,eT,eS,eF⟩:=e;refine Nk.bd (Nk.j8 (Q:=λt b=>b=s4/\∃j:Nat,s4.c.T[j]?=some t/\t.k=64) ((W.gr q4.gr).gr q5.1.gr) (show 16<=v.g by omega) λj t _ f h3=>⟨rfl,j,f,h3.trans hg⟩) λt s5 e=>?_;obtain⟨rfl,j,ht,a8⟩:=e;have a9:=q5.2.1.ok.T j t ht;obtain⟨g',Vf,ab,ae⟩:=q5.2.1.fn j t ht a8;obtain⟨_,_,ag⟩:=a9.nd a8;obtain⟨af,Vb,aa,ad⟩:=L.fn ab ag;refine Nk.bd (Q:=Qv N A s5) ((Nk.cat (Q:=oW N A s5) (B:=Bk N A true s5) ?_ (λl b h=>⟨⟨vO,rfl,vC _⟩,h⟩) λu b h=>⟨⟨u,rfl,h.2.1⟩,h.2.2⟩):Nk _ _ _ Nb) λl T e=>?_
  .refine Nk.bd (WL (Q:=λn b=>Qu N A s5 b/\Le s5.c b.c/\b.c.S[n]?=some ⟨λ_=>none,t.sc⟩/\b.fu=s5.fu) (Qu.refl q5.2.1) a9.sc λb m f h3 h4=>⟨m,f,h4,h3⟩) λn T e=>?_;obtain⟨u1,u2,u3,u4⟩:=e;have hn:=(List.getElem?_eq_some_iff.1 u3).1;refine Nk.bd (NP _ R n T u1 hn λy M=>(((a4 y M).gr q5.1.gr).gr u2.gr)) λ_ s7 e=>?_;obtain⟨w1,w2,w3⟩:=e;obtain⟨sq,z1,z2,_⟩:=w2.sc n _ u3;have al:=w1.2.2;have ac:Hr N A Vb (some n) s7:=⟨w1.2.1,λy e=>by grind,λy M=>(ad y M).elim (λh=>.up z1 (by rw[z2];exact((ae y h).le u2).le w2)) λh=>w3 y h⟩;exact(hb _ true Vb (some n) s7 aa af ac (by omega)).mono (λl s8 h=>w1.trans h) λv s8 h=>h.on w1
  .obtain⟨⟨u,rfl,hu⟩,e1,e2,e3⟩:=e;have ai:=e2.ok.ca;obtain⟨m,f⟩:=ZH e2 (x:=T.c.ca-1) (by omega);refine Nk.bd (Q:=λ_ b=>Qu N A T b) (Nk.c (show Qu N A T {T with c:={T.c with ca:=T.c.ca-1}} from ⟨m,f,vQ _⟩)) λ_ s7 e=>?_;exact S (((q3.trans q5).trans ⟨e1,e2,e3⟩).trans e) (hu.gr e.1.gr)
 refine Nk.ite (λo=>?_) λ_=>?_
 .obtain⟨w,k,z,B⟩:=L.a r (by grind);refine Nk.bd (V _ k z w B s D) λl d q=>?_;obtain⟨⟨v,rfl,W⟩,g,q2,_⟩:=q;refine Nk.bd (Aq g.2.1 W) λu P e=>?_;obtain⟨rfl,hu⟩:=e;grind
 refine Nk.ite (λo=>?_) λ_=>?_
 .obtain⟨w,k,z,B⟩:=L.a r (by grind);obtain⟨a7,V2,hA2,a6⟩:=L.b r (by grind);refine Nk.bd (V _ k z w B s D) λl d q=>?_;obtain⟨⟨v,rfl,W⟩,g,q2,_⟩:=q;refine Nk.bd (V _ V2 hA2 a7 a6 d g) λl P q=>?_;obtain⟨⟨y,rfl,M⟩,q3,q4,_⟩:=q;refine Nk.bd (Uo q3.2.1 (W.gr q4.gr)) λu F e=>?_;obtain⟨rfl,hu⟩:=e;grind
 refine Nk.ite (λo=>?_) λ_=>?_
 .refine Nk.bd (hs _ a2 a3 Z s (λx w=>?_) H (by omega)) λR d q=>?_
  .obtain⟨y,M,rfl⟩:=qZ.1 w;exact L.o r o y M
  .obtain⟨⟨hl,a4⟩,g⟩:=q;refine Nk.bd (zN (Q:=λ_ b=>Qu N A s b/\Gr d.c b.c) g λ_ h=>⟨h,⟨λ_ t ht=>⟨t,ht,rfl⟩,vQ _⟩⟩) λ_ P e=>?_;refine Nk.bd (JK (t:=⟨16,parts ((aC N i).M.map λx=>(aC N x).text) R,[],0,none⟩) (Q:=λn b=>Qu N A s b/\b.c.T[n]?=some ⟨16,parts ((aC N i).M.map λx=>(aC N x).text) R,[],0,none⟩) e.1 ⟨.inl rfl,(λx v h=>?_),(λ_ e=>by grind),(λ_ e=>by grind),by simp,λh=>absurd (show (16:Int)=64 from h) (by decide)⟩ (λh=>absurd (show (16:Int)=64 from h) (by decide)) λb m f=>⟨m,f⟩) λn F e=>?_
   .obtain h|⟨p,hp,rfl⟩:=XW _ _ x v h
    .grind
    .exact((a4 _ (List.of_mem_zip (a:=p.1) (b:=p.2) hp).2).gr e.2).gr (pY _)
   .exact S e.1 (JY (t:=⟨16,parts ((aC N i).M.map λx=>(aC N x).text) R,[],0,none⟩) e.2 (by simp))
 refine Nk.ite (λo=>?_) λ_=>?_
 .refine Nk.bd (hs _ a2 a3 Z s (L.l r (.inr o)) H (by omega)) λR d q=>?_;obtain⟨⟨hl,a4⟩,g⟩:=q;have am:=L.ls i;refine Nk.bd (zN (Q:=λ_ b=>Qu N A s b/\Gr d.c b.c) g λ_ h=>⟨h,⟨λ_ t ht=>⟨t,ht,rfl⟩,vQ _⟩⟩) λ_ P e=>?_;refine Nk.bd (JK (t:=⟨32,λ_=>none,R,0,none⟩) (Q:=λn b=>Qu N A s b/\b.c.T[n]?=some ⟨32,λ_=>none,R,0,none⟩) e.1 ⟨.inr (.inl rfl),(λ_ _ h=>by grind),(λv h=>((a4 v h).gr e.2).gr (pY _)),(λ_ e=>by grind),by grind,λh=>absurd (show (32:Int)=64 from h) (by decide)⟩ (λh=>absurd (show (32:Int)=64 from h) (by decide)) λb m f=>⟨m,f⟩) λn F e=>?_;exact S e.1 (JY (t:=⟨32,λ_=>none,R,0,none⟩) e.2 (by simp))
 refine Nk.ite (λo=>?_) λ_=>?_
 .obtain⟨w,k,z,B⟩:=L.a r (by grind);obtain⟨a7,V2,hA2,a6⟩:=L.b r (by grind);refine Nk.bd (V _ k z w B s D) λl d q=>?_;obtain⟨⟨v,rfl,W⟩,g,q2,_⟩:=q;refine Nk.bd (V _ V2 hA2 a7 a6 d g) λl P q=>?_;obtain⟨⟨y,rfl,M⟩,q3,q4,_⟩:=q;refine Nk.bd Bh λu F e=>?_;obtain⟨rfl,hu⟩:=e;grind
 refine Nk.ite (λo=>?_) λ_=>?_
 .obtain⟨w,k,z,B⟩:=L.a r (by grind);refine Nk.bd (V _ k z w B s D) λl d q=>?_;obtain⟨⟨v,rfl,W⟩,g,q2,_⟩:=q;refine Nk.bd Ay λu P e=>?_;obtain⟨rfl,hu⟩:=e;grind
 refine Nk.ite (λo=>?_) λ_=>S D (vC _);obtain⟨w,k,z,B⟩:=L.a r (by grind);exact(V _ k z w B s D).mono (λl d q=>⟨q.1,q.2.1⟩) λ_ _ h=>h
def NK(L:qT N a A):∀k,GO N a G A k/\uF N a G A k/\AD N a G A k/\wL N a G A k/\AE N a G A k/\GN N a G A k/\AC N a G A k
 |0=>⟨λ_ _ _ _ _ _ _ _ h=>by omega,λ_ _ _ _ _ _ _ _ h=>by omega,λ_ _ _ _ _ _ _ h=>by omega,λ_ _ _ _ _ _ _ _ h=>by omega,λ_ _ _ _ _ _ _ _ _ _ _ _ h=>by omega,λ_ _ _ _ _ _ _ _ h=>by omega,λ_ _ _ _ _ _ _ _ h=>by omega⟩
 |k+1=>by
  obtain⟨o,b,e,d,g,c,l⟩:=NK L k;exact⟨Ai L b e d,Af o,DD b e,Aj g,DE L c g,Ah L b d l λi f V j s n c m q p=>Vg L i f V j s n c m q p,Ae L b d l⟩
def Vp(L:qT N a A)(b){i}(g:A i false λ_=>False)(j:(aC N i).x=26):rn N a G (8*b+20) (.b i) none (fC b)≠.stk/\(∀v c,rn N a G (8*b+20) (.b i) none (fC b)≠.back v c)/\(rn N a G (8*b+20) (.b i) none (fC b)).Ev:=by
 have d:Inv N A (fC b).c:=⟨⟨(λi t h=>by grind[fC]),(λi q h=>by grind[fC]),by simp[fC],by simp[fC]⟩,λi t h=>by grind[fC]⟩;have h:=(NK (G:=G) L (8*b+20)).2.2.2.1 i false (λ_=>False) none (fC b) g j ⟨d,(λ_ e=>by grind),λ_ h=>h.elim⟩ (by grind[fC]);obtain⟨h,f⟩:=h;unfold Nj at h;refine⟨λe=>by grind,λv c e=>?_,f λp k=>by cases k⟩;rw[e]at h;exact absurd h.1 (by simp)
end
def Vs(a:List Fr)(j:Int):Prop:=∃f∈a,∃y,f y=some j
theorem JH{x}{j}:∀{a},bG x a=some j->Vs a j
 |[],h=>by grind[bG]
 |f::r,h=>by
  rw[bG]at h;cases e:bG x r with
  |some i=>
   rw[e]at h;cases h;obtain⟨b,d,c⟩:=JH e;exact⟨b,by grind,c⟩
  |none=>
   rw[e]at h;exact⟨f,by simp,x,h⟩
def fG(E:Int->Prop)(c d:List Fr):Prop:=∀b f,c=b++[f]->∃a,d=b++[a]/\∀y j,a y=some j->f y=some j\/E j
theorem fG.refl(E)(a):fG E a a:=λ_ f e=>⟨f,e,λ_ _ h=>.inl h⟩
theorem fG.trans{E F}{a b c}(h:fG E a b)(k:fG F b c):fG (λj=>E j\/F j) a c:=λd f e=>by
 obtain⟨f1,rfl,g⟩:=h d f e;obtain⟨f2,rfl,i⟩:=k d f1 rfl;grind
def fG.mono{E F}{a b}(h:fG E a b)(i:∀j,E j->F j):fG F a b:=λc f e=>by
 obtain⟨f1,d,g⟩:=h c f e;grind
theorem fG.set(a:List Fr)(x)(i):fG (·=i) a (G8 a x i):=λb f e=>by
 subst e;refine⟨f.set x i,by grind[G8,iT],λy j c=>?_⟩;grind[Fr.set]
def fG.vs{E}{b c d}{f}(h:fG E b c)(e:b=d++[f]){j}(l:Vs c j):Vs b j\/E j:=by
 obtain⟨f1,rfl,k⟩:=h d f e;subst e;obtain⟨i,a,y,g⟩:=l;obtain a|a:=qW.1 a
 .exact .inl ⟨i,by grind,y,g⟩
 .rw[zW]at a;subst a;exact(k y j g).imp (λh=>⟨f,by simp,y,h⟩) id
def lk(b:Nat):List K->bZ
 |[]=>[]
 |p::r=>(if p.k=16\/p.k=17 then [((b+nN p):Int)-1] else [])++lk (b+nN p) r
theorem uV:∀(a) (b),(∀p∈a,p.k≠16/\p.k≠17)->lk b a=[]
 |[],_,_=>rfl
 |p::r,b,h=>by
  have:=h p (by simp);rw[lk,zY (by omega),uV r _ λq c=>h q (by grind)];rfl
theorem SS{k}{g}{n}{b}(h:Wn (.nd k g n b))(j:k≠6)(i:k≠26):∀p∈b,p.k≠16/\p.k≠17:=by
 have c:=U7 _ h;rw[Gd]at c;have a:=c.1;intro p f;have d:p.k∈b.map K.k:=List.mem_map_of_mem f;generalize b.map K.k=l at a d;unfold bJ aO iD at a;obtain⟨_,a⟩|⟨_,a⟩:=F7 a
 .grind
 obtain⟨e,a⟩|⟨_,a⟩:=F7 a
 .omega
 obtain⟨_,a⟩|⟨_,a⟩:=F7 a
 .grind
 obtain⟨_,a⟩|⟨_,a⟩:=F7 a
 .grind
 obtain⟨_,a⟩|⟨_,a⟩:=F7 a
 .grind
 obtain⟨_,a⟩|⟨_,a⟩:=F7 a<;>grind
theorem Br.jd{r:Br}{k}{b}{d}(h:r.and k=.ok b d):∃f1 a c,r=.ok f1 a/\k f1=.ok b c/\d=a++c:=by
 cases r with
 |bad e i=>grind[Br.and]
 |ok f1 a=>
  grind[Br.gp]
def Br.jl{r:Br}{a}{b}(h:r.pop=.ok a b):∃f1,r=.ok f1 b/\a=f1.dropLast:=by
 cases r with
 |bad e i=>grind[Br.pop]
 |ok f1 c=>
  grind[Br.pop]
def Br.j7{r:Br}{x}{j}{a}{b}(h:r.jb x j=.ok a b):∃f1,r=.ok f1 b/\a=G8 f1 x j:=by
 cases r with
 |bad e i=>grind[Br.jb]
 |ok f1 c=>
  grind[Br.jb]
mutual
theorem LJ:∀(t:K) (a:List Fr) (b:Nat) (c:List Fr) (d:List (Nat×Int)),Wn t->cX a b t=.ok c d->fG (λj=>(t.k=16\/t.k=17)/\j=((b+nN t:Nat):Int)-1) a c
 |.ty _,a,b,c,d,_,h=>by
  grind[cX,fG.refl]
 |.nd k p n e,a,b,c,d,g,h=>by
  have q:dR e:=by rw[Wn]at g;exact g.2.2
  have L:=SS g;have B:((b+nN (.nd k p n e):Nat):Int)-1=((b+aA e:Nat):Int):=by rw[nN];omega
  rw[cX]at h;rw[B];show fG (λj=>(k=16\/k=17)/\j=_) a c;split at h
  .grind[fG.refl]
  split at h
  .split at h
   .grind
   .rename_i F j _;obtain⟨f1,u,v,f,s,rfl⟩:=Br.jd h;cases f;refine(qV e false a b c v q s).mono λj l=>?_;grind[uV]
  split at h
  .rename_i D;split at h
   .grind
   .obtain⟨f1,f,rfl⟩:=Br.j7 h;have w:=qV e false _ b f1 d q f;grind[uV,fG,aA,qK,G8,fG.set,fG.refl,trans]
  split at h
  .grind[fG.set]
  split at h
  .obtain⟨f1,f,rfl⟩:=Br.jl h;obtain⟨y,rfl,_⟩:=qV e true _ b f1 d q f a Fr.no rfl;grind[List.dropLast_concat,fG.refl]
  split at h
  .obtain⟨f1,f,rfl⟩:=Br.jl h;obtain⟨y,rfl,_⟩:=qV e false _ b f1 d q f a Fr.no rfl;grind[List.dropLast_concat,fG.refl]
  .refine(qV e false a b c d q h).mono λj l=>?_;grind[uV]
theorem qV:∀(e:List K) (i:Bool) (a:List Fr) (b:Nat) (c:List Fr) (d:List (Nat×Int)),dR e->bB i a b e=.ok c d->fG (λj=>j∈lk b e\/i=true) a c
 |[],i,a,b,c,d,_,h=>by
  grind[bB,fG.refl]
 |.ty o::r,i,a,b,c,d,g,h=>by
  rw[bB]at h;refine(qV r i a b c d g.2 h).mono λj l=>?_;grind[lk,nN,id]
 |.nd k p n m::r,i,a,b,c,d,g,h=>by
  rw[bB]at h;obtain⟨f1,u,v,f,s,rfl⟩:=Br.jd h;have z:=qV r i f1 _ c v g.2 s;have w:fG (λj=>((k=16\/k=17)/\j=((b+nN (.nd k p n m):Nat):Int)-1)\/i=true) a f1:=by
   split at f
   .rename_i H;have A:dR m:=by have:=g.1;rw[Wn]at this;exact this.2.2
    refine(qV m false a b f1 u A f).mono λj _=>.inr ?_;grind
   .exact(LJ (.nd k p n m) a b f1 u g.1 f).mono λj l=>.inl l
  refine(w.trans z).mono λj l=>?_;rw[lk];obtain (⟨x,G⟩|h)|(h|h):=l
  .have x:(K.nd k p n m).k=16\/(K.nd k p n m).k=17:=x;grind
  .grind
  .grind
  grind
end
mutual
def kL:K->Prop
 |.ty _=>True
 |.nd k _ _ a=>k=6\/(k≠24/\nU a)
def nU:List K->Prop
 |[]=>True
 |p::r=>kL p/\nU r
end
theorem zO:∀{b},nU b->∀p∈b,kL p
 |[],_,p,a=>by grind
 |q::r,h,p,a=>by
  rw[nU]at h;obtain rfl|a:=jW.1 a
  .grind
  .exact zO h.2 p a
theorem AR{a}{x y}(e:a.map K.k=[x,y]):∃t u,a=[t,u]/\t.k=x/\u.k=y:=by
 obtain⟨t,r,rfl,rfl,b⟩:=List.map_eq_cons_iff.1 e;obtain⟨u,q,rfl,rfl,c⟩:=List.map_eq_cons_iff.1 b;grind[List.map_eq_nil_iff]
theorem TV{a}{x y z}(e:a.map K.k=[x,y,z]):∃t u v,a=[t,u,v]/\t.k=x/\u.k=y/\v.k=z:=by
 obtain⟨t,r,rfl,rfl,b⟩:=List.map_eq_cons_iff.1 e;grind[AR]
def Wx{k}{g}{n}{a}(h:Wn (.nd k g n a))(f:k∈[7,8,9,12,13,14,15,18,19,20,21,22,23,24,25]):∃t r,a=t::r/\aO t.k:=by
 have d:=U7 _ h;rw[Gd]at d;have b:=d.1;obtain⟨x,c,e,i⟩:∃x c,a.map K.k=x::c/\aO x:=by
  simp at f;obtain rfl|rfl|rfl|rfl|rfl|rfl|rfl|rfl|rfl|rfl|rfl|rfl|rfl|rfl|rfl:=f<;>simp only[bJ,Int.reduceEq,or_self,or_false,or_true,if_true,if_false]at b;all_goals first
   |(obtain⟨x,c,e,h,_⟩:=b;exact⟨x,_,e,h⟩)
   |(obtain⟨x,e,h⟩:=b;exact⟨x,_,e,h⟩)
   |grind
 cases a<;>grind
def Xa{k}{g}{n}{a}(h:Wn (.nd k g n a))(c:k∈[9,12,19,20]):∃t u r,a=t::u::r/\aO t.k/\aO u.k:=by
 have b:=U7 _ h;rw[Gd]at b;have f:=b.1;obtain⟨x,y,d,e,j,l⟩:∃x y d,a.map K.k=x::y::d/\aO x/\aO y:=by
  simp at c;obtain rfl|rfl|rfl|rfl:=c<;>simp only[bJ,Int.reduceEq,or_self,or_false,or_true,if_true,if_false]at f<;>grind
 obtain⟨t,r,rfl,rfl,i⟩:=List.map_eq_cons_iff.1 e;grind[List.map_eq_cons_iff]
def Ez{d}{n}{b}(h:Wn (.nd 20 d n b)):∃t u v,b=[t,u,v]/\aO t.k/\aO u.k/\aO v.k:=by
 have a:=U7 _ h;rw[Gd]at a;have c:=a.1;simp only[bJ,Int.reduceEq,or_self,if_true,if_false]at c;grind[TV]
theorem PC{d}{n}{b}(h:Wn (.nd 22 d n b)):∃t u v,b=[t,u,v]/\aO t.k/\u.k=26/\(v.k=26\/v.k=-1):=by
 have a:=U7 _ h;rw[Gd]at a;have c:=a.1;simp only[bJ,Int.reduceEq,or_self,if_true,if_false]at c;grind[TV]
theorem Fg{d}{n}{b}(h:Wn (.nd 23 d n b)):∃t u,b=[t,u]/\aO t.k/\u.k=26:=by
 have a:=U7 _ h;rw[Gd]at a;have c:=a.1;simp only[bJ,Int.reduceEq,or_self,if_true,if_false]at c;grind[AR]
def Ey{d}{n}{b}(h:Wn (.nd 17 d n b)):∃t u,b=[t,u]/\iD t.k/\aO u.k:=by
 have a:=U7 _ h;rw[Gd]at a;have c:=a.1;simp only[bJ,Int.reduceEq,or_self,if_true,if_false]at c;grind[AR]
def Wu{f}{n}{c}(h:Wn (.nd 6 f n c)):∃q t u,c=q++[t,u]/\(∀p∈q,p.k=16)/\iD t.k/\u.k=26:=by
 have a:=U7 _ h;rw[Gd]at a;have b:=a.1;simp only[bJ,Int.reduceEq,or_self,if_true,if_false]at b;obtain⟨l,r,e,j,k⟩:=b;obtain⟨q,s,rfl,g,d⟩:=List.map_eq_append_iff.1 e;obtain⟨t,u,rfl,rfl,i⟩:=AR d;grind[List.mem_map_of_mem]
section
variable{N:List C}{d:Int->Int}
def gA(N:List C)(d:Int->Int):Aw:=λi f V=>∃k c n a b m g e l h,Em N b m (.nd k c n a)/\Wn (.nd k c n a)/\i=((b+aA a:Nat))/\(if k=26 then bB false (g++[e]) b a else cX (g++[e]) b (.nd k c n a))=.ok l h/\(∀p∈h,d p.1=p.2)/\(∀j,Vs (g++[e]) j->V j)/\(f=false->kL (.nd k c n a))
def DK{t}{b c}{f1 f2 h}{g}{e}{f}{V E}(l:Em N b c t)(u:Wn t)(B:1<=t.k)(i:cX f1 b t=.ok f2 e)(D:f1=h++[g])(q:∀p∈e,d p.1=p.2)(s:∀j,Vs f1 j->V j\/E j)(r:f=false->kL t):Su (gA N d) (cR b c t) f V E:=by
 cases t with
 |ty o=>cases o<;>simp[K.k]at B
 |nd k x n w=>
  rw[Em.ix];by_cases A:k=26
  .subst A;rw[cX,zY (by decide),zY (by decide),zY (by decide),zY (by decide),zY (by decide),wY rfl]at i;obtain⟨f3,F,-⟩:=Br.jl i;refine⟨Vs f1,⟨26,x,n,w,b,c,f1,Fr.no,f3,e,l,u,rfl,by grind,q,λj m=>?_,r⟩,s⟩;obtain⟨z,a,y,v⟩:=m;obtain a|a:=qW.1 a
   .exact⟨z,a,y,v⟩
   .rw[zW]at a;subst a;cases v
  .exact⟨Vs f1,⟨k,x,n,w,b,c,h,g,f2,e,l,u,rfl,by grind,q,λj m=>by grind,r⟩,s⟩
theorem dO{i}(h:i<N.length):aC N i=N[i]:=by
 unfold aC;grind
theorem vS{t}{b g}(h:Em N b g t)(a:aO t.k):jF N (cR b g t):=by
 obtain⟨j,e,_,_,c,f,_⟩:=h.kd a.1;rw[e];refine⟨by omega,by omega,?_,?_⟩
 .rw[dO c,f];exact a.1
 .rw[dO c,f];exact a.2
theorem sF{t}{b a}(c:Em N b a t)(f:1<=t.k):(aC N (cR b a t)).x=t.k:=by
 obtain⟨j,e,_,_,g,h,_⟩:=c.kd f;grind[dO]
def xG:∀(c:List K) (t:K) (g:List K) (e) (f l:List Fr) (b i) (m:List (Nat×Int)),(∀p∈c,p.k≠26\/e=false)->(t.k≠26\/e=false)->dR (c++t::g)->cY N b i (c++t::g)->1<=t.k->bB e f b (c++t::g)=.ok l m->
 ∃f1 f2 q,cX f1 (b+aA c) t=.ok f2 q/\(∀p∈q,p∈m)/\fG (·∈lk b c) f f1/\Em N (b+aA c) (i+bV c) t
 |[],t,g,e,f,l,b,i,m,_,a,v,s,u,h=>by
  cases t with
  |ty o=>cases o<;>simp[K.k]at u
  |nd k x n w=>
   rw[bY,bB]at h;obtain⟨f1,D,L,r,F,rfl⟩:=Br.jd h;have A:(e&&k==26)=false:=by
    obtain a|a:=a
    .have a:k≠26:=a;grind
    .grind
   rw[A]at r;exact⟨f,f1,D,r,λp B=>by grind,fG.refl _ _,s.head.1⟩
 |.ty o::c,t,g,e,f,l,b,i,m,y,a,v,s,u,h=>by
  rw[kZ,bB]at h;obtain⟨f1,f2,q,M,H,z,P⟩:=xG c t g e f l b (i+nT (.ty o)) m (λp B=>y p (by grind)) a v.2 (by have:=s.head.2;simp_all[nN,Nat.add_zero]) u h;refine⟨f1,f2,q,by simp_all[aA,nN,Nat.zero_add],H,z.mono λj R=>by grind[lk,nN],by simp_all[aA,nN,Nat.zero_add,bV,Nat.add_assoc]⟩
 |.nd k x n w::c,t,g,e,f,l,b,i,m,y,a,v,s,u,h=>by
  rw[kZ,bB]at h;obtain⟨G,D,L,r,F,rfl⟩:=Br.jd h;have A:(e&&k==26)=false:=by
   obtain a|a:=y (.nd k x n w) (by simp)
   .have a:k≠26:=a;grind
   .grind
  rw[A]at r;have S:=LJ (.nd k x n w) f b G D v.1 r;obtain⟨f1,f2,q,M,H,z,P⟩:=xG c t g e G l (b+nN (.nd k x n w)) (i+nT (.nd k x n w)) L (λp B=>y p (by grind)) a v.2 s.head.2 u F;refine⟨f1,f2,q,by grind[aA,Nat.add_assoc],λp B=>by grind,(S.trans z).mono λj R=>?_,by grind[aA,bV,Nat.add_assoc]⟩;rw[lk];grind
def II:∀(a:List K) (e) (n) (c:List K) (f i:List Fr) (b g) (l:List (Nat×Int)),(∀p∈a,p.k≠26)->dR (a++[.nd 26 e n c])->cY N b g (a++[.nd 26 e n c])->bB true f b (a++[.nd 26 e n c])=.ok i l->
 ∃f1 f2 m,bB false f1 (b+aA a) c=.ok f2 m/\(∀p∈m,p∈l)/\fG (·∈lk b a) f f1/\Em N (b+aA a) (g+bV a) (.nd 26 e n c)
 |[],e,n,c,f,i,b,g,l,_,r,q,h=>by
  rw[bY,bB]at h;obtain⟨f1,z,F,s,A,rfl⟩:=Br.jd h;exact⟨f,f1,z,s,λp y=>by grind,fG.refl _ _,q.head.1⟩
 |.ty o::a,e,n,c,f,i,b,g,l,t,r,q,h=>by
  rw[kZ,bB]at h;obtain⟨f1,f2,m,G,D,x,H⟩:=II a e n c f i b (g+nT (.ty o)) l (λp y=>t p (by grind)) r.2 (by have:=q.head.2;simp_all[nN,Nat.add_zero]) h;refine⟨f1,f2,m,by simp_all[aA,nN,Nat.zero_add],D,x.mono λj L=>by grind[lk,nN],by simp_all[aA,nN,Nat.zero_add,bV,Nat.add_assoc]⟩
 |.nd k w u v::a,e,n,c,f,i,b,g,l,t,r,q,h=>by
  rw[kZ,bB]at h;obtain⟨B,z,F,s,A,rfl⟩:=Br.jd h;have P:k≠26:=t (.nd k w u v) (by simp);rw[show (true&&k==26)=false by grind]at s;have M:=LJ (.nd k w u v) f b B z r.1 s;obtain⟨f1,f2,m,G,D,x,H⟩:=II a e n c B i (b+nN (.nd k w u v)) (g+nT (.nd k w u v)) F (λp y=>t p (by grind)) r.2 q.head.2 A;refine⟨f1,f2,m,by grind[aA,Nat.add_assoc],λp y=>by grind,(M.trans x).mono λj L=>?_,by grind[aA,bV,Nat.add_assoc]⟩;rw[lk];grind
theorem Tz{k}{b}{n x}{l:bZ}(a:k∈[7,8,9,12,13,14,15,18,19,20,21,22,23,24,25]):(bP k b n (x::l)).a=x:=by
 simp at a;obtain rfl|rfl|rfl|rfl|rfl|rfl|rfl|rfl|rfl|rfl|rfl|rfl|rfl|rfl|rfl:=a<;>rfl
theorem PZ{k}{b}{n x y}{l:bZ}(a:k∈[9,12,19,20,22,23]):(bP k b n (x::y::l)).b=y:=by
 simp at a;obtain rfl|rfl|rfl|rfl|rfl|rfl:=a<;>rfl
def MM{k}{b}{n x y z}{l:bZ}(a:k=20\/k=22):(bP k b n (x::y::z::l)).c=z:=by
 obtain rfl|rfl:=a<;>rfl
theorem GH:∀(a) (b e) (p) (x) (r:bZ),aZ b e a=p++x::r->∃c t f,a=c++t::f/\aZ b e c=p/\x=cR (b+aA c) (e+bV c) t
 |[],b,e,p,x,r,h=>by simp_all[aZ]
 |t::a,b,e,[],x,r,h=>by
  rw[aZ,bY,List.cons.injEq]at h;exact⟨[],t,a,rfl,rfl,by grind[aA,bV]⟩
 |t::a,b,e,y::p,x,r,h=>by
  rw[aZ,kZ,List.cons.injEq]at h;obtain⟨c,u,f,rfl,g,i⟩:=GH a _ _ p x r h.2;exact⟨t::c,u,f,rfl,by grind[aZ],by grind[aA,bV,Nat.add_assoc]⟩
def JD{c}{b f}{x}(h:x∈aZ b f c):∃a t g,c=a++t::g/\x=cR (b+aA a) (f+bV a) t:=by
 obtain⟨p,r,e⟩:=List.append_of_mem h;grind[GH]
def DV:∀(q) (b c) (j),j∈lk b q->∃a t e,q=a++t::e/\(t.k=16\/t.k=17)/\j=cR (b+aA a) (c+bV a) t
 |[],b,c,j,h=>by grind[lk]
 |p::q,b,c,j,h=>by
  rw[lk,qW]at h;obtain h|h:=h
  .split at h
   .rename_i f;rw[zW]at h;refine⟨[],p,q,rfl,f,?_⟩;cases p with
    |ty o=>cases o<;>simp[K.k]at f
    |nd k m n l=>rw[h];rfl
   grind
  .obtain⟨a,t,e,rfl,g,i⟩:=DV q (b+nN p) (c+nT p) j h;exact⟨p::a,t,e,rfl,g,by grind[aA,bV,Nat.add_assoc]⟩
theorem cY.part{a e}{t}{b c}(h:cY N b c (a++t::e)):Em N (b+aA a) (c+bV a) t:=by
 have:=cY.at h a.length (by simp);grind
def ZJ{a e}{t}{b c}:cR (b+aA a) (c+bV a) t∈aZ b c (a++t::e):=by
 grind[rL,aZ]
def gA.view{i}{f}{V}(h:gA N d i f V):∃k c n a b g m l q o,Em N b g (.nd k c n a)/\Wn (.nd k c n a)/\dR a/\cY N b g a/\i=((b+aA a:Nat))/\(aC N i).fl=bP k c n (aZ b g a)/\(aC N i).x=k/\(if k=26 then bB false (m++[l]) b a else cX (m++[l]) b (.nd k c n a))=.ok q o/\(∀p∈o,d p.1=p.2)/\(∀j,Vs (m++[l]) j->V j)/\(f=false->kL (.nd k c n a)):=by
 obtain⟨k,c,n,a,b,g,m,l,q,o,r,t,s,u,v,w,x⟩:=h;obtain⟨p1,y,p2⟩:=r.parts;have e:(aC N i).fl=bP k c n (aZ b g a):=by rw[s,dO y];exact p2
 exact⟨k,c,n,a,b,g,m,l,q,o,r,t,by grind[Wn],p1,s,e,(congrArg C.x e).trans (O8 _ _ _ _),u,v,w,x⟩
def Ny{k}{j}{n}{e}{a c}{b}{f}(i:k≠5)(l:k≠16)(m:k≠17)(q:k≠6)(o:k≠26)(h:cX a b (.nd k j n e)=.ok c f):∃g,bB false a b e=.ok c g/\∀p∈g,p∈f:=by
 rw[cX,zY i]at h;grind[Br.jd]
def sH{k}{o}{n}{q1 a}{t}{b i}{g y}{c}{x}{f}{V}(S:Wn (.nd k o n (q1++t::a)))(w:dR (q1++t::a))(L:cY N b i (q1++t::a))(H:k≠5)(A:k≠16)(B:k≠17)(q:k≠6)(l:k≠26)
 (s:(if k=26 then bB false (g++[c]) b (q1++t::a) else cX (g++[c]) b (.nd k o n (q1++t::a)))=.ok y x) (P:∀p∈x,d p.1=p.2) (R:∀j,Vs (g++[c]) j->V j) (Z:f=false->kL (.nd k o n (q1++t::a))) (u:1<=t.k):Em N (b+aA q1) (i+bV q1) t/\Su (gA N d) (cR (b+aA q1) (i+bV q1) t) f V Nn:=by
 rw[zY l]at s;obtain⟨a2,z,D⟩:=Ny H A B q l s;obtain⟨f1,f2,a3,F,G,m,r⟩:=xG q1 t a false _ _ b i _ (λ_ _=>.inr rfl) (.inr rfl) w L u z;rw[uV q1 b λp v=>SS S q l p (by grind)]at m;obtain⟨T,e,_⟩:=m g c rfl;refine⟨r,DK r ((S4 _).1 w t (by simp)) u F e (λp v=>P p (D p (G p v))) (λj M=>.inl (R j ?_)) λW=>?_⟩
 .obtain h|h:=m.vs rfl M<;>grind
 grind[kL,absurd,zO]
def PT{i}{f}{V}(s:gA N d i f V)(c:(aC N i).x∈[7,8,9,12,13,14,15,18,19,20,21,22,23,24,25]):jF N (aC N i).a/\Su (gA N d) (aC N i).a f V Nn:=by
 obtain⟨k,T,n,R,b,D,L,G,H,S,M,a,l,m,P,o,rfl,p,q,h,j⟩:=s.view;obtain⟨t,r,rfl,v⟩:=Wx a c;have u:∀x∈[(7:Int),8,9,12,13,14,15,18,19,20,21,22,23,24,25],x≠5/\x≠16/\x≠17/\x≠6/\x≠26:=by decide
 obtain⟨A,w,y,B,z⟩:=u _ c;obtain⟨e,g⟩:=sH (q1:=[]) a l m A w y B z p q h j v.1;simp only[aA,bV,Nat.add_zero]at e g;have F:(aC N i).a=cR b D t:=(congrArg C.a o).trans (by grind[aZ,Tz]);grind[vS]
def Qb{i}{f}{V}(s:gA N d i f V)(c:(aC N i).x∈[9,12,19,20]):jF N (aC N i).b/\Su (gA N d) (aC N i).b f V Nn:=by
 obtain⟨k,tx,n,W,b,F,M,H,L,Z,P,a,l,m,R,o,rfl,p,q,h,j⟩:=s.view;obtain⟨t,u,r,rfl,T,w⟩:=Xa a c;have v:∀x∈[9,12,19,20],x≠5/\x≠16/\x≠17/\x≠6/\x≠26/\x∈[(9:Int),12,19,20,22,23]:=by decide
 obtain⟨B,y,z,D,A,S⟩:=v _ c;obtain⟨e,g⟩:=sH (q1:=[t]) a l m B y z D A p q h j w.1;simp only[aA,bV,Nat.add_zero]at e g;have G:(aC N i).b=cR (b+nN t) (F+nT t) u:=(congrArg C.b o).trans (by grind[aZ,PZ]);grind[vS]
def Qe{i}{f}{V}(r:gA N d i f V)(s:(aC N i).x=20):jF N (aC N i).c/\Su (gA N d) (aC N i).c f V Nn:=by
 obtain⟨k,P,n,L,b,x,B,z,A,M,D,a,l,m,F,o,c,p,q,h,j⟩:=r.view;rw[s]at c;subst c;obtain⟨t,u,v,rfl,G,H,w⟩:=Ez a;obtain⟨e,g⟩:=sH (q1:=[t,u]) a l m (by decide) (by decide) (by decide) (by decide) (by decide) p q h j w.1;simp only[aA,bV,Nat.add_zero,<-Nat.add_assoc]at e g;have y:(aC N i).c=cR (b+nN t+nN u) (x+nT t+nT u) v:=(congrArg C.c o).trans (by rfl);grind[vS]
def yr{i}{f}{V}(v:gA N d i f V)(a:(aC N i).x=22\/(aC N i).x=23):(aC N (aC N i).b).x=26/\Su (gA N d) (aC N i).b f V Nn:=by
 obtain⟨k,M,n,w,b,x,B,z,A,L,D,j,l,m,F,o,p,q,s,g,h⟩:=v.view;obtain⟨t,u,r,rfl,H⟩:∃t u r,w=t::u::r/\u.k=26:=by
  obtain a|a:=a
  .grind[PC]
  grind[Fg]
 have G:k=22\/k=23:=by rw[<-p];exact a
 obtain⟨c,e⟩:=sH (q1:=[t]) j l m (by omega) (by omega) (by omega) (by omega) (by omega) q s g h (by omega);simp only[aA,bV,Nat.add_zero]at c e;have y:(aC N i).b=cR (b+nN t) (x+nT t) u:=(congrArg C.b o).trans (by simp_all[aZ,PZ]);grind[sF,trans]
def yw{i}{f}{V}(s:gA N d i f V)(x:(aC N i).x=22)(w:(aC N i).c≠-1):(aC N (aC N i).c).x=26/\Su (gA N d) (aC N i).c f V Nn:=by
 obtain⟨k,S,n,P,b,y,F,B,D,R,G,c,e,m,H,p,g,q,r,j,l⟩:=s.view;rw[x]at g;subst g;obtain⟨t,u,v,rfl,L,M,a⟩:=PC c;have h:(aC N i).c=cR (b+nN t+nN u) (y+nT t+nT u) v:=(congrArg C.c p).trans (by rfl);obtain a|a:=a
 .obtain⟨z,A⟩:=sH (q1:=[t,u]) c e m (by decide) (by decide) (by decide) (by decide) (by decide) q r j l (by omega);simp_all[aA,bV,Nat.add_zero,Nat.add_assoc,sF,trans]
 .exfalso;apply w;rw[h];obtain⟨o,rfl⟩:=pJ ((S4 _).1 e v (by simp)) (.inl a);cases o with
  |none=>rfl
  |some t=>grind[K.k]
def Qh{i}{f}{V}(y:gA N d i f V)(A:(aC N i).x=7\/(aC N i).x=11):∀x∈(aC N i).M,jF N x/\Su (gA N d) x f V Nn:=by
 obtain⟨k,G,n,c,b,l,R,M,P,a2,S,g,q,r,T,s,u,v,w,m,o⟩:=y.view;have j:k=7\/k=11:=by rw[<-u];exact A
 have z:∀p∈c,aO p.k:=by
  have h:=U7 _ g;rw[Gd]at h;have D:=h.1;intro p W;obtain rfl|rfl:=j<;>simp only[bJ,Int.reduceEq,or_self,if_true,if_false]at D
  .grind
  .grind
 have B:∀x∈(aC N i).M,x∈aZ b l c:=λx a=>by
  have e:((aC N i).fl).M=(bP k G n (aZ b l c)).M:=by rw[s]
  change (aC N i).M=_ at e;rw[e]at a;obtain rfl|rfl:=j
  .exact List.mem_of_mem_tail a
  .exact a
 intro x a;obtain⟨Z,t,q2,rfl,rfl⟩:=JD (B x a);have F:=z t (by simp);obtain⟨H,L⟩:=sH g q r (by omega) (by omega) (by omega) (by omega) (by omega) v w m o F.1;grind[vS]
def Qj{i}{f}{V}(B:gA N d i f V)(G:(aC N i).x=10):∀x∈(aC N i).M,jF N (aC N x).a/\Su (gA N d) (aC N x).a f V Nn:=by
 obtain⟨k,tx,a2,c,b,n,S,P,R,a3,T,g,v,w,W,y,h,z,A,s,u⟩:=B.view;rw[G]at h;subst h;have D:∀p∈c,p.k=15:=by
  have l:=U7 _ g;rw[Gd]at l;have m:=l.1;simp only[bJ,Int.reduceEq,or_self,if_true,if_false]at m;exact λp H=>m _ (List.mem_map_of_mem H)
 intro x a;have a:x∈aZ b n c:=by
  have e:(aC N i).M=aZ b n c:=congrArg C.M y;rw[e]at a;exact a
 obtain⟨q1,t,q2,rfl,rfl⟩:=JD a;have Z:=D t (by simp);obtain⟨M,L,q,r⟩:=sH g v w (by decide) (by decide) (by decide) (by decide) (by decide) z A s u (by omega);obtain⟨k1,o,k2,k3⟩:=PT q (by grind[sF]);exact⟨k1,o,k2,λj F=>(k3 j F).elim (r j) .inr⟩
def Rp{i}{f}{V}(p:gA N d i f V)(r:(aC N i).x=5\/(aC N i).x=18):V (d i):=by
 obtain⟨k,R,n,h,b,M,x,v,w,P,y,m,B,D,F,G,o,a,c,z,A⟩:=p.view;have s:k=5\/k=18:=by rw[<-o];exact r
 rw[zY (by omega),cX]at a;obtain rfl|rfl:=s
 .rw[wY rfl]at a;have t:h=[]:=by
   have e:=U7 _ m;rw[Gd]at e;have g:=e.1;simp only[bJ,Int.reduceEq,or_true,if_true]at g;exact List.map_eq_nil_iff.1 g
  subst t;split at a
  .grind
  .rename_i j q;cases a;have:=c (b,j) (by simp);grind[aA,JH]
 .rw[zY (by decide),wY rfl]at a;split at a
  .grind
  .rename_i j q;obtain⟨f1,H,L,l,u,rfl⟩:=Br.jd a;cases l;have:=c (b+aA h,j) (by simp);grind[JH]
def Ri{i}{f}{V}(a:gA N d i f V)(v:(aC N i).x=24):f=true:=by
 obtain⟨k,z,n,w,b,x,g,c,e,y,h,m,o,p,q,r,s,t,u,j,l⟩:=a.view;grind[kL]
def Rb{i}{f}{V}(L:gA N d i f V)(R:(aC N i).x=26):∀p x r,(aC N i).M=p++x::r->(17<=(aC N x).x/\(aC N x).x<=25)/\Su (gA N d) x f V λj=>j∈p/\(aC N j).x=17:=by
 obtain⟨a6,W,n,g,b,a,D,B,a2,a7,h1,F,m,o,h5,G,q,s,H,a3,a4⟩:=L.view;rw[R]at q;subst q;rw[wY rfl]at s;intro p x r y;have e:((aC N i).fl).M=(bP 26 W n (aZ b a g)).M:=by rw[G]
 change (aC N i).M=aZ b a g at e;rw[e]at y;obtain⟨k,t,l,rfl,rfl,rfl⟩:=GH g b a p x r y;have v:∀p∈k++t::l,17<=p.k/\p.k<=25:=by
  have w:=U7 _ F;rw[Gd]at w;have z:=w.1;simp only[bJ,Int.reduceEq,or_self,if_true,if_false]at z;exact λp c=>z _ (List.mem_map_of_mem c)
 have ht:=v t (by simp);obtain⟨f1,f2,a8,k1,k2,k3,S⟩:=xG k t l false _ _ b a _ (λ_ _=>.inr rfl) (.inr rfl) m o (by omega) s;obtain⟨Z,A,_⟩:=k3 D B rfl;refine⟨by grind[sF],DK S ((S4 _).1 m t (by simp)) (by omega) k1 A (λp c=>H p (k2 p c)) (λj P=>?_) λhf=>?_⟩
 .obtain h|h:=k3.vs rfl P
  .grind
  .refine .inr ?_;obtain⟨r1,u,T,rfl,hu,rfl⟩:=DV k b a j h;have a5:=v u (by simp);have M:cY N b a (r1++u::(T++t::l)):=by simpa using o
   exact⟨ZJ,by rw[sF M.part (by omega)];omega⟩
 grind[kL,absurd,zO]
def zd{i}{f}{V}(F:gA N d i f V)(H:(aC N i).x=17):jF N (aC N i).a/\Su (gA N d) (aC N i).a f V λj=>j=i/\(aC N (aC N i).a).x=6:=by
 obtain⟨a2,M,a3,ps,b,s,a,c,S,a4,T,y,n,z,A,B,o,g,D,W,Z⟩:=F.view;rw[H]at o;subst o;rw[zY (by decide),cX,zY (by decide),zY (by decide),wY rfl]at g;obtain⟨t,u,rfl,L,l⟩:=Ey y;split at g
 .grind
 obtain⟨P,v,-⟩:=Br.j7 g;obtain⟨f1,f2,a5,k1,k2,k3,r⟩:=xG [t] u [] false _ _ b s _ (λ_ _=>.inr rfl) (.inr rfl) n z l.1 v;rw[uV [t] b λp e=>by rw[zW]at e;subst e;obtain h|h:=L<;>omega]at k3;have x:(aC N i).a=cR (b+aA [t]) (s+bV [t]) u:=(congrArg C.a B).trans (by rfl);have q:fG (λj=>j=i/\u.k=6) (a++[c]) (if qK [t,u] then G8 (a++[c]) M ((b+aA [t,u]:Nat):Int) else a++[c]):=by
  split
  .rename_i G;refine(fG.set _ _ _).mono λj k=>⟨k.trans A.symm,?_⟩;cases u<;>simp_all[aO,K.k,qK,beq_iff_eq]
  .grind[fG.refl]
 obtain⟨f3,m,_⟩:=q a c rfl;rw[m]at k3;obtain⟨R,w,_⟩:=k3 a f3 rfl;rw[x];refine⟨vS r l,DK r ((S4 _).1 n u (by simp)) l.1 k1 w (λp e=>D p (k2 p e)) (λj k=>?_) λG=>?_⟩
 .obtain h|h:=k3.vs rfl k
  .rw[<-m]at h;obtain h|h:=q.vs rfl h<;>grind[sF,trans]
  grind
 grind[kL,absurd,zO]
def zb{i}{f}{V:Int->Prop}(hA:gA N d i f V)(hk:(aC N i).x=6):(aC N (aC N i).a).x=26/\Su (gA N d) (aC N i).a true V (·∈(aC N i).M):=by
 obtain⟨a8,M,n,ps,b,c,x,w,a6,a9,h1,Z,r,y,h5,A,B,D,h9,W,a7⟩:=hA.view;rw[hk]at B;subst B;rw[zY (by decide),cX,zY (by decide),zY (by decide),zY (by decide),zY (by decide),wY rfl]at D;obtain⟨q,t,a4,rfl,hq,H,m⟩:=Wu Z;obtain⟨f0,s,-⟩:=Br.jl D;cases a4 with
 |ty o=>cases o<;>simp[K.k]at m
 |nd k2 g n2 a=>
  have m:=m;subst m;have G:q++[t,.nd 26 g n2 a]=(q++[t])++[.nd 26 g n2 a]:=by simp
  rw[G]at s r y;obtain⟨f1,f2,a3,k1,k2,k3,k4⟩:=II (q++[t]) g n2 a _ _ b c _ (λp k=>by
   obtain k|k:=qW.1 k
   .grind
   .rw[zW]at k;subst k;obtain h|h:=H<;>omega) r y s;obtain⟨S,e1,_⟩:=k3 (x++[w]) Fr.no rfl;have a2:(aC N i).M=aZ b c q:=by
   have e:((aC N i).fl).M=(bP 6 M n (aZ b c (q++[t,.nd 26 g n2 a]))).M:=by rw[A]
   change (aC N i).M=(aZ b c (q++[t,.nd 26 g n2 a])).dropLast.dropLast at e;rw[e,rL,aZ,aZ,aZ];simp[List.dropLast_append_of_ne_nil]
  have R:(aC N i).a=cR (b+aA (q++[t])) (c+bV (q++[t])) (.nd 26 g n2 a):=by
   have e:((aC N i).fl).a=(bP 6 M n (aZ b c (q++[t,.nd 26 g n2 a]))).a:=by rw[A]
   change (aC N i).a=(aZ b c (q++[t,.nd 26 g n2 a])).getLastD 0 at e;rw[e,G,rL (q++[t])];simp[aZ]
  refine⟨by grind[sF,K.k],?_⟩;rw[R,Em.ix];refine⟨Vs f1,⟨26,g,n2,a,b+aA (q++[t]),c+bV (q++[t]),x++[w],S,f2,a3,k4,(S4 _).1 r _ (by simp),rfl,by grind,λp k=>h9 p (k2 p k),λj F=>by grind,λh=>by grind⟩,λj F=>?_⟩;obtain h|h:=k3.vs rfl F
  .obtain⟨T,l,a5,L⟩:=h;obtain l|l:=qW.1 l
   .exact .inl (W j ⟨T,l,a5,L⟩)
   .rw[zW]at l;subst l;cases L
  .refine .inr ?_;rw[a2];obtain⟨r1,v,r2,u,hv,rfl⟩:=DV (q++[t]) b c j h;obtain rfl|⟨r3,z,rfl⟩:=List.eq_nil_or_concat r2
   .have:=List.append_inj_right' (s₁:=q) (t₁:=[t]) (s₂:=r1) (t₂:=[v]) u rfl;simp at this;subst this;obtain h|h:=H<;>omega
   .have P:q++[t]=(r1++v::r3)++[z]:=by rw[u];simp
    obtain⟨rfl,_⟩:=List.append_inj' P rfl;exact ZJ
def Qx(f:∀i,(aC N i).text.length<=30)(e:∀i,(aC N i).M.length<=1200):qT N d (gA N d) where
 var:=Rp;a h hk:=PT h (by grind[aC]);b:=Qb;c:=Qe;l:=Qh;o:=Qj;ab:=yr;ac:=yw;fn:=zb;eo:=Rb;lt:=zd;ret:=Ri;tx:=f;ls:=e
end
def Kr(a b:Nat)(l:List (Nat×Int)):Prop:=(∀p∈l,a<=p.1/\p.1<b)/\(l.map Prod.fst).Nodup
theorem Kr.nil(a b):Kr a b []:=⟨(λ_ h=>by grind),by simp⟩
def Kr.more{a b c d}{l}(h:Kr a b l)(f:c<=a)(g:b<=d):Kr c d l:=⟨λp e=>by have:=h.1 p e;omega,h.2⟩
def Kr.app{a b c}{l k}(h:Kr a b l)(f:Kr b c k)(r:a<=b)(s:b<=c):Kr a c (l++k):=by
 refine⟨λp d=>?_,?_⟩
 .obtain d|d:=qW.1 d
  .have:=h.1 p d;omega
  .have:=f.1 p d;omega
 .rw[iY,List.nodup_append];refine⟨h.2,f.2,λx i y j e=>?_⟩;obtain⟨p,d,rfl⟩:=qZ.1 i;obtain⟨q,g,m⟩:=qZ.1 j;have n:=h.1 p d;have o:=f.1 q g;omega
def Kr.rj{a b c}{l k}(h:Kr b c l)(f:Kr a b k)(r:a<=b)(s:b<=c):Kr a c (l++k):=by
 refine⟨λp d=>?_,?_⟩
 .obtain d|d:=qW.1 d
  .have:=h.1 p d;omega
  .have:=f.1 p d;omega
 .rw[iY,List.nodup_append];refine⟨h.2,f.2,λx i y j e=>?_⟩;obtain⟨p,d,rfl⟩:=qZ.1 i;obtain⟨q,g,m⟩:=qZ.1 j;have n:=h.1 p d;have o:=f.1 q g;omega
theorem Kr.one(a b)(j)(h:a<b):Kr a b [(a,j)]:=⟨λp c=>by grind,by simp⟩
mutual
theorem XK:∀(t:K) (c:List Fr) (b:Nat) (d:List Fr) (a:List (Nat×Int)),cX c b t=.ok d a->Kr b (b+nN t) a
 |.ty _,c,b,d,a,h=>by
  grind[cX,Kr.nil]
 |.nd k q n f,c,b,d,a,h=>by
  rw[cX]at h;rw[nN];split at h
  .grind[Kr.one]
  split at h
  .split at h
   .grind
   .obtain⟨f1,i,p,e,j,rfl⟩:=Br.jd h;cases e;have l:=qU f false c b d p j;exact Kr.rj (Kr.one (b+aA f) (b+(aA f+1)) _ (by omega)) l (by omega) (by omega)
  split at h
  .split at h
   .grind
   .obtain⟨f1,e,rfl⟩:=Br.j7 h;exact(qU f false _ b f1 a e).more (vQ _) (by omega)
  split at h
  .grind[Kr.nil]
  split at h
  .obtain⟨f1,e,rfl⟩:=Br.jl h;exact(qU f true _ b f1 a e).more (vQ _) (by omega)
  split at h
  .obtain⟨f1,e,rfl⟩:=Br.jl h;exact(qU f false _ b f1 a e).more (vQ _) (by omega)
  .exact(qU f false c b d a h).more (vQ _) (by omega)
theorem qU:∀(f:List K) (g:Bool) (c:List Fr) (b:Nat) (d:List Fr) (a:List (Nat×Int)),bB g c b f=.ok d a->Kr b (b+aA f) a
 |[],g,c,b,d,a,h=>by
  grind[bB,Kr.nil]
 |.ty o::r,g,c,b,d,a,h=>by
  rw[bB]at h;rw[aA,nN,Nat.zero_add];exact qU r g c b d a h
 |.nd k q n m::r,g,c,b,d,a,h=>by
  rw[bB]at h;obtain⟨f1,i,p,e,j,rfl⟩:=Br.jd h;have s:=qU r g f1 _ d p j;have l:Kr b (b+nN (.nd k q n m)) i:=by
   split at e
   .exact(qU m false c b f1 i e).more (vQ _) (by grind[nN])
   .exact XK (.nd k q n m) c b f1 i e
  rw[aA,<-Nat.add_assoc];exact l.app s (by omega) (by omega)
end
theorem YX{i}:∀(l) (a),(∀p∈l,p.1≠i)->(cQ a l).getD i 0=a.getD i 0
 |[],a,_=>rfl
 |p::l,a,h=>by
  show (cQ (a.set p.1 p.2) l).getD i 0=_;rw[YX l _ λq b=>h q (by grind),lQ,lQ,List.getElem?_set_ne (h p (by simp))]
def XV:∀(l) (b),(l.map Prod.fst).Nodup->(∀p∈l,p.1<b.length)->∀p∈l,(cQ b l).getD p.1 0=p.2
 |[],_,_,_,p,a=>by grind
 |q::l,b,c,d,p,a=>by
  show (cQ (b.set q.1 q.2) l).getD p.1 0=_;rw[xZ,List.nodup_cons]at c;obtain rfl|a:=jW.1 a
  .grind[YX,List.mem_map_of_mem,lQ,List.getElem?_set_self]
  .exact XV l _ c.2 (λr e=>by grind) p a
def Vw{N:List C}{T:List Ty}{a:List K}{h:Int->Int}(b:bH N T a){k:List Fr}{l:List (Nat×Int)}(c:cX [] 0 (.nd 26 [] 0 a)=.ok k l)(v:∀i:Nat,(cQ (List.replicate N.length (-1)) l).getD i 0≠-1->h (i:Int)=(cQ (List.replicate N.length (-1)) l).getD i 0)(w:∀p∈l,p.2≠-1)(x:nU a):gA N h ((N.length:Int)-1) false λ_=>False:=by
 have d:=XK _ _ _ _ _ c;rw[cX,zY (by decide),zY (by decide),zY (by decide),zY (by decide),zY (by decide),wY rfl]at c;obtain⟨f1,s,-⟩:=Br.jl c;have u:N.length=aA a+1:=by
  have:=congrArg List.length b.fe;rw[uZ,P8,nN]at this;exact this
 refine⟨26,[],0,a,0,0,[],Fr.no,f1,l,⟨[],[],by simp[b.fe],rfl⟩,lT b.wn,by omega,by grind,λp g=>?_,λj m=>?_,λ_=>?_⟩
 .have o:=d.1 p g;rw[nN]at o;have t:=XV l (List.replicate N.length (-1)) d.2 (λq n=>by have:=d.1 q n;grind[nN]) p g;grind
 .obtain⟨f,e,y,r⟩:=m;simp at e;subst e;cases r
 grind[kL]
def ZW(c:Cx):Nat->Int->Nat
 |0,_=>0
 |f+1,i=>2+((kK (aC c.N i)).map (ZW c f)).sum
theorem Z8{b}(a){p}{r}(h:1<=p.k):px b (p::r)=cR b a p::px (b+nN p) r:=by
 cases p with
 |ty o=>cases o<;>simp[K.k]at h
 |nd k d n c=>rw[px,Em.ix]
theorem Dp(n):kK n.fl=kK n:=rfl
def Du{b f}{k}{m}{n}{i}(y:Wn (.nd k m n i)):kK (bP k m n (aZ b f i))=px b i:=by
 have D:=AQ y;clear y;cases D with
 |n1 n h=>rfl
 |n2 m h=>rfl
 |n3 n h=>rfl
 |n4=>rfl
 |n5 m h=>rfl
 |n6 i a c j g q l v s=>
  obtain⟨o,rfl⟩:=pJ q l;have w:aZ b f (i++[.ty o,c])=aZ b f i++[cR (b+aA i) (f+bV i) (.ty o),cR (b+aA i+nN (.ty o)) (f+bV i+nT (.ty o)) c]:=by rw[rL];rfl
  have z:(aZ b f (i++[.ty o,c])).dropLast.dropLast=aZ b f i:=by rw[w];simp
  have A:(aZ b f (i++[.ty o,c])).getLastD 0=cR (b+aA i+nN (.ty o)) (f+bV i+nT (.ty o)) c:=by rw[w];simp[List.getLastD_eq_getLast?]
  have e:kK (bP 6 [] 0 (aZ b f (i++[.ty o,c])))=(aZ b f (i++[.ty o,c])).dropLast.dropLast++[(aZ b f (i++[.ty o,c])).getLastD 0]:=rfl;rw[e,z,A,EP,U2 _ _ _ (λp u=>by grind),px,Z8 (f+bV i+nT (.ty o)) (by omega)];rfl
 |n7 a i j g q=>
  rw[Z8 f g.1,<-U2 _ (f+nT a) _ (λp u=>(q p u).2.1)];rfl
 |n8 m a r j g=>rw[Z8 f g.1];rfl
 |n9 a c j g q l=>rw[Z8 f g.1,Z8 (f+nT a) l.1];rfl
 |n10 i j g=>
  rw[<-U2 _ f _ (λp u=>by grind)];rfl
 |n11 i j=>
  rw[<-U2 _ f _ (λp u=>(j p u).2.1)];rfl
 |n12 m a c r j g q l=>rw[Z8 f g.1,Z8 (f+nT a) l.1];rfl
 |n13 m a r j g=>rw[Z8 f g.1];rfl
 |n14 a t j g q=>rw[Z8 f g.1];rfl
 |n15 m a r j g=>rw[Z8 f g.1];rfl
 |n16 m a r j g=>
  obtain⟨o,rfl⟩:=pJ j g;rfl
 |n17 m a c r j g q l=>
  obtain⟨o,rfl⟩:=pJ j g;rw[px,Z8 (f+nT (.ty o)) l.1];rfl
 |n18 m a r j g=>rw[Z8 f g.1];rfl
 |n19 m a c r j g q l=>rw[Z8 f g.1,Z8 (f+nT a) l.1];rfl
 |n20 a c d j g q l v s=>rw[Z8 f g.1,Z8 (f+nT a) l.1,Z8 (f+nT a+nT c) s.1];rfl
 |n21 a j g=>rw[Z8 f g.1];rfl
 |n22 a c d j g q l v s=>
  rw[Z8 f g.1,Z8 (f+nT a) (by omega)];obtain s|s:=s
  .have x:1<=d.k:=by omega
   rw[Z8 (f+nT a+nT c) x];have B:cR (b+nN a+nN c) (f+nT a+nT c) d≠-1:=by
    cases d with
    |ty o=>cases o<;>simp[K.k]at x
    |nd k m n i=>grind[Em.ix]
   exact zY B
  .obtain⟨o,rfl⟩:=pJ v (.inl s);cases o with
   |none=>rfl
   |some t=>grind[K.k]
 |n23 a c j g q l=>rw[Z8 f g.1,Z8 (f+nT a) (by omega)];rfl
 |n24 a j g=>rw[Z8 f g.1];rfl
 |n25 a j g=>rw[Z8 f g.1];rfl
 |n26 i j=>
  rw[<-U2 _ f _ (λp u=>by grind)];rfl
section
variable{c:Cx}{g:Gm}{a:bZ}
end
def gJ(N:List C):Nat->Nat->bZ->bZ
 |_,0,a=>a
 |e,c+1,a=>gJ N (e-1) c (fA N a (e-1))
theorem IX(N):∀(c d e) (a),gJ N e (c+d) a=gJ N (e-c) d (gJ N e c a)
 |0,d,e,a=>by simp[gJ]
 |c+1,d,e,a=>by
  rw[show c+1+d=(c+d)+1 by omega,gJ,gJ,IX N c d (e-1),show e-1-c=e-(c+1) by omega]
theorem PH(N):∀j,kP N j=gJ N N.length j (List.replicate N.length 0)
 |0=>rfl
 |j+1=>by
  rw[kP,PH N j,IX N j 1,gJ,gJ,show N.length-j-1=N.length-1-j by omega]
theorem TI(v):∀(l a) (q),(∀x∈l,0<=x/\x<a.length)->(bE a v l).getD q 0=if (q:Int)∈l then v else a.getD q 0
 |[],a,q,_=>by rfl
 |x::l,a,q,h=>by
  have b:=h x (by simp);rw[bE,List.foldl_cons,<-bE,TI v l _ q (λy c=>by grind)];grind
theorem uY:∀(a) (b),∀x∈px b a,b<=x/\x<((b+aA a:Nat))
 |[],b,x,h=>by grind[px]
 |.ty o::r,b,x,h=>by
  rw[px]at h;have:=uY r b x h;grind[aA,nN]
 |.nd k c n a::r,b,x,h=>by
  rw[px,jW]at h;rw[aA,nN];obtain rfl|h:=h
  .omega
  .have:=uY r _ x h;grind[nN]
section
variable{N:List C}
theorem VW{a}(i):(fA N a i).length=a.length:=by
 grind[fA,jA,vA]
theorem VU{b l}{k}{d}{n}{a}(i:Wn (.nd k d n a))(f:Em N b l (.nd k d n a)){c}(m:c.length=N.length)(q):(fA N c (b+aA a)).getD q 0=if (q:Int)∈px b a then kN N c (b+aA a) else (jA N c (b+aA a)).getD q 0:=by
 obtain⟨_,g,e⟩:=f.parts;have h:kK (aC N ((b+aA a:Nat):Int))=px b a:=by
  rw[dO g,<-Dp,e];exact Du i
 have o:(jA N c (b+aA a)).length=c.length:=by unfold jA;split<;>simp
 unfold fA;rw[h];exact TI _ _ _ q λx j=>by have:=uY a b x j;omega
mutual
theorem DI:∀(t:K) (b g:Nat) (c:bZ),Wn t->1<=t.k->Em N b g t->c.length=N.length->b+nN t<N.length->
 (gJ N (b+nN t) (nN t) c).length=N.length/\(∀q,q<b\/b+nN t<=q+1->(gJ N (b+nN t) (nN t) c).getD q 0=c.getD q 0)/\(c.getD (b+nN t-1) 0=-1->(∀q:Nat,b<=q->q<b+nN t->(aC N (q:Int)).x=24->(gJ N (b+nN t) (nN t) c).getD q 0≠-1)->kL t)
 |.ty o,b,g,c,i,u,j,l,p=>by cases o<;>simp[K.k]at u
 |.nd k f n a,b,g,c,i,u,j,l,p=>by
  obtain⟨H,L,e⟩:=j.parts;have V:dR a:=by rw[Wn]at i;exact i.2.2
  have a4:(aC N ((b+aA a:Nat):Int)).x=k:=by rw[dO L];exact(congrArg C.x e).trans (O8 _ _ _ _)
  rw[nN]at p⊢;have G:jA N c (b+aA a)=c:=by unfold jA;rw[zY (by omega)]
  have B:gJ N (b+(aA a+1)) (aA a+1) c=gJ N (b+aA a) (aA a) (fA N c (b+aA a)):=by rw[gJ,show b+(aA a+1)-1=b+aA a by omega]
  rw[B];obtain⟨W,l2,Z⟩:=AV a b g (fA N c (b+aA a)) V H (by grind[VW]) (by omega);have s:=VU i j l;have a5:∀q:Nat,q<b\/b+aA a<=q->(fA N c (b+aA a)).getD q 0=c.getD q 0:=λq y=>by
   rw[s q,zY (λM=>by have:=uY a b _ M;omega),G]
  refine⟨W,λq y=>?_,λP D=>?_⟩
  .grind
  .rw[kL];by_cases h6:k=6
   .omega
   .have R:b+(aA a+1)-1=b+aA a:=by omega
    rw[R]at P;refine .inr ⟨λh=>?_,Z (λx z=>?_) λq m w F=>D q m (by omega) F⟩
    .grind
    .have a6:=uY a b x z;rw[s x.toNat,wY (by rw[show (x.toNat:Int)=x by omega];omega)];simp_all[kN,zY]
theorem AV:∀(a:List K) (b g:Nat) (c:bZ),dR a->cY N b g a->c.length=N.length->b+aA a<N.length->
 (gJ N (b+aA a) (aA a) c).length=N.length/\(∀q,q<b\/b+aA a<=q->(gJ N (b+aA a) (aA a) c).getD q 0=c.getD q 0)/\((∀x∈px b a,c.getD x.toNat 0=-1)->(∀q:Nat,b<=q->q<b+aA a->(aC N (q:Int)).x=24->(gJ N (b+aA a) (aA a) c).getD q 0≠-1)->nU a)
 |[],b,g,c,_,_,l,_=>⟨by grind[aA,gJ],λq _=>by rfl,λ_ _=>by grind[nU]⟩
 |.ty o::r,b,g,c,i,j,l,p=>by
  have h:=AV r b (g+nT (.ty o)) c i.2 (by have:=j.head.2;simp_all[nN,Nat.add_zero]) l (by grind[aA,nN]);simp_all[aA,nN,Nat.zero_add,px,nU,kL]
 |.nd k f n d::r,b,g,c,i,j,l,p=>by
  have u:1<=(K.nd k f n d).k:=by
   have S:=i.1;have s:=U7 _ S;rw[Gd]at s;show 1<=k;have:=s.1;unfold bJ at this;by_cases m:1<=k
   .omega
   .exfalso;rw[zY (by omega),zY (by omega),zY (by omega),zY (by omega),zY (by omega),zY (by omega),zY (by omega),zY (by omega),zY (by omega),zY (by omega),zY (by omega),zY (by omega),zY (by omega),zY (by omega)]at this;omega
  rw[aA]at p⊢;have T:gJ N (b+(nN (.nd k f n d)+aA r)) (nN (.nd k f n d)+aA r) c=gJ N (b+nN (.nd k f n d)) (nN (.nd k f n d)) (gJ N (b+nN (.nd k f n d)+aA r) (aA r) c):=by
   rw[Nat.add_comm (nN (.nd k f n d)) (aA r),IX,show b+(aA r+nN (.nd k f n d))-aA r=b+nN (.nd k f n d) by omega,show b+(aA r+nN (.nd k f n d))=b+nN (.nd k f n d)+aA r by omega]
  rw[T];obtain⟨r1,r2,r3⟩:=AV r (b+nN (.nd k f n d)) (g+nT (.nd k f n d)) c i.2 j.head.2 l (by omega);obtain⟨t1,t2,t3⟩:=DI (.nd k f n d) b g (gJ N (b+nN (.nd k f n d)+aA r) (aA r) c) i.1 u j.head.1 r1 (by omega);refine⟨t1,λq y=>?_,λm w=>?_⟩
  .grind
  .rw[nU];refine⟨t3 ?_ λq a1 A v=>w q a1 (by omega) v,r3 (λx z=>m x (by grind[px])) λq a1 A v=>?_⟩
   .rw[r2 _ (by grind[nN])];have:=m ((b+aA d:Nat):Int) (by grind[px]);rw[tQ]at this;simp_all[nN,aA]
   grind
end
def Ua{T}{a}(b:bH N T a)(h:∀i,i<N.length->(aC N i).x=24->(kO N).getD i 0≠-1):nU a:=by
 have j:N.length=aA a+1:=by
  have:=congrArg List.length b.fe;rw[uZ,P8,nN]at this;exact this
 have c:Em N 0 0 (.nd 26 [] 0 a):=⟨[],[],by simp[b.fe],rfl⟩;have l:=lT b.wn;obtain⟨d,f,e⟩:=c.parts;have u:(aC N ((0+aA a:Nat):Int)).x=26:=by rw[dO f];exact(congrArg C.x e).trans (O8 _ _ _ _)
 have g:(List.replicate N.length (0:Int)).length=N.length:=by simp
 have o:kO N=gJ N (0+aA a) (aA a) (fA N (List.replicate N.length 0) (0+aA a)):=by
  rw[kO,PH,j,gJ,show aA a+1-1=0+aA a by omega]
 obtain⟨w,y,n⟩:=AV a 0 0 (fA N (List.replicate N.length 0) (0+aA a)) ((S4 _).2 λp k=>(b.wn p k).1) d (by grind[VW]) (by omega);refine n (λx m=>?_) λq r s t=>by grind
 have v:=uY a 0 x m;rw[VU l c g x.toNat,wY (by grind)];unfold kN jA;grind
end
section
variable{N:List C}{T:List Ty}
def bH.sub{a}(h:bH N T a)(i)(b:i<N.length):Sub N T i:=by
 have c:N.length=aA a+1:=by
  have:=congrArg List.length h.fe;rw[uZ,P8,nN]at this;exact this
 refine LR (.nd 26 [] 0 a) 0 0 (lT h.wn) ⟨[],[],by simp[h.fe],rfl⟩ ⟨[],[],by rw[fP,h.types];simp,rfl,AO⟩ i (wQ _) (by grind[nN])
def bH.qg{w}(h:bH N T w)(i)(r:i<N.length)(s:N[i].x=26):∀x∈N[i].M,0<=x/\x<N.length/\17<=(aC N x).x/\(aC N x).x<=25:=by
 obtain⟨b,y,k,M,n,a,o,v,rfl,G⟩:=h.sub i r;obtain⟨q,A,e⟩:=o.parts;have d:N[b+aA a].x=k:=(congrArg C.x e).trans (O8 _ _ _ _);rw[s]at d;subst d;have m:∀p∈a,17<=p.k/\p.k<=25:=by
  have c:=U7 _ v;rw[Gd]at c;have g:=c.1;simp only[bJ,Int.reduceEq,or_self,if_true,if_false]at g;exact λp u=>g _ (List.mem_map_of_mem u)
 intro x l;have f:N[b+aA a].fl.M=aZ b y a:=by rw[e];rfl
 change N[b+aA a].M=_ at f;rw[f]at l;obtain⟨H,t,L,rfl,rfl⟩:=JD l;have F:=m t (by simp);obtain⟨j,z,_,_,B,D,_⟩:=q.part.kd (show 1<=t.k by omega);grind[dO]
def Iq{d}{h}{l}{c}(g:bH N T d)(n:cX [] 0 (.nd 26 [] 0 d)=.ok h l)(w:∀i,(cQ (List.replicate N.length (-1)) l).getD i 0≠-1->c i=(cQ (List.replicate N.length (-1)) l).getD i 0)(y:∀p∈l,p.2≠-1)(z:∀i,i<N.length->(aC N i).x=24->(kO N).getD i 0≠-1)(A:∀i,(aC N i).text.length<=30)(u:∀i,(aC N i).M.length<=1200)(G)(b):
 rn N c G (8*b+20) (.b (N.length-1)) none (fC b)≠.stk/\(∀v B,rn N c G (8*b+20) (.b (N.length-1)) none (fC b)≠.back v B)/\∃r,jY N c G b=some r/\rH r.2.2:=by
 have m:=Vw g n w y (Ua g z);have t:(aC N (N.length-1)).x=26:=by
  have D:N.length=aA d+1:=by
   have:=congrArg List.length g.fe;rw[uZ,P8,nN]at this;exact this
  have o:Em N 0 0 (.nd 26 [] 0 d):=⟨[],[],by simp[g.fe],rfl⟩;obtain⟨_,q,e⟩:=o.parts;rw[show N.length-1=((0+aA d:Nat):Int) by omega,dO q];exact(congrArg C.x e).trans (O8 _ _ _ _)
 obtain⟨j,k,f⟩:=Vp (Qx A u) b m t;refine⟨j,k,?_⟩;unfold jY;cases e:rn N c G (8*b+20) (.b (N.length-1)) none (fC b) with
 |ok a s=>rw[e]at f;exact⟨_,rfl,f⟩
 |over x i s=>rw[e]at f;exact⟨_,rfl,f⟩
 |back v s=>grind
 |stk=>grind
end
def Rr.Ln{a}(r:Rr a)(l:List Y):Prop:=match r with
 |.ok _ s=>l<+:s.ln
 |.over _ _ s=>l<+:s.ln
 |.back _ s=>l<+:s.ln
 |.stk=>True
def Mn{a}(m:X a):Prop:=∀s l,l<+:s.ln->(m s).Ln l
theorem Mn.bd{d j}{m}{k:d->X j}(h:Mn m)(f:∀a,Mn (k a)):Mn (m.bd k):=λs l g=>by
 have:=h s l g;unfold X.bd;cases b:m s with
 |ok a c=>rw[b]at this;exact f a c l this
 |over e i c=>rw[b]at this;exact this
 |back v c=>rw[b]at this;exact this
 |stk=>trivial
theorem Mn.cat{m}(h:Mn m):Mn m.cat:=λs l a=>by
 have:=h s l a;unfold X.cat;cases b:m s<;>rw[b]at this<;>exact this
def Mn.co{d}(f:Co->Rc d):Mn (bU f):=λs l b=>by
 unfold bU;cases f s.c with
 |ok a c=>exact b
 |over e i=>exact b
 |stk=>trivial
def mH(x:Int->Int->Prop)(S:Ms->Ms->Prop){k}(m b:X k):Prop:=Mn b/\∀s c,S s c->match m s with
 |.stk=>True
 |.ok a t=>match b c with
  |.ok f d=>a=f/\S t d
  |.stk=>True
  |_=>False
 |.back v t=>match b c with
  |.back j d=>v=j/\S t d
  |.stk=>True
  |_=>False
 |.over e i t=>(x e i/\(b c).Ln t.ln)\/match b c with
  |.over g h d=>g=e/\h=i/\S t d
  |.stk=>True
  |_=>False
section
variable{x:Int->Int->Prop}{S:Ms->Ms->Prop}
theorem mH.bd{q w}{m g}{k p:q->X w}(h:mH x S m g)(j:∀a,mH x S (k a) (p a)):mH x S (m.bd k) (g.bd p):=by
 refine⟨h.1.bd λa=>(j a).1,λs l r=>?_⟩;have d:=h.2 s l r;unfold X.bd;cases o:m s with
 |stk=>simp
 |ok a t=>
  rw[o]at d;cases f:g l with
  |ok n c=>
   rw[f]at d;obtain⟨rfl,b⟩:=d;exact(j a).2 t c b
  |stk=>
   grind
  |over e i c=>grind
  |back v c=>grind
 |back v t=>
  grind
 |over e i t=>
  rw[o]at d;obtain⟨u,b⟩|d:=d
  .refine .inl ⟨u,?_⟩;cases f:g l with
   |ok n c=>rw[f]at b;exact(j n).1 c _ b
   |over e i c=>rw[f]at b;exact b
   |back v c=>rw[f]at b;exact b
   |stk=>trivial
  grind
theorem mH.cat{m c}(h:mH x S m c):mH x S m.cat c.cat:=by
 refine⟨h.1.cat,λs f k=>?_⟩;have b:=h.2 s f k;unfold X.cat;cases g:m s with
 |stk=>simp
 |ok a t=>
  grind
 |back v t=>
  grind
 |over e i t=>
  rw[g]at b;obtain⟨l,d⟩|b:=b
  .refine .inl ⟨l,?_⟩;cases j:c f<;>rw[j]at d<;>exact d
  grind
def MZ(l):Mn (rV l):=λ_ _ a=>a.trans (List.prefix_append _ _)
def SB:Mn aW:=λs l a=>by
 unfold aW;split<;>exact a
def MX(G)(i)(v):Mn (dL G i v):=λs l a=>by
 unfold dL;split
 .exact a
 .split<;>exact a
def Ud(N)(e)(G)(k)(a)(b):Mn (rn N e G k a b):=
 vV (G':=G) {R:=λm _=>Mn m,stk:=λ_ _ _ _ _ _=>trivial,bd:=λh c=>h.bd c,cat:=λh=>h.cat,co:=λf=>Mn.co f,jz:=SB,ry:=MZ,ret:=λ_ _ _ d=>d,lu:=MX G} k k a b (vQ _)
def Ej{N}{n}{G e}(t:∀s a,S s a->s.c=a.c/\(∀c,S {s with c:=c} {a with c:=c})/\s.ln=a.ln/\∀l,S {s with ln:=l} {a with ln:=l})
 (q:mH x S aW aW) (o:∀i v,mH x S (dL G i v) (dL e i v)) (k j) (b) (d) (g:k<=j):mH x S (rn N n G k b d) (rn N n e j b d):=by
 refine vV {R:=λm r=>mH x S m r,stk:=λk b d=>⟨Ud N n e k b d,λ_ _ _=>trivial⟩,bd:=λh g=>h.bd g,cat:=λh=>h.cat,jz:=q,lu:=o,co:=λf=>⟨Mn.co f,λs a h=>?_⟩,ry:=λl=>⟨MZ l,λs a h=>?_⟩,ret:=λv=>⟨λ_ _ p=>p,λs a h=>⟨rfl,h⟩⟩} k j b d g
 .grind[bU]
 grind[rV]
end
def Vm{N:List C}{nm:Int->Int}(G:Int->Option Int)(k)(a)(d:Option Nat):mH (λe _=>e=2) (λs b=>s.c=b.c/\s.fu=b.fu/\s.ln=b.ln) (rn N nm G k a d) (rn N nm (λ_=>none) k a d):=by
 refine Ej ?_ ?_ ?_ k k a d (vQ _)
 .grind
 .refine⟨SB,?_⟩;grind[aW]
 .refine λi v=>⟨MX _ i v,?_⟩;rintro⟨c,f,l,e⟩ ⟨g,m,n,j⟩ ⟨rfl,rfl,rfl⟩;unfold dL;simp only;cases G i with
  |none=>simp
  |some t=>
   by_cases h:bits BinOp.and .i64 v.g t=0
   .simp only[wY h];exact .inl ⟨trivial,List.prefix_refl _⟩
   grind
def Rr.Hd{a}(G:Int->Option Int)(r:Rr a):Prop:=match r with
 |.ok _ s=>∀p∈s.ev,∃t,G p.1=some t/\bits BinOp.and .i64 p.2 t≠0
 |.over e i s=>(∀p∈s.ev,∃t,G p.1=some t/\bits BinOp.and .i64 p.2 t≠0)/\(e=2->∃t,G i=some t)
 |.back _ s=>∀p∈s.ev,∃t,G p.1=some t/\bits BinOp.and .i64 p.2 t≠0
 |.stk=>True
def TA{N}{nm}(G)(k)(j)(l)(s)(h:∀p∈s.ev,∃t,G p.1=some t/\bits BinOp.and .i64 p.2 t≠0):(rn N nm G k j l s).Hd G:=by
 refine vV (G':=G) {R:=λm _=>∀s:Ms,(∀p∈s.ev,∃t,G p.1=some t/\bits BinOp.and .i64 p.2 t≠0)->(m s).Hd G,stk:=λ_ _ _ _ _=>trivial,bd:=?_,cat:=?_,co:=?_,jz:=?_,ry:=λ_ _ h=>h,ret:=λ_ _ h=>h,lu:=?_} k k j l (vQ _) s h
 .intro q x m _ k _ d o s b;have:=d s b;unfold X.bd;cases e:m s with
  |ok a g=>rw[e]at this;exact o a g this
  |over r i g=>rw[e]at this;exact this
  |back v g=>rw[e]at this;exact this
  |stk=>trivial
 .intro m _ d s b;have:=d s b;unfold X.cat;cases e:m s<;>rw[e]at this<;>exact this
 .intro q f s b;unfold bU;cases f s.c with
  |ok a c=>exact b
  |over e i=>exact⟨b,λe=>by omega⟩
  |stk=>trivial
 .intro s b;unfold aW;split
  .exact⟨b,λe=>by omega⟩
  .exact b
 .intro i v s b;unfold dL;cases n:G i with
  |none=>exact b
  |some t=>
   simp only;split
   .exact⟨b,λ_=>⟨t,n⟩⟩
   .rename_i u;intro p w;grind
