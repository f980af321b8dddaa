/-
  A part of the proof.
-/
import Derived.Test.YteocidgdmjaffaaGreatDoorProg
import Derived.Test.YteocidgdmjaffaaGreatDoorPlainA
import Derived.WalkKit
import Derived.WalkSpells
import Derived.WalkLawsBesides
import Derived.Laws.Rows
import Derived.Maps.AppendAt
import Derived.Deep.QuietTactic
import Derived.BigQuiet
import Derived.Deep.RegionHeld3
import Derived.Deep.RegionLaw
import Derived.Deep.AppendLies
set_option maxHeartbeats 0
set_option linter.all false
set_option maxRecDepth 100000
namespace Go.Proofs.YteocidgdmjaffaaGreatDoor
theorem _root_.Go.RowKit.Hid.u{p:Prop}(h:Go.RowKit.Hid p):p:=h
abbrev E:=World
theorem yY(w:World)(o):(w.alloc o).heap[w.heap.size]?=some o:=Go.heap_alloc_new w o
open Go.Proofs.Tryz
theorem xW{a x}{b y}{c z}:(Obj.cells a b c=.cells x y z)=(a=x/\ b=y/\ c=z):=Obj.cells.injEq ..
theorem kW(w:E)(b)(e)(s):w.ownsRow b e s (.slice none 0 0) 0 []:=World.ownsRow_nil w b e s
abbrev U(n:Int):Value:=.int .i64 n
abbrev pV(b:Nat):Value:=.pointer (some ⟨b,0,none⟩)
abbrev aL(k a b c:Int)(l:Value)(t:Y)(n y p:Int):Obj:=.cells #[U k,U a,U b,U c,l,.string ⟨t.toArray⟩,U n,U y,U p] 85
abbrev No:Nat->Prop:=λ_=>False
abbrev J(b o:Nat):Addr:=⟨b,o,none⟩
abbrev sN:Value:=.slice none 0 0
abbrev sV(l:Y):Value:=.string ⟨l.toArray⟩
abbrev rT:Ending:=.returned (.tuple #[])
abbrev _root_.Go.World.z(w:E):Nat:=w.heap.size
theorem aI{c:Type}{b:Array c}{i}{a}(h:b[i]?=some a):i<b.size:=(Array.getElem?_eq_some_iff.1 h).1
def blt{w:E}{a}{v}(h:w.cell? a=some v):a.block<w.heap.size:=World.block_lt_of_cell? w a h
def vM(b)(first a)(w:E):(Instr.makeFunc b first a).run prog w=.ok (.func b first a) w:=rfl
open Go.RowKit in
def cr{w:E}{b o:Nat}{a:Array Value}{e:TypeId}{c:Nat×Nat}{v:Value}(h:w.heap[b]?=some (.cells a e c))(d:a[o]?=some v):w.cell? ⟨b,o,none⟩=some v:=(cell_of_row _ _ o _ _ _ h).trans d
open Go.RowKit
def E7{a b}(h:a=b):Ending.returned (.bool a)=.returned (.bool b):=by rw[h]
def U6(n:Nat)(w:E):Calls prog 103 #[.int .u8 n] w λe a=>e=.returned (.bool (eO n))/\a=w:=by
 go_in;go_wp2;all_goals go_ret
 all_goals exact⟨E7 (by grind[eO]),rfl⟩
def CK(n:Nat)(w:E):Calls prog 105 #[.int .u8 n] w λe a=>e=.returned (.bool (gP n))/\a=w:=by
 go_in;go_wp2;all_goals go_ret
 all_goals exact⟨E7 (by grind[gP]),rfl⟩
def YN(n:Nat)(w:E):Calls prog 102 #[.int .u8 n] w λe a=>e=.returned (.bool (blank n))/\a=w:=by
 go_in;go_wp2;all_goals go_ret
 all_goals exact⟨E7 (by grind[blank]),rfl⟩
def YS(n:Nat)(w:E):Calls prog 154 #[.int .u8 n] w λe a=>e=.returned (.bool (gH n))/\a=w:=by
 go_in;go_wp2;all_goals go_ret
 all_goals exact⟨E7 (by grind[gH]),rfl⟩
def QR(n:Nat)(w:E):Calls prog 150 #[.int .u8 n] w λe a=>e=.returned (.bool (eO n))/\a=w:=by
 go_in;go_wp2_with (go_at_call 103;refine(U6 _ _).mono ?_;rintro e a ⟨rfl,rfl⟩);go_ret;exact⟨rfl,rfl⟩
def XM(n:Nat)(w:E):Calls prog 152 #[.int .u8 n] w λe a=>e=.returned (.bool (gB n))/\a=w:=by
 cases h:gP n;all_goals
  go_in;go_wp2_with (first|(go_at_call 103;refine(U6 _ _).mono ?_;rintro e a ⟨rfl,rfl⟩)|(go_at_call 105;refine(CK _ _).mono ?_;rintro e a ⟨rfl,rfl⟩));go_ret;exact⟨E7 (by grind[gB]),rfl⟩
def J5{k}{a b}(h:a=b):Ending.returned (.int k a)=.returned (.int k b):=by rw[h]
theorem bl(s:ByteArray):s.data.toList.length=s.size:=by rfl
def Gj(s)(w:E)(d:s.size<=maxLen):Calls prog 101 #[.string s,.func (.func 102) #[] #[]] w λe a=>e=.returned (U (sp blank s.data.toList))/\a=w:=by
 unfold maxLen at d;go_in;go_wp2;go_loop [5] (λi=>∃k:Nat,k<=s.size/\i=U k/\k<=sp blank s.data.toList) (λi=>s.size-(intOf i).toNat);case atStart=>grind
 case round=>
  obtain⟨k,f,rfl,c⟩:=hrel;by_cases g:k<s.size
  .cases b:blank s[k].toNat
   .go_wp2_with (go_at_call 102;refine(YN _ _).mono ?_;rintro e a ⟨rfl,rfl⟩);go_ret;exact⟨J5 (by rw[wX blank s.data.toList k (by simp_all) c b]),rfl⟩
   .go_wp2_with (go_at_call 102;refine(YN _ _).mono ?_;rintro e a ⟨rfl,rfl⟩);go_round;case rel=>exact⟨k+1,by omega,by go_num,uD blank s.data.toList k (by simp_all) c b⟩
    grind[intOf]
  .go_wp2;go_ret;exact⟨J5 (by grind[mI,blank,bl]),rfl⟩
def Gl(s)(w:E)(d:s.size<=maxLen):Calls prog 101 #[.string s,.func (.func 150) #[] #[]] w λe a=>e=.returned (U (sp eO s.data.toList))/\a=w:=by
 unfold maxLen at d;go_in;go_wp2;go_loop [5] (λi=>∃k:Nat,k<=s.size/\i=U k/\k<=sp eO s.data.toList) (λi=>s.size-(intOf i).toNat);case atStart=>grind
 case round=>
  obtain⟨k,f,rfl,c⟩:=hrel;by_cases g:k<s.size
  .cases b:eO s[k].toNat
   .go_wp2_with (go_at_call 150;refine(QR _ _).mono ?_;rintro e a ⟨rfl,rfl⟩);go_ret;exact⟨J5 (by rw[wX eO s.data.toList k (by simp_all) c b]),rfl⟩
   .go_wp2_with (go_at_call 150;refine(QR _ _).mono ?_;rintro e a ⟨rfl,rfl⟩);go_round;case rel=>exact⟨k+1,by omega,by go_num,uD eO s.data.toList k (by simp_all) c b⟩
    grind[intOf]
  .go_wp2;go_ret;exact⟨J5 (by grind[mI,eO,bl]),rfl⟩
def Gp(s)(w:E)(d:s.size<=maxLen):Calls prog 101 #[.string s,.func (.func 152) #[] #[]] w λe a=>e=.returned (U (sp gB s.data.toList))/\a=w:=by
 unfold maxLen at d;go_in;go_wp2;go_loop [5] (λi=>∃k:Nat,k<=s.size/\i=U k/\k<=sp gB s.data.toList) (λi=>s.size-(intOf i).toNat);case atStart=>grind
 case round=>
  obtain⟨k,f,rfl,c⟩:=hrel;by_cases g:k<s.size
  .cases b:gB s[k].toNat
   .go_wp2_with (go_at_call 152;refine(XM _ _).mono ?_;rintro e a ⟨rfl,rfl⟩);go_ret;exact⟨J5 (by rw[wX gB s.data.toList k (by simp_all) c b]),rfl⟩
   .go_wp2_with (go_at_call 152;refine(XM _ _).mono ?_;rintro e a ⟨rfl,rfl⟩);go_round;case rel=>exact⟨k+1,by omega,by go_num,uD gB s.data.toList k (by simp_all) c b⟩
    grind[intOf]
  .go_wp2;go_ret;exact⟨J5 (by grind[mI,gB,bl]),rfl⟩
def Gv(s)(w:E)(d:s.size<=maxLen):Calls prog 101 #[.string s,.func (.func 154) #[] #[]] w λe a=>e=.returned (U (sp gH s.data.toList))/\a=w:=by
 unfold maxLen at d;go_in;go_wp2;go_loop [5] (λi=>∃k:Nat,k<=s.size/\i=U k/\k<=sp gH s.data.toList) (λi=>s.size-(intOf i).toNat);case atStart=>grind
 case round=>
  obtain⟨k,f,rfl,c⟩:=hrel;by_cases g:k<s.size
  .cases b:gH s[k].toNat
   .go_wp2_with (go_at_call 154;refine(YS _ _).mono ?_;rintro e a ⟨rfl,rfl⟩);go_ret;exact⟨J5 (by rw[wX gH s.data.toList k (by simp_all) c b]),rfl⟩
   .go_wp2_with (go_at_call 154;refine(YS _ _).mono ?_;rintro e a ⟨rfl,rfl⟩);go_round;case rel=>exact⟨k+1,by omega,by go_num,uD gH s.data.toList k (by simp_all) c b⟩
    grind[intOf]
  .go_wp2;go_ret;exact⟨J5 (by grind[mI,gH,bl]),rfl⟩
structure I(S:Nat->Prop)(w w':E):Prop where
 os:w'.os=w.os
 tape:w'.tape=w.tape
 output:w'.output=w.output
 size:w.heap.size<=w'.heap.size
 block:∀k,k<w.heap.size->¬S k->w'.heap[k]?=w.heap[k]?
theorem I.refl(S)(w):I S w w:=⟨rfl,rfl,rfl,vQ _,λ_ _ _=>rfl⟩
theorem I.trans{S e}{a b c}(h:I S a b)(k:I e b c)(g:∀i,i<a.heap.size->e i->S i):I S a c:=
 ⟨k.os.trans h.os,k.tape.trans h.tape,k.output.trans h.output,kQ h.size k.size,
  λi d f=>(k.block i (yQ d h.size) (λx=>f (g i d x))).trans (h.block i d f)⟩
def I.mono{S S'}{a b}(h:I S a b)(e:∀i,i<a.heap.size->S i->S' i):I S' a b:=
 ⟨h.os,h.tape,h.output,h.size,λi c d=>h.block i c (λx=>d (e i c x))⟩
theorem I.alloc(S)(w)(o):I S w (w.alloc o):=⟨rfl,rfl,rfl,by simp,λk a _=>Below.heap_alloc _ _ _ a⟩
theorem I.set(w)(a)(v):I (λk=>k=a.block) w (w.setCell a v):=
 ⟨rfl,rfl,rfl,by simp,λk _ b=>Below.heap_setCell _ _ _ _ b⟩
def I.drewN(S)(w)(n):I S w (w.drewN n):=⟨rfl,rfl,rfl,vQ _,λ_ _ _=>rfl⟩
theorem I.grown{w b}{a}(h:w.grownBy b a):I (λk=>some k=a) w b:=⟨h.os,h.tape,h.output,h.size,λk c d=>h.block k c d⟩
def I.below{B}{w a:E}(h:Below B w a):I (λk=>B<=k) w a:=⟨h.os,h.tape,h.output,h.size,λk _ b=>h.block k (by omega)⟩
def I.ek{S}{B}{w a}(h:I S w a)(d:∀i,i<w.heap.size->S i->B<=i)(b:B<=w.heap.size):Below B w a:=
 ⟨h.os,h.tape,h.output,h.size,λk c=>h.block k (by omega) (λx=>by grind)⟩
theorem A3{S}{w c}{a}{e}{b}{v}{n}{d}(h:w.ownsRow a e b v n d)(f:I S w c)
 (i:∀g,v.ownBlock=some g->¬S g):c.ownsRow a e b v n d:=by
 refine⟨h.1,?_⟩;obtain j|⟨g,cap,cur,rfl,hb,hg,r⟩:=h.2
 .grind
 .exact .inr ⟨g,cap,cur,rfl,hb,by rw[f.block g (Array.getElem?_eq_some_iff.1 hg).1 (i g rfl)];omega,r⟩
theorem A9{w:E}{a}{e}{c}{v}{n}{d}(h:w.ownsRow a e c v n d):∀g,v.ownBlock=some g->a<=g/\∃b,w.heap[g]?=some (.cells b e (0,0)):=by
 intro g k;obtain⟨rfl,_⟩|⟨i,f,b,rfl,j,l,_⟩:=h.2<;>grind[Value.ownBlock,zQ]
def C8{w:E}{a b}{e}{d}{v}{n}{f}(h:w.ownsRow a e d v n f)(j:b<=a):w.ownsRow b e d v n f:=by
 obtain⟨i,c⟩:=h;refine⟨i,?_⟩;obtain c|⟨g,cap,cur,hv,hg,r⟩:=c
 .grind
 .exact .inr ⟨g,cap,cur,hv,kQ j hg,r⟩
theorem B8{w:E}{b}{e}{d}{v}{n}{f}(h:w.ownsRow b e d v n f):∃a c,v=.slice a n c:=by
 obtain⟨rfl,rfl⟩|⟨g,i,j,k,_⟩:=h.2<;>grind
def SP{w:E}{c}{e}{a}{v}{n}{b}(h:w.ownsRow c e a v n b):b.length=n*a:=h.1
theorem D4{w:E}{b}{e}{r}{a}{c n}{i}(h:w.ownsRow b e r (.slice a n c) n i)(x:0<n):
 ∃g,a=some ⟨g,0,none⟩/\b<=g/\g<w.heap.size/\n<=c/\c<=maxLen/\∀j u,i[j]?=some u->w.cell? ⟨g,j,none⟩=some u:=by
 have l:=λg d=>h.cells (g:=g) d;have o:=h.lt;obtain⟨_,v⟩|⟨g,s,t,f,k,d,q,p,_⟩:=h.2
 .omega
 .simp at f;obtain⟨rfl,_,rfl⟩:=f;refine⟨g,rfl,k,(o g rfl).2,q,p,λj u m=>?_⟩;have:=l g rfl j u m;grind[Addr.add]
/-!### Rows of structs -/
def dS{c:Type}(R:c->List Value->Prop):List c->List Value->Prop
 |[],b=>b=[]
 |a::l,b=>∃h t,b=h++t/\R a h/\dS R l t
theorem dS.snoc{f}{R}:∀{l} {c} {a:f} {h},dS R l c->R a h->dS R (l++[a]) (c++h)
 |[],c,a,h,e,d=>by
  have:=e;subst this;exact⟨h,[],by simp,d,rfl⟩
 |b::l,c,a,h,e,d=>by
  obtain⟨g,t,rfl,i,j⟩:=e;exact⟨g,t++h,by simp,i,dS.snoc j d⟩
def dS.imp{f}{R c}(d:∀a h,R a h->c a h):∀{l:List f} {e},dS R l e->dS c l e
 |[],_,b=>b
 |_::_,_,b=>by
  obtain⟨g,t,j,i,k⟩:=b;exact⟨g,t,j,d _ _ i,dS.imp d k⟩
def dS.take{f}{R}{z}(e:∀a h,R a h->h.length=z):∀{l:List f} {b} (k),dS R l b->dS R (l.take k) (b.take (k*z))
 |[],b,k,c=>by
  grind[dS]
 |a::l,b,0,c=>by simp[dS]
 |a::l,b,k+1,c=>by
  obtain⟨g,t,rfl,d,i⟩:=c;refine⟨g,t.take (k*z),?_,d,dS.take e k i⟩;have:=e _ _ d;rw[List.take_append,List.take_of_length_le (by rw[this];simp[Nat.add_mul]),this];congr 2;simp[Nat.add_mul]
theorem dS.at{f}{R}{z}(m:∀a h,R a h->h.length=z):∀{l:List f} {b} (k) (d),dS R l b->∃h,R l[k] h/\∀j,j<z->b[k*z+j]?=h[j]?
 |[],_,k,d,_=>by grind
 |a::l,b,0,_,c=>by
  obtain⟨g,t,rfl,i,e⟩:=c;grind
 |a::l,b,k+1,d,c=>by
  obtain⟨g,t,rfl,i,e⟩:=c;obtain⟨h,o,n⟩:=dS.at m k (by grind) e;grind
def J8(f:Y×Int):List Value:=[.string ⟨f.1.toArray⟩,.int .i64 f.2]
def G0(l:List (Y×Int)):List Value:=l.flatMap J8
def C7(l:bZ):List Value:=l.map (.int .i64)
def uG(t:Tk):List Value:=[.int .i64 t.x,.string ⟨t.text.toArray⟩,.int .i64 t.at']
def rows(L:List Tk):List Value:=L.flatMap uG
theorem Ux(L)(t):rows (L++[t])=rows L++uG t:=by simp[rows]
theorem GW(L)(t):G0 (L++[t])=G0 L++J8 t:=by simp[G0]
theorem Q9(L)(t):C7 (L++[t])=C7 L++[.int .i64 t]:=by simp[C7]
def dM(w:E)(c:Nat->Prop)(t:Ty)(d:List Value):Prop:=
 ∃a b,d=[.int .i64 t.x,a,b,.int .i64 t.ew]/\w.ownsRow 0 137 2 a t.ej.length (G0 t.ej)/\w.ownsRow 0 3 1 b t.M.length (C7 t.M)/\
  (∀g,a.ownBlock=some g->c g)/\(∀g,b.ownBlock=some g->c g)
def fH(w:E)(b:Nat->Prop)(n:C)(c:List Value):Prop:=
 ∃a,c=[.int .i64 n.x,.int .i64 n.a,.int .i64 n.b,.int .i64 n.c,a,.string ⟨n.text.toArray⟩,.int .i64 n.n,.int .i64 n.ty,.int .i64 n.at']/\w.ownsRow 0 3 1 a n.M.length (C7 n.M)/\
  (∀g,a.ownBlock=some g->b g)
theorem dM.len{w}{b}{t}{a}(h:dM w b t a):a.length=4:=by obtain⟨_,_,rfl,_⟩:=h;rfl
theorem fH.len{w}{b}{t}{a}(h:fH w b t a):a.length=9:=by obtain⟨_,rfl,_⟩:=h;rfl
def tag(w:E)(k:Nat):Prop:=∃a e b,w.heap[k]?=some (.cells a e b)/\(e=103\/e=85\/e=81)
def Kept(B:Nat)(a:Nat->Prop)(w b:E):Prop:=I (λk=>B<=k/\tag w k/\a k) w b
theorem Kept.refl(B)(a)(w):Kept B a w w:=I.refl _ _
def Kept.mono{B}{a ok'}{w b}(h:Kept B a w b)(c:∀g,a g->ok' g):Kept B ok' w b:=I.mono h λ_ _ x=>⟨x.1,x.2.1,c _ x.2.2⟩
theorem Kept.trans{B}{d}{a b c}(h:Kept B d a b)(k:Kept B d b c):Kept B d a c:=by
 refine⟨k.os.trans h.os,k.tape.trans h.tape,k.output.trans h.output,kQ h.size k.size,λi f g=>?_⟩;have m:=h.block i f g;refine(k.block i (yQ f h.size) (λx=>g ⟨x.1,?_,x.2.2⟩)).trans m;obtain⟨j,e,l,n,r⟩:=x.2.1;exact⟨j,e,l,by grind,r⟩
def Kept.trans'{B}{d}{S}{a b c}(h:Kept B d a b)(k:I S b c)(f:∀i,i<a.heap.size->¬S i):Kept B d a c:=I.trans h k λi e x=>(f i e x).elim
theorem Kept.alloc{B}{c}{a b}(h:Kept B c a b)(o):Kept B c a (b.alloc o):=h.trans (I.alloc _ _ _)
def Kept.below{B}{c}{w a}(h:Kept B c w a)(b:B<=w.heap.size):Below B w a:=I.ek h (λ_ _ x=>x.1) b
def F8{B}{k}{w c}{a}{e}{b}{v}{n}{d}(h:w.ownsRow a e b v n d)(f:Kept B k w c)
 (q:e≠103/\e≠85/\e≠81):c.ownsRow a e b v n d:=by
 refine A3 h f λg i j=>?_;obtain⟨_,m,s⟩:=A9 h g i;obtain⟨l,o,p,t,r⟩:=j.2.1;grind
theorem dM.P{S}{w w'}{f ok'}(i:I S w w')(q:∀g,f g->g<w.heap.size->S g->(∃b e,w.heap[g]?=some (.cells b e (0,0))/\(e=137\/e=3))->False)(j:∀g,f g->g<w.heap.size->ok' g)(t)(k)(h:dM w f t k):dM w' ok' t k:=by
 obtain⟨l,p,rfl,c,d,m,n⟩:=h;refine⟨l,p,rfl,A3 c i λg a x=>?_,A3 d i λg a x=>?_,λg a=>j g (m g a) (c.lt g a).2,λg a=>j g (n g a) (d.lt g a).2⟩
 .obtain⟨_,b,o⟩:=A9 c g a;grind
 .obtain⟨_,b,o⟩:=A9 d g a;grind
theorem fH.P{S}{w w'}{c ok'}(j:I S w w')(n:∀g,c g->g<w.heap.size->S g->(∃d e,w.heap[g]?=some (.cells d e (0,0))/\(e=137\/e=3))->False)(k:∀g,c g->g<w.heap.size->ok' g)(t)(f)(h:fH w c t f):fH w' ok' t f:=by
 obtain⟨l,rfl,b,i⟩:=h;refine⟨l,rfl,A3 b j λg a x=>?_,λg a=>k g (i g a) (b.lt g a).2⟩;obtain⟨_,d,m⟩:=A9 b g a;grind
structure cK(L:List Tk):Prop where
 je:L.length<=1001
 last:∀i,i<L.length->((tk L i).x=6↔i+1=L.length)
structure cU(w:E)(B pb:Nat)(tv:Value)(L:List Tk)(ok:Nat->Prop)(d:Nat)(s:St):Prop where
 low:B<=pb
 at':s.i<L.length
 fq:s.N.length<=s.i+1/\s.T.length<=s.i
 ke:w.ownsRow 0 130 3 tv L.length (rows L)
 qt:ok pb/\(∀v g,w.cell? ⟨pb,3,none⟩=some v->v.ownBlock=some g->ok g)/\∀v g,w.cell? ⟨pb,4,none⟩=some v->v.ownBlock=some g->ok g
 eo:∃nv yv nx yx,w.heap[pb]?=some (.cells #[tv,.int .i64 (s.i:Int),.int .i64 (d:Int),nv,yv] 103 (0,0))/\w.ownsRow B 85 9 nv s.N.length nx/\w.ownsRow B 81 4 yv s.T.length yx/\
  dS (fH w ok) s.N nx/\dS (dM w ok) s.T yx
structure aF(w:E)(B pb:Nat)(tv:Value)(L:List Tk)(ok:Nat->Prop)(d:Nat)(s:St):Prop where
 low:B<=pb
 at':s.i<L.length
 fq:s.N.length<=s.i/\s.T.length<=s.i
 ke:w.ownsRow 0 130 3 tv L.length (rows L)
 qt:ok pb/\(∀v g,w.cell? ⟨pb,3,none⟩=some v->v.ownBlock=some g->ok g)/\∀v g,w.cell? ⟨pb,4,none⟩=some v->v.ownBlock=some g->ok g
 eo:∃nv yv nx yx,w.heap[pb]?=some (.cells #[tv,.int .i64 (s.i:Int),.int .i64 (d:Int),nv,yv] 103 (0,0))/\w.ownsRow B 85 9 nv s.N.length nx/\w.ownsRow B 81 4 yv s.T.length yx/\
  dS (fH w ok) s.N nx/\dS (dM w ok) s.T yx
def cU.ny{w}{B b}{c}{L}{a}{d}{s}(h:cU w B b c L a d s)(e:s.N.length<=s.i):aF w B b c L a d s:=⟨h.low,h.at',⟨e,h.fq.2⟩,h.ke,h.qt,h.eo⟩
theorem aF.l{w}{B b}{c}{L}{a}{d}{s}(h:aF w B b c L a d s):cU w B b c L a d s:=⟨h.low,h.at',⟨Nat.le_succ_of_le h.fq.1,h.fq.2⟩,h.ke,h.qt,h.eo⟩
theorem cU.P{S}{w w'}{B b}{r}{L}{n ok'}{d}{s}(h:cU w B b r L n d s)(f:I S w w')
 (D:∀k c e,w.heap[k]?=some (.cells c e (0,0))->S k->e≠103/\e≠85/\e≠81/\r.ownBlock≠some k/\((e=137\/e=3)->¬n k))
 (i:∀g,n g->g<w.heap.size->ok' g):cU w' B b r L ok' d s:=by
 obtain⟨M,N,P,y,o,G,H,nx,yx,l,p,q,V,W⟩:=h;have A:=(Array.getElem?_eq_some_iff.1 l).1;have F:∀g,n g->g<w.heap.size->S g->(∃c e,w.heap[g]?=some (.cells c e (0,0))/\(e=137\/e=3))->False:=by
  rintro g a _ Z ⟨c,e,m,R⟩;exact(D g c e m Z).2.2.2.2 R a
 have z:=f.block b A (λx=>(D b _ _ l x).1 rfl);have T:ok' b/\(∀v g,w'.cell? ⟨b,3,none⟩=some v->v.ownBlock=some g->ok' g)/\∀v g,w'.cell? ⟨b,4,none⟩=some v->v.ownBlock=some g->ok' g:=by
  have t:w.cell? ⟨b,3,none⟩=some G:=by rw[cell_of_row w b 3 _ _ _ l];rfl
  have u:w.cell? ⟨b,4,none⟩=some H:=by rw[cell_of_row w b 4 _ _ _ l];rfl
  refine⟨i _ o.1 A,λv g j a=>?_,λv g j a=>?_⟩
  .rw[World.cell?_of_block z,t]at j;cases j;exact i g (o.2.1 _ g t a) (p.lt g a).2
  .rw[World.cell?_of_block z,u]at j;cases j;exact i g (o.2.2 _ g u a) (q.lt g a).2
 refine⟨M,N,P,A3 y f λg a x=>?_,T,G,H,nx,yx,?_,A3 p f λg a x=>?_,A3 q f λg a x=>?_,V.imp (fH.P f F i),W.imp (dM.P f F i)⟩
 .obtain⟨_,c,m⟩:=A9 y g a;grind
 .grind
 .obtain⟨_,c,m⟩:=A9 p g a;grind
 .obtain⟨_,c,m⟩:=A9 q g a;grind
theorem cU.y{w c}{B b}{tv}{L:List Tk}{a:Nat->Prop}{d}{s}(h:cU w B b tv L a d s)(e:I (λ_=>False) w c):cU c B b tv L a d s:=
 h.P e (λ_ _ _ _ x=>x.elim) (λ_ x _=>x)
def cU.fp{w}{B c}{a}{L}{b}{d}{s}(h:cU w B c a L b d s){q o}{f}{e}{g}(v)(n:w.heap[q]?=some (.cells f e g))(r:a.ownBlock≠some q)
 (l:e≠103/\e≠85/\e≠81/\e≠137/\e≠3):cU (w.setCell ⟨q,o,none⟩ v) B c a L b d s:=by
 refine h.P (I.set w ⟨q,o,none⟩ v) (λk i j m p=>?_) (λ_ x _=>x);grind
theorem aF.P{S}{w w'}{B c}{b}{L}{a ok'}{d}{s}(h:aF w B c b L a d s)(i:I S w w')
 (l:∀k f e,w.heap[k]?=some (.cells f e (0,0))->S k->e≠103/\e≠85/\e≠81/\b.ownBlock≠some k/\((e=137\/e=3)->¬a k))
 (j:∀g,a g->g<w.heap.size->ok' g):aF w' B c b L ok' d s:=
 (h.l.P i l j).ny h.fq.1
theorem aF.y{w c}{B b}{tv}{L:List Tk}{a:Nat->Prop}{d}{s}(h:aF w B b tv L a d s)(e:I (λ_=>False) w c):aF c B b tv L a d s:=
 h.P e (λ_ _ _ _ x=>x.elim) (λ_ x _=>x)
theorem aF.alloc{w}{B b}{c}{L}{a}{d}{s}(h:aF w B b c L a d s)(o):aF (w.alloc o) B b c L a d s:=h.y (I.alloc _ _ _)
def aF.mono{w}{B b}{c}{L}{a ok'}{d}{s}(h:aF w B b c L a d s)(e:∀g,a g->g<w.heap.size->ok' g):aF w B b c L ok' d s:=
 h.P (I.refl (λ_=>False) _) (λ_ _ _ _ x=>x.elim) e
def C9{B}{ok:Nat->Prop}{w a}(h:I (λ_=>False) w a):Kept B ok w a:=h.mono λ_ _ x=>x.elim
def aF.store{w}{B a}{l}{L}{z}{d}{s}(h:aF w B a l L z d s)(o)(v)(k r:Nat)(T:k<L.length)(hf:s.i<=k)
 (hv:∀c f,(#[l,.int .i64 (s.i:Int),.int .i64 (d:Int),c,f]).setIfInBounds o v=#[l,.int .i64 k,.int .i64 r,c,f]):
 aF (w.setCell ⟨a,o,none⟩ v) B a l L z r ⟨k,s.N,s.T⟩:=by
 obtain⟨S,h2,h3,D,F,c,f,nx,yx,i,G,H,W,Z⟩:=h;have j:=I.set w ⟨a,o,none⟩ v;have y:∀{A:Nat} {e:TypeId} {N:Nat} {v:Value} {n:Nat} {P:List Value},w.ownsRow A e N v n P->e≠103->∀g,v.ownBlock=some g->¬g=a:=by
  intro A e N v n P V u g m hx;subst hx;obtain⟨_,q,b⟩:=A9 V g m;rw[i]at b;simp only[zQ,xW]at b;exact u b.2.1.symm
 have M:∀g,z g->g<w.heap.size->g=a->(∃q e,w.heap[g]?=some (.cells q e (0,0))/\(e=137\/e=3))->False:=by
  rintro g _ _ rfl ⟨q,e,b,u⟩;rw[i]at b;simp at b;obtain rfl|rfl:=u
  .grind
  .grind
 have t:(w.setCell ⟨a,o,none⟩ v).heap[a]?=some (.cells #[l,.int .i64 k,.int .i64 r,c,f] 103 (0,0)):=by rw[heap_setCell_same w a o _ _ v i,hv]
 refine⟨S,T,⟨by grind,by grind⟩,A3 D j (y D (by decide)),?_,c,f,nx,yx,t,A3 G j (y G (by decide)),A3 H j (y H (by decide)),W.imp (fH.P j M (λ_ x _=>x)),Z.imp (dM.P j M (λ_ x _=>x))⟩;have c3:w.cell? ⟨a,3,none⟩=some c:=by rw[cell_of_row w a 3 _ _ _ i];rfl
 have R:w.cell? ⟨a,4,none⟩=some f:=by rw[cell_of_row w a 4 _ _ _ i];rfl
 refine⟨F.1,λa2 g p m=>?_,λa2 g p m=>?_⟩
 .rw[cell_of_row _ a 3 _ _ _ t]at p;grind
 .rw[cell_of_row _ a 4 _ _ _ t]at p;cases p;exact F.2.2 _ g R m
def aF.next{w}{B a}{c}{L}{b}{d}{s}(h:aF w B a c L b d s)(e:s.i+1<L.length):aF (w.setCell ⟨a,1,none⟩ (.int .i64 (s.i+1))) B a c L b d s.nx:=
 h.store 1 _ (s.i+1) d e (by omega) (λ_ _=>by simp)
def aF.km{w}{B b}{e}{L}{c}{d}{s}(h:aF w B b e L c d s)(a:Nat):aF (w.setCell ⟨b,2,none⟩ (.int .i64 a)) B b e L c a s:=
 h.store 2 _ s.i a h.at' (by omega) (λ_ _=>by simp)
def aF.j5{w}{B e}{a}{L}{c}{d}{s}(h:aF w B e a L c d s){k}(f:w.heap.size<=k):a.ownBlock≠some k:=by
 intro b;have:=(h.ke.lt k b).2;omega
def aF.fp{w}{B c}{a}{L}{b}{d}{s}(h:aF w B c a L b d s){q o}{f}{e}{g}(v)(j:w.heap[q]?=some (.cells f e g))(k:a.ownBlock≠some q)
 (i:e≠103/\e≠85/\e≠81/\e≠137/\e≠3):aF (w.setCell ⟨q,o,none⟩ v) B c a L b d s:=
 (h.l.fp v j k i).ny h.fq.1
def Kept.fp{B}{c}{a b}(h:Kept B c a b){q o}(v)(e:a.heap.size<=q):Kept B c a (b.setCell ⟨q,o,none⟩ v):=
 h.trans' (I.set b ⟨q,o,none⟩ v) (λk d f=>by grind)
def aF.tagged{w}{B a}{e}{L}{b}{d}{s}(h:aF w B a e L b d s):B<=a/\tag w a/\b a:=by
 obtain⟨f,i,g,j,c,_⟩:=h.eo;exact⟨h.low,⟨_,_,_,c,.inl rfl⟩,h.qt.1⟩
def aF.jk{w}{B a}{f}{L}{b}{d}{s}(h:aF w B a f L b d s)(o)(v):Kept B b w (w.setCell ⟨a,o,none⟩ v):=
 (I.set w ⟨a,o,none⟩ v).mono λk _ c=>by have e:=c;subst e;exact h.tagged
theorem aF.cell{w}{B a}{i}{L}{q}{d}{s}(h:aF w B a i L q d s):
 ∃g c b e,i=.slice (some ⟨g,0,none⟩) L.length c/\L.length<=c/\c<=maxLen/\g<w.heap.size/\a<w.heap.size/\w.cell? ⟨a,0,none⟩=some (.slice (some ⟨g,0,none⟩) L.length c)/\w.cell? ⟨a,1,none⟩=some (.int .i64 s.i)/\w.cell? ⟨a,2,none⟩=some (.int .i64 d)/\
  w.cell? ⟨a,3,none⟩=some b/\w.cell? ⟨a,4,none⟩=some e/\(∀o,w.frozen? ⟨a,o,none⟩=false)/\∀j u,(rows L)[j]?=some u->w.cell? ⟨g,j,none⟩=some u:=by
 obtain⟨r,c,rfl⟩:=B8 h.ke;obtain⟨g,rfl,_,n,k,l,m⟩:=D4 h.ke (by have:=h.at';omega);obtain⟨b,e,v,x,f,_⟩:=h.eo;have p:=(Array.getElem?_eq_some_iff.1 f).1;have t:=λo=>cell_of_row w a o _ _ _ f;refine⟨g,c,b,e,rfl,k,l,n,p,by grind,by grind,by grind,by grind,by grind,λo=>?_,m⟩;grind[World.frozen?]
def zR:∀(L) (k) (h) (j),j<3->(rows L)[3*k+j]?=(uG L[k])[j]?
 |[],k,h,_,_=>by grind
 |t::r,0,_,j,a=>by
  grind[rows,uG]
 |t::r,k+1,h,j,a=>by
  simp only[rows,List.flatMap_cons,List.getElem_cons_succ];rw[List.getElem?_append_right (by grind[uG])];have:=zR r k (by grind) j a;rw[<-this];grind[uG,rows]
def TR{w:E}{g}{L}{k}(h:k<L.length)(a:∀j u,(rows L)[j]?=some u->w.cell? ⟨g,j,none⟩=some u):
 w.cell? ⟨g,k*3,none⟩=some (.int .i64 (tk L k).x)/\w.cell? ⟨g,k*3+1,none⟩=some (.string ⟨(tk L k).text.toArray⟩)/\w.cell? ⟨g,k*3+2,none⟩=some (.int .i64 ((tk L k).at')):=by
 have e:tk L k=L[k]:=by simp[tk,List.getD,h]
 rw[Nat.mul_comm k 3,e];exact⟨a _ _ (zR L k h 0 (by omega)),a _ _ (zR L k h 1 (by omega)),a _ _ (zR L k h 2 (by omega))⟩
def iC(t:Tk):Value:=.agg #[.int .i64 t.x,.string ⟨t.text.toArray⟩,.int .i64 t.at']
theorem O{p}(h:p):Hid p:=h
def gu(a p:Int):Ending:=.panicked [{v:=.iface 115 (.agg #[.int .i64 a,.int .i64 p]),recovered:=false}]
def W5(a b c)(w:E):(Instr.field 130 (.agg #[a,b,c]) 0).run prog w=.ok a w:=by kernel_rfl
def tJ(a b c)(w:E):(Instr.field 130 (.agg #[a,b,c]) 1).run prog w=.ok b w:=by kernel_rfl
def RE(a b c)(w:E):(Instr.field 130 (.agg #[a,b,c]) 2).run prog w=.ok c w:=by kernel_rfl
section
variable{w:E}{B a:Nat}{tv:Value}{L:List Tk}{b:Nat->Prop}{d:Nat}{s:St}
def T8(k:cK L)(h:aF w B a tv L b d s):
 Calls prog 109 #[.pointer (some ⟨a,0,none⟩)] w λe r=>e=.returned (iC (tk L s.i))/\I (λ_=>False) w r:=by
 obtain⟨g,c,M,N,rfl,D,l,F,G,y,z,_,_,_,A,f⟩:=h.cell;have m:=h.at';have H:=k.je;obtain⟨t,u,v⟩:=TR m f;clear h f;generalize tk L s.i=p at*;obtain⟨n,q,o⟩:=p;simp only[iC]at t u v⊢;generalize (⟨q.toArray⟩:ByteArray)=j at*;generalize s.i=i at*;unfold maxLen at l;go_in;go_wp2;go_region;go_wp2;exact bodyPost_ret (v:=.agg #[.int .i64 n,.string j,.int .i64 o]) (by simp[results,results109,go_sem]) rfl ⟨rfl,(I.alloc _ _ _).trans (I.drewN _ _ 1) (λ_ _ x=>x)⟩
def tY(c:cK L)(h:aF w B a tv L b d s):
 Calls prog 110 #[.pointer (some ⟨a,0,none⟩)] w λe i=>e=.returned (.int .i64 ((tk L s.i).at':Int))/\I (λ_=>False) w i:=by
 have H:=T8 c h;have j:=W5;have k:=RE;generalize tk L s.i=g at*;obtain⟨l,n,m⟩:=g;simp only[iC]at H⊢;clear h c;go_in;go_wp2_with fail;refine H.mono ?_;clear H;rintro e o ⟨rfl,f⟩;go_wp2;go_ret;exact⟨rfl,f⟩
def Oq(c:cK L)(h:aF w B a tv L b d s):
 Calls prog 66 #[.pointer (some ⟨a,0,none⟩)] w λe i=>e=.returned (.bool (decide ((tk L s.i).x=6)))/\I (λ_=>False) w i:=by
 have H:=T8 c h;have j:=W5;have k:=RE;generalize tk L s.i=g at*;obtain⟨l,n,m⟩:=g;simp only[iC]at H⊢;clear h c;go_in;go_wp2_with fail;refine H.mono ?_;clear H;rintro e o ⟨rfl,f⟩;go_wp2;go_ret;exact⟨E7 (by rfl),f⟩
def Y0(w:E)(c p):Calls prog 48 #[.int .i64 c,.int .i64 p] w λe f=>e=gu c p/\I (λ_=>False) w f:=by
 go_in;go_wp2;exact⟨rfl,rfl,I.refl _ _⟩
def Y9(f:cK L)(h:aF w B a tv L b d s)(c):
 Calls prog 67 #[.pointer (some ⟨a,0,none⟩),.int .i64 c] w λe j=>e=gu c ((tk L s.i).at':Int)/\I (λ_=>False) w j:=by
 go_in;go_wp2_with fail;refine(tY f h).mono ?_;rintro e k ⟨rfl,g⟩;go_wp2_with fail;refine(Y0 _ _ _).mono ?_;rintro e l ⟨rfl,i⟩;exact⟨rfl,rfl,g.trans i (λ_ _ x=>x)⟩
def Hl{S}{w wr:E}{c}{t}(h:I S (w.alloc (.cells c t)) wr)(f:¬S w.heap.size):
 (∀o v,c[o]?=some v->wr.cell? ⟨w.heap.size,o,none⟩=some v)/\(∀o,wr.frozen? ⟨w.heap.size,o,none⟩=false)/\w.heap.size<wr.heap.size:=by
 have e:=h.block w.heap.size (by simp) f;refine⟨λo v g=>?_,λo=>?_,?_⟩
 .rw[World.cell?_of_block (a:=⟨w.heap.size,o,none⟩) e,World.cell?_alloc_new,g]
 .rw[World.frozen?_of_block (a:=⟨w.heap.size,o,none⟩) e];simp
 .have:=h.size;simp at this;omega
def Strs(w:E)(c:Nat)(e:List Y):Prop:=c<w.heap.size/\∀j (h),w.cell? ⟨c,j,none⟩=some (.string ⟨e[j].toArray⟩)
theorem Strs.y{w g}{c}{f:List Y}(h:Strs w c f)(e:I (λ_=>False) w g):Strs g c f:=
 ⟨yQ h.1 e.size,λj i=>by rw[World.cell?_of_block (e.block c h.1 (λx=>x))];exact h.2 j i⟩
def Sa(w)(j c)(f)(t)(h:Strs w j f)(A:f.length<=4000):
 Calls prog 191 #[.slice (some ⟨j,0,none⟩) f.length c,.string ⟨t.toArray⟩] w λe u=>(∃k,e=.returned (.int .i64 k)/\decide (0<=k)=has f t)/\u=w:=by
 obtain⟨y,l⟩:=h;go_in;go_wp2;go_loop [8] (λi=>∃k:Nat,k<=f.length/\i=.int .i64 k/\Hid (has (f.take k) t=false)) (λi=>f.length-(intOf i).toNat);case atStart=>exact⟨0,wQ _,rfl,by rfl⟩
 case round=>
  obtain⟨k,z,rfl,o⟩:=hrel;by_cases m:k<f.length
  .have p:=l k m;have q:Hid (has (f.take (k+1)) t=(has (f.take k) t||t==f[k])):=A6d _ _ _ m;have g:Hid (∀x,x=f[k]->x∈f):=λx p=>p ▸ mQ _;generalize r:f[k]=x at*;have v:=g.u x rfl;clear l g r;by_cases n:x=t
   .subst n;go_wp2;go_ret;exact⟨⟨_,rfl,by grind[WC]⟩,rfl⟩
   .have D:(t==x)=false:=by simp[Ne.symm n]
    go_wp2;go_round;case rel=>exact⟨k+1,by omega,by go_num,by show _=_;rw[q.u,o.u];grind⟩
    grind[intOf]
  .go_wp2;go_ret;exact⟨⟨_,rfl,by have:=o.u;grind⟩,rfl⟩
def SU(w)(g c)(f)(t)(h:Strs w g f)(i:f.length<=4000):
 Calls prog 157 #[.slice (some ⟨g,0,none⟩) f.length c,.string ⟨t.toArray⟩] w λe j=>e=.returned (.bool (has f t))/\j=w:=by
 have H:=Sa w g c f t h i;generalize has f t=r at*;go_in;go_wp2_with fail;refine H.mono ?_;clear H;rintro e m ⟨⟨k,rfl,l⟩,rfl⟩;go_wp2;all_goals go_ret
 all_goals exact⟨E7 (by rfl),rfl⟩
def pM(n:cK L)(h:aF w B a tv L b d s)(k c)(f:List Y)(p:Strs w k f)(v:f.length<=4000):
 Calls prog 111 #[.pointer (some ⟨a,0,none⟩),.slice (some ⟨k,0,none⟩) f.length c] w λe z=>e=.returned (.bool (aJ L s.i f))/\I (λ_=>False) w z:=by
 have H:=T8 n h;have G:=W5;have M:=tJ;unfold aJ;generalize tk L s.i=y at*;obtain⟨j,q,N⟩:=y;simp only[iC]at H⊢;have i:=λt u=>SU t k c f q (p.y u) v;generalize has f q=r at*;clear h n p;go_in;go_wp2_with fail;refine H.mono ?_;clear H;rintro e t ⟨rfl,o⟩;have g:=O o;clear o;by_cases m:j=5
 .subst m;go_wp2_with fail;refine(i _ (g.u.trans (I.alloc (λ_=>False) _ _) (λ_ _ x=>x))).mono ?_;clear i;rintro e A ⟨rfl,rfl⟩;go_wp2;go_ret;exact⟨E7 (by simp),g.u.trans (I.alloc (λ_=>False) _ _) (λ_ _ x=>x)⟩
 .by_cases l:j=2
  .subst l;go_wp2_with fail;refine(i _ (g.u.trans (I.alloc (λ_=>False) _ _) (λ_ _ x=>x))).mono ?_;clear i;rintro e A ⟨rfl,rfl⟩;go_wp2;go_ret;exact⟨E7 (by simp),g.u.trans (I.alloc (λ_=>False) _ _) (λ_ _ x=>x)⟩
  .have F:(j==5)=false:=by simp[m]
   have D:(j==2)=false:=by simp[l]
   go_wp2_with fail;go_ret;exact⟨E7 (by grind),g.u.trans (I.alloc (λ_=>False) _ _) (λ_ _ x=>x)⟩
def cK.mark(c:cK L){i}{f}(e:i<L.length)(h:aJ L i f=true):i+1<L.length:=by
 have g:=(c.last i e).2;grind[aJ]
def Jh(w:E)(m)(t):Strs (w.alloc (.cells #[.string ⟨m.toArray⟩] t)) w.heap.size [m]:=by
 refine⟨by simp,λj c=>?_⟩;grind[World.cell?_alloc_new]
def F9(i:cK L)(h:aF w B a tv L b d s)(m):
 Calls prog 158 #[.pointer (some ⟨a,0,none⟩),.string ⟨m.toArray⟩] w λe l=>e=.returned (.bool (aJ L s.i [m]))/\Kept B b w l/\aF l B a tv L b d (if aJ L s.i [m] then s.nx else s):=by
 have H:Calls prog 111 #[.pointer (some ⟨a,0,none⟩),.slice (some ⟨w.heap.size,0,none⟩) 1 1] (w.alloc (.cells #[.string ⟨m.toArray⟩] 9)) _:=pM i (h.alloc _) w.heap.size 1 [m] (Jh w m _) (by simp);have n:=O (λo:aJ L s.i [m]=true=>i.mark h.at' o);have t:=h.at';have v:=i.je;generalize aJ L s.i [m]=r at*;go_in;go_wp2_with fail;refine H.mono ?_;clear H;rintro e y ⟨rfl,j⟩;have f:=O ((h.alloc _).y j);have k:=O (((Kept.refl B b w).alloc _).trans (C9 j));clear j h;cases r
 .go_wp2;go_ret;exact⟨rfl,k.u,f.u⟩
 .obtain⟨g,c,x,z,-,-,-,-,u,-,p,-,-,-,q,-⟩:=f.u.cell;go_wp2;go_ret;exact⟨rfl,k.u.trans (f.u.jk _ _),f.u.next (n.u trivial)⟩
def I2(c:cK L)(h:aF w B a tv L b d s)(m):
 Calls prog 194 #[.pointer (some ⟨a,0,none⟩),.string ⟨m.toArray⟩] w λe i=>Kept B b w i/\
  (aJ L s.i [m]=true/\e=.returned (.tuple #[])/\aF i B a tv L b d s.nx\/aJ L s.i [m]=false/\e=gu 1 ((tk L s.i).at')):=by
 have H:=F9 c h m;have k:=λj (o:aF j B a tv L b d s)=>Y9 c o 1;generalize aJ L s.i [m]=r at*;generalize ((tk L s.i).at':Int)=p at*;go_in;go_wp2_with fail;refine H.mono ?_;clear H h;rintro e j ⟨rfl,f,g⟩;cases r
 .have l:=O f;have n:=O g;clear f g;go_wp2_with fail;refine(k _ (by simpa using n.u)).mono ?_;rintro e t ⟨rfl,q⟩;exact⟨rfl,l.u.trans (C9 q),.inr ⟨rfl,rfl⟩⟩
 .go_wp2;go_end0;grind
def xV(l:cK L)(h:aF w B a tv L b d s)(F:(tk L s.i).x≠6):
 Calls prog 222 #[.pointer (some ⟨a,0,none⟩)] w λe r=>e=.returned (iC (tk L s.i))/\Kept B b w r/\aF r B a tv L b d s.nx:=by
 have G:s.i+1<L.length:=by
  have o:=l.last s.i h.at';have Z:=h.at';omega
 have H:=λt (o:aF t B a tv L b d s)=>T8 l o;have hs:=l.je;clear F;generalize tk L s.i=S at*;obtain⟨p,T,q⟩:=S;simp only[iC]at H⊢;generalize (⟨T.toArray⟩:ByteArray)=n at*;go_in;go_wp2_with fail;refine(H _ (h.alloc _)).mono ?_;clear H;rintro e t ⟨rfl,f⟩;have j:=O ((h.alloc _).y f);have u:=O (((Kept.refl B b w).alloc _).trans (C9 f));obtain⟨i,qf,M⟩:=Hl f (λx=>x);have N:=i 0 _ rfl;have P:=i 1 _ rfl;have R:=i 2 _ rfl;obtain⟨-,-,-,-,-,-,-,-,a4,-⟩:=h.cell;have v:=O ((f.block w.heap.size (by simp) (λx=>x)).trans (yY w _));have k:=O (h.j5 (vQ _));clear f h i;obtain⟨g,c,nv,yv,-,-,-,-,a2,-,V,-,-,-,W,-⟩:=j.u.cell;go_wp2_with fail;have m:=v.u;have a3:a≠w.heap.size:=by omega
 have y:=j.u.next G;have z:=y.fp (q:=w.heap.size) (o:=0) (.int .i64 p) (by rw[heap_setCell_other _ _ _ _ (by grind)];exact m) k.u (by decide);have A:=z.fp (q:=w.heap.size) (o:=1) (.string n) (heap_setCell_same _ _ _ _ _ _ (by rw[heap_setCell_other _ _ _ _ (by grind)];exact m)) k.u (by decide);have D:=A.fp (q:=w.heap.size) (o:=2) (.int .i64 q) (heap_setCell_same _ _ _ _ _ _ (heap_setCell_same _ _ _ _ _ _ (by rw[heap_setCell_other _ _ _ _ (by grind)];exact m))) k.u (by decide);exact bodyPost_ret (v:=.agg #[.int .i64 p,.string n,.int .i64 q]) (by simp[results,results222,go_sem,N,P,R,M]) rfl
  ⟨rfl,((((u.u.trans (j.u.jk _ _)).fp _ (vQ _)).fp _ (vQ _)).fp _ (vQ _)).alloc _,D.alloc _⟩
end
def Tryz.lf:(prog.info? 81).map (λi=>(i.zero,i.size,i.bytes))=some (some (.agg #[U 0,sN,sN,U 0]),4,64):=by kernel_rfl
section
variable{w:E}{B a:Nat}{c:Value}{L:List Tk}{b:Nat->Prop}{d:Nat}{s:St}
def JP(w:E)(f e):((w.alloc f).alloc e).drew.heap[w.heap.size+1]?=some e:=by
 have:=yY (w.alloc f) e;simp only[World.size_alloc]at this;exact this
def I4{w:E}{o}{e j}{v}(f:e<w.heap.size)(h:w.cell? (J e j)=some v):(w.alloc o).cell? (J e j)=some v:=by
 grind[World.cell?_of_block,Below.heap_alloc]
def S6{w:E}{o}{e j}(f:e<w.heap.size)(h:w.frozen? (J e j)=false):(w.alloc o).frozen? (J e j)=false:=by
 grind[World.frozen?_of_block,Below.heap_alloc]
def AG{w:E}{e}{t}{j}{v}(h:e[j]?=some v):(w.alloc (.cells e t)).cell? (J w.heap.size j)=some v:=by
 simp_all
def aF.o9{w w1 w2:E}{B a}{c}{L}{b}{d:Nat}{s:St}{m}{G H}{h}{i g cap}{t}{N a4}(W:B<=a)(a7:s.i<L.length)(a9:s.N.length<=s.i)(hf:s.T.length+1<=s.i)
 (a3:w.ownsRow 0 130 3 c L.length (rows L)) (q:w.heap[a]?=some (.cells #[c,U s.i,U d,m,.slice h s.T.length i] 103 (0,0)))
 (hn:w.ownsRow B 85 9 m s.N.length G) (y:w.ownsRow B 81 4 (.slice h s.T.length i) s.T.length H) (ac:dS (fH w b) s.N G) (ae:dS (dM w b) s.T H) (ht:dM w b t [U t.x,N,a4,U t.ew]) (D:b a/\(∀g,m.ownBlock=some g->b g)/\(∀g,Value.ownBlock (.slice h s.T.length i)=some g->b g)) (ak:b g)
 (p:I No w w1) (T:w1.grownBy w2 (Value.ownBlock (.slice h s.T.length i))) (ho:w2.ownsRow B 81 4 (.slice (some (J g 0)) (s.T.length+1) cap) (s.T.length+1) (H++[U t.x,N,a4,U t.ew])):
 Kept B b w (w2.setCell (J a 4) (.slice (some (J g 0)) (s.T.length+1) cap))/\aF (w2.setCell (J a 4) (.slice (some (J g 0)) (s.T.length+1) cap)) B a c L b d ⟨s.i,s.N,s.T++[t]⟩:=by
 have Z:=(aI q);have R:=p.block a Z (λx=>x);have ag:=A3 y p (λ_ _ x=>x);have ab:some a≠Value.ownBlock (.slice h s.T.length i):=by
  intro f;obtain⟨_,o,n⟩:=A9 ag a f.symm;rw[R,q]at n;simp only[zQ,xW]at n;exact absurd n.2.1 (by decide)
 have S:w2.heap[a]?=some (.cells #[c,U s.i,U d,m,.slice h s.T.length i] 103 (0,0)):=by rw[T.block a (yQ Z p.size) ab,R,q]
 have a8:=(p.mono λ_ _ x=>x.elim).trans (I.grown T) (λ_ _ x=>x);have l:I (λk=>some k=Value.ownBlock (.slice h s.T.length i)\/k=a) w (w2.setCell (J a 4) (.slice (some (J g 0)) (s.T.length+1) cap)):=(a8.mono λ_ _ x=>.inl x).trans (I.set _ _ _) (λ_ _ x=>.inr x);have a2:∀{M:Nat} {e:TypeId} {a6:Nat} {v:Value} {a5:Nat} {xs:List Value},w.ownsRow M e a6 v a5 xs->e≠103->e≠81->∀k,v.ownBlock=some k->¬(some k=Value.ownBlock (.slice h s.T.length i)\/k=a):=by
  intro M e a6 v a5 xs hw he ai k r f;obtain⟨_,o,n⟩:=A9 hw k r;obtain f|rfl:=f
  .obtain⟨_,z,j⟩:=A9 y k f.symm;grind
  .grind
 have F:∀k,b k->k<w.heap.size->(some k=Value.ownBlock (.slice h s.T.length i)\/k=a)->(∃o e,w.heap[k]?=some (.cells o e (0,0))/\(e=137\/e=3))->False:=by
  rintro k _ _ f ⟨o,e,n,he⟩;obtain f|rfl:=f
  .obtain⟨_,z,j⟩:=A9 y k f.symm;grind
  .grind
 have A:(w2.setCell (J a 4) (.slice (some (J g 0)) (s.T.length+1) cap)).heap[a]?=some (.cells #[c,U s.i,U d,m,.slice (some (J g 0)) (s.T.length+1) cap] 103 (0,0)):=by rw[heap_setCell_same w2 a 4 _ _ _ S];rfl
 refine⟨l.mono λk r f=>?_,W,a7,⟨a9,by grind⟩,A3 a3 l (a2 a3 (by decide) (by decide)),⟨D.1,λah P u V=>?_,λah P u V=>?_⟩,m,_,G,_,A,A3 hn l (a2 hn (by decide) (by decide)),?_,ac.imp (fH.P l F (λ_ x _=>x)),(ae.imp (dM.P l F (λ_ x _=>x))).snoc (dM.P l F (λ_ x _=>x) _ _ ht)⟩
 .obtain f|rfl:=f
  .obtain⟨aa,z,j⟩:=A9 y k f.symm;exact⟨aa,⟨_,_,_,j,.inr (.inr rfl)⟩,D.2.2 _ f.symm⟩
  .exact⟨W,⟨_,_,_,q,.inl rfl⟩,D.1⟩
 .rw[cell_of_row _ a 3 _ _ _ A]at u;grind
 .rw[cell_of_row _ a 4 _ _ _ A]at u;cases u;have aj:some g=some P:=V;grind
 .have:=A3 ho (I.set w2 (J a 4) (.slice (some (J g 0)) (s.T.length+1) cap)) (λk r f=>by
   have af:=f;subst af;obtain⟨_,z,j⟩:=A9 ho k r;rw[S]at j;simp only[zQ,xW]at j;exact absurd j.2.1 (by decide));simpa using this
def Z6(Z:cK L)(h:aF w B a c L b d s)(t)(p z)(r q D A)(ht:dM w b t [U t.x,.slice p r q,.slice z D A,U t.ew])(hf:s.T.length+1<=s.i)(hB:B<=w.heap.size)(aj:∀ g,w.heap.size<=g->b g):
 Calls prog 255 #[pV a,.agg #[U t.x,.slice p r q,.slice z D A,U t.ew]] w λe T=>e=.returned (U s.T.length)/\Kept B b w T/\aF T B a c L b d ⟨s.i,s.N,s.T++[t]⟩:=by
 obtain⟨a5,a2,a4,a9,v,nv,yv,nx,yx,j,hn,k,a7,a8⟩:=h;obtain⟨f,i,rfl⟩:=B8 k;have hs:=Z.je;have P:=(aI j);have M:w.cell? (J a 4)=some (.slice f s.T.length i):=cr j rfl;have W:=λae=>frozen_of_row w a ae _ _ j;have a6:b a/\(∀g,nv.ownBlock=some g->b g)/\(∀g,Value.ownBlock (.slice f s.T.length i)=some g->b g):=⟨v.1,λg l=>v.2.1 _ g (cr j rfl) l,λg l=>v.2.2 _ g M l⟩;have F:=O (λn af g o=>aF.o9 (w1:=n) (w2:=af) (g:=g) (cap:=o) a5 a2 a4.1 hf a9 j hn k a7 a8 ht a6);have V:=O (λg (l:Value.ownBlock (.slice f s.T.length i)=some g\/g=w.heap.size+2)=>show b g from by grind);have R:Value.ownBlock (.slice f s.T.length i)≠some a:=by
  intro y;obtain⟨_,ag,u⟩:=A9 k a y;rw[j]at u;simp only[zQ,xW]at u;exact absurd u.2.1 (by decide)
 have ai:Value.ownBlock (.slice f s.T.length i)≠some w.heap.size:=by
  intro y;have:=(k.lt _ y).2;omega
 have H:=O k;obtain⟨i0,hi,aa,ab,ac⟩:=info_parts Tryz.lf;go_in;go_wp2
 go_region_law ((refine step_append_lies _ (by rfl) _ _ _ (by rfl) B 81 i0 _ 4 64 underlying50 hi aa ab ac rfl (by omega) (.slice f s.T.length i) s.T.length yx (by rfl) (((H.u.alloc _).alloc _).drew) (J (w.heap.size+1) 0) 1 1 [U t.x,.slice p r q,.slice z D A,U t.ew] (by rfl) (by rfl) (World.news_of_block (JP w _ _)) (by simp [Value.oneCell']) (by omega) (by grind[maxLen]) (by omega) (by simp;omega) (w.heap.size+2) (by simp) ?_;intro N o n S m a3 ah;have z4:n.cell? (J a 4)=some (.slice f s.T.length i):=by rw[m.cell_far _ (by simp;omega) (Ne.symm R)];exact I4 (by simp;omega) (I4 P M)
                 have y4:n.frozen? (J a 4)=false:=by rw[m.frozen_far _ (by simp;omega) (Ne.symm R)];exact S6 (by simp;omega) (S6 P (W 4))));all_goals
  have G:=O (F.u _ _ N o (V.u N a3) (((I.alloc No w _).trans (I.alloc No _ _) (λ_ _ x=>x)).trans (I.drewN No _ 1) (λ_ _ x=>x)) m S);clear m S F H;go_wp2;go_ret;exact⟨J5 (by omega),G.u.1,G.u.2⟩
end
def D9(s a:St):Prop:=s.i<a.i/\a.N.length+s.i<=s.N.length+a.i/\a.T.length+s.i<=s.T.length+a.i/\s.N.length<=a.N.length
def xY(w:E)(B g:Nat)(h:Value)(L:List Tk)(b:Nat->Prop)(d:Nat)(s:St)(i:Sp->Option (Out Int))(e:Ending)(f:E):Prop:=
 Kept B b w f/\∃o,Ev L i o/\match o with
  |.ok c x=>e=.returned (U x)/\aF f B g h L b d c/\D9 s c
  |.fail a p=>e=gu a p/\a≠0
def jK(B b:Nat)(c:Value)(L:List Tk)(e:Nat)(f:Nat->St->Sp->Option (Out Int))(m:Nat):Prop:=
 ∀(w) (a) (d) (s),L.length-s.i<=m->(∀g,w.heap.size<=g->a g)->B<=w.heap.size->aF w B b c L a d s->
  Calls prog e #[pV b] w (xY w B b c L a d s (f d s))
section
variable{w:E}{B b:Nat}{c:Value}{L:List Tk}{a:Nat->Prop}{d:Nat}{s:St}
def GJ(j:cK L)(h:aF w B b c L a d s):
 Calls prog 192 #[pV b] w λe q=>Kept B a w q/\
  ((tk L s.i).x=1/\e=.returned (.string ⟨(tk L s.i).text.toArray⟩)/\aF q B b c L a d s.nx\/(tk L s.i).x≠1/\e=gu 1 ((tk L s.i).at')):=by
 have H:=T8 j h;have l:=λf (i:aF f B b c L a d s)=>Y9 j i 1;have o:=λf (i:aF f B b c L a d s)=>xV j i;have u:=O (λf (g:I No w f)=>h.y g);have F:=W5;have G:=tJ;generalize tk L s.i=y at*;obtain⟨p,z,N⟩:=y;simp only[iC]at H o l⊢;generalize (⟨z.toArray⟩:ByteArray)=D at*;go_in;go_wp2_with fail;refine H.mono ?_;rintro e f ⟨rfl,g⟩;have n:=O (u.u f g);have m:=O (C9 (B:=B) (ok:=a) g);by_cases k:p=1
 .subst k;go_wp2_with fail;refine(o _ n.u (by decide)).mono ?_;rintro e A ⟨rfl,v,x⟩;have r:=O (m.u.trans v);have t:=O x;go_wp2;go_ret;exact⟨r.u,rfl,t.u⟩
 .have M:(p==1)=false:=by simp[k]
  go_wp2_with fail;refine(l _ n.u).mono ?_;rintro e A ⟨rfl,g⟩;exact⟨rfl,m.u.trans (C9 g),.inr ⟨k,rfl⟩⟩
def yu(w:E)(t):
 Calls prog 276 #[.string ⟨t.toArray⟩] w λe f=>e=.returned (U (G9 t))/\f=w:=by
 go_in;go_wp2;all_goals go_ret
 all_goals exact⟨J5 (by simp_all [G9]),rfl⟩
def BC{g}{L}{f:Sp->Option (Out g)}{i}{e}(h:∀r,f r=bC L i e):Ev L f (.fail e ((tk L i).at')):=Ev.pure.eq h
def Kg(A:cK L)(m)(j)(D:jK B b c L 240 j m)(f)(P:L.length-s.i<=m)(a5:∀g,w.heap.size<=g->a g)(hB:B<=w.heap.size)(h:aF w B b c L a d s):
 Calls prog 113 #[pV b,.bool f,.func (.func 240) #[pV b] #[]] w (xY w B b c L a d s (λr=>aQ L f d s (λd s=>j d s r))):=by
 obtain⟨g,R,nv,yv,-,-,-,-,a3,-,T,V,-,-,Z,-⟩:=h.cell;have l:=λu=>Y9 A h u;have q:=O h;cases f
 .go_in;go_wp2_with fail;refine(l 1).mono ?_;rintro e y ⟨rfl,i⟩;exact⟨rfl,C9 i,_,BC (λr=>by rfl),rfl,by decide⟩
 .by_cases hd:20<=d
  .have F:20<=d:=by omega
   go_in;go_wp2_with fail;refine(l 8).mono ?_;rintro e y ⟨rfl,i⟩;exact⟨rfl,C9 i,_,BC (λr=>by grind[aQ]),rfl,by decide⟩
  .have F:¬20<=d:=by omega
   go_in;go_wp2_with fail;refine(D _ a (d+1) s P (by simp_all) (by simp_all) (by simpa using q.u.km (d+1))).mono ?_;rintro e y ⟨N,o,H,x⟩;have n:=O ((q.u.jk 2 _).trans N);have k:=O (H.eq (ψ:=λr=>aQ L true d s (λd s=>j d s r)) (λr=>by grind[aQ]));cases o with
   |fail u p=>
    obtain⟨rfl,G⟩:=x;exact⟨rfl,n.u,_,k.u,rfl,G⟩
   |ok s' a7=>
    obtain⟨rfl,v,M⟩:=x;have t:=O v;have z:=O M;obtain⟨g',S,a6,a8,-,-,-,-,a4,-,-,W,-,-,a2,-⟩:=v.cell;go_wp2;go_ret;exact⟨n.u.trans (t.u.jk _ _),_,k.u,rfl,t.u.km d,z.u⟩
def mT(e:List Y):Array Value:=(e.map λm=>Value.string ⟨m.toArray⟩).toArray
theorem X8(w:E)(e)(t):Strs (w.alloc (.cells (mT e) t)) w.heap.size e:=by
 refine⟨by simp,λj f=>?_⟩;grind[World.cell?_alloc_new,mT]
theorem Xu(t:cK L)(m)(G:jK B b c L 240 (λd s r=>r.union d s) m):jK B b c L 223 (λd s r=>r.typ d s) m:=by
 intro w a d s R T F h;have z:=λk i f=>Kg (w:=k) t m _ G f R (λg j=>T g (kQ i.size j)) (kQ F i.size) (h.y i);have D:=pM t (h.alloc (.cells (mT yS) 9)) w.heap.size 9 yS (X8 _ _ _) (by decide);have v:=O (λf (H:f=aJ L s.i yS) o (S:Ev L (λr=>aQ L f d s (λd s=>r.union d s)) o)=>(Ev.step (φ:=λr=>r.typ d s) (S.eq (λr=>by rw[H];rfl))));generalize aJ L s.i yS=f at*;go_in;go_wp2_with fail;refine D.mono ?_;rintro e k ⟨rfl,i⟩;have l:=O ((I.alloc No w _).trans i (λ_ _ x=>x));go_wp2_with fail;refine(z k l.u f).mono ?_;rintro e a2 ⟨P,o,N,u⟩;have n:=O ((C9 l.u).trans P);have q:=O (v.u f rfl o N);cases o with
 |fail W p=>
  obtain⟨rfl,M⟩:=u;exact⟨rfl,n.u,_,q.u,rfl,M⟩
 |ok Z x=>
  obtain⟨rfl,V,j⟩:=u;have A:=O V;have y:=O j;go_wp2;go_ret;exact⟨n.u,_,q.u,rfl,A.u,y.u⟩
def I6{g}{f}{e p}(j:Kept B a w f)(i:Ev L g (.fail e p))(h:e≠0):xY w B b c L a d s g (gu e p) f:=⟨j,_,i,rfl,h⟩
def Y4{g}{f}{e}{x}(j:Kept B a w f)(h:Ev L g (.ok e x))(k:aF f B b c L a d e)(i:D9 s e):xY w B b c L a d s g (.returned (U x)) f:=⟨j,_,h,rfl,k,i⟩
def YW(w)(a)(k o):dM w a ⟨k,[],[],o⟩ [U k,sN,sN,U o]:=
 ⟨_,_,rfl,kW _ _ _ _,kW _ _ _ _,by simp[Value.ownBlock],by simp[Value.ownBlock]⟩
def wU(L:List Tk)(s:St):Option (Out Int):=if (tk L s.i).x=2/\G9 (tk L s.i).text≠0 then bK s.nx ⟨G9 (tk L s.i).text,[],[],0⟩ else bC L s.i 1
def za(l:cK L)(T:B<=w.heap.size)(a2:∀g,w.heap.size<=g->a g)(h:aF w B b c L a d s):
 Calls prog 269 #[pV b] w (xY w B b c L a d s (λ_=>wU L s)):=by
 have H:=λi (j:aF i B b c L a d s)=>T8 l j;have p:=λi (j:aF i B b c L a d s)=>Y9 l j 1;have G:=λi (j:aF i B b c L a d s.nx) t k=>Z6 l j ⟨k,[],[],0⟩ none none 0 0 0 0 (YW i a k 0) (by show s.T.length+1<=s.i+1;have:=h.fq;omega) (kQ T t) (λg V=>a2 g (kQ t V));have a9:=W5;have aa:=tJ;have t:=l.je;have W:=h.at';have y:=O (λ(r:(tk L s.i).x=2)=>show s.i+1<L.length by
  have j:=l.last s.i W;omega);have n:=O (show wU L s=if (tk L s.i).x=2/\G9 (tk L s.i).text≠0 then bK s.nx ⟨G9 (tk L s.i).text,[],[],0⟩ else some (.fail 1 ((tk L s.i).at':Int)) from rfl);have z:=O h;generalize wU L s=a6 at*;generalize tk L s.i=a4 at*;obtain⟨D,v,pl⟩:=a4;simp only[iC]at H p y n;have S:=λi=>yu i v;generalize G9 v=u at*;generalize (⟨v.toArray⟩:ByteArray)=bx at*;go_in;go_wp2_with fail;refine(H _ z.u).mono ?_;rintro e i ⟨rfl,f⟩;have q:=O (z.u.y f);have x:=O f;by_cases r:D=2
 .subst r;go_wp2_with fail;refine(H _ q.u).mono ?_;rintro e af ⟨rfl,f⟩;have m:=O (q.u.y f);have o:=O (x.u.trans f (λ_ _ a5=>a5));go_wp2_with fail;refine(S _).mono ?_;rintro e ag ⟨rfl,rfl⟩;by_cases A:u=0
  .subst A;go_wp2_with fail;refine(p _ m.u).mono ?_;rintro e F ⟨rfl,f⟩;exact⟨rfl,I6 ((C9 o.u).trans (C9 f)) (Ev.pure.eq (λ_=>by rw[n.u];simp)) (by decide)⟩
  .have ad:(u==0)=false:=by simp[A]
   obtain⟨g',c',ae,ah,-,-,-,-,ac,-,a7,-,-,-,a8,-⟩:=m.u.cell;have P:=O (m.u.next (y.u trivial));have M:=O ((C9 o.u).trans (m.u.jk 1 (U (s.i+1))));go_wp2_with fail;refine(G _ P.u (by have:=o.u.size;simp_all) u).mono ?_;rintro e F ⟨rfl,Z,a3⟩;have N:=O (M.u.trans Z);have R:=O a3;go_wp2;go_ret;exact Y4 N.u (Ev.pure.eq (λ_=>by rw[n.u];grind[bK])) R.u (by grind[D9,St.nx])
 .have ab:(D==2)=false:=by simp[r]
  go_wp2_with fail;refine(p _ q.u).mono ?_;rintro e F ⟨rfl,f⟩;exact⟨rfl,I6 ((C9 x.u).trans (C9 f)) (Ev.pure.eq (λ_=>by rw[n.u];grind)) (by decide)⟩
theorem zJ{s e}(h:D9 s.nx e):D9 s e:=by
 obtain⟨f,g,i,j⟩:=h;simp only[St.nx]at f g i j;exact⟨by omega,by omega,by omega,by omega⟩
theorem Dc(G:cK L)(m)(ac:∀y,y<m->jK B b c L 223 (λd s r=>r.typ d s) y)
 (ab:∀y,y<m->jK B b c L 267 (λd s r=>r.jc d s []) y) (aa:∀y,y<m->jK B b c L 268 (λd s r=>r.j9 d s) y):
 jK B b c L 254 (λd s r=>r.ft d s) m:=by
 intro w a d s hm H F a6;have hi:=a6.at';have V:=G.je;have N:=λi (k:aF i B b c L a d s) mk=>F9 G k mk;have a8:=λi (k:aF i B b c L a d s) l=>za G (kQ F l) (λg f=>H g (kQ l f)) k;have HO:=λi k l=>ab (L.length-(s.i+1)) (by omega) i a d s.nx (vQ _) (λg f=>H g (kQ l f)) (kQ F l) k;have HB:=λi k l=>aa (L.length-(s.i+1)) (by omega) i a d s.nx (vQ _) (λg f=>H g (kQ l f)) (kQ F l) k;have HY:=λi k l=>ac (L.length-(s.i+1)) (by omega) i a d s.nx (vQ _) (λg f=>H g (kQ l f)) (kQ F l) k;have HN:=λi Z (k:aF i B b c L a d Z)=>I2 G k [93];have HA:=λi Z (k:aF i B b c L a d Z) V hq a7=>Z6 G k ⟨8,[],[],a7⟩ none none 0 0 0 0 (YW i a 8 a7) hq (kQ F V) (λg f=>H g (kQ V f));have D:Hid (∀o,Ev L (λr=>if aJ L s.i [[123]] then r.jc d s.nx [] else if aJ L s.i [[91]] then A8 (r.typ d s.nx) λs x=>A8 (aB L s [93]) λs _=>bK s ⟨8,[],[],x⟩
  else if aJ L s.i [[40]] then r.j9 d s.nx else wU L s) o->Ev L (λr=>r.ft d s) o):=λo ho=>Ev.step (ho.eq (λr=>rfl));have HP:=O a6;have H1:=N w HP.u [123];have H2:=λi k=>N i k [91];have H3:=λi k=>N i k [40];generalize aJ L s.i [[123]]=b1 at*;generalize aJ L s.i [[91]]=b2 at*;generalize aJ L s.i [[40]]=b3 at*;generalize wU L s=ad at*;go_in;go_wp2_with fail;refine H1.mono ?_;rintro e i ⟨rfl,j,h⟩;have P:=O j;have a3:=O h;cases b1
 .go_wp2_with fail;refine(H2 _ (by simpa using a3.u)).mono ?_;rintro e ae ⟨rfl,j,h⟩;have R:=O (P.u.trans j);have a4:=O h;cases b2
  .go_wp2_with fail;refine(H3 _ (by simpa using a4.u)).mono ?_;rintro e af ⟨rfl,j,h⟩;have M:=O (R.u.trans j);have a5:=O h;cases b3
   .go_wp2_with fail;refine(a8 _ (by simpa using a5.u) M.u.size).mono ?_;rintro e a2 ⟨j,o,v,t⟩;have q:=O (M.u.trans j);have n:=O (D.u o (v.eq (λr=>by simp)));cases o with
    |fail T p=>
     obtain⟨rfl,A⟩:=t;exact⟨rfl,I6 q.u n.u A⟩
    |ok W x=>
     obtain⟨rfl,h,f⟩:=t;have u:=O h;have z:=O f;clear h f;go_wp2;go_ret;exact Y4 q.u n.u u.u z.u
   .go_wp2_with fail;refine(HB _ (by simpa using a5.u) M.u.size).mono ?_;rintro e a2 ⟨j,o,v,t⟩;have q:=O (M.u.trans j);have n:=O (D.u o (v.eq (λr=>by simp)));cases o with
    |fail T p=>
     obtain⟨rfl,A⟩:=t;exact⟨rfl,I6 q.u n.u A⟩
    |ok W x=>
     obtain⟨rfl,h,f⟩:=t;have u:=O h;have z:=O (zJ f);go_wp2;go_ret;exact Y4 q.u n.u u.u z.u
  .go_wp2_with fail;refine(HY _ (by simpa using a4.u) R.u.size).mono ?_;rintro e a2 ⟨j,o,v,t⟩;have q:=O (R.u.trans j);have n:=O v;cases o with
   |fail T p=>
    obtain⟨rfl,A⟩:=t;exact⟨rfl,I6 q.u (D.u _ ((Ev.bad n.u).eq (λr=>by simp;rfl))) A⟩
   |ok W x=>
    obtain⟨rfl,h,f⟩:=t;have u:=O h;have z:=O (zJ f);go_wp2_with fail;refine(HN _ _ u.u).mono ?_;rintro e ag ⟨j,hr⟩;have S:=O (q.u.trans j);obtain⟨l,rfl,h⟩|⟨l,rfl⟩:=hr
    .have a9:=O h;have B5:=O l;go_wp2_with fail;refine(HA _ _ a9.u S.u.size (by have:=u.u.fq;grind[St.nx]) x).mono ?_;rintro e ah ⟨rfl,j,h⟩;have K6:=O (S.u.trans j);have P6:=O h;go_wp2_with fail;go_ret;refine Y4 K6.u (D.u _ (Ev.eq (Ev.bind n.u (k:=λ_ s x=>A8 (aB L s [93]) λs _=>bK s ⟨8,[],[],x⟩) (Ev.pure.eq (λr=>?_))) (λr=>by simp))) P6.u ?_
     .simp[aB,B5.u,A8,bK]
     .have:=z.u;grind[D9,St.nx,qQ,jQ,xQ]
    .refine⟨rfl,I6 S.u (D.u _ (Ev.eq (Ev.bind n.u (k:=λ_ s x=>A8 (aB L s [93]) λs _=>bK s ⟨8,[],[],x⟩) (Ev.pure.eq (λr=>?_))) (λr=>by simp))) (by decide)⟩;grind[aB,A8,bC]
 .go_wp2_with fail;refine(HO _ (by simpa using a3.u) P.u.size).mono ?_;rintro e a2 ⟨j,o,v,t⟩;have q:=O (P.u.trans j);have n:=O (D.u o (v.eq (λr=>by simp)));clear j v;cases o with
  |fail T p=>
   obtain⟨rfl,A⟩:=t;exact⟨rfl,I6 q.u n.u A⟩
  |ok W x=>
   obtain⟨rfl,h,f⟩:=t;have u:=O h;have z:=O (zJ f);clear h f;go_wp2_with fail;go_ret;exact Y4 q.u n.u u.u z.u
def Tryz.fm:(prog.info? 3).map (λi=>(i.zero,i.size,i.bytes))=some (some (U 0),1,8):=by kernel_rfl
theorem aF.grown{w l:E}{m t n}{e}{v v':Value}{u}(h:aF w B b c L (λg=>a g/\some g≠v.ownBlock) d s)(p:w.ownsRow m e t v n u)(F:e=3\/e=137)(i:w.grownBy l v.ownBlock)
 (D:v'.ownBlock=v.ownBlock\/v'.ownBlock=some w.heap.size):aF l B b c L (λg=>a g/\some g≠v'.ownBlock) d s:=by
 refine h.P (I.grown i) (λk x A o j=>?_) (λg i H=>?_)
 .obtain⟨_,y,f⟩:=A9 p k j.symm;rw[o]at f;simp at f;obtain⟨_,rfl,_⟩:=f;refine⟨by grind,by grind,by grind,λq=>?_,λ_ r=>r.2 j⟩;obtain⟨_,z,G⟩:=A9 h.ke k q;grind
 grind
theorem Kept.grown{a}{f w g:E}{m n}{e}{v}{o}(j:Kept B a f w)(k:w.ownsRow f.heap.size e m v n o)(h:w.grownBy g v.ownBlock):Kept B a f g:=
 j.trans' (I.grown h) (λi p l=>by have:=(A9 k i l.symm).1;omega)
def Hn(w:E)(e)(f:e<=w.heap.size)(x):(w.alloc (.cells #[U x] 3)).ownsRow e 3 1 (.slice (some (J w.heap.size 0)) 1 1) 1 (C7 [x]):=
 ⟨rfl,.inr ⟨w.heap.size,1,#[U x],rfl,f,yY w _,by omega,by simp[maxLen],rfl,rfl⟩⟩
def oO(w:E)(b:Nat):Nat:=(intOf ((w.cell? (J b 1)).getD (U 0))).toNat
theorem aF.jq(h:aF w B b c L a d s):oO w b=s.i:=by
 obtain⟨g,e,i,j,-,-,-,-,-,-,f,-⟩:=h.cell;grind[oO,intOf]
theorem Wg(S:cK L)(a4)(aa:∀m',m'<=a4->jK B b c L 254 (λd s r=>r.ft d s) m'):
 jK B b c L 240 (λd s r=>r.union d s) a4:=by
 intro w a d s hm V hB h;have hs:=S.je;have H1:=aa a4 (vQ _) w a d s hm V hB h;have HF:=O h.fq.2;have HV:Hid (∀o,Ev L (λr=>A8 (r.ft d s) λs x=>if aJ L s.i [[124]] then A8 (r.f7 d s [x]) λs l=>bK s ⟨10,[],l,0⟩ else some (.ok s x)) o->Ev L (λr=>r.union d s) o):=λo u=>Ev.step (u.eq (λr=>rfl));go_in;go_wp2_with fail;refine H1.mono ?_;rintro e af ⟨k,o,T,H⟩;have K1:=O k;have E1:=O T;cases o with
 |fail er p=>
  obtain⟨rfl,he⟩:=H;exact⟨rfl,I6 K1.u (HV.u _ (Ev.bad E1.u)) he⟩
 |ok s1 x=>
  obtain⟨rfl,m,j⟩:=H;have ah:=O m;have Z:=O j;have HI:=pM S (m.alloc (.cells (mT [[124]]) 9)) af.heap.size 1 [[124]] (X8 _ _ _) (by decide);have a6:=O (λo u=>HV.u o (Ev.bind E1.u u));generalize hb:aJ L s1.i [[124]]=ai at*;have B1:=O hb;go_wp2_with fail;refine HI.mono ?_;rintro e ar ⟨rfl,hc⟩;have a7:=O ((ah.u.alloc _).y hc);have K2:=O (K1.u.trans (((Kept.refl B a af).alloc _).trans (C9 hc)));cases ai
  .go_wp2;go_ret;exact Y4 K2.u (a6.u _ (Ev.pure.eq (λr=>by simp))) a7.u Z.u
  .have HB:=O B1.u;go_wp2;go_loopw [4] (λaq wr=>∃(i:bZ) (f:St) (n:Option Addr) (q:Nat),aq=.slice n i.length q/\i.length<=f.i/\Hid (aJ L f.i [[124]]=true\/f.T.length+1+s.i<=s.T.length+f.i)/\Hid (Kept B a w wr)/\Hid (D9 s f)/\Hid (wr.ownsRow w.heap.size 3 1 (.slice n i.length q) i.length (C7 i))/\
    Hid (aF wr B b c L (λg=>a g/\some g≠Value.ownBlock (.slice n i.length q)) d f)/\Hid (∀o,Ev L (λr=>A8 (r.f7 d f i) λs l=>bK s ⟨10,[],l,0⟩) o->Ev L (λr=>r.union d s) o)) (λ_ wr=>L.length-oO wr b);case atStart=>
    refine⟨[x],s1,_,1,rfl,by have:=Z.u.1;grind,.inl B1.u,K2.u.alloc _,Z.u,Hn ar _ K2.u.size x,a7.u.P (I.alloc No _ _) (λ_ _ _ _ x=>x.elim) (λg j hl=>⟨j,by grind[Value.ownBlock]⟩),λo u=>a6.u o (u.eq (λr=>by simp))⟩
   case round=>
    obtain⟨i,f,n,q,rfl,au,SR,KR,M,OR,PR,D⟩:=hrel;have HT:=F9 S PR.u [124];have av:=PR.u.at';have ay:=PR.u.jq;generalize hq:aJ L f.i [[124]]=ap at*;have Q1:=O hq;go_wp2_with fail;refine HT.mono ?_;rintro e a5 ⟨rfl,k,m⟩;have t:=O (KR.u.trans (k.mono λ_ h=>h.1));have P:=O m;have z:=O (F8 OR.u k (by decide));cases ap
    .have S2:f.T.length+1+s.i<=s.T.length+f.i:=by
      obtain F|F:=SR.u
      .grind
      .omega
     have hT:=HF.u;have PY:aF a5 B b c L (λg=>a g/\some g≠Value.ownBlock (.slice n i.length q)) d f:=by simpa using P.u
     have A:=PY.mono (λg j _=>j.1);have HA:=Z6 S A ⟨10,[],i,0⟩ none n 0 0 i.length q ⟨_,_,rfl,kW _ _ _ _,C8 z.u (wQ _),by simp[Value.ownBlock],λg j=>V g (A9 z.u g j).1⟩ (by omega) (kQ hB t.u.size) (λg j=>V g (kQ t.u.size j));have EV:=O (D.u _ (Ev.bind (s:=f) (x:=i) (k:=λ_ s l=>bK s ⟨10,[],l,0⟩) (Ev.step (Ev.pure.eq (λr=>by show (if aJ L f.i [[124]] then _ else _)=_;rw[Q1.u];rfl))) Ev.pure));have GX:=O (show D9 s ⟨f.i,f.N,f.T++[⟨10,[],i,0⟩]⟩ by
      have G:=M.u;grind[D9,qQ,jQ,xQ]);clear D z P A PY M;go_wp2_with fail;refine HA.mono ?_;clear HA;rintro e ag ⟨rfl,k,m⟩;have v:=O (t.u.trans k);have R:=O m;clear k m;go_wp2_with fail;go_ret;exact Y4 v.u EV.u R.u GX.u
    .have A:aF a5 B b c L (λg=>a g/\some g≠Value.ownBlock (.slice n i.length q)) d f.nx:=by simpa using P.u
     have aw:=A.at';have hj:=M.u.1;have HM:=aa (L.length-f.nx.i) (by grind[St.nx]) a5 _ d f.nx (vQ _) (λg j=>⟨V g (kQ t.u.size j),λhx=>by have:=(z.u.lt g hx.symm).2;omega⟩) (kQ hB t.u.size) A;clear P A;go_wp2_with fail;refine HM.mono ?_;clear HM;rintro e ag ⟨k,o,T,H⟩;have v:=O (t.u.trans (k.mono λ_ h=>h.1));have N:=O (F8 z.u k (by decide));have E4:=O T;clear k T t z;cases o with
     |fail er p=>
      obtain⟨rfl,he⟩:=H;exact⟨rfl,I6 v.u (D.u _ (Ev.bad (Ev.step ((Ev.bad E4.u).eq (λr=>by show (if aJ L f.i [[124]] then _ else _)=_;rw[Q1.u];rfl))))) he⟩
     |ok s4 y=>
      obtain⟨rfl,m,j⟩:=H;have R:=O m;have G4:=O j;have ax:=m.at';clear m j;have VN:=O (λo (u:Ev L (λr=>A8 (r.f7 d s4 (i++[y])) λs l=>bK s ⟨10,[],l,0⟩) o)=>D.u o (by
       obtain⟨aj,F⟩:=E4.u;obtain⟨ak,G⟩:=u;refine⟨aj+ak+1,λa9 hf=>?_⟩;obtain⟨g,rfl⟩:∃g,a9=g+1:=⟨a9-1,by omega⟩;have a1:(fV L g).ft d f.nx=some (.ok s4 y):=F g (by omega);have a2:=G g (by omega);show A8 (if aJ L f.i [[124]] then A8 ((fV L g).ft d f.nx) λs x=>(fV L g).f7 d s (i++[x]) else some (.ok f i)) _=some o;rw[Q1.u,wY rfl,a1];exact a2));clear D;obtain⟨i0,al,am,an,ao⟩:=info_parts Tryz.fm;have ae:=O (N.u.alloc (.cells #[U y] 3));go_wp2_with (at_builtin;refine wpList_append_own_at _ rfl _ _ 54 rfl w.heap.size 3 i0 (U 0) 1 8 underlying54 al am an ao rfl (by decide) _ _ _ rfl ae.u (J ag.heap.size 0) 1 1 [U y] rfl rfl ?c1 ?c2 ?c3 ?c4 ?c5 ?_);case c1=>grind[cell_one_new]
      case c2=>intro az hu;simp at hu;obtain rfl:=hu;rfl
      case c3=>grind[maxLen]
      case c4=>omega
      case c5=>have:=v.u.size;simp;omega
      .intro v' b0 W a3 _ ab;obtain⟨a8,c2,ac⟩:=B8 W;rw[ac]at W ab⊢;have PG:=O ((R.u.alloc (.cells #[U y] 3)).grown (v:=.slice n i.length q) (v':=.slice a8 (i.length+1) c2) (N.u.alloc _) (.inl rfl) a3 (by simp_all));have KG:=O ((v.u.alloc (.cells #[U y] 3)).grown (N.u.alloc _) a3);have OG:=O W;clear W a3 ab ae R N v ac;go_wp2_with fail;go_roundw;case rel=>
        have F:=M.u;have G:=G4.u;simp only[D9,St.nx]at F G;refine⟨i++[y],s4,a8,c2,by simp,by grind,.inr (by omega),KG.u,⟨by omega,by omega,by omega,by omega⟩,?_,?_,VN.u⟩<;>simp_all[World.ownsRow,Q9]
       case measure=>
        have G:=G4.u;have h3:=PG.u.jq;grind[D9,St.nx]
end
def tA{P}{f}{b}{d:Exit->Act->E->Prop}{S:E->Prop}{i k:Nat}{m}{o}{n}{g}{l}{v}{j}{e}{a}{w:E}(r:b[i]?=some (Oper.mk (some k) m o n g l))
 (h:wpAnyH P f b d S j (e.setIfInBounds i true) (a.put (some k) v) w) (t:Region.noSelect b=true:=by kernel_rfl) (q:Region.free f b e i=true:=by kernel_rfl) (s:(Region.ready f b e).contains i=true:=by kernel_rfl) (hQ:∀c a w,d (.panic c) (a.put (some k) v) w->d (.panic c) a w:=by exact λ_ _ _ h=>h)
 (hy:YieldsIf P b S (Oper.mk (some k) m o n g l) v a:=by exact Or.inl ⟨by rfl,λw u=>by go_simp⟩) (p:S w:=by assumption):wpAnyH P f b d S (j+1) e a w:=wpAnyH_take r t q s hQ hy p h
def tU{P}{f}{b}{d:Exit->Act->E->Prop}{S:E->Prop}{i k:Nat}{m}{o}{n}{g}{l}{j}{e}{a}{w:E}(s:b[i]?=some (Oper.mk (some k) m o n g l))
 (h:wpAnyH P f b d S j (e.setIfInBounds i true) (a.put (some k) undef) w) (u:Region.noSelect b=true:=by kernel_rfl) (r:Region.free f b e i=true:=by kernel_rfl) (t:(Region.ready f b e).contains i=true:=by kernel_rfl) (p:∀c a w,d (.panic c) (a.put (some k) undef) w->d (.panic c) a w:=by exact λ_ _ _ h=>h)
 (v:YieldsIf P b S (Oper.mk (some k) m o n g l) undef a:=by exact Or.inr ⟨by rfl,rfl⟩) (q:S w:=by assumption):wpAnyH P f b d S (j+1) e a w:=wpAnyH_take s u r t p v q h
theorem aT{b:Type}(l:List b)(i)(a):l.toArray.setIfInBounds i a=(l.set i a).toArray:=zZ ..
theorem a0{c:Type}(a b)(l:List c):(a::l).set 0 b=b::l:=rfl
theorem a1{c:Type}(a b)(l:List c)(n):(a::l).set (n+1) b=a::l.set n b:=rfl
section
variable{w:E}{B a:Nat}{b:Value}{L:List Tk}{ok:Nat->Prop}{d:Nat}{s:St}
def QG{p}{E}{e}{c}(f:aJ L s.i [E]=true):Ev L (λr=>r.M p E d s e c) (.ok s.nx c):=
 Ev.step (Ev.pure.eq λr=>by show (if aJ L s.i [E] then _ else _)=_;grind)
def W8{p}{E}{e}{c}{f}{o}(i:aJ L s.i [E]=false)(g:(if c.length=0 then some (.ok s ()) else aB L s [44])=some (.ok f ()))
 (h:Ev L (λr=>A8 (part L r d f e p) λs x=>r.M p E d s x.2 (c++[x.1])) o):Ev L (λr=>r.M p E d s e c) o:=
 Ev.step (h.eq λr=>by
  show (if aJ L s.i [E] then _ else A8 (if c.length=0 then some (.ok s ()) else aB L s [44]) _)=_;rw[i,g];rfl)
def QC{p}{E}{h}{c}{e q}(g:aJ L s.i [E]=false)(f:(if c.length=0 then some (.ok s ()) else aB L s [44])=some (.fail e q)):Ev L (λr=>r.M p E d s h c) (.fail e q):=
 Ev.step (Ev.pure.eq λr=>by
  show (if aJ L s.i [E] then _ else A8 (if c.length=0 then some (.ok s ()) else aB L s [44]) _)=_;rw[g,f];rfl)
def J1(s c:St):Prop:=s.i<=c.i/\c.N.length+s.i<=s.N.length+c.i/\c.T.length+s.i<=s.T.length+c.i/\s.N.length<=c.N.length
def KH(w:E)(B a:Nat)(b:Value)(L:List Tk)(ok:Nat->Prop)(d:Nat)(s:St)(j:Sp->Option (Out bZ))(e:Ending)(g:E):Prop:=
 Kept B ok w g/\∃o,Ev L j o/\match o with
  |.ok f l=>∃h c,e=.returned (.slice h l.length c)/\g.ownsRow w.heap.size 3 1 (.slice h l.length c) l.length (C7 l)/\l.length<=f.i/\aF g B a b L ok d f/\D9 s f
  |.fail i p=>e=gu i p/\i≠0
def IG{f}{e}{c p}(i:Kept B ok w e)(h:Ev L f (.fail c p))(g:c≠0):KH w B a b L ok d s f (gu c p) e:=⟨i,_,h,rfl,g⟩
def Ig{h}{f}{e}{l}{g}{c}(k:Kept B ok w f)(i:Ev L h (.ok e l))(n:f.ownsRow w.heap.size 3 1 (.slice g l.length c) l.length (C7 l))(m:l.length<=e.i)(o:aF f B a b L ok d e)(j:D9 s e):
 KH w B a b L ok d s h (.returned (.slice g l.length c)) f:=⟨k,_,i,_,_,rfl,n,m,o,j⟩
def cW{e}{g:Nat->St->Sp->Option (Out Int)}(k:∀r d s,part L r d s [] e=A8 (g d s r) λs x=>some (.ok s (x,[]))){E}{c}{f}{o}(j:aJ L s.i [E]=false)(i:(if c.length=0 then some (.ok s ()) else aB L s [44])=some (.ok f ()))
 (h:Ev L (λr=>A8 (A8 (g d f r) λs x=>some (.ok s (x,[]))) λs x=>r.M e E d s x.2 (c++[x.1])) o):Ev L (λr=>r.M e E d s [] c) o:=W8 j i (h.eq λr=>by grind)
def IA(kf:Nat)(cf:∀(ag) (af:E),(callFunc kf ag).run prog af=.ok (.enter kf ag) af){pt}{φ}(a6:∀r d s,part L r d s [] pt=A8 (φ d s r) λs a4=>some (.ok s (a4,[])))(hL:cK L)(aj)(ah:∀m',m'<=aj->jK B a b L kf φ m')(E)(hm:L.length-s.i<=aj)(ai:∀g,w.heap.size<=g->ok g)(hB:B<=w.heap.size)(h:aF w B a b L ok d s):
 Calls prog 275 #[pV a,.string ⟨E.toArray⟩,.func (.func kf) #[pV a] #[]] w (KH w B a b L ok d s (λr=>r.M pt E d s [] [])):=by
 have hs:=hL.je;have HP:=O h;go_in;go_wp2;go_loopw [7] (λap wr=>∃(e:bZ) (f:St) (v:Option Addr) (c:Nat),ap=.slice v e.length c/\e.length<=f.i/\Hid (Kept B ok w wr)/\Hid (J1 s f)/\Hid (wr.ownsRow w.heap.size 3 1 (.slice v e.length c) e.length (C7 e))/\
  Hid (aF wr B a b L (λg=>ok g/\some g≠Value.ownBlock (.slice v e.length c)) d f)/\Hid (∀o,Ev L (λr=>r.M pt E d f [] e) o->Ev L (λr=>r.M pt E d s [] []) o)) (λ_ wr=>L.length-oO wr a);case atStart=>exact⟨[],s,none,0,rfl,by simp,Kept.refl _ _ _,⟨vQ _,by omega,by omega,by omega⟩,kW _ _ _ _,HP.u.mono (λg j _=>⟨j,by simp[Value.ownBlock]⟩),λ_ h=>h⟩
 case round=>
  obtain⟨e,f,v,c,rfl,ak,KR,M,OR,PR,q⟩:=hrel;have HT:=F9 hL PR.u E;have av:=PR.u.jq;generalize hq:aJ L f.i [E]=an at*;have G:=O hq;clear hq;go_wp2_with fail;refine HT.mono ?_;clear HT;rintro a7 ac ⟨rfl,i,l⟩;have z:=O (KR.u.trans (i.mono λ_ h=>h.1));have a5:=O l;have A:=O (F8 OR.u i (by decide));clear i l OR PR KR;cases an
  .have k:aF ac B a b L (λg=>ok g/\some g≠Value.ownBlock (.slice v e.length c)) d f:=by simpa using a5.u
   clear a5;by_cases hz:e.length=0
   .have N:Hid ((if e.length=0 then some (.ok f ()) else aB L f [44])=some (Out.ok f ())):=by show _=_;rw[wY hz]
    have ha:=List.eq_nil_of_length_eq_zero hz;subst ha;simp only[xQ]at A k ak⊢;clear hz;have hj:=M.u.1;have P:=ah (L.length-f.i) (by omega) ac _ d f (vQ _) (λg j=>⟨ai g (kQ z.u.size j),λhx=>by have:=(A.u.lt g hx.symm).2;omega⟩) (kQ hB z.u.size) k;clear k;go_wp2_with fail;refine P.mono ?_;clear P;rintro a7 ae ⟨i,o,W,Z⟩;have m:=O (z.u.trans (i.mono λ_ h=>h.1));have n:=O (F8 A.u i (by decide));have H:=O W;clear i W z A;cases o with
    |fail er p=>
     obtain⟨rfl,he⟩:=Z;exact⟨rfl,IG m.u (q.u _ (cW a6 G.u N.u (Ev.bad (Ev.bad H.u)))) he⟩
    |ok F y=>
     obtain⟨rfl,l,j⟩:=Z;have S:=O l;have x:=O j;have al:=l.at';clear l j;have VN:=O (λo (ho:Ev L (λr=>r.M pt E d F [] ([]++[y])) o)=>q.u o (cW a6 G.u N.u (Ev.bind (Ev.bind H.u (k:=λ_ s a4=>some (.ok s (a4,[]))) Ev.pure) ho)));clear q;obtain⟨i0,a8,a9,aa,ab⟩:=info_parts Tryz.fm;have a3:=O (n.u.alloc (.cells #[U y] 3));have am:0+1<=F.i:=by
      have t:=x.u.1;first|(simp only[St.nx]at t;omega)|omega
     go_wp2_with (at_builtin;refine wpList_append_own_at _ rfl _ _ 54 rfl w.heap.size 3 i0 (U 0) 1 8 underlying54 a8 a9 aa ab rfl (by decide) _ _ _ rfl a3.u (J ae.heap.size 0) 1 1 [U y] rfl rfl ?c1 ?c2 ?c3 ?c4 ?c5 ?_);case c1=>grind[cell_one_new]
     case c2=>intro ao hu;simp at hu;obtain rfl:=hu;rfl
     case c3=>grind[maxLen]
     case c4=>omega
     case c5=>have:=m.u.size;simp;omega
     .intro v' aq u D _ V;obtain⟨T,c2,a2⟩:=B8 u;rw[a2]at u V⊢;have PG:=O ((S.u.alloc (.cells #[U y] 3)).grown (v:=.slice v 0 c) (v':=.slice T (0+1) c2) (n.u.alloc _) (.inl rfl) D (by simp_all));have KG:=O ((m.u.alloc (.cells #[U y] 3)).grown (n.u.alloc _) D);have OG:=O u;clear u D V a3 S n m a2;go_wp2_with fail;go_roundw;case rel=>
       have h1:=M.u;have t:=x.u;simp only[D9,J1]at h1 t;refine⟨[y],F,T,c2,by simp,by omega,KG.u,⟨by omega,by omega,by omega,by omega⟩,?_,?_,VN.u⟩<;>grind[World.ownsRow,C7]
      case measure=>
       have t:=x.u;have h3:=PG.u.jq;grind[D9]
   .have aw:(0:Int)<(e.length:Int):=by omega
    have HN:=I2 hL k [44];go_wp2_with fail;refine HN.mono ?_;clear HN;rintro a7 ar ⟨i,hr⟩;have R:=O (z.u.trans (i.mono λ_ h=>h.1));have O6:=O (F8 A.u i (by decide));clear i z A k;obtain⟨hb,rfl,k⟩|⟨hb,rfl⟩:=hr
    .have au:=k.at';have N:Hid ((if e.length=0 then some (.ok f ()) else aB L f [44])=some (Out.ok f.nx ())):=by show _=_;rw[zY hz,aB,hb];rfl
     clear hb;have hj:=M.u.1;have P:=ah (L.length-f.nx.i) (by grind[St.nx]) ar _ d f.nx (vQ _) (λg j=>⟨ai g (kQ R.u.size j),λhx=>by have:=(O6.u.lt g hx.symm).2;omega⟩) (kQ hB R.u.size) k;clear k;go_wp2_with fail;refine P.mono ?_;clear P;rintro a7 ae ⟨i,o,W,Z⟩;have m:=O (R.u.trans (i.mono λ_ h=>h.1));have n:=O (F8 O6.u i (by decide));have H:=O W;clear i W R O6;cases o with
     |fail er p=>
      obtain⟨rfl,he⟩:=Z;exact⟨rfl,IG m.u (q.u _ (cW a6 G.u N.u (Ev.bad (Ev.bad H.u)))) he⟩
     |ok F y=>
      obtain⟨rfl,l,j⟩:=Z;have S:=O l;have x:=O j;have al:=l.at';clear l j;have VN:=O (λo (ho:Ev L (λr=>r.M pt E d F [] (e++[y])) o)=>q.u o (cW a6 G.u N.u (Ev.bind (Ev.bind H.u (k:=λ_ s a4=>some (.ok s (a4,[]))) Ev.pure) ho)));clear q;obtain⟨i0,a8,a9,aa,ab⟩:=info_parts Tryz.fm;have a3:=O (n.u.alloc (.cells #[U y] 3));have am:e.length+1<=F.i:=by
       have t:=x.u.1;first|grind[St.nx]|omega
      go_wp2_with (at_builtin;refine wpList_append_own_at _ rfl _ _ 54 rfl w.heap.size 3 i0 (U 0) 1 8 underlying54 a8 a9 aa ab rfl (by decide) _ _ _ rfl a3.u (J ae.heap.size 0) 1 1 [U y] rfl rfl ?c1 ?c2 ?c3 ?c4 ?c5 ?_);case c1=>grind[cell_one_new]
      case c2=>intro ao hu;simp at hu;obtain rfl:=hu;rfl
      case c3=>grind[maxLen]
      case c4=>omega
      case c5=>have:=m.u.size;simp;omega
      .intro v' aq u D _ V;obtain⟨T,c2,a2⟩:=B8 u;rw[a2]at u V⊢;have PG:=O ((S.u.alloc (.cells #[U y] 3)).grown (v:=.slice v e.length c) (v':=.slice T (e.length+1) c2) (n.u.alloc _) (.inl rfl) D (by simp_all));have KG:=O ((m.u.alloc (.cells #[U y] 3)).grown (n.u.alloc _) D);have OG:=O u;clear u D V a3 S n m a2;go_wp2_with fail;go_roundw;case rel=>
        have h1:=M.u;have t:=x.u;simp only[D9,J1,St.nx]at h1 t;refine⟨e++[y],F,T,c2,by simp,by grind,KG.u,⟨by omega,by omega,by omega,by omega⟩,?_,?_,VN.u⟩<;>grind[World.ownsRow,Q9]
       case measure=>
        have t:=x.u;have h3:=PG.u.jq;grind[D9,St.nx]
    .exact⟨rfl,IG R.u (q.u _ (QC G.u (by rw[zY hz,aB,hb];rfl))) (by decide)⟩
  .have k:aF ac B a b L (λg=>ok g/\some g≠Value.ownBlock (.slice v e.length c)) d f.nx:=by simpa using a5.u
   have PY:=O (k.mono (ok':=ok) (λg j _=>j.1));have EV:=O (q.u _ (QG G.u));have GX:=O (show D9 s f.nx by
    have t:=M.u;grind[D9,J1,St.nx]);clear q a5 k;go_wp2_with fail;go_ret;exact Ig z.u EV.u A.u (by grind[St.nx]) PY.u GX.u
theorem Pl(z:cK L)(m)(a2:∀m',m'<=m->jK B a b L 223 (λd s r=>r.typ d s) m'):jK B a b L 268 (λd s r=>r.j9 d s) m:=by
 intro w ok d s hm A D h;have HF:=O h.fq;have H1:=IA 223 (λ_ _=>by go_simp) (pt:=.typ) (φ:=λd s r=>r.typ d s) (λ_ _ _=>rfl) z m a2 [41] hm A D h;have S:Hid (∀o,Ev L (λr=>A8 (r.M .typ [41] d s [] []) λs l=>if aJ L s.i [[61,62]] then A8 (r.typ d s.nx) λs x=>bK s ⟨9,[],l,x⟩ else match l with|[x]=>some (.ok s x)|_=>bC L s.i 1) o->Ev L (λr=>r.j9 d s) o):=λo k=>Ev.step (k.eq (λr=>rfl));clear h;go_in;go_wp2_with fail;refine H1.mono ?_;rintro e ae ⟨f,o,G,n⟩;have T:=O f;have M:=O G;cases o with
 |fail er p=>
  obtain⟨rfl,F⟩:=n;exact⟨rfl,I6 T.u (S.u _ (Ev.bad M.u)) F⟩
 |ok q l=>
  obtain⟨ad,a5,rfl,k,hl,i,c⟩:=n;have a8:=O i;have P:=O c;have O1:=O k;have HT:=F9 z i [61,62];have y:=O (λo k=>S.u o (Ev.bind M.u k));generalize hq:aJ L q.i [[61,62]]=a7 at*;go_wp2_with fail;refine HT.mono ?_;rintro e H ⟨rfl,f,i⟩;have j:=O (T.u.trans f);have V:=O (F8 O1.u f (by decide));have Z:=O i;cases a7
  .have v:aF H B a b L ok d q:=by simpa using Z.u
   have HX:=Y9 z v 1;have PY:=O v;by_cases h1:l.length=1
   .obtain⟨x,rfl⟩:=List.length_eq_one_iff.1 h1;obtain⟨g,rfl,_,c,ab,ac,a6⟩:=D4 V.u (by simp);have a9:=a6 0 _ rfl;go_wp2;go_ret;exact Y4 j.u (y.u _ (Ev.pure.eq (λr=>by simp))) PY.u P.u
   .have aa:((l.length:Int)==1)=false:=by simp;omega
    go_wp2_with fail;refine HX.mono ?_;rintro e af ⟨rfl,hc⟩;refine⟨rfl,I6 (j.u.trans (C9 hc)) (y.u _ (Ev.pure.eq (λr=>?_))) (by decide)⟩;simp;match l,h1 with
    |[],_=>rfl
    |[x],h=>grind
    |_::_::_,_=>rfl
  .have v:aF H B a b L ok d q.nx:=by simpa using Z.u
   have HM:=a2 (L.length-q.nx.i) (by have:=P.u.1;grind[St.nx]) H ok d q.nx (vQ _) (λg c=>A g (kQ j.u.size c)) (kQ D j.u.size) v;go_wp2_with fail;refine HM.mono ?_;rintro e ag ⟨f,o,G,n⟩;have u:=O (j.u.trans f);have W:=O (F8 V.u f (by decide));have N:=O G;cases o with
   |fail er p=>
    obtain⟨rfl,F⟩:=n;exact⟨rfl,I6 u.u (y.u _ (Ev.eq (Ev.bad N.u) (λr=>by simp;rfl))) F⟩
   |ok t a3=>
    obtain⟨rfl,i,c⟩:=n;have R:=O (show D9 s ⟨t.i,t.N,t.T++[⟨9,[],l,a3⟩]⟩/\t.T.length+1<=t.i by
     have h4:=HF.u;grind[D9,St.nx,qQ,jQ,xQ]);have HA:=Z6 z i ⟨9,[],l,a3⟩ none ad 0 0 l.length a5 ⟨_,_,rfl,kW _ _ _ _,C8 W.u (wQ _),by simp[Value.ownBlock],λg c=>A g (A9 W.u g c).1⟩ R.u.2 (kQ D u.u.size) (λg c=>A g (kQ u.u.size c));have EV:=O (y.u _ (Ev.eq (Ev.bind N.u (k:=λ_ s x=>bK s ⟨9,[],l,x⟩) Ev.pure) (λr=>by simp)));go_wp2_with fail;refine HA.mono ?_;rintro e ah ⟨rfl,f,i⟩;have K5:=O (u.u.trans f);have a4:=O i;go_wp2;go_ret;exact Y4 K5.u EV.u a4.u R.u.1
end
set_option linter.unusedSimpArgs false
section
variable{w:E}{B pb:Nat}{tv:Value}{L:List Tk}{ok:Nat->Prop}{d:Nat}{s:St}
def Tryz.nu:(prog.info? 9).map (λi=>(i.zero,i.size,i.bytes))=some (some (.string ⟨#[]⟩),1,16):=by kernel_rfl
def qI(a:List Y):List Value:=a.map λm=>.string ⟨m.toArray⟩
theorem Hb(a)(m):qI (a++[m])=qI a++[.string ⟨m.toArray⟩]:=by simp[qI]
def fL(w:E)(e f:Nat)(a:List Y):Prop:=
 e<=f/\∃b c,w.heap[f]?=some (.cells #[.slice b a.length c] 29 (0,0))/\w.ownsRow e 9 1 (.slice b a.length c) a.length (qI a)
def CQ(w:E)(k:Nat):Prop:=∃a e b,w.heap[k]?=some (.cells a e b)/\(e=29\/e=9)
def aR(B:Nat)(ok:Nat->Prop)(a:Nat)(w b:E):Prop:=I (λk=>(B<=k/\tag w k/\ok k)\/(a<=k/\CQ w k)) w b
def fL.kept{ok}{w i}{f a}{g}(h:fL w f a g)(b:Kept B ok w i):fL i f a g:=by
 obtain⟨k,j,c,l,m⟩:=h;refine⟨k,j,c,?_,F8 m b (by decide)⟩;rw[b.block a (aI l) (λx=>?_)]
 .omega
 .obtain⟨n,e,o,p,r⟩:=x.2.1;grind
theorem PO{w a b}{c}{v}(f:a.cell? (J c 0)=some v)(g:Hid (I No w a))(e:I No a b):b.cell? (J c 0)=some v/\Hid (I No w b):=by
 refine⟨?_,g.u.trans e (λ_ _ x=>x)⟩;rw[World.cell?_of_block (e.block c (World.block_lt_of_cell? a _ f) (λx=>x))];omega
def Ji{w}{g}{a}(c:g<w.heap.size)(b:∀j u,(qI a)[j]?=some u->w.cell? (J g j)=some u):Strs w g a:=
 ⟨c,λj e=>b j _ (by grind[qI])⟩
def Bp(w:E)(a)(c)(t:Y):
 Calls prog 191 #[.slice a 0 c,.string ⟨t.toArray⟩] w λe b=>e=.returned (U (-1))/\b=w:=by
 go_in;go_wp2;go_loop [8] (λi=>i=U 0) (λ_=>0);case atStart=>rfl
 case round=>
  subst hrel;go_wp2;go_ret;exact⟨rfl,rfl⟩
def xf(w:E)(a)(c)(t:Y):
 Calls prog 157 #[.slice a 0 c,.string ⟨t.toArray⟩] w λe b=>e=.returned (.bool false)/\b=w:=by
 have H:=Bp w a c t;go_in;go_wp2_with fail;refine H.mono ?_;rintro e f ⟨rfl,rfl⟩;go_wp2;go_ret;exact⟨rfl,rfl⟩
def Us(w:E)(l)(b)(c)(a)(t)(h:w.ownsRow l 9 1 (.slice b a.length c) a.length (qI a))(j:a.length<=4000):
 Calls prog 157 #[.slice b a.length c,.string ⟨t.toArray⟩] w λe m=>e=.returned (.bool (has a t))/\m=w:=by
 by_cases k:0<a.length
 .obtain⟨g,rfl,_,i,_,_,f⟩:=D4 h k;exact SU w g c a t (Ji i f) j
 .have:a=[]:=List.eq_nil_of_length_eq_zero (by omega);subst this;exact xf w b c t
def fL.push{w w1 w2:E}{j a n c g cap}{i}{q}{x}(h:aF w B pb tv L ok d s)(V:j<=a)(p:w.heap[a]?=some (.cells #[.slice i n c] 29 (0,0)))(D:w.ownsRow j 9 1 (.slice i n c) n q)(m:I No w w1)
 (y:w1.grownBy w2 (Value.ownBlock (.slice i n c))) (N:w2.ownsRow j 9 1 (.slice (some (J g 0)) (n+1) cap) (n+1) (q++[x])):
 aR B ok j w (w2.setCell (J a 0) (.slice (some (J g 0)) (n+1) cap))/\aF (w2.setCell (J a 0) (.slice (some (J g 0)) (n+1) cap)) B pb tv L ok d s/\
  (w2.setCell (J a 0) (.slice (some (J g 0)) (n+1) cap)).heap[a]?=some (.cells #[.slice (some (J g 0)) (n+1) cap] 29 (0,0))/\
  (w2.setCell (J a 0) (.slice (some (J g 0)) (n+1) cap)).ownsRow j 9 1 (.slice (some (J g 0)) (n+1) cap) (n+1) (q++[x]):=by
 have A:=(aI p);have u:=m.block a A (λx=>x);have M:=A3 D m (λ_ _ x=>x);have H:some a≠Value.ownBlock (.slice i n c):=by
  intro f;obtain⟨_,t,b⟩:=A9 M a f.symm;rw[u,p]at b;simp only[zQ,xW]at b;exact absurd b.2.1 (by decide)
 have G:w2.heap[a]?=some (.cells #[.slice i n c] 29 (0,0)):=by rw[y.block a (yQ A m.size) H,u,p]
 have v:I (λk=>some k=Value.ownBlock (.slice i n c)\/k=a) w (w2.setCell (J a 0) (.slice (some (J g 0)) (n+1) cap)):=
  (((m.mono λ_ _ x=>x.elim).trans (I.grown y) (λ_ _ x=>x)).mono λ_ _ x=>.inl x).trans (I.set _ _ _) (λ_ _ x=>.inr x);have F:∀k,(some k=Value.ownBlock (.slice i n c)\/k=a)->j<=k/\∃l e,w.heap[k]?=some (.cells l e (0,0))/\(e=29\/e=9):=by
  rintro k (f|rfl)
  .obtain⟨o,t,b⟩:=A9 D k f.symm;grind
  .grind
 refine⟨v.mono λk _ f=>?_,h.P v (λk t e z f=>?_) (λ_ x _=>x),by rw[heap_setCell_same w2 a 0 _ _ _ G];rfl,A3 N (I.set w2 (J a 0) _) (λk z f=>?_)⟩
 .obtain⟨o,l,e,b,r⟩:=F k f;exact .inr ⟨o,l,e,_,b,r⟩
 .obtain⟨o,l,S,b,r⟩:=F k f;rw[z]at b;simp at b;obtain⟨_,rfl,_⟩:=b;refine⟨by grind,by grind,by grind,λP=>?_,λZ=>?_⟩
  .obtain⟨_,R,T⟩:=A9 h.ke k P;grind
  grind
 .have W:=f;grind[A9]
def Kept.lh{lo}{w a}(h:Kept B ok w a):aR B ok lo w a:=I.mono h λ_ _ x=>.inl x
def aR.after{n}{a b c}(h:Kept B ok a b)(k:aR B ok n b c):aR B ok n a c:=by
 refine⟨k.os.trans h.os,k.tape.trans h.tape,k.output.trans h.output,kQ h.size k.size,λi l m=>?_⟩;have o:=h.block i l (λx=>m (.inl x));refine(k.block i (yQ l h.size) (λx=>m ?_)).trans o;obtain⟨j,⟨f,e,g,p,r⟩,q⟩|⟨j,f,e,g,p,r⟩:=x
 .exact .inl ⟨j,⟨f,e,g,by grind,r⟩,q⟩
 .exact .inr ⟨j,f,e,g,by grind,r⟩
def JT(P:cK L)(a8:aF w B pb tv L ok d s)(l f)(a:List Y)(hn:fL w l f a)(hl:a.length<=1001)(ab:l<=w.heap.size):
 Calls prog 274 #[pV pb,pV f] w λe b=>aR B ok l w b/\
  match aN L s a with
  |some (.ok s' nm)=>e=.returned (.string ⟨nm.toArray⟩)/\fL b l f (a++[nm])/\aF b B pb tv L ok d s'
  |some (.fail er ag)=>e=gu er ag
  |none=>False:=by
 have H:=λg (i:aF g B pb tv L ok d s)=>T8 P i;have N:=λg (i:aF g B pb tv L ok d s)=>Y9 P i 6;have q:=λg (i:aF g B pb tv L ok d s)=>GJ P i;have r:=O a8;have HM:=O hn;obtain⟨a3,v,c,R,W⟩:=hn;have k0:w.cell? (J f 0)=some (.slice v a.length c):=cr R rfl;have p:Hid (I No w w.drew):=I.drewN No w 1;have am:=W5;have an:=tJ;unfold aN bC;generalize tk L s.i=ai at*;obtain⟨kd,j,pl⟩:=ai;simp only[iC]at H N q⊢;by_cases D:kd=1
 .subst D;have HC:Hid (∀g:E,I No w g->Calls prog 157 #[.slice v a.length c,.string ⟨j.toArray⟩] g λe b=>e=.returned (.bool (has a j))/\b=g):=
   λg i=>Us g l v c a j (A3 W i (λ_ _ x=>x)) (by omega);generalize has a j=ah at*;go_in;go_wp2;go_region_held3 (λb=>b.cell? (J f 0)=some (.slice v a.length c)/\Hid (I No w b))
   (first
    |exact⟨k0,p⟩
    |grind[PO]
    |(go_split_ands;exact PO (by assumption) (by assumption) S)
    |(go_split_ands;exact⟨by assumption,by assumption⟩))
   (first
    |((go_at_call 109;go_split_ands;refine(H _ (r.u.y (Hid.u (by omega)))).mono ?_;rintro e b ⟨rfl,S⟩))
    |((go_at_call 157;go_split_ands;refine(HC.u _ (Hid.u (by omega))).mono ?_;rintro e b ⟨rfl,rfl⟩)));have h:Hid (I No w b):=by assumption
  have u:=O (r.u.y h.u);cases ah
  .go_wp2_with fail;refine(q _ u.u).mono ?_;rintro e m ⟨F,Z⟩;obtain⟨_,rfl,a5⟩|⟨o,_⟩:=Z
   .have n:=O ((C9 h.u).trans F);have N2:=O (HM.u.kept n.u);obtain⟨_,y,c2,k,G⟩:=N2.u;have a2:=(aI k);have q0:m.cell? (J f 0)=some (.slice y a.length c2):=cr k rfl;have fz:=frozen_of_row m f 0 _ _ k;have V:Value.ownBlock (.slice y a.length c2)≠some f:=by
     intro o;obtain⟨_,ak,T⟩:=A9 G f o;rw[k]at T;simp only[zQ,xW]at T;exact absurd T.2.1 (by decide)
    have HX:=O (λM aj (a7 z:Nat)=>fL.push (w1:=M) (w2:=aj) (g:=a7) (cap:=z) (x:=.string ⟨j.toArray⟩) a5 a3 k G);have O2:=O G;have ap:=kQ ab n.u.size;obtain⟨i0,hi,ac,ae,af⟩:=info_parts Tryz.nu;clear F a5 k G q N H HC R W k0 p;have a6:=O (O2.u.alloc (.cells #[.string ⟨j.toArray⟩] 9));go_wp2_with (at_builtin;refine wpList_append_lies _ rfl _ _ _ rfl l 9 i0 _ 1 16 underlying29 hi ac ae af rfl (by decide) (.slice y a.length c2) a.length (qI a) rfl a6.u (J m.heap.size 0) 1 1 [.string ⟨j.toArray⟩] rfl rfl ?c1 ?c2 ?c0 ?c3 ?c4 ?c5 (m.heap.size+1) (by simp) ?_);case c1=>grind[cell_one_new]
    case c2=>intro ar hu;simp at hu;obtain rfl:=hu;rfl
    case c0=>omega
    case c3=>grind[maxLen]
    case c4=>omega
    case c5=>simp;omega
    .intro gg z M a4 A al aq;have z4:M.cell? (J f 0)=some (.slice y a.length c2):=by rw[A.cell_far _ (by simp;omega) (Ne.symm V)];exact I4 a2 q0
     have y4:M.frozen? (J f 0)=false:=by rw[A.frozen_far _ (by simp;omega) (Ne.symm V)];exact S6 a2 fz
     have t:=O (HX.u _ _ gg z (I.alloc No _ _) A a4);clear A a4 HX a6 O2 V;go_wp2_with fail;go_ret;refine⟨aR.after n.u t.u.1,rfl,⟨a3,some (J gg 0),z,?_,?_⟩,t.u.2.1⟩
     .have:=t.u.2.2.1;grind
     .have:=t.u.2.2.2;grind[Hb]
   .exact absurd rfl o
  .go_wp2_with fail;refine(N _ u.u).mono ?_;rintro e m ⟨rfl,aa⟩;exact⟨rfl,(C9 (B:=B) (ok:=ok) (h.u.trans aa (λ_ _ x=>x))).lh,rfl⟩
 .have ao:(kd==1)=false:=by simp[D]
  clear R W;go_in;go_wp2_with fail;refine wp_region_held_drew (S:=λb=>Hid (I No w b)) (by rfl) p (λa9=>?_);refine tA (i:=0) (k:=6) (v:=pV pb) rfl ?_;simp only[Act.put,aT,a0,a1];refine wpAnyH_ready (rs:=[1]) (by kernel_rfl) (by simp) ?_;refine AllReadyH.cons (o:=Oper.mk (some 7) _ _ _ _ _) rfl (λK hK=>?_) AllReadyH.nil;go_simp;refine(H _ (r.u.y p.u)).mono ?_;rintro e b ⟨rfl,S⟩;have h:=O (p.u.trans S (λ_ _ x=>x));refine hK _ _ h (λ_=>?_);clear hK K a9;refine tA (i:=2) (k:=8) (v:=U kd) rfl ?_;simp only[Act.put,aT,a0,a1];refine tA (i:=3) (k:=9) (v:=.bool false) rfl ?_;simp only[Act.put,aT,a0,a1];refine tA (i:=4) (k:=10) (v:=.bool false) rfl ?_;simp only[Act.put,aT,a0,a1];refine tU (i:=5) (k:=11) rfl ?_;simp only[Act.put,aT,a0,a1];refine tU (i:=6) (k:=12) rfl ?_;simp only[Act.put,aT,a0,a1];refine tU (i:=7) (k:=13) rfl ?_;simp only[Act.put,aT,a0,a1];refine tU (i:=8) (k:=14) rfl ?_;simp only[Act.put,aT,a0,a1];refine tU (i:=9) (k:=15) rfl ?_;simp only[Act.put,aT,a0,a1];refine tU (i:=10) (k:=16) rfl ?_;simp only[Act.put,aT,a0,a1];refine tU (i:=11) (k:=17) rfl ?_;simp only[Act.put,aT,a0,a1];refine tA (i:=12) (k:=18) (v:=.bool false) rfl ?_;simp only[Act.put,aT,a0,a1];refine wpAnyH_done (by rfl) ?_ _;have u:=O (r.u.y h.u);go_wp2_with fail;refine(q _ u.u).mono ?_;rintro e m ⟨F,Z⟩;obtain⟨o,_⟩|⟨_,rfl⟩:=Z
  .exact absurd o D
  .have n:=(C9 (B:=B) (ok:=ok) h.u).trans F;exact⟨rfl,n.lh,by simp[D];rfl⟩
def Tryz.jw:(prog.info? 137).map (λi=>(i.zero,i.size,i.bytes))=some (some (.agg #[.string ⟨#[]⟩,U 0]),2,24):=by kernel_rfl
def Kept.ku{a b c}(h:Kept B ok a b)(k:aR B ok a.heap.size b c):Kept B ok a c:=by
 refine⟨k.os.trans h.os,k.tape.trans h.tape,k.output.trans h.output,kQ h.size k.size,λi f g=>?_⟩;have n:=h.block i f g;refine(k.block i (yQ f h.size) (λx=>?_)).trans n;obtain⟨j,⟨l,e,m,p,r⟩,o⟩|⟨j,_⟩:=x
 .exact g ⟨j,⟨l,e,m,by grind,r⟩,o⟩
 omega
def IC{w k}{t i}{e}{j}{v}{n}{l}(h:w.ownsRow i e j v n l)(m:aR B ok t w k)
 (x:e≠103/\e≠85/\e≠81/\e≠29/\e≠9):k.ownsRow i e j v n l:=by
 refine A3 h m λg o q=>?_;obtain⟨_,u,p⟩:=A9 h g o;have y:∀c a f,w.heap[g]?=some (.cells c a f)->a=e:=by
  intro c a f b;rw[p]at b;simp only[zQ,xW]at b;exact b.2.1.symm
 obtain⟨_,⟨c,a,f,b,r⟩,_⟩|⟨_,c,a,f,b,r⟩:=q<;>grind
theorem fL.P{S}{w w'}{j a}{l}(h:fL w j a l)(i:I S w w')(q:∀k n e,w.heap[k]?=some (.cells n e (0,0))->S k->e≠29/\e≠9):fL w' j a l:=by
 obtain⟨o,m,c,b,f⟩:=h;refine⟨o,m,c,?_,A3 f i (λg p u=>?_)⟩
 .rw[i.block a (aI b) (λx=>(q a _ _ b x).1 rfl)];omega
 .obtain⟨_,r,t⟩:=A9 f g p;grind
theorem Uj(w:E)(x y)(t):∀j u,[x,y][j]?=some u->(w.alloc (.cells #[x,y] t)).cell? (((J w.heap.size 0)).add j)=some u:=by
 grind[Addr.add,World.cell?_alloc_new]
def fO{b}{a}{c}(h:aN L s b=some (.ok a c)):a=s.nx:=by
 grind[aN,bC]
def Xv{b}{a p}(h:aN L s b=some (.fail a p)):a≠0:=by
 grind[aN,bC]
def zm{a}(b:aJ L s.i [[125]]=true):Ev L (λr=>r.jc d s a) (.ok ⟨s.nx.i,s.nx.N,s.nx.T++[⟨7,a,[],0⟩]⟩ s.nx.T.length):=
 Ev.step (Ev.pure.eq λr=>by show (if aJ L s.i [[125]] then _ else _)=_;rw[b];rfl)
def Ox{a:List (Y×Int)}{o:Out Int}(c:aJ L s.i [[125]]=false)
 (h:Ev L (λr=>A8 (aN L s (a.map (·.1))) λs b=>A8 (aB L s [58]) λs _=>A8 (r.typ d s) λs x=>A8 (aB L s [59]) λs _=>r.jc d s (a++[(b,x)])) o):Ev L (λr=>r.jc d s a) o:=
 Ev.step (h.eq λr=>by show (if aJ L s.i [[125]] then _ else _)=_;grind)
def M6{mk}(h:aJ L s.i [mk]=true):Ev L (λ_=>aB L s mk) (.ok s.nx ()):=Ev.pure.eq λr=>by grind[aB]
def S5{mk}(h:aJ L s.i [mk]=false):Ev L (λ_=>aB L s mk) (.fail 1 ((tk L s.i).at')):=Ev.pure.eq λr=>by rw[aB,h];rfl
theorem Eb(u:cK L)(ag)(aj:∀m',m'<=ag->jK B pb tv L 223 (λd s r=>r.typ d s) m'):jK B pb tv L 267 (λd s r=>r.jc d s []) ag:=by
 intro w ok d s hm a3 hB h;have hs:=u.je;have hi:=h.at';have HP:=O h;clear h;go_in;go_wp2_with fail;go_loopw [4] (λar wr=>∃(f:List (Y×Int)) (b:St) (m:Option Addr) (c:Nat),ar=.slice m f.length c/\f.length<=b.i/\Hid (fL wr w.heap.size w.heap.size (f.map (·.1)))/\Hid (Kept B ok w wr)/\Hid (J1 s b)/\Hid (wr.ownsRow w.heap.size 137 2 (.slice m f.length c) f.length (G0 f))/\
  Hid (aF wr B pb tv L (λg=>ok g/\some g≠Value.ownBlock (.slice m f.length c)) d b)/\Hid (∀o,Ev L (λr=>r.jc d b f) o->Ev L (λr=>r.jc d s []) o)) (λ_ wr=>L.length-oO wr pb);case atStart=>
  refine⟨[],s,none,0,rfl,by simp,⟨vQ _,none,0,yY w _,kW _ _ _ _⟩,(Kept.refl B ok w).alloc _,⟨vQ _,by omega,by omega,by omega⟩,kW _ _ _ _,(HP.u.alloc _).mono (λg j _=>⟨j,by simp[Value.ownBlock]⟩),λ_ h=>h⟩
 case round=>
  obtain⟨f,b,m,c,rfl,az,NR,KR,T,OR,D,M⟩:=hrel;have HT:=F9 u D.u [125];have b1:=D.u.at';have b4:=D.u.jq;have hj:=T.u.1;have b0:=D.u.fq;generalize hq:aJ L b.i [[125]]=aq at*;have Q1:=O hq;clear hq;go_wp2_with fail;refine HT.mono ?_;clear HT;rintro e ah ⟨rfl,a,i⟩;have t:=O (KR.u.trans (a.mono λ_ h=>h.1));have H:=O i;have z:=O (F8 OR.u a (by decide));have W:=O (NR.u.kept a);clear a i OR D KR NR;cases aq
  .have F:aF ah B pb tv L (λg=>ok g/\some g≠Value.ownBlock (.slice m f.length c)) d b:=by simpa using H.u
   have HN:=JT u F w.heap.size w.heap.size (f.map (·.1)) W.u (by simp;omega) t.u.size;clear H F W;have VG:=O (λo l=>M.u o (Ox Q1.u l));clear M;generalize ab:aN L b (f.map (·.1))=NN at*;have N0:=O ab;clear ab;go_wp2_with fail;refine HN.mono ?_;clear HN;rintro e au ⟨a,n⟩;have v:=O (t.u.ku (I.mono a λ_ _ a4=>a4.imp (λy=>⟨y.1,y.2.1,y.2.2.1⟩) id));have O4:=O (IC z.u a (by decide));clear a t z;obtain _|⟨s1,nm⟩|⟨er,p⟩:=NN
   .exact n.elim
   .obtain⟨rfl,aa,i⟩:=n;have al:=fO N0.u;subst al;have a5:=I2 u i [58];have N4:=O aa;clear i aa;have V4:=O (λo l=>VG.u o (Ev.bind (s:=b.nx) (x:=nm) Ev.pure l));clear VG;go_wp2_with fail;refine a5.mono ?_;clear a5;rintro e av ⟨a,n⟩;have x:=O (v.u.trans (a.mono λ_ h=>h.1));have Z:=O (F8 O4.u a (by decide));have N5:=O (N4.u.kept a);clear a v O4 N4;obtain⟨k,rfl,i⟩|⟨k,rfl⟩:=n
    .have b2:=i.at';have HM:=aj (L.length-b.nx.nx.i) (by grind[St.nx]) av _ d b.nx.nx (vQ _) (λg j=>⟨a3 g (kQ x.u.size j),λhx=>by have:=(Z.u.lt g hx.symm).2;omega⟩) (kQ hB x.u.size) i;have V5:=O (λo l=>V4.u o (Ev.bind (M6 k) l));clear i k V4;go_wp2_with fail;refine HM.mono ?_;clear HM;rintro e b6 ⟨a,o,a9,ac⟩;have V:=O (x.u.trans (a.mono λ_ h=>h.1));have O6:=O (F8 Z.u a (by decide));have N6:=O (N5.u.kept a);have S:=O a9;clear a a9 x Z N5;cases o with
     |fail er p=>
      obtain⟨rfl,he⟩:=ac;exact⟨rfl,I6 V.u (V5.u _ (Ev.bad S.u)) he⟩
     |ok q y=>
      obtain⟨rfl,i,j⟩:=ac;have a6:=I2 u i [59];have G6:=O j;have V6:=O (λo l=>V5.u o (Ev.bind S.u l));clear i j V5 S;go_wp2_with fail;refine a6.mono ?_;clear a6;rintro e aw ⟨a,n⟩;have G:=O (V.u.trans (a.mono λ_ h=>h.1));have A:=O (F8 O6.u a (by decide));have N7:=O (N6.u.kept a);clear a V O6 N6;obtain⟨k,rfl,i⟩|⟨k,rfl⟩:=n
      .have P7:=O i;have b3:=i.at';have V7:=O (λo l=>V6.u o (Ev.bind (M6 k) l));clear i k V6;have G7:=O (show b.i+4<=q.nx.i/\q.nx.N.length+b.i<=b.N.length+q.nx.i/\q.nx.T.length+b.i<=b.T.length+q.nx.i/\b.N.length<=q.nx.N.length by
        have N:=G6.u;grind[D9,St.nx]);clear G6;generalize q.nx=s7 at*;obtain⟨i0,ak,am,an,ao⟩:=info_parts Tryz.jw;have af:=O (A.u.alloc (.cells #[.string ⟨nm.toArray⟩,U y] 137));go_wp2_with (at_builtin;refine wpList_append_own_at _ rfl _ _ 79 rfl w.heap.size 137 i0 _ 2 24 underlying79 ak am an ao rfl (by decide) _ _ _ rfl af.u (J aw.heap.size 0) 1 1 [.string ⟨nm.toArray⟩,U y] rfl rfl ?c1 ?c2 ?c3 ?c4 ?c5 ?_);case c1=>grind[Uj]
       case c2=>intro b5 hu;simp at hu;obtain rfl|rfl:=hu<;>rfl
       case c3=>grind[maxLen]
       case c4=>omega
       case c5=>have:=G.u.size;simp;omega
       .intro v' ax R P _ a8;obtain⟨a7,c2,ae⟩:=B8 R;rw[ae]at R a8⊢;have PG:=O ((P7.u.alloc (.cells #[.string ⟨nm.toArray⟩,U y] 137)).grown (v:=.slice m f.length c) (v':=.slice a7 (f.length+1) c2) (A.u.alloc _) (.inr rfl) P (by simp_all));have KG:=O ((G.u.alloc (.cells #[.string ⟨nm.toArray⟩,U y] 137)).grown (A.u.alloc _) P);have NG:Hid (fL ax w.heap.size w.heap.size ((f.map (·.1))++[nm])):=by
         refine(N7.u.P (I.alloc No _ (.cells #[.string ⟨nm.toArray⟩,U y] 137)) (λ_ _ _ _ a4=>a4.elim)).P (I.grown P) (λap cs e hh hx=>?_);obtain⟨_,ay,a2⟩:=A9 (A.u.alloc (.cells #[.string ⟨nm.toArray⟩,U y] 137)) ap hx.symm;rw[hh]at a2;simp only[zQ,xW]at a2;obtain⟨_,rfl,_⟩:=a2;exact⟨by decide,by decide⟩
        have OG:=O R;clear R P a8 af P7 A G ae N7;go_wp2_with fail;go_roundw;case rel=>
         have h1:=T.u;have N:=G7.u;simp only[J1]at h1;refine⟨f++[(nm,y)],s7,a7,c2,by simp,by grind,by grind,KG.u,⟨by omega,by omega,by omega,by omega⟩,?_,?_,V7.u⟩<;>simp_all[World.ownsRow,GW,J8]
        case measure=>
         have N:=G7.u;have h3:=PG.u.jq;omega
      .exact⟨rfl,I6 G.u (V6.u _ (Ev.bad (S5 k))) (by decide)⟩
    .exact⟨rfl,I6 x.u (V4.u _ (Ev.bad (S5 k))) (by decide)⟩
   .have he:=Xv N0.u;obtain rfl:=n;exact⟨rfl,I6 v.u (VG.u _ (Ev.bad Ev.pure)) he⟩
  .have F:aF ah B pb tv L (λg=>ok g/\some g≠Value.ownBlock (.slice m f.length c)) d b.nx:=by simpa using H.u
   have PY:=F.mono (ok':=ok) (λg j _=>j.1);have HA:=Z6 u PY ⟨7,f,[],0⟩ m none f.length c 0 0 ⟨_,_,rfl,C8 z.u (wQ _),kW _ _ _ _,λg j=>a3 g (A9 z.u g j).1,by simp[Value.ownBlock]⟩ (by simp_all[St.nx]) (kQ hB t.u.size) (λg j=>a3 g (kQ t.u.size j));have EV:=O (M.u _ (zm Q1.u));have GX:=O (show D9 s ⟨b.nx.i,b.nx.N,b.nx.T++[⟨7,f,[],0⟩]⟩ by
    have N:=T.u;simp only[D9,J1,St.nx,qQ,jQ,xQ]at N⊢;omega);clear M H F PY z W;go_wp2_with fail;refine HA.mono ?_;clear HA;rintro e au ⟨rfl,a,i⟩;have v:=O (t.u.trans a);have ai:=O i;clear a i;go_wp2_with fail;go_ret;exact Y4 v.u EV.u ai.u GX.u
def XT(a:cK L):∀m,jK B pb tv L 223 (λd s r=>r.typ d s) m:=by
 intro m;induction m using Nat.strongRecOn<;>grind[Nat.strongRecOn,jK,Eb,Pl,Dc,Xu,Wg]
end
