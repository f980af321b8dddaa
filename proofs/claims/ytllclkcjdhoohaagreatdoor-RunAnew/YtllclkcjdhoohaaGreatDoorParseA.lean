/-
  A part of the proof.
-/
import Derived.Test.YtllclkcjdhoohaaGreatDoorPlainA
import Derived.WalkKit
import Derived.WalkSpells
import Derived.WalkLawsBesides
import Derived.Laws.Rows
import Derived.Maps.AppendAt
import Derived.Deep.QuietTactic
import Derived.BigQuiet
import Derived.Deep.RegionHeld3
import Derived.Deep.RegionLaw
import Derived.Deep.AppendLies
import Derived.Test.YtllclkcjdhoohaaGreatDoorShelf
set_option maxHeartbeats 0
set_option linter.all false
set_option maxRecDepth 100000
set_option linter.unusedVariables false
namespace Go.Proofs.YtllclkcjdhoohaaGreatDoor
theorem î{p:Prop}(h:p:=by kernel_rfl):p:=h
def Ä{p:Prop}(h:p:=by simp[Value.ownBlock]):p:=h
def ï{p:Prop}(h:p:=by go_num):p:=h
def Ñ{p:Prop}(h:p:=by grind[maxLen]):p:=h
def ũ{p:Prop}(h:p:=by go_simp):p:=h
open _root_.Array renaming size->V,getElem?_eq_some_iff->ş
open Bool renaming false->κ,true->τ
open Ev renaming bind->ú,bad->ø
open Go renaming Value->υ,Ending->ò,TypeId->Ò,cell_of_row->ä,Calls->μ,maxLen->Δ,heap_setCell_same->ð,bodyPost_ret->ç,results->ã,frozen_of_row->æ,info_parts->ý
open Act renaming put->ë
open Ending renaming returned->π
open IntKind renaming i64->χ
open Obj renaming cells->γ
open Go.Proofs.Tryz renaming prog->ε
open Value renaming slice->Y,pointer->Γ,string->ι,ownBlock->Θ
open World renaming ownsRow->ρ,cell?->δ,block_lt_of_cell?->Ü,cell?_of_block->Ë,alloc->ω,news_of_block->Ó,setCell->σ
open List renaming toArray->ξ,length->Q
open Option renaming some->C
theorem _root_.Go.RowKit.Hid.u{p:Prop}(h:Go.RowKit.Hid p):p:=h
abbrev E:=World
theorem rY(w:World)(o):(w.alloc o).heap[V w.heap]?=C o:=Go.heap_alloc_new w o
open Go.Proofs.Tryz
theorem xW{a x}{b y}{c z}:(γ a b c=γ x y z)=(a=x/\ b=y/\ c=z):=Obj.cells.injEq ..
theorem kW(w:E)(b)(e)(s):ρ w b e s (Y none 0 0) 0 []:=World.ownsRow_nil w b e s
abbrev U(n:Int):υ:=.int χ n
abbrev pV(b:Nat):υ:=Γ<|C ⟨b,0,none⟩
abbrev aM(k a b c:Int)(l:υ)(t:bZ)(n y p:Int):Obj:=γ #[U k,U a,U b,U c,l,ι ⟨ξ t⟩,U n,U y,U p] 82
abbrev No:Nat->Prop:=λ_=>False
def Ξ{A B:Nat->Prop}:∀x,A x->B x->B x:=λ_ _ x=>x
def å{A B:Nat->Prop}:∀x,A x->No x->B x:=λ_ _ x=>x.elim
abbrev J(b o:Nat):Addr:=⟨b,o,none⟩
abbrev sN:υ:=Y none 0 0
abbrev rT:ò:=π<|.tuple #[]
abbrev _root_.Go.World.z(w:E):Nat:=V w.heap
theorem aG{c:Type}{b:Array c}{i}{a}(h:b[i]?=C a):i<b.size:=(ş.1 h).1
def blt{w:E}{a}{v}(h:δ w a=C v):a.block<V w.heap:=Ü w a h
def uG(b)(first a)(w:E):(Instr.makeFunc b first a).run ε w=.ok (.func b first a) w:=rfl
open Go.RowKit in
def cr{w:E}{b o:Nat}{a:Array υ}{e:Ò}{c:Nat×Nat}{v:υ}(h:w.heap[b]?=C (γ a e c))(d:a[o]?=C v):δ w ⟨b,o,none⟩=C v:=(ä _ _ o _ _ _ h).trans d
open Go.RowKit
def F9{a b}(h:a=b):π (.bool a)=π (.bool b):=by rw[h]
def Y6(n:Nat)(w:E):μ ε 74 #[.int .u8 n] w λe a=>e=π (.bool<|fP n)/\a=w:=by
 go_in;go_wp2;all_goals go_ret
 all_goals exact⟨F9<|by grind[fP],K⟩
def JK(n:Nat)(w:E):μ ε 76 #[.int .u8 n] w λe a=>e=π (.bool<|iP n)/\a=w:=by
 go_in;go_wp2;all_goals go_ret
 all_goals exact⟨F9<|by grind[iP],K⟩
def Fp(n:Nat)(w:E):μ ε 73 #[.int .u8 n] w λe a=>e=π (.bool<|blank n)/\a=w:=by
 go_in;go_wp2;all_goals go_ret
 all_goals exact⟨F9<|by grind[blank],K⟩
def Gb(n:Nat)(w:E):μ ε 132 #[.int .u8 n] w λe a=>e=π (.bool<|iF n)/\a=w:=by
 go_in;go_wp2;all_goals go_ret
 all_goals exact⟨F9<|by grind[iF],K⟩
def VP(n:Nat)(w:E):μ ε 128 #[.int .u8 n] w λe a=>e=π (.bool<|fP n)/\a=w:=by
 go_in;go_wp2_with (go_at_call 74;refine(Y6 _ _).mono ?_;rintro e a ⟨rfl,rfl⟩);go_ret;exact⟨K,K⟩
def Dp(n:Nat)(w:E):μ ε 130 #[.int .u8 n] w λe a=>e=π (.bool<|iA n)/\a=w:=by
 cases h:iP n;all_goals
  go_in;go_wp2_with (first|(go_at_call 74;refine(Y6 _ _).mono ?_;rintro e a ⟨rfl,rfl⟩)|(go_at_call 76;refine(JK _ _).mono ?_;rintro e a ⟨rfl,rfl⟩));go_ret;exact⟨F9<|by grind[iA],K⟩
def M9{k}{a b}(h:a=b):π (.int k a)=π (.int k b):=by rw[h]
theorem bl(s:ByteArray):Q s.data.toList=s.size:=Ω
def Ń(s)(w:E)(d:s.size<=Δ):μ ε 72 #[ι s,.func (.func 73) #[] #[]] w λe a=>e=π (U<|sp blank s.data.toList)/\a=w:=by
 unfold Δ at d;go_in;go_wp2;go_loop [5] (λi=>∃k:Nat,k<=s.size/\i=U k/\k<=sp blank s.data.toList) (λi=>s.size-(intOf i).toNat);case atStart=>grind
 case round=>
  obtain⟨k,f,rfl,c⟩:=hrel;by_cases g:k<s.size
  .cases b:blank s[k].toNat
   .go_wp2_with (go_at_call 73;refine(Fp _ _).mono ?_;rintro e a ⟨rfl,rfl⟩);go_ret;exact⟨M9<|by rw[BM blank s.data.toList k ù c b],K⟩
   .go_wp2_with (go_at_call 73;refine(Fp _ _).mono ?_;rintro e a ⟨rfl,rfl⟩);go_round;case rel=>exact⟨k+1,W,ï,yA blank s.data.toList k ù c b⟩
    grind[intOf]
  .go_wp2;go_ret;exact⟨M9<|by grind[oX,blank,bl],K⟩
def Ň(s)(w:E)(d:s.size<=Δ):μ ε 72 #[ι s,.func (.func 128) #[] #[]] w λe a=>e=π (U<|sp fP s.data.toList)/\a=w:=by
 unfold Δ at d;go_in;go_wp2;go_loop [5] (λi=>∃k:Nat,k<=s.size/\i=U k/\k<=sp fP s.data.toList) (λi=>s.size-(intOf i).toNat);case atStart=>grind
 case round=>
  obtain⟨k,f,rfl,c⟩:=hrel;by_cases g:k<s.size
  .cases b:fP s[k].toNat
   .go_wp2_with (go_at_call 128;refine(VP _ _).mono ?_;rintro e a ⟨rfl,rfl⟩);go_ret;exact⟨M9<|by rw[BM fP s.data.toList k ù c b],K⟩
   .go_wp2_with (go_at_call 128;refine(VP _ _).mono ?_;rintro e a ⟨rfl,rfl⟩);go_round;case rel=>exact⟨k+1,W,ï,yA fP s.data.toList k ù c b⟩
    grind[intOf]
  .go_wp2;go_ret;exact⟨M9<|by grind[oX,fP,bl],K⟩
def Ō(s)(w:E)(d:s.size<=Δ):μ ε 72 #[ι s,.func (.func 130) #[] #[]] w λe a=>e=π (U<|sp iA s.data.toList)/\a=w:=by
 unfold Δ at d;go_in;go_wp2;go_loop [5] (λi=>∃k:Nat,k<=s.size/\i=U k/\k<=sp iA s.data.toList) (λi=>s.size-(intOf i).toNat);case atStart=>grind
 case round=>
  obtain⟨k,f,rfl,c⟩:=hrel;by_cases g:k<s.size
  .cases b:iA s[k].toNat
   .go_wp2_with (go_at_call 130;refine(Dp _ _).mono ?_;rintro e a ⟨rfl,rfl⟩);go_ret;exact⟨M9<|by rw[BM iA s.data.toList k ù c b],K⟩
   .go_wp2_with (go_at_call 130;refine(Dp _ _).mono ?_;rintro e a ⟨rfl,rfl⟩);go_round;case rel=>exact⟨k+1,W,ï,yA iA s.data.toList k ù c b⟩
    grind[intOf]
  .go_wp2;go_ret;exact⟨M9<|by grind[oX,iA,bl],K⟩
def Ő(s)(w:E)(d:s.size<=Δ):μ ε 72 #[ι s,.func (.func 132) #[] #[]] w λe a=>e=π (U<|sp iF s.data.toList)/\a=w:=by
 unfold Δ at d;go_in;go_wp2;go_loop [5] (λi=>∃k:Nat,k<=s.size/\i=U k/\k<=sp iF s.data.toList) (λi=>s.size-(intOf i).toNat);case atStart=>grind
 case round=>
  obtain⟨k,f,rfl,c⟩:=hrel;by_cases g:k<s.size
  .cases b:iF s[k].toNat
   .go_wp2_with (go_at_call 132;refine(Gb _ _).mono ?_;rintro e a ⟨rfl,rfl⟩);go_ret;exact⟨M9<|by rw[BM iF s.data.toList k ù c b],K⟩
   .go_wp2_with (go_at_call 132;refine(Gb _ _).mono ?_;rintro e a ⟨rfl,rfl⟩);go_round;case rel=>exact⟨k+1,W,ï,yA iF s.data.toList k ù c b⟩
    grind[intOf]
  .go_wp2;go_ret;exact⟨M9<|by grind[oX,iF,bl],K⟩
structure I(S:Nat->Prop)(w w':E):Prop where
 os:w'.os=w.os
 tape:w'.tape=w.tape
 output:w'.output=w.output
 size:V w.heap<=V w'.heap
 block:∀k,k<V w.heap->¬S k->w'.heap[k]?=w.heap[k]?
theorem I.refl(S)(w):I S w w:=⟨K,K,K,vQ _,λ_ _ _=>K⟩
theorem I.trans{S e}{a b c}(h:I S a b)(k:I e b c)(g:∀i,i<V a.heap->e i->S i):I S a c:=
 ⟨k.os.trans h.os,k.tape.trans h.tape,k.output.trans h.output,kQ h.size k.size,
  λi d f=>(k.block i (yQ d h.size) λx=>f<|g i d x).trans<|h.block i d f⟩
def I.mono{S S'}{a b}(h:I S a b)(e:∀i,i<V a.heap->S i->S' i):I S' a b:=
 ⟨h.os,h.tape,h.output,h.size,λi c d=>h.block i c λx=>d<|e i c x⟩
theorem I.alloc(S)(w)(o):I S w (w.alloc o):=⟨K,K,K,θ,λk a _=>Below.heap_alloc _ _ _ a⟩
theorem I.set(w)(a)(v):I (λk=>k=a.block) w (w.setCell a v):=
 ⟨K,K,K,θ,λk _ b=>Below.heap_setCell _ _ _ _ b⟩
def I.drewN(S)(w)(n):I S w (w.drewN n):=⟨K,K,K,vQ _,λ_ _ _=>K⟩
def I.grown{w b}{a}(h:w.grownBy b a):I (λk=>C k=a) w b:=⟨h.os,h.tape,h.output,h.size,λk c d=>h.block k c d⟩
def I.below{B}{w a:E}(h:Below B w a):I (λk=>B<=k) w a:=⟨h.os,h.tape,h.output,h.size,λk _ b=>h.block k W⟩
def I.ep{S}{B}{w a}(h:I S w a)(d:∀i,i<V w.heap->S i->B<=i)(b:B<=V w.heap):Below B w a:=
 ⟨h.os,h.tape,h.output,h.size,λk c=>h.block k W λx=>η⟩
theorem A3{S}{w c}{a}{e}{b}{v}{n}{d}(h:ρ w a e b v n d)(f:I S w c)
 (i:∀g,Θ v=C g->¬S g):ρ c a e b v n d:=by
 refine⟨h.1,?_⟩;obtain j|⟨g,cap,cur,rfl,hb,hg,r⟩:=h.2
 .grind
 .exact .inr ⟨g,cap,cur,K,hb,by rw[f.block g (ş.1 hg).1<|i g K];omega,r⟩
theorem A9{w:E}{a}{e}{c}{v}{n}{d}(h:ρ w a e c v n d):∀g,Θ v=C g->a<=g/\∃b,w.heap[g]?=C (γ b e (0,0)):=by
 intro g k;obtain⟨rfl,_⟩|⟨i,f,b,rfl,j,l,_⟩:=h.2<;>grind[Θ,zQ]
def C7{w:E}{a b}{e}{d}{v}{n}{f}(h:ρ w a e d v n f)(j:b<=a):ρ w b e d v n f:=by
 obtain⟨i,c⟩:=h;refine⟨i,?_⟩;obtain c|⟨g,cap,cur,hv,hg,r⟩:=c
 .grind
 .exact .inr ⟨g,cap,cur,hv,kQ j hg,r⟩
theorem B8{w:E}{b}{e}{d}{v}{n}{f}(h:ρ w b e d v n f):∃a c,v=Y a n c:=by
 obtain⟨rfl,rfl⟩|⟨g,i,j,k,_⟩:=h.2<;>grind
def VS{w:E}{c}{e}{a}{v}{n}{b}(h:ρ w c e a v n b):Q b=n*a:=h.1
theorem D5{w:E}{b}{e}{r}{a}{c n}{i}(h:ρ w b e r (Y a n c) n i)(x:0<n):
 ∃g,a=C ⟨g,0,none⟩/\b<=g/\g<V w.heap/\n<=c/\c<=Δ/\∀j u,i[j]?=C u->δ w ⟨g,j,none⟩=C u:=by
 have l:=λg d=>h.cells (g:=g) d;have o:=h.lt;obtain⟨_,v⟩|⟨g,s,t,f,k,d,q,p,_⟩:=h.2
 .omega
 .simp at f;obtain⟨rfl,_,rfl⟩:=f;refine⟨g,K,k,(o g K).2,q,p,λj u m=>?_⟩;have:=l g K j u m;grind[Addr.add]
/-!### Rows of structs -/
def eN{c:Type}(R:c->List υ->Prop):List c->List υ->Prop
 |[],b=>b=[]
 |a::l,b=>∃h t,b=h++t/\R a h/\eN R l t
theorem eN.snoc{f}{R}:∀{l} {c} {a:f} {h},eN R l c->R a h->eN R (l++[a]) (c++h)
 |[],c,a,h,e,d=>by
  have:=e;subst this;exact⟨h,[],θ,d,K⟩
 |b::l,c,a,h,e,d=>by
  obtain⟨g,t,rfl,i,j⟩:=e;exact⟨g,t++h,θ,i,eN.snoc j d⟩
def eN.imp{f}{R c}(d:∀a h,R a h->c a h):∀{l:List f} {e},eN R l e->eN c l e
 |[],_,b=>b
 |_::_,_,b=>by
  obtain⟨g,t,j,i,k⟩:=b;exact⟨g,t,j,d _ _ i,eN.imp d k⟩
def eN.take{f}{R}{z}(e:∀a h,R a h->Q h=z):∀{l:List f} {b} (k),eN R l b->eN R (l.take k) (b.take<|k*z)
 |[],b,k,c=>by
  grind[eN]
 |a::l,b,0,c=>by simp[eN]
 |a::l,b,k+1,c=>by
  obtain⟨g,t,rfl,d,i⟩:=c;refine⟨g,t.take<|k*z,?_,d,eN.take e k i⟩;have:=e _ _ d;rw[List.take_append,List.take_of_length_le<|by rw[this];simp[Nat.add_mul],this];congr 2;simp[Nat.add_mul]
theorem eN.at{f}{R}{z}(m:∀a h,R a h->Q h=z):∀{l:List f} {b} (k) (d),eN R l b->∃h,R l[k] h/\∀j,j<z->b[k*z+j]?=h[j]?
 |[],_,k,d,_=>η
 |a::l,b,0,_,c=>by
  obtain⟨g,t,rfl,i,e⟩:=c;grind
 |a::l,b,k+1,d,c=>by
  obtain⟨g,t,rfl,i,e⟩:=c;obtain⟨h,o,n⟩:=eN.at m k η e;grind
def O0(f:bZ×Int):List υ:=[ι ⟨ξ f.1⟩,.int χ f.2]
def I0(l:List<|bZ×Int):List υ:=l.flatMap O0
def C8(l:uZ):List υ:=l.map<|.int χ
def yD(t:Tk):List υ:=[.int χ t.x,ι ⟨ξ t.text⟩,.int χ t.at']
def rows(L:List Tk):List υ:=L.flatMap yD
theorem Qm(L)(t):rows (L++[t])=rows L++yD t:=by simp[rows]
theorem PD(L)(t):I0 (L++[t])=I0 L++O0 t:=by simp[I0]
theorem T4(L)(t):C8 (L++[t])=C8 L++[.int χ t]:=by simp[C8]
def eI(w:E)(c:Nat->Prop)(t:Ty)(d:List υ):Prop:=
 ∃a b,d=[.int χ t.x,a,b,.int χ t.fh]/\ρ w 0 139 2 a (Q t.eo) (I0 t.eo)/\ρ w 0 3 1 b (Q t.M) (C8 t.M)/\
  (∀g,Θ a=C g->c g)/\(∀g,Θ b=C g->c g)
def gE(w:E)(b:Nat->Prop)(n:Nd)(c:List υ):Prop:=
 ∃a,c=[.int χ n.x,.int χ n.a,.int χ n.b,.int χ n.c,a,ι ⟨ξ n.text⟩,.int χ n.n,.int χ n.ty,.int χ n.at']/\ρ w 0 3 1 a (Q n.M) (C8 n.M)/\
  (∀g,Θ a=C g->b g)
theorem eI.len{w}{b}{t}{a}(h:eI w b t a):Q a=4:=by obtain⟨_,_,rfl,_⟩:=h;rfl
theorem gE.len{w}{b}{t}{a}(h:gE w b t a):Q a=9:=by obtain⟨_,rfl,_⟩:=h;rfl
def tag(w:E)(k:Nat):Prop:=∃a e b,w.heap[k]?=C (γ a e b)/\(e=78\/e=82\/e=99)
def Kept(B:Nat)(a:Nat->Prop)(w b:E):Prop:=I (λk=>B<=k/\tag w k/\a k) w b
theorem Kept.refl(B)(a)(w):Kept B a w w:=I.refl _ _
def Kept.mono{B}{a ok'}{w b}(h:Kept B a w b)(c:∀g,a g->ok' g):Kept B ok' w b:=I.mono h λ_ _ x=>⟨x.1,x.2.1,c _ x.2.2⟩
theorem Kept.trans{B}{d}{a b c}(h:Kept B d a b)(k:Kept B d b c):Kept B d a c:=by
 refine⟨k.os.trans h.os,k.tape.trans h.tape,k.output.trans h.output,kQ h.size k.size,λi f g=>?_⟩;have m:=h.block i f g;refine(k.block i (yQ f h.size) λx=>g ⟨x.1,?_,x.2.2⟩).trans m;obtain⟨j,e,l,n,r⟩:=x.2.1;exact⟨j,e,l,η,r⟩
def Kept.trans'{B}{d}{S}{a b c}(h:Kept B d a b)(k:I S b c)(f:∀i,i<V a.heap->¬S i):Kept B d a c:=I.trans h k λi e x=>(f i e x).elim
theorem Kept.alloc{B}{c}{a b}(h:Kept B c a b)(o):Kept B c a (b.alloc o):=h.trans<|I.alloc _ _ _
def Kept.below{B}{c}{w a}(h:Kept B c w a)(b:B<=V w.heap):Below B w a:=I.ep h (λ_ _ x=>x.1) b
def G9{B}{k}{w c}{a}{e}{b}{v}{n}{d}(h:ρ w a e b v n d)(f:Kept B k w c)
 (q:e≠78/\e≠82/\e≠99):ρ c a e b v n d:=by
 refine A3 h f λg i j=>?_;obtain⟨_,m,s⟩:=A9 h g i;obtain⟨l,o,p,t,r⟩:=j.2.1;grind
theorem eI.P{S}{w w'}{f ok'}(i:I S w w')(q:∀g,f g->g<V w.heap->S g->(∃b e,w.heap[g]?=C (γ b e (0,0))/\(e=139\/e=3))->False)(j:∀g,f g->g<V w.heap->ok' g)(t)(k)(h:eI w f t k):eI w' ok' t k:=by
 obtain⟨l,p,rfl,c,d,m,n⟩:=h;refine⟨l,p,K,A3 c i λg a x=>?_,A3 d i λg a x=>?_,λg a=>j g (m g a) (c.lt g a).2,λg a=>j g (n g a) (d.lt g a).2⟩
 .obtain⟨_,b,o⟩:=A9 c g a;grind
 .obtain⟨_,b,o⟩:=A9 d g a;grind
theorem gE.P{S}{w w'}{c ok'}(j:I S w w')(n:∀g,c g->g<V w.heap->S g->(∃d e,w.heap[g]?=C (γ d e (0,0))/\(e=139\/e=3))->False)(k:∀g,c g->g<V w.heap->ok' g)(t)(f)(h:gE w c t f):gE w' ok' t f:=by
 obtain⟨l,rfl,b,i⟩:=h;refine⟨l,K,A3 b j λg a x=>?_,λg a=>k g (i g a) (b.lt g a).2⟩;obtain⟨_,d,m⟩:=A9 b g a;grind
structure cY(L:List Tk):Prop where
 jq:Q L<=1001
 last:∀i,i<Q L->((tk L i).x=6↔i+1=Q L)
structure dR(w:E)(B pb:Nat)(tv:υ)(L:List Tk)(ok:Nat->Prop)(d:Nat)(s:St):Prop where
 low:B<=pb
 at':s.i<Q L
 fq:Q s.N<=s.i+1/\Q s.T<=s.i
 kz:ρ w 0 106 3 tv (Q L)<|rows L
 sd:ok pb/\(∀v g,δ w ⟨pb,3,none⟩=C v->Θ v=C g->ok g)/\∀v g,δ w ⟨pb,4,none⟩=C v->Θ v=C g->ok g
 blk:∃nv yv nx yx,w.heap[pb]?=C (γ #[tv,.int χ (s.i:Int),.int χ (d:Int),nv,yv] 78 (0,0))/\ρ w B 82 9 nv (Q s.N) nx/\ρ w B 99 4 yv (Q s.T) yx/\
  eN (gE w ok) s.N nx/\eN (eI w ok) s.T yx
structure aH(w:E)(B pb:Nat)(tv:υ)(L:List Tk)(ok:Nat->Prop)(d:Nat)(s:St):Prop where
 low:B<=pb
 at':s.i<Q L
 fq:Q s.N<=s.i/\Q s.T<=s.i
 kz:ρ w 0 106 3 tv (Q L)<|rows L
 sd:ok pb/\(∀v g,δ w ⟨pb,3,none⟩=C v->Θ v=C g->ok g)/\∀v g,δ w ⟨pb,4,none⟩=C v->Θ v=C g->ok g
 blk:∃nv yv nx yx,w.heap[pb]?=C (γ #[tv,.int χ (s.i:Int),.int χ (d:Int),nv,yv] 78 (0,0))/\ρ w B 82 9 nv (Q s.N) nx/\ρ w B 99 4 yv (Q s.T) yx/\
  eN (gE w ok) s.N nx/\eN (eI w ok) s.T yx
def dR.ph{w}{B b}{c}{L}{a}{d}{s}(h:dR w B b c L a d s)(e:Q s.N<=s.i):aH w B b c L a d s:=⟨h.low,h.at',⟨e,h.fq.2⟩,h.kz,h.sd,h.blk⟩
theorem aH.l{w}{B b}{c}{L}{a}{d}{s}(h:aH w B b c L a d s):dR w B b c L a d s:=⟨h.low,h.at',⟨Nat.le_succ_of_le h.fq.1,h.fq.2⟩,h.kz,h.sd,h.blk⟩
theorem dR.P{S}{w w'}{B b}{r}{L}{n ok'}{d}{s}(h:dR w B b r L n d s)(f:I S w w')
 (D:∀k c e,w.heap[k]?=C (γ c e (0,0))->S k->e≠78/\e≠82/\e≠99/\Θ r≠C k/\((e=139\/e=3)->¬n k))
 (i:∀g,n g->g<V w.heap->ok' g):dR w' B b r L ok' d s:=by
 obtain⟨M,N,P,y,o,G,H,nx,yx,l,p,q,Z,a2⟩:=h;have A:=(ş.1 l).1;have F:∀g,n g->g<V w.heap->S g->(∃c e,w.heap[g]?=C (γ c e (0,0))/\(e=139\/e=3))->False:=by
  rintro g a _ hx ⟨c,e,m,R⟩;exact(D g c e m hx).2.2.2.2 R a
 have z:=f.block b A λx=>(D b _ _ l x).1 K;have T:ok' b/\(∀v g,δ w' ⟨b,3,none⟩=C v->Θ v=C g->ok' g)/\∀v g,δ w' ⟨b,4,none⟩=C v->Θ v=C g->ok' g:=by
  have t:δ w ⟨b,3,none⟩=C G:=by rw[ä w b 3 _ _ _ l];rfl
  have u:δ w ⟨b,4,none⟩=C H:=by rw[ä w b 4 _ _ _ l];rfl
  refine⟨i _ o.1 A,λv g j a=>?_,λv g j a=>?_⟩
  .rw[Ë z,t]at j;cases j;exact i g (o.2.1 _ g t a) (p.lt g a).2
  .rw[Ë z,u]at j;cases j;exact i g (o.2.2 _ g u a) (q.lt g a).2
 refine⟨M,N,P,A3 y f λg a x=>?_,T,G,H,nx,yx,?_,A3 p f λg a x=>?_,A3 q f λg a x=>?_,Z.imp<|gE.P f F i,a2.imp<|eI.P f F i⟩
 .obtain⟨_,c,m⟩:=A9 y g a;grind
 .grind
 .obtain⟨_,c,m⟩:=A9 p g a;grind
 .obtain⟨_,c,m⟩:=A9 q g a;grind
theorem dR.y{w c}{B b}{tv}{L:List Tk}{a:Nat->Prop}{d}{s}(h:dR w B b tv L a d s)(e:I (λ_=>False) w c):dR c B b tv L a d s:=
 h.P e (λ_ _ _ _ x=>x.elim) λ_ x _=>x
def dR.f7{w}{B c}{a}{L}{b}{d}{s}(h:dR w B c a L b d s){q o}{f}{e}{g}(v)(n:w.heap[q]?=C (γ f e g))(r:Θ a≠C q)
 (l:e≠78/\e≠82/\e≠99/\e≠139/\e≠3):dR (w.setCell ⟨q,o,none⟩ v) B c a L b d s:=by
 refine h.P (I.set w ⟨q,o,none⟩ v) (λk i j m p=>?_) λ_ x _=>x;grind
theorem aH.P{S}{w w'}{B c}{b}{L}{a ok'}{d}{s}(h:aH w B c b L a d s)(i:I S w w')
 (l:∀k f e,w.heap[k]?=C (γ f e (0,0))->S k->e≠78/\e≠82/\e≠99/\Θ b≠C k/\((e=139\/e=3)->¬a k))
 (j:∀g,a g->g<V w.heap->ok' g):aH w' B c b L ok' d s:=
 (h.l.P i l j).ph h.fq.1
theorem aH.y{w c}{B b}{tv}{L:List Tk}{a:Nat->Prop}{d}{s}(h:aH w B b tv L a d s)(e:I (λ_=>False) w c):aH c B b tv L a d s:=
 h.P e (λ_ _ _ _ x=>x.elim) λ_ x _=>x
theorem aH.alloc{w}{B b}{c}{L}{a}{d}{s}(h:aH w B b c L a d s)(o):aH (w.alloc o) B b c L a d s:=h.y<|I.alloc _ _ _
def aH.mono{w}{B b}{c}{L}{a ok'}{d}{s}(h:aH w B b c L a d s)(e:∀g,a g->g<V w.heap->ok' g):aH w B b c L ok' d s:=
 h.P (I.refl (λ_=>False) _) (λ_ _ _ _ x=>x.elim) e
def C9{B}{ok:Nat->Prop}{w a}(h:I (λ_=>False) w a):Kept B ok w a:=h.mono λ_ _ x=>x.elim
def aH.store{w}{B a}{l}{L}{z}{d}{s}(h:aH w B a l L z d s)(o)(v)(k r:Nat)(T:k<Q L)(hf:s.i<=k)
 (hv:∀c f,(#[l,.int χ (s.i:Int),.int χ (d:Int),c,f]).setIfInBounds o v=#[l,.int χ k,.int χ r,c,f]):
 aH (w.setCell ⟨a,o,none⟩ v) B a l L z r ⟨k,s.N,s.T⟩:=by
 obtain⟨S,h2,h3,D,F,c,f,nx,yx,i,G,H,a2,a3⟩:=h;have j:=I.set w ⟨a,o,none⟩ v;have y:∀{A:Nat} {e:Ò} {N:Nat} {v:υ} {n:Nat} {P:List υ},ρ w A e N v n P->e≠78->∀g,Θ v=C g->¬g=a:=by
  intro A e N v n P Z u g m hx;subst hx;obtain⟨_,q,b⟩:=A9 Z g m;rw[i]at b;simp only[zQ,xW]at b;exact u b.2.1.symm
 have M:∀g,z g->g<V w.heap->g=a->(∃q e,w.heap[g]?=C (γ q e (0,0))/\(e=139\/e=3))->False:=by
  rintro g _ _ rfl ⟨q,e,b,u⟩;rw[i]at b;simp at b;obtain rfl|rfl:=u
  .grind
  .grind
 have t:(w.setCell ⟨a,o,none⟩ v).heap[a]?=C (γ #[l,.int χ k,.int χ r,c,f] 78 (0,0)):=by rw[ð w a o _ _ v i,hv]
 refine⟨S,T,⟨η,η⟩,A3 D j<|y D ζ,?_,c,f,nx,yx,t,A3 G j<|y G ζ,A3 H j<|y H ζ,a2.imp<|gE.P j M λ_ x _=>x,a3.imp<|eI.P j M λ_ x _=>x⟩;have c3:δ w ⟨a,3,none⟩=C c:=by rw[ä w a 3 _ _ _ i];rfl
 have R:δ w ⟨a,4,none⟩=C f:=by rw[ä w a 4 _ _ _ i];rfl
 refine⟨F.1,λa4 g p m=>?_,λa4 g p m=>?_⟩
 .rw[ä _ a 3 _ _ _ t]at p;grind
 .rw[ä _ a 4 _ _ _ t]at p;cases p;exact F.2.2 _ g R m
def aH.next{w}{B a}{c}{L}{b}{d}{s}(h:aH w B a c L b d s)(e:s.i+1<Q L):aH (w.setCell ⟨a,1,none⟩<|.int χ<|s.i+1) B a c L b d s.nx:=
 h.store 1 _ (s.i+1) d e W (λ_ _=>θ)
def aH.lh{w}{B b}{e}{L}{c}{d}{s}(h:aH w B b e L c d s)(a:Nat):aH (w.setCell ⟨b,2,none⟩<|.int χ a) B b e L c a s:=
 h.store 2 _ s.i a h.at' W (λ_ _=>θ)
def aH.kq{w}{B e}{a}{L}{c}{d}{s}(h:aH w B e a L c d s){k}(f:V w.heap<=k):Θ a≠C k:=by
 intro b;have:=(h.kz.lt k b).2;omega
def aH.f7{w}{B c}{a}{L}{b}{d}{s}(h:aH w B c a L b d s){q o}{f}{e}{g}(v)(j:w.heap[q]?=C (γ f e g))(k:Θ a≠C q)
 (i:e≠78/\e≠82/\e≠99/\e≠139/\e≠3):aH (w.setCell ⟨q,o,none⟩ v) B c a L b d s:=
 (h.l.f7 v j k i).ph h.fq.1
def Kept.f7{B}{c}{a b}(h:Kept B c a b){q o}(v)(e:V a.heap<=q):Kept B c a (b.setCell ⟨q,o,none⟩ v):=
 h.trans' (I.set b ⟨q,o,none⟩ v) (λk d f=>η)
def aH.tagged{w}{B a}{e}{L}{b}{d}{s}(h:aH w B a e L b d s):B<=a/\tag w a/\b a:=by
 obtain⟨f,i,g,j,c,_⟩:=h.blk;exact⟨h.low,⟨_,_,_,c,.inl K⟩,h.sd.1⟩
def aH.ju{w}{B a}{f}{L}{b}{d}{s}(h:aH w B a f L b d s)(o)(v):Kept B b w (w.setCell ⟨a,o,none⟩ v):=
 (I.set w ⟨a,o,none⟩ v).mono λk _ c=>by have e:=c;subst e;exact h.tagged
theorem aH.cell{w}{B a}{i}{L}{q}{d}{s}(h:aH w B a i L q d s):
 ∃g c b e,i=Y (C ⟨g,0,none⟩) (Q L) c/\Q L<=c/\c<=Δ/\g<V w.heap/\a<V w.heap/\δ w ⟨a,0,none⟩=C (Y (C ⟨g,0,none⟩) (Q L) c)/\δ w ⟨a,1,none⟩=C (.int χ s.i)/\δ w ⟨a,2,none⟩=C (.int χ d)/\
  δ w ⟨a,3,none⟩=C b/\δ w ⟨a,4,none⟩=C e/\(∀o,w.frozen? ⟨a,o,none⟩=κ)/\∀j u,(rows L)[j]?=C u->δ w ⟨g,j,none⟩=C u:=by
 obtain⟨r,c,rfl⟩:=B8 h.kz;obtain⟨g,rfl,_,n,k,l,m⟩:=D5 h.kz (by have:=h.at';omega);obtain⟨b,e,v,x,f,_⟩:=h.blk;have p:=(ş.1 f).1;have t:=λo=>ä w a o _ _ _ f;refine⟨g,c,b,e,K,k,l,n,p,η,η,η,η,η,λo=>?_,m⟩;grind[World.frozen?]
def KI:∀(L) (k) (h) (j),j<3->(rows L)[3*k+j]?=(yD L[k])[j]?
 |[],k,h,_,_=>η
 |t::r,0,_,j,a=>by
  grind[rows,yD]
 |t::r,k+1,h,j,a=>by
  simp only[rows,List.flatMap_cons,List.getElem_cons_succ];rw[List.getElem?_append_right<|by grind[yD]];have:=KI r k η j a;rw[<-this];grind[yD,rows]
def WN{w:E}{g}{L}{k}(h:k<Q L)(a:∀j u,(rows L)[j]?=C u->δ w ⟨g,j,none⟩=C u):
 δ w ⟨g,k*3,none⟩=C (.int χ (tk L k).x)/\δ w ⟨g,k*3+1,none⟩=C (ι ⟨ξ (tk L k).text⟩)/\δ w ⟨g,k*3+2,none⟩=C (.int χ<|(tk L k).at'):=by
 have e:tk L k=L[k]:=by simp[tk,List.getD,h]
 rw[Nat.mul_comm k 3,e];exact⟨a _ _<|KI L k h 0 W,a _ _<|KI L k h 1 W,a _ _<|KI L k h 2 W⟩
def jK(t:Tk):υ:=.agg #[.int χ t.x,ι ⟨ξ t.text⟩,.int χ t.at']
def O{p}(h:p):Hid p:=h
def gu(a p:Int):ò:=.panicked [{v:=.iface 147<|.agg #[.int χ a,.int χ p],recovered:=κ}]
def Z7(a b c)(w:E):(Instr.field 106 (.agg #[a,b,c]) 0).run ε w=.ok a w:=î
def xB(a b c)(w:E):(Instr.field 106 (.agg #[a,b,c]) 1).run ε w=.ok b w:=î
def Hp(a b c)(w:E):(Instr.field 106 (.agg #[a,b,c]) 2).run ε w=.ok c w:=î
section
variable{w:E}{B a:Nat}{tv:υ}{L:List Tk}{b:Nat->Prop}{d:Nat}{s:St}
def W6(k:cY L)(h:aH w B a tv L b d s):
 μ ε 81 #[Γ<|C ⟨a,0,none⟩] w λe r=>e=π (jK<|tk L s.i)/\I (λ_=>False) w r:=by
 obtain⟨g,c,M,N,rfl,D,l,F,G,y,z,_,_,_,A,f⟩:=h.cell;have m:=h.at';have H:=k.jq;obtain⟨t,u,v⟩:=WN m f;clear h f;generalize tk L s.i=p at*;obtain⟨n,q,o⟩:=p;simp only[jK]at t u v⊢;generalize (⟨ξ q⟩:ByteArray)=j at*;generalize s.i=i at*;unfold Δ at l;go_in;go_wp2;go_region;go_wp2;exact ç (v:=.agg #[.int χ n,ι j,.int χ o]) (by simp[ã,results81,go_sem]) K ⟨K,(I.alloc _ _ _).trans (I.drewN _ _ 1) Ξ⟩
def xP(c:cY L)(h:aH w B a tv L b d s):
 μ ε 83 #[Γ<|C ⟨a,0,none⟩] w λe i=>e=π (.int χ ((tk L s.i).at':Int))/\I (λ_=>False) w i:=by
 have H:=W6 c h;have j:=Z7;have k:=Hp;generalize tk L s.i=g at*;obtain⟨l,n,m⟩:=g;simp only[jK]at H⊢;clear h c;go_in;go_wp2_with fail;refine H.mono ?_;clear H;rintro e o ⟨rfl,f⟩;go_wp2;go_ret;exact⟨K,f⟩
def B9d(c:cY L)(h:aH w B a tv L b d s):
 μ ε 42 #[Γ<|C ⟨a,0,none⟩] w λe i=>e=π (.bool<|decide<|(tk L s.i).x=6)/\I (λ_=>False) w i:=by
 have H:=W6 c h;have j:=Z7;have k:=Hp;generalize tk L s.i=g at*;obtain⟨l,n,m⟩:=g;simp only[jK]at H⊢;clear h c;go_in;go_wp2_with fail;refine H.mono ?_;clear H;rintro e o ⟨rfl,f⟩;go_wp2;go_ret;exact⟨F9 Ω,f⟩
def zM(w:E)(c p):μ ε 82 #[.int χ c,.int χ p] w λe f=>e=gu c p/\I (λ_=>False) w f:=by
 go_in;go_wp2;exact⟨K,K,I.refl _ _⟩
def vP(f:cY L)(h:aH w B a tv L b d s)(c):
 μ ε 43 #[Γ<|C ⟨a,0,none⟩,.int χ c] w λe j=>e=gu c ((tk L s.i).at':Int)/\I (λ_=>False) w j:=by
 go_in;go_wp2_with fail;refine(xP f h).mono ?_;rintro e k ⟨rfl,g⟩;go_wp2_with fail;refine(zM _ _ _).mono ?_;rintro e l ⟨rfl,i⟩;exact⟨K,K,g.trans i Ξ⟩
def wx{S}{w wr:E}{c}{t}(h:I S (ω w<|γ c t) wr)(f:¬S (V w.heap)):
 (∀o v,c[o]?=C v->wr.cell? ⟨V w.heap,o,none⟩=C v)/\(∀o,wr.frozen? ⟨V w.heap,o,none⟩=κ)/\V w.heap<wr.heap.size:=by
 have e:=h.block (V w.heap) θ f;refine⟨λo v g=>?_,λo=>?_,?_⟩
 .rw[Ë (a:=⟨V w.heap,o,none⟩) e,World.cell?_alloc_new,g]
 .rw[World.frozen?_of_block (a:=⟨V w.heap,o,none⟩) e];simp
 .have:=h.size;simp at this;omega
def Strs(w:E)(c:Nat)(e:List bZ):Prop:=c<V w.heap/\∀j (h),δ w ⟨c,j,none⟩=C (ι ⟨ξ e[j]⟩)
theorem Strs.y{w g}{c}{f:List bZ}(h:Strs w c f)(e:I (λ_=>False) w g):Strs g c f:=
 ⟨yQ h.1 e.size,λj i=>by rw[Ë<|e.block c h.1 λx=>x];exact h.2 j i⟩
def A3d(w)(j c)(f)(t)(h:Strs w j f)(A:Q f<=4000):
 μ ε 187 #[Y (C ⟨j,0,none⟩) (Q f) c,ι ⟨ξ t⟩] w λe u=>(∃k,e=π (.int χ k)/\decide (0<=k)=has f t)/\u=w:=by
 obtain⟨y,l⟩:=h;go_in;go_wp2;go_loop [8] (λi=>∃k:Nat,k<=Q f/\i=.int χ k/\Hid (has (f.take k) t=κ)) (λi=>Q f-(intOf i).toNat);case atStart=>exact⟨0,wQ _,K,Ω⟩
 case round=>
  obtain⟨k,z,rfl,o⟩:=hrel;by_cases m:k<Q f
  .have p:=l k m;have q:Hid (has (f.take<|k+1) t=(has (f.take k) t||t==f[k])):=Xn _ _ _ m;have g:Hid (∀x,x=f[k]->x∈f):=λx p=>p ▸ mQ _;generalize r:f[k]=x at*;have v:=g.u x K;clear l g r;by_cases n:x=t
   .subst n;go_wp2;go_ret;exact⟨⟨_,K,by grind[Ju]⟩,K⟩
   .have D:(t==x)=κ:=by simp[Ne.symm n]
    go_wp2;go_round;case rel=>exact⟨k+1,W,ï,by show _=_;rw[q.u,o.u];grind⟩
    grind[intOf]
  .go_wp2;go_ret;exact⟨⟨_,K,by have:=o.u;grind⟩,K⟩
def XV(w)(g c)(f)(t)(h:Strs w g f)(i:Q f<=4000):
 μ ε 121 #[Y (C ⟨g,0,none⟩) (Q f) c,ι ⟨ξ t⟩] w λe j=>e=π (.bool<|has f t)/\j=w:=by
 have H:=A3d w g c f t h i;generalize has f t=r at*;go_in;go_wp2_with fail;refine H.mono ?_;clear H;rintro e m ⟨⟨k,rfl,l⟩,rfl⟩;go_wp2;all_goals go_ret
 all_goals exact⟨F9 Ω,K⟩
def sY(n:cY L)(h:aH w B a tv L b d s)(k c)(f:List bZ)(p:Strs w k f)(v:Q f<=4000):
 μ ε 63 #[Γ<|C ⟨a,0,none⟩,Y (C ⟨k,0,none⟩) (Q f) c] w λe z=>e=π (.bool<|aL L s.i f)/\I (λ_=>False) w z:=by
 have H:=W6 n h;have G:=Z7;have M:=xB;unfold aL;generalize tk L s.i=y at*;obtain⟨j,q,N⟩:=y;simp only[jK]at H⊢;have i:=λt u=>XV t k c f q (p.y u) v;generalize has f q=r at*;clear h n p;go_in;go_wp2_with fail;refine H.mono ?_;clear H;rintro e t ⟨rfl,o⟩;have g:=O o;clear o;by_cases m:j=5
 .subst m;go_wp2_with fail;refine(i _<|g.u.trans (I.alloc (λ_=>False) _ _) Ξ).mono ?_;clear i;rintro e A ⟨rfl,rfl⟩;go_wp2;go_ret;exact⟨F9 θ,g.u.trans (I.alloc (λ_=>False) _ _) Ξ⟩
 .by_cases l:j=2
  .subst l;go_wp2_with fail;refine(i _<|g.u.trans (I.alloc (λ_=>False) _ _) Ξ).mono ?_;clear i;rintro e A ⟨rfl,rfl⟩;go_wp2;go_ret;exact⟨F9 θ,g.u.trans (I.alloc (λ_=>False) _ _) Ξ⟩
  .have F:(j==5)=κ:=by simp[m]
   have D:(j==2)=κ:=by simp[l]
   go_wp2_with fail;go_ret;exact⟨F9 η,g.u.trans (I.alloc (λ_=>False) _ _) Ξ⟩
def cY.mark(c:cY L){i}{f}(e:i<Q L)(h:aL L i f=τ):i+1<Q L:=by
 have g:=(c.last i e).2;grind[aL]
def ī(w:E)(m)(t):Strs (ω w<|γ #[ι ⟨ξ m⟩] t) (V w.heap) [m]:=by
 refine⟨θ,λj c=>?_⟩;grind[World.cell?_alloc_new]
def H7(i:cY L)(h:aH w B a tv L b d s)(m):
 μ ε 123 #[Γ<|C ⟨a,0,none⟩,ι ⟨ξ m⟩] w λe l=>e=π (.bool<|aL L s.i [m])/\Kept B b w l/\aH l B a tv L b d (if aL L s.i [m] then s.nx else s):=by
 have H:μ ε 63 #[Γ<|C ⟨a,0,none⟩,Y (C ⟨V w.heap,0,none⟩) 1 1] (ω w<|γ #[ι ⟨ξ m⟩] 9) _:=sY i (h.alloc _) (V w.heap) 1 [m] (ī w m _) θ;have n:=O λo:aL L s.i [m]=τ=>i.mark h.at' o;have t:=h.at';have v:=i.jq;generalize aL L s.i [m]=r at*;go_in;go_wp2_with fail;refine H.mono ?_;clear H;rintro e y ⟨rfl,j⟩;have f:=O<|(h.alloc _).y j;have k:=O<|((Kept.refl B b w).alloc _).trans<|C9 j;clear j h;cases r
 .go_wp2;go_ret;exact⟨K,k.u,f.u⟩
 .obtain⟨g,c,x,z,-,-,-,-,u,-,p,-,-,-,q,-⟩:=f.u.cell;go_wp2;go_ret;exact⟨K,k.u.trans<|f.u.ju _ _,f.u.next<|n.u trivial⟩
def I7(c:cY L)(h:aH w B a tv L b d s)(m):
 μ ε 189 #[Γ<|C ⟨a,0,none⟩,ι ⟨ξ m⟩] w λe i=>Kept B b w i/\
  (aL L s.i [m]=τ/\e=π (.tuple #[])/\aH i B a tv L b d s.nx\/aL L s.i [m]=κ/\e=gu 1 ((tk L s.i).at')):=by
 have H:=H7 c h m;have k:=λj (o:aH j B a tv L b d s)=>vP c o 1;generalize aL L s.i [m]=r at*;generalize ((tk L s.i).at':Int)=p at*;go_in;go_wp2_with fail;refine H.mono ?_;clear H h;rintro e j ⟨rfl,f,g⟩;cases r
 .have l:=O f;have n:=O g;clear f g;go_wp2_with fail;refine(k _<|by simpa using n.u).mono ?_;rintro e t ⟨rfl,q⟩;exact⟨K,l.u.trans<|C9 q,.inr ⟨K,K⟩⟩
 .go_wp2;go_end0;grind
def DL(k:cY L)(h:aH w B a tv L b d s)(D:(tk L s.i).x≠6):
 μ ε 250 #[Γ<|C ⟨a,0,none⟩] w λe q=>e=π (jK<|tk L s.i)/\Kept B b w q/\aH q B a tv L b d s.nx:=by
 have F:s.i+1<Q L:=by
  have n:=k.last s.i h.at';have h2:=h.at';omega
 have H:=λr (n:aH r B a tv L b d s)=>W6 k n;have a6:=k.jq;clear D;generalize tk L s.i=R at*;obtain⟨o,S,p⟩:=R;simp only[jK]at H⊢;generalize (⟨S.toArray⟩:ByteArray)=m at*;go_in;go_wp2_with fail;refine(H _<|h.alloc _).mono ?_;clear H;rintro e r ⟨rfl,f⟩;have i:=O<|(h.alloc _).y f;have t:=O<|((Kept.refl B b w).alloc _).trans<|C9 f;obtain⟨g,qf,G⟩:=wx f λx=>x;have M:=g 0 _ K;have N:=g 1 _ K;have P:=g 2 _ K;obtain⟨-,-,-,-,-,-,-,-,a5,-⟩:=h.cell;have u:=O ((f.block (V w.heap) θ λx=>x).trans<|rY w _);have j:=O<|h.kq<|vQ _;clear f h g;obtain⟨a2,c,nv,yv,-,-,-,-,a3,-,T,-,-,-,Z,-⟩:=i.u.cell;go_wp2_with fail;have l:=u.u;have a4:a≠V w.heap:=W;have v:=i.u.next F;have y:=v.f7 (q:=V w.heap) (o:=0) (.int χ o) (by rw[heap_setCell_other _ _ _ _ η];exact l) j.u ζ;have z:=y.f7 (q:=V w.heap) (o:=1) (.string m) (ð _ _ _ _ _ _<|by rw[heap_setCell_other _ _ _ _ η];exact l) j.u ζ;have A:=z.f7 (q:=V w.heap) (o:=2) (.int χ p) (ð _ _ _ _ _ _<|ð _ _ _ _ _ _<|by rw[heap_setCell_other _ _ _ _ η];exact l) j.u ζ;exact ç (v:=.agg #[.int χ o,ι m,.int χ p]) (by simp[ã,results250,go_sem,M,N,P,G]) K
  ⟨K,((((t.u.trans<|i.u.ju _ _).f7 _<|vQ _).f7 _<|vQ _).f7 _<|vQ _).alloc _,A.alloc _⟩
end
def Tryz.mf:(prog.info? 99).map (λi=>(i.zero,i.size,i.bytes))=C (C<|.agg #[U 0,sN,sN,U 0],4,64):=î
section
variable{w:E}{B a:Nat}{c:υ}{L:List Tk}{b:Nat->Prop}{d:Nat}{s:St}
def QW(w:E)(f e):((w.alloc f).alloc e).drew.heap[V w.heap+1]?=C e:=by
 have:=rY (w.alloc f) e;simp only[World.size_alloc]at this;exact this
def I9{w:E}{o}{e j}{v}(f:e<V w.heap)(h:δ w (J e j)=C v):δ (w.alloc o) (J e j)=C v:=by
 grind[Ë,Below.heap_alloc]
def U4{w:E}{o}{e j}(f:e<V w.heap)(h:w.frozen? (J e j)=κ):(w.alloc o).frozen? (J e j)=κ:=by
 grind[World.frozen?_of_block,Below.heap_alloc]
def FU{w:E}{e}{t}{j}{v}(h:e[j]?=C v):δ (ω w<|γ e t) (J (V w.heap) j)=C v:=ù
def aH.rh{w w1 w2:E}{B a}{c}{L}{b}{d:Nat}{s:St}{m}{G H}{h}{i g cap}{t}{N a6}(a2:B<=a)(a9:s.i<Q L)(ab:Q s.N<=s.i)(hf:Q s.T+1<=s.i)
 (a5:ρ w 0 106 3 c (Q L)<|rows L) (q:w.heap[a]?=C (γ #[c,U s.i,U d,m,Y h (Q s.T) i] 78 (0,0)))
 (hn:ρ w B 82 9 m (Q s.N) G) (y:ρ w B 99 4 (Y h (Q s.T) i) (Q s.T) H) (af:eN (gE w b) s.N G) (ag:eN (eI w b) s.T H) (ht:eI w b t [U t.x,N,a6,U t.fh]) (D:b a/\(∀g,Θ m=C g->b g)/\(∀g,Θ (Y h (Q s.T) i)=C g->b g)) (am:b g)
 (p:I No w w1) (T:w1.grownBy w2<|Θ<|Y h (Q s.T) i) (ho:w2.ownsRow B 99 4 (Y (C<|J g 0) (Q s.T+1) cap) (Q s.T+1)<|H++[U t.x,N,a6,U t.fh]):
 Kept B b w (w2.setCell (J a 4)<|Y (C<|J g 0) (Q s.T+1) cap)/\aH (w2.setCell (J a 4)<|Y (C<|J g 0) (Q s.T+1) cap) B a c L b d ⟨s.i,s.N,s.T++[t]⟩:=by
 have a3:=(aG q);have R:=p.block a a3 λx=>x;have ai:=A3 y p Ξ;have ae:C a≠Θ (Y h (Q s.T) i):=by
  intro f;obtain⟨_,o,n⟩:=A9 ai a f.symm;rw[R,q]at n;simp only[zQ,xW]at n;exact absurd n.2.1 ζ
 have S:w2.heap[a]?=C (γ #[c,U s.i,U d,m,Y h (Q s.T) i] 78 (0,0)):=by rw[T.block a (yQ a3 p.size) ae,R,q]
 have aa:=(p.mono λ_ _ x=>x.elim).trans (I.grown T) Ξ;have l:I (λk=>C k=Θ (Y h (Q s.T) i)\/k=a) w (w2.setCell (J a 4)<|Y (C<|J g 0) (Q s.T+1) cap):=(aa.mono λ_ _ x=>.inl x).trans (I.set _ _ _) λ_ _ x=>.inr x;have a4:∀{M:Nat} {e:Ò} {a8:Nat} {v:υ} {a7:Nat} {xs:List υ},ρ w M e a8 v a7 xs->e≠78->e≠99->∀k,Θ v=C k->¬(C k=Θ (Y h (Q s.T) i)\/k=a):=by
  intro M e a8 v a7 xs hw he ak k r f;obtain⟨_,o,n⟩:=A9 hw k r;obtain f|rfl:=f
  .obtain⟨_,z,j⟩:=A9 y k f.symm;grind
  .grind
 have F:∀k,b k->k<V w.heap->(C k=Θ (Y h (Q s.T) i)\/k=a)->(∃o e,w.heap[k]?=C (γ o e (0,0))/\(e=139\/e=3))->False:=by
  rintro k _ _ f ⟨o,e,n,he⟩;obtain f|rfl:=f
  .obtain⟨_,z,j⟩:=A9 y k f.symm;grind
  .grind
 have A:(w2.setCell (J a 4)<|Y (C<|J g 0) (Q s.T+1) cap).heap[a]?=C (γ #[c,U s.i,U d,m,Y (C<|J g 0) (Q s.T+1) cap] 78 (0,0)):=by rw[ð w2 a 4 _ _ _ S];rfl
 refine⟨l.mono λk r f=>?_,a2,a9,⟨ab,η⟩,A3 a5 l<|a4 a5 ζ ζ,⟨D.1,λaj P u Z=>?_,λaj P u Z=>?_⟩,m,_,G,_,A,A3 hn l<|a4 hn ζ ζ,?_,af.imp<|gE.P l F λ_ x _=>x,(ag.imp<|eI.P l F λ_ x _=>x).snoc<|eI.P l F (λ_ x _=>x) _ _ ht⟩
 .obtain f|rfl:=f
  .obtain⟨ac,z,j⟩:=A9 y k f.symm;exact⟨ac,⟨_,_,_,j,.inr<|.inr K⟩,D.2.2 _ f.symm⟩
  .exact⟨a2,⟨_,_,_,q,.inl K⟩,D.1⟩
 .rw[ä _ a 3 _ _ _ A]at u;grind
 .rw[ä _ a 4 _ _ _ A]at u;cases u;have al:C g=C P:=Z;grind
 .have:=A3 ho (I.set w2 (J a 4)<|Y (C<|J g 0) (Q s.T+1) cap) (λk r f=>by
   have ah:=f;subst ah;obtain⟨_,z,j⟩:=A9 ho k r;rw[S]at j;simp only[zQ,xW]at j;exact absurd j.2.1 ζ);simpa using this
def EH(hL:cY L)(a2:aH w B a c L b d s)(t)(o y)(q p A z)(ht:eI w b t [U t.x,Y o q p,Y y A z,U t.fh])(hf:Q s.T+1<=s.i)(hB:B<=V w.heap)(ak:∀ g,V w.heap<=g->b g):
 μ ε 124 #[pV a,.agg #[U t.x,Y o q p,Y y A z,U t.fh]] w λe S=>e=π (U (Q s.T))/\Kept B b w S/\aH S B a c L b d ⟨s.i,s.N,s.T++[t]⟩:=by
 obtain⟨a6,a3,a5,aa,u,nv,yv,nx,yx,i,hn,j,a8,a9⟩:=a2;obtain⟨f,h,rfl⟩:=B8 j;have al:=hL.jq;have N:=(aG i);have H:δ w (J a 4)=C (Y f (Q s.T) h):=cr i K;have Z:=λaf=>æ w a af _ _ i;have a7:b a/\(∀g,Θ nv=C g->b g)/\(∀g,Θ (Y f (Q s.T) h)=C g->b g):=⟨u.1,λg k=>u.2.1 _ g (cr i K) k,λg k=>u.2.2 _ g H k⟩;have D:=O λm ag g n=>aH.rh (w1:=m) (w2:=ag) (g:=g) (cap:=n) a6 a3 a5.1 hf aa i hn j a8 a9 ht a7;have T:=O (λg (k:Θ (Y f s.T.length h)=C g\/g=w.heap.size+2)=>show b g from η);have P:Θ (Y f (Q s.T) h)≠C a:=by
  intro v;obtain⟨_,ah,r⟩:=A9 j a v;rw[i]at r;simp only[zQ,xW]at r;exact absurd r.2.1 ζ
 have aj:Θ (Y f (Q s.T) h)≠C (V w.heap):=by
  intro v;have:=(j.lt _ v).2;omega
 have G:=O j;obtain⟨i0,hi,ab,ac,ae⟩:=ý Tryz.mf;go_in;go_wp2
 go_region_law ((refine step_append_lies _ Ω _ _ _ Ω B 99 i0 _ 4 64 underlying38 hi ab ac ae K W (Y f (Q s.T) h) (Q s.T) yx Ω (((G.u.alloc _).alloc _).drew) (J (V w.heap+1) 0) 1 1 [U t.x,Y o q p,Y y A z,U t.fh] Ω Ω (Ó<|QW w _ _) (by simp [Value.oneCell']) W Ñ W (by simp;omega) (V w.heap+2) θ ?_;intro M n m R l a4 ai;have z4:δ m (J a 4)=C (Y f (Q s.T) h):=by rw[l.cell_far _ â<|Ne.symm P];exact I9 â<|I9 N H
                 have y4:m.frozen? (J a 4)=κ:=by rw[l.frozen_far _ â<|Ne.symm P];exact U4 â<|U4 N<|Z 4));all_goals
  have F:=O<|D.u _ _ M n (T.u M a4) (((I.alloc No w _).trans (I.alloc No _ _) Ξ).trans (I.drewN No _ 1) Ξ) l R;clear l R D G;go_wp2;go_ret;exact⟨M9 W,F.u.1,F.u.2⟩
end
def F8(s a:St):Prop:=s.i<a.i/\Q a.N+s.i<=Q s.N+a.i/\Q a.T+s.i<=Q s.T+a.i/\Q s.N<=Q a.N
def BJ(w:E)(B g:Nat)(h:υ)(L:List Tk)(b:Nat->Prop)(d:Nat)(s:St)(i:Sp->Option (Out Int))(e:ò)(f:E):Prop:=
 Kept B b w f/\∃o,Ev L i o/\match o with
  |.ok c x=>e=π (U x)/\aH f B g h L b d c/\F8 s c
  |.fail a p=>e=gu a p/\a≠0
def lM(B b:Nat)(c:υ)(L:List Tk)(e:Nat)(f:Nat->St->Sp->Option (Out Int))(m:Nat):Prop:=
 ∀(w) (a) (d) (s),Q L-s.i<=m->(∀g,V w.heap<=g->a g)->B<=V w.heap->aH w B b c L a d s->
  μ ε e #[pV b] w (BJ w B b c L a d s<|f d s)
section
variable{w:E}{B b:Nat}{c:υ}{L:List Tk}{a:Nat->Prop}{d:Nat}{s:St}
def MH(j:cY L)(h:aH w B b c L a d s):
 μ ε 205 #[pV b] w λe q=>Kept B a w q/\
  ((tk L s.i).x=1/\e=π (ι ⟨ξ (tk L s.i).text⟩)/\aH q B b c L a d s.nx\/(tk L s.i).x≠1/\e=gu 1 ((tk L s.i).at')):=by
 have H:=W6 j h;have l:=λf (i:aH f B b c L a d s)=>vP j i 1;have o:=λf (i:aH f B b c L a d s)=>DL j i;have u:=O λf (g:I No w f)=>h.y g;have F:=Z7;have G:=xB;generalize tk L s.i=y at*;obtain⟨p,z,N⟩:=y;simp only[jK]at H o l⊢;generalize (⟨ξ z⟩:ByteArray)=D at*;go_in;go_wp2_with fail;refine H.mono ?_;rintro e f ⟨rfl,g⟩;have n:=O<|u.u f g;have m:=O<|C9 (B:=B) (ok:=a) g;by_cases k:p=1
 .subst k;go_wp2_with fail;refine(o _ n.u ζ).mono ?_;rintro e A ⟨rfl,v,x⟩;have r:=O<|m.u.trans v;have t:=O x;go_wp2;go_ret;exact⟨r.u,K,t.u⟩
 .have M:(p==1)=κ:=by simp[k]
  go_wp2_with fail;refine(l _ n.u).mono ?_;rintro e A ⟨rfl,g⟩;exact⟨K,m.u.trans<|C9 g,.inr ⟨k,K⟩⟩
def zw(w:E)(t):
 μ ε 243 #[ι ⟨ξ t⟩] w λe f=>e=π (U<|I1 t)/\f=w:=by
 go_in;go_wp2;all_goals go_ret
 all_goals exact⟨M9<|by simp_all [I1],K⟩
def pZ(e:List bZ):Array υ:=ξ (e.map λm=>ι ⟨ξ m⟩)
def xG(w:E)(e)(t):Strs (ω w<|γ (pZ e) t) (V w.heap) e:=by
 refine⟨θ,λj f=>?_⟩;grind[World.cell?_alloc_new,pZ]
def J1{g}{f}{e p}(j:Kept B a w f)(i:Ev L g<|.fail e p)(h:e≠0):BJ w B b c L a d s g (gu e p) f:=⟨j,_,i,K,h⟩
def rI{g}{f}{e}{x}(j:Kept B a w f)(h:Ev L g<|.ok e x)(k:aH f B b c L a d e)(i:F8 s e):BJ w B b c L a d s g (π<|U x) f:=⟨j,_,h,K,k,i⟩
def Gj(w)(a)(k o):eI w a ⟨k,[],[],o⟩ [U k,sN,sN,U o]:=
 ⟨_,_,K,kW _ _ _ _,kW _ _ _ _,Ä,Ä⟩
def CI(L:List Tk)(s:St):Option (Out Int):=if (tk L s.i).x=2/\I1 (tk L s.i).text≠0 then bQ s.nx ⟨I1 (tk L s.i).text,[],[],0⟩ else bF L s.i 1
def zy(l:cY L)(T:B<=V w.heap)(a3:∀g,V w.heap<=g->a g)(h:aH w B b c L a d s):
 μ ε 191 #[pV b] w (BJ w B b c L a d s λ_=>CI L s):=by
 have H:=λi (j:aH i B b c L a d s)=>W6 l j;have p:=λi (j:aH i B b c L a d s)=>vP l j 1;have G:=λi (j:aH i B b c L a d s.nx) t k=>EH l j ⟨k,[],[],0⟩ none none 0 0 0 0 (Gj i a k 0) (by show Q s.T+1<=s.i+1;have:=h.fq;omega) (kQ T t) λg Z=>a3 g<|kQ t Z;have a9:=Z7;have aa:=xB;have t:=l.jq;have hi:=h.at';have y:=O (λ(r:(tk L s.i).x=2)=>show s.i+1<Q L by
  have j:=l.last s.i hi;omega);have n:=O (show CI L s=if (tk L s.i).x=2/\I1 (tk L s.i).text≠0 then bQ s.nx ⟨I1 (tk L s.i).text,[],[],0⟩ else C (.fail 1 ((tk L s.i).at':Int)) from K);have z:=O h;generalize CI L s=ό at*;generalize tk L s.i=a5 at*;obtain⟨D,v,pl⟩:=a5;simp only[jK]at H p y n;have S:=λi=>zw i v;generalize I1 v=u at*;generalize (⟨ξ v⟩:ByteArray)=bx at*;go_in;go_wp2_with fail;refine(H _ z.u).mono ?_;rintro e i ⟨rfl,f⟩;have q:=O<|z.u.y f;have x:=O f;by_cases r:D=2
 .subst r;go_wp2_with fail;refine(H _ q.u).mono ?_;rintro e af ⟨rfl,f⟩;have m:=O<|q.u.y f;have o:=O<|x.u.trans f λ_ _ a6=>a6;go_wp2_with fail;refine(S _).mono ?_;rintro e ag ⟨rfl,rfl⟩;by_cases A:u=0
  .subst A;go_wp2_with fail;refine(p _ m.u).mono ?_;rintro e F ⟨rfl,f⟩;exact⟨K,J1 ((C9 o.u).trans<|C9 f) (Ev.pure.eq λ_=>by rw[n.u];simp) ζ⟩
  .have ad:(u==0)=κ:=by simp[A]
   obtain⟨g',c',ae,ah,-,-,-,-,ac,-,a7,-,-,-,a8,-⟩:=m.u.cell;have P:=O<|m.u.next<|y.u trivial;have M:=O<|(C9 o.u).trans<|m.u.ju 1<|U<|s.i+1;go_wp2_with fail;refine(G _ P.u (by have:=o.u.size;simp_all) u).mono ?_;rintro e F ⟨rfl,a2,a4⟩;have N:=O<|M.u.trans a2;have R:=O a4;go_wp2;go_ret;exact rI N.u (Ev.pure.eq λ_=>by rw[n.u];grind[bQ]) R.u (by grind[F8,St.nx])
 .have ab:(D==2)=κ:=by simp[r]
  go_wp2_with fail;refine(p _ q.u).mono ?_;rintro e F ⟨rfl,f⟩;exact⟨K,J1 ((C9 x.u).trans<|C9 f) (Ev.pure.eq λ_=>by rw[n.u];grind) ζ⟩
def Tryz.fy:(prog.info? 3).map (λi=>(i.zero,i.size,i.bytes))=C (C<|U 0,1,8):=î
def aH.grown{w l:E}{m t n}{e}{v v':υ}{u}(h:aH w B b c L (λg=>a g/\C g≠Θ v) d s)(p:ρ w m e t v n u)(F:e=3\/e=139)(i:w.grownBy l (Θ v))
 (D:Θ v'=Θ v\/Θ v'=C (V w.heap)):aH l B b c L (λg=>a g/\C g≠Θ v') d s:=by
 refine h.P (I.grown i) (λk x A o j=>?_) λg i H=>?_
 .obtain⟨_,y,f⟩:=A9 p k j.symm;rw[o]at f;simp at f;obtain⟨_,rfl,_⟩:=f;refine⟨η,η,η,λq=>?_,λ_ r=>r.2 j⟩;obtain⟨_,z,G⟩:=A9 h.kz k q;grind
 grind
def Kept.grown{a}{f w g:E}{m n}{e}{v}{o}(j:Kept B a f w)(k:ρ w (V f.heap) e m v n o)(h:w.grownBy g (Θ v)):Kept B a f g:=
 j.trans' (I.grown h) (λi p l=>by have:=(A9 k i l.symm).1;omega)
def xh(w:E)(e)(f:e<=V w.heap)(x):ρ (ω w<|γ #[U x] 3) e 3 1 (Y (C<|J (V w.heap) 0) 1 1) 1 (C8 [x]):=
 ⟨K,.inr ⟨V w.heap,1,#[U x],K,f,rY w _,W,by simp[Δ],K,K⟩⟩
def qI(w:E)(b:Nat):Nat:=(intOf<|(δ w<|J b 1).getD<|U 0).toNat
theorem aH.j3(h:aH w B b c L a d s):qI w b=s.i:=by
 obtain⟨g,e,i,j,-,-,-,-,-,-,f,-⟩:=h.cell;grind[qI,intOf]
end
def tA{P}{f}{b}{d:Exit->Act->E->Prop}{S:E->Prop}(i k:Nat){m}{o}{n}{g}{l}(v){j}{e}{a}{w:E}
 (h:wpAnyH P f b d S j (e.setIfInBounds i τ) (a.put (C k) v) w) (r:b[i]?=C (Oper.mk (C k) m o n g l):=by rfl) (t:Region.noSelect b=τ:=by kernel_rfl) (q:Region.free f b e i=τ:=by kernel_rfl) (s:(Region.ready f b e).contains i=τ:=by kernel_rfl) (hQ:∀c a w,d (.panic c) (a.put (C k) v) w->d (.panic c) a w:=by exact λ_ _ _ h=>h)
 (hy:YieldsIf P b S (Oper.mk (C k) m o n g l) v a:=by exact Or.inl ⟨Ω,λw u=>by first|(go_simp;done)|(repeat obtain⟨_,u⟩:=u);go_simp⟩) (p:S w:=by assumption):wpAnyH P f b d S (j+1) e a w:=wpAnyH_take r t q s hQ hy p h
def tU{P}{f}{b}{d:Exit->Act->E->Prop}{S:E->Prop}(i k:Nat){m}{o}{n}{g}{l}{j}{e}{a}{w:E}
 (h:wpAnyH P f b d S j (e.setIfInBounds i τ) (a.put (C k) undef) w) (s:b[i]?=C (Oper.mk (C k) m o n g l):=by rfl) (v:YieldsIf P b S (Oper.mk (C k) m o n g l) undef a:=by exact Or.inr ⟨Ω,K⟩) (u:Region.noSelect b=τ:=by kernel_rfl) (r:Region.free f b e i=τ:=by kernel_rfl) (t:(Region.ready f b e).contains i=τ:=by kernel_rfl) (p:∀c a w,d (.panic c) (a.put (C k) undef) w->d (.panic c) a w:=by exact λ_ _ _ h=>h)
 (q:S w:=by assumption):wpAnyH P f b d S (j+1) e a w:=wpAnyH_take s u r t p v q h
theorem aT{b:Type}(l:List b)(i)(a):l.toArray.setIfInBounds i a=ξ (l.set i a):=wZ ..
theorem a0{c:Type}(a b)(l:List c):(a::l).set 0 b=b::l:=rfl
theorem a1{c:Type}(a b)(l:List c)(n):(a::l).set (n+1) b=a::l.set n b:=rfl
section
variable{w:E}{B a:Nat}{b:υ}{L:List Tk}{ok:Nat->Prop}{d:Nat}{s:St}
def L9(s c:St):Prop:=s.i<=c.i/\Q c.N+s.i<=Q s.N+c.i/\Q c.T+s.i<=Q s.T+c.i/\Q s.N<=Q c.N
end
set_option linter.unusedSimpArgs false
section
variable{w:E}{B pb:Nat}{tv:υ}{L:List Tk}{ok:Nat->Prop}{d:Nat}{s:St}
def Tryz.o8:(prog.info? 9).map (λi=>(i.zero,i.size,i.bytes))=C (C<|ι ⟨#[]⟩,1,16):=î
def uN(a:List bZ):List υ:=a.map λm=>ι ⟨ξ m⟩
theorem ŗ(a)(m):uN (a++[m])=uN a++[ι ⟨ξ m⟩]:=by simp[uN]
def gG(w:E)(e f:Nat)(a:List bZ):Prop:=
 e<=f/\∃b c,w.heap[f]?=C (γ #[Y b (Q a) c] 28 (0,0))/\ρ w e 9 1 (Y b (Q a) c) (Q a) (uN a)
def KT(w:E)(k:Nat):Prop:=∃a e b,w.heap[k]?=C (γ a e b)/\(e=28\/e=9)
def aV(B:Nat)(ok:Nat->Prop)(a:Nat)(w b:E):Prop:=I (λk=>(B<=k/\tag w k/\ok k)\/(a<=k/\KT w k)) w b
def gG.kept{ok}{w i}{f a}{g}(h:gG w f a g)(b:Kept B ok w i):gG i f a g:=by
 obtain⟨k,j,c,l,m⟩:=h;refine⟨k,j,c,?_,G9 m b ζ⟩;rw[b.block a (aG l) λx=>?_]
 .omega
 .obtain⟨n,e,o,p,r⟩:=x.2.1;grind
theorem Dj{w a b}{c}{v}(f:δ a (J c 0)=C v)(g:Hid<|I No w a)(e:I No a b):δ b (J c 0)=C v/\Hid (I No w b):=by
 refine⟨?_,g.u.trans e Ξ⟩;rw[Ë<|e.block c (Ü a _ f) λx=>x];omega
def ĭ{w}{g}{a}(c:g<V w.heap)(b:∀j u,(uN a)[j]?=C u->δ w (J g j)=C u):Strs w g a:=
 ⟨c,λj e=>b j _<|by grind[uN]⟩
def xk(w:E)(a)(c)(t:bZ):
 μ ε 187 #[Y a 0 c,ι ⟨ξ t⟩] w λe b=>e=π (U<|-1)/\b=w:=by
 go_in;go_wp2;go_loop [8] (λi=>i=U 0) (λ_=>0);case atStart=>rfl
 case round=>
  subst hrel;go_wp2;go_ret;exact⟨K,K⟩
def yb(w:E)(a)(c)(t:bZ):
 μ ε 121 #[Y a 0 c,ι ⟨ξ t⟩] w λe b=>e=π (.bool κ)/\b=w:=by
 have H:=xk w a c t;go_in;go_wp2_with fail;refine H.mono ?_;rintro e f ⟨rfl,rfl⟩;go_wp2;go_ret;exact⟨K,K⟩
def Vn(w:E)(l)(b)(c)(a)(t)(h:ρ w l 9 1 (Y b (Q a) c) (Q a)<|uN a)(j:Q a<=4000):
 μ ε 121 #[Y b (Q a) c,ι ⟨ξ t⟩] w λe m=>e=π (.bool<|has a t)/\m=w:=by
 by_cases k:0<Q a
 .obtain⟨g,rfl,_,i,_,_,f⟩:=D5 h k;exact XV w g c a t (ĭ i f) j
 .have:a=[]:=List.eq_nil_of_length_eq_zero W;subst this;exact yb w b c t
def gG.push{w w1 w2:E}{j a n c g cap}{i}{q}{x}(h:aH w B pb tv L ok d s)(Z:j<=a)(p:w.heap[a]?=C (γ #[Y i n c] 28 (0,0)))(D:ρ w j 9 1 (Y i n c) n q)(m:I No w w1)
 (y:w1.grownBy w2<|Θ<|Y i n c) (N:w2.ownsRow j 9 1 (Y (C<|J g 0) (n+1) cap) (n+1)<|q++[x]):
 aV B ok j w (w2.setCell (J a 0)<|Y (C<|J g 0) (n+1) cap)/\aH (w2.setCell (J a 0)<|Y (C<|J g 0) (n+1) cap) B pb tv L ok d s/\
  (w2.setCell (J a 0)<|Y (C<|J g 0) (n+1) cap).heap[a]?=C (γ #[Y (C<|J g 0) (n+1) cap] 28 (0,0))/\
  ρ (w2.setCell (J a 0)<|Y (C<|J g 0) (n+1) cap) j 9 1 (Y (C<|J g 0) (n+1) cap) (n+1) (q++[x]):=by
 have A:=(aG p);have u:=m.block a A λx=>x;have M:=A3 D m Ξ;have H:C a≠Θ (Y i n c):=by
  intro f;obtain⟨_,t,b⟩:=A9 M a f.symm;rw[u,p]at b;simp only[zQ,xW]at b;exact absurd b.2.1 ζ
 have G:w2.heap[a]?=C (γ #[Y i n c] 28 (0,0)):=by rw[y.block a (yQ A m.size) H,u,p]
 have v:I (λk=>C k=Θ (Y i n c)\/k=a) w (w2.setCell (J a 0)<|Y (C<|J g 0) (n+1) cap):=
  (((m.mono λ_ _ x=>x.elim).trans (I.grown y) Ξ).mono λ_ _ x=>.inl x).trans (I.set _ _ _) λ_ _ x=>.inr x;have F:∀k,(C k=Θ (Y i n c)\/k=a)->j<=k/\∃l e,w.heap[k]?=C (γ l e (0,0))/\(e=28\/e=9):=by
  rintro k (f|rfl)
  .obtain⟨o,t,b⟩:=A9 D k f.symm;grind
  .grind
 refine⟨v.mono λk _ f=>?_,h.P v (λk t e z f=>?_) λ_ x _=>x,by rw[ð w2 a 0 _ _ _ G];rfl,A3 N (I.set w2 (J a 0) _) λk z f=>?_⟩
 .obtain⟨o,l,e,b,r⟩:=F k f;exact .inr ⟨o,l,e,_,b,r⟩
 .obtain⟨o,l,S,b,r⟩:=F k f;rw[z]at b;simp at b;obtain⟨_,rfl,_⟩:=b;refine⟨η,η,η,λP=>?_,λa3=>?_⟩
  .obtain⟨_,R,T⟩:=A9 h.kz k P;grind
  grind
 .have a2:=f;grind[A9]
def Kept.mj{lo}{w a}(h:Kept B ok w a):aV B ok lo w a:=I.mono h λ_ _ x=>.inl x
def aV.after{n}{a b c}(h:Kept B ok a b)(k:aV B ok n b c):aV B ok n a c:=by
 refine⟨k.os.trans h.os,k.tape.trans h.tape,k.output.trans h.output,kQ h.size k.size,λi l m=>?_⟩;have o:=h.block i l λx=>m<|.inl x;refine(k.block i (yQ l h.size) λx=>m ?_).trans o;obtain⟨j,⟨f,e,g,p,r⟩,q⟩|⟨j,f,e,g,p,r⟩:=x
 .exact .inl ⟨j,⟨f,e,g,η,r⟩,q⟩
 .exact .inr ⟨j,f,e,g,η,r⟩
def QY(P:cY L)(a8:aH w B pb tv L ok d s)(l f)(a:List bZ)(hn:gG w l f a)(hl:Q a<=1001)(ab:l<=V w.heap):
 μ ε 241 #[pV pb,pV f] w λe b=>aV B ok l w b/\
  match aO L s a with
  |C (.ok s' nm)=>e=π (ι ⟨ξ nm⟩)/\gG b l f (a++[nm])/\aH b B pb tv L ok d s'
  |C (.fail er ag)=>e=gu er ag
  |none=>False:=by
 have H:=λg (i:aH g B pb tv L ok d s)=>W6 P i;have N:=λg (i:aH g B pb tv L ok d s)=>vP P i 6;have q:=λg (i:aH g B pb tv L ok d s)=>MH P i;have r:=O a8;have HM:=O hn;obtain⟨a3,v,c,R,ho⟩:=hn;have k0:δ w (J f 0)=C (Y v (Q a) c):=cr R K;have p:Hid (I No w w.drew):=I.drewN No w 1;have am:=Z7;have an:=xB;unfold aO bF;generalize tk L s.i=ai at*;obtain⟨kd,j,pl⟩:=ai;simp only[jK]at H N q⊢;by_cases D:kd=1
 .subst D;have HC:Hid (∀g:E,I No w g->μ ε 121 #[Y v (Q a) c,ι ⟨ξ j⟩] g λe b=>e=π (.bool<|has a j)/\b=g):=
   λg i=>Vn g l v c a j (A3 ho i Ξ) W;generalize has a j=ah at*;go_in;go_wp2;go_region_held3 (λb=>δ b (J f 0)=C (Y v (Q a) c)/\Hid (I No w b))
   (first
    |exact⟨k0,p⟩
    |grind[Dj]
    |(go_split_ands;exact Dj À À S)
    |(go_split_ands;exact⟨À,À⟩))
   (first
    |((go_at_call 81;go_split_ands;refine(H _<|r.u.y<|Hid.u W).mono ?_;rintro e b ⟨rfl,S⟩))
    |((go_at_call 121;go_split_ands;refine(HC.u _<|Hid.u W).mono ?_;rintro e b ⟨rfl,rfl⟩)));have h:Hid (I No w b):=À;have u:=O<|r.u.y h.u;cases ah
  .go_wp2_with fail;refine(q _ u.u).mono ?_;rintro e m ⟨F,hr⟩;obtain⟨_,rfl,a5⟩|⟨o,_⟩:=hr
   .have n:=O<|(C9 h.u).trans F;have N2:=O<|HM.u.kept n.u;obtain⟨_,y,c2,k,G⟩:=N2.u;have a2:=(aG k);have q0:δ m (J f 0)=C (Y y (Q a) c2):=cr k K;have fz:=æ m f 0 _ _ k;have Z:Θ (Y y (Q a) c2)≠C f:=by
     intro o;obtain⟨_,ak,T⟩:=A9 G f o;rw[k]at T;simp only[zQ,xW]at T;exact absurd T.2.1 ζ
    have HX:=O λM aj (a7 z:Nat)=>gG.push (w1:=M) (w2:=aj) (g:=a7) (cap:=z) (x:=ι ⟨ξ j⟩) a5 a3 k G;have O2:=O G;have ap:=kQ ab n.u.size;obtain⟨i0,hi,ac,ae,af⟩:=ý Tryz.o8;clear F a5 k G q N H HC R ho k0 p;have a6:=O<|O2.u.alloc<|γ #[ι ⟨ξ j⟩] 9;go_wp2_with (at_builtin;refine wpList_append_lies _ K _ _ _ K l 9 i0 _ 1 16 underlying28 hi ac ae af K ζ (Y y (Q a) c2) (Q a) (uN a) K a6.u (J (V m.heap) 0) 1 1 [ι ⟨ξ j⟩] K K ?c1 ?c2 ?c0 ?c3 ?c4 ?c5 (V m.heap+1) θ ?_);case c1=>grind[cell_one_new]
    case c2=>intro ar hu;simp at hu;obtain rfl:=hu;rfl
    case c0=>omega
    case c3=>grind[Δ]
    case c4=>omega
    case c5=>simp;omega
    .intro gg z M a4 A al aq;have z4:M.cell? (J f 0)=C (Y y (Q a) c2):=by rw[A.cell_far _ â<|Ne.symm Z];exact I9 a2 q0
     have y4:M.frozen? (J f 0)=κ:=by rw[A.frozen_far _ â<|Ne.symm Z];exact U4 a2 fz
     have t:=O<|HX.u _ _ gg z (I.alloc No _ _) A a4;clear A a4 HX a6 O2 Z;go_wp2_with fail;go_ret;refine⟨aV.after n.u t.u.1,K,⟨a3,C<|J gg 0,z,?_,?_⟩,t.u.2.1⟩
     .have:=t.u.2.2.1;grind
     .have:=t.u.2.2.2;grind[ŗ]
   .exact absurd K o
  .go_wp2_with fail;refine(N _ u.u).mono ?_;rintro e m ⟨rfl,aa⟩;exact⟨K,(C9 (B:=B) (ok:=ok)<|h.u.trans aa Ξ).mj,K⟩
 .have ao:(kd==1)=κ:=by simp[D]
  clear R ho;go_in;go_wp2_with fail;refine wp_region_held_drew (S:=λb=>Hid<|I No w b) Ω p λa9=>?_;refine tA 0 6 (pV pb) ?_;simp only[ë,aT,a0,a1];refine wpAnyH_ready (rs:=[1]) î θ ?_;refine AllReadyH.cons (o:=Oper.mk (C 7) _ _ _ _ _) K (λϋ hK=>?_) AllReadyH.nil;go_simp;refine(H _<|r.u.y p.u).mono ?_;rintro e b ⟨rfl,S⟩;have h:=O<|p.u.trans S Ξ;refine hK _ _ h λ_=>?_;clear hK ϋ a9;refine tA 2 8 (U kd) ?_;simp only[ë,aT,a0,a1];refine tA 3 9 (.bool κ) ?_;simp only[ë,aT,a0,a1];refine tA 4 10 (.bool κ) ?_;simp only[ë,aT,a0,a1];refine tU 5 11 ?_;simp only[ë,aT,a0,a1];refine tU 6 12 ?_;simp only[ë,aT,a0,a1];refine tU 7 13 ?_;simp only[ë,aT,a0,a1];refine tU 8 14 ?_;simp only[ë,aT,a0,a1];refine tU 9 15 ?_;simp only[ë,aT,a0,a1];refine tU 10 16 ?_;simp only[ë,aT,a0,a1];refine tU 11 17 ?_;simp only[ë,aT,a0,a1];refine tA 12 18 (.bool κ) ?_;simp only[ë,aT,a0,a1];refine wpAnyH_done Ω ?_ _;have u:=O<|r.u.y h.u;go_wp2_with fail;refine(q _ u.u).mono ?_;rintro e m ⟨F,hr⟩;obtain⟨o,_⟩|⟨_,rfl⟩:=hr
  .exact absurd o D
  .have n:=(C9 (B:=B) (ok:=ok) h.u).trans F;exact⟨K,n.mj,by simp[D];rfl⟩
def Tryz.j7:(prog.info? 139).map (λi=>(i.zero,i.size,i.bytes))=C (C<|.agg #[ι ⟨#[]⟩,U 0],2,24):=î
def Kept.l9{a b c}(h:Kept B ok a b)(k:aV B ok (V a.heap) b c):Kept B ok a c:=by
 refine⟨k.os.trans h.os,k.tape.trans h.tape,k.output.trans h.output,kQ h.size k.size,λi f g=>?_⟩;have n:=h.block i f g;refine(k.block i (yQ f h.size) λx=>?_).trans n;obtain⟨j,⟨l,e,m,p,r⟩,o⟩|⟨j,_⟩:=x
 .exact g ⟨j,⟨l,e,m,η,r⟩,o⟩
 omega
def PM{w k}{t i}{e}{j}{v}{n}{l}(h:ρ w i e j v n l)(m:aV B ok t w k)
 (x:e≠78/\e≠82/\e≠99/\e≠28/\e≠9):ρ k i e j v n l:=by
 refine A3 h m λg o q=>?_;obtain⟨_,u,p⟩:=A9 h g o;have y:∀c a f,w.heap[g]?=C (γ c a f)->a=e:=by
  intro c a f b;rw[p]at b;simp only[zQ,xW]at b;exact b.2.1.symm
 obtain⟨_,⟨c,a,f,b,r⟩,_⟩|⟨_,c,a,f,b,r⟩:=q<;>grind
theorem gG.P{S}{w w'}{j a}{l}(h:gG w j a l)(i:I S w w')(q:∀k n e,w.heap[k]?=C (γ n e (0,0))->S k->e≠28/\e≠9):gG w' j a l:=by
 obtain⟨o,m,c,b,f⟩:=h;refine⟨o,m,c,?_,A3 f i λg p u=>?_⟩
 .rw[i.block a (aG b) λx=>(q a _ _ b x).1 K];omega
 .obtain⟨_,r,t⟩:=A9 f g p;grind
theorem Vg(w:E)(x y)(t):∀j u,[x,y][j]?=C u->δ (ω w<|γ #[x,y] t) (((J (V w.heap) 0)).add j)=C u:=by
 grind[Addr.add,World.cell?_alloc_new]
def gI{b}{a}{c}(h:aO L s b=C (.ok a c)):a=s.nx:=by
 grind[aO,bF]
def Xw{b}{a p}(h:aO L s b=C (.fail a p)):a≠0:=by
 grind[aO,bF]
def uo{a}(b:aL L s.i [[125]]=τ):Ev L (λr=>r.jl d s a) (.ok ⟨s.nx.i,s.nx.N,s.nx.T++[⟨7,a,[],0⟩]⟩ (Q s.nx.T)):=
 Ev.step (Ev.pure.eq λr=>by show (if aL L s.i [[125]] then _ else _)=_;rw[b];rfl)
def B8d{a:List (bZ×Int)}{o:Out Int}(c:aL L s.i [[125]]=κ)
 (h:Ev L (λr=>A8 (aO L s (a.map (·.1))) λs b=>A8 (aC L s [58]) λs _=>A8 (r.typ d s) λs x=>A8 (aC L s [59]) λs _=>r.jl d s<|a++[(b,x)]) o):Ev L (λr=>r.jl d s a) o:=
 Ev.step (h.eq λr=>by show (if aL L s.i [[125]] then _ else _)=_;grind)
def Q8{mk}(h:aL L s.i [mk]=τ):Ev L (λ_=>aC L s mk) (.ok s.nx ()):=Ev.pure.eq λr=>by grind[aC]
def U3{mk}(h:aL L s.i [mk]=κ):Ev L (λ_=>aC L s mk) (.fail 1<|(tk L s.i).at'):=Ev.pure.eq λr=>by rw[aC,h];rfl
def Ũ(u:cY L)(ag)(aj:∀m',m'<=ag->lM B pb tv L 32 (λd s r=>r.typ d s) m'):lM B pb tv L 188 (λd s r=>r.jl d s []) ag:=by
 intro w ok d s hm a3 hB h;have b5:=u.jq;have hi:=h.at';have HP:=O h;clear h;go_in;go_wp2_with fail;go_loopw [4] (λar wr=>∃(f:List (bZ×Int)) (b:St) (m:Option Addr) (c:Nat),ar=Y m (Q f) c/\Q f<=b.i/\Hid (gG wr (V w.heap) (V w.heap) (f.map (·.1)))/\Hid (Kept B ok w wr)/\Hid (L9 s b)/\Hid (wr.ownsRow (V w.heap) 139 2 (Y m (Q f) c) (Q f)<|I0 f)/\
  Hid (aH wr B pb tv L (λg=>ok g/\C g≠Θ (Y m (Q f) c)) d b)/\Hid (∀o,Ev L (λr=>r.jl d b f) o->Ev L (λr=>r.jl d s []) o)) (λ_ wr=>Q L-qI wr pb);case atStart=>
  refine⟨[],s,none,0,K,θ,⟨vQ _,none,0,rY w _,kW _ _ _ _⟩,(Kept.refl B ok w).alloc _,⟨vQ _,W,W,W⟩,kW _ _ _ _,(HP.u.alloc _).mono λg j _=>⟨j,Ä⟩,λ_ h=>h⟩
 case round=>
  obtain⟨f,b,m,c,rfl,az,NR,KR,T,OR,D,M⟩:=hrel;have HT:=H7 u D.u [125];have b1:=D.u.at';have b4:=D.u.j3;have hj:=T.u.1;have b0:=D.u.fq;generalize hq:aL L b.i [[125]]=aq at*;have Q1:=O hq;clear hq;go_wp2_with fail;refine HT.mono ?_;clear HT;rintro e ah ⟨rfl,a,i⟩;have t:=O<|KR.u.trans<|a.mono λ_ h=>h.1;have H:=O i;have z:=O (G9 OR.u a ζ);have N3:=O<|NR.u.kept a;clear a i OR D KR NR;cases aq
  .have F:aH ah B pb tv L (λg=>ok g/\C g≠Θ (Y m (Q f) c)) d b:=by simpa using H.u
   have HN:=QY u F (V w.heap) (V w.heap) (f.map (·.1)) N3.u â t.u.size;clear H F N3;have VG:=O λo l=>M.u o<|B8d Q1.u l;clear M;generalize ab:aO L b (f.map (·.1))=NN at*;have N0:=O ab;clear ab;go_wp2_with fail;refine HN.mono ?_;clear HN;rintro e au ⟨a,n⟩;have v:=O<|t.u.l9<|I.mono a λ_ _ a4=>a4.imp (λy=>⟨y.1,y.2.1,y.2.2.1⟩) id;have O4:=O (PM z.u a ζ);clear a t z;obtain _|⟨s1,nm⟩|⟨er,p⟩:=NN
   .exact n.elim
   .obtain⟨rfl,aa,i⟩:=n;have al:=gI N0.u;subst al;have a5:=I7 u i [58];have N4:=O aa;clear i aa;have V4:=O λo l=>VG.u o<|ú (s:=b.nx) (x:=nm) Ev.pure l;clear VG;go_wp2_with fail;refine a5.mono ?_;clear a5;rintro e av ⟨a,n⟩;have x:=O<|v.u.trans<|a.mono λ_ h=>h.1;have O5:=O (G9 O4.u a ζ);have N5:=O<|N4.u.kept a;clear a v O4 N4;obtain⟨k,rfl,i⟩|⟨k,rfl⟩:=n
    .have b2:=i.at';have HM:=aj (Q L-b.nx.nx.i) (by grind[St.nx]) av _ d b.nx.nx (vQ _) (λg j=>⟨a3 g<|kQ x.u.size j,λhx=>by have:=(O5.u.lt g hx.symm).2;omega⟩) (kQ hB x.u.size) i;have V5:=O λo l=>V4.u o<|ú (Q8 k) l;clear i k V4;go_wp2_with fail;refine HM.mono ?_;clear HM;rintro e b7 ⟨a,o,a9,ac⟩;have Z:=O<|x.u.trans<|a.mono λ_ h=>h.1;have O6:=O (G9 O5.u a ζ);have N6:=O<|N5.u.kept a;have S:=O a9;clear a a9 x O5 N5;cases o with
     |fail er p=>
      obtain⟨rfl,he⟩:=ac;exact⟨K,J1 Z.u (V5.u _<|ø S.u) he⟩
     |ok q y=>
      obtain⟨rfl,i,j⟩:=ac;have a6:=I7 u i [59];have G6:=O j;have V6:=O λo l=>V5.u o<|ú S.u l;clear i j V5 S;go_wp2_with fail;refine a6.mono ?_;clear a6;rintro e aw ⟨a,n⟩;have G:=O<|Z.u.trans<|a.mono λ_ h=>h.1;have A:=O (G9 O6.u a ζ);have N7:=O<|N6.u.kept a;clear a Z O6 N6;obtain⟨k,rfl,i⟩|⟨k,rfl⟩:=n
      .have P7:=O i;have b3:=i.at';have V7:=O λo l=>V6.u o<|ú (Q8 k) l;clear i k V6;have G7:=O (show b.i+4<=q.nx.i/\Q q.nx.N+b.i<=Q b.N+q.nx.i/\Q q.nx.T+b.i<=Q b.T+q.nx.i/\Q b.N<=Q q.nx.N by
        have N:=G6.u;grind[F8,St.nx]);clear G6;generalize q.nx=s7 at*;obtain⟨i0,ak,am,an,ao⟩:=ý Tryz.j7;have af:=O<|A.u.alloc<|γ #[ι ⟨ξ nm⟩,U y] 139;go_wp2_with (at_builtin;refine wpList_append_own_at _ K _ _ 97 K (V w.heap) 139 i0 _ 2 24 underlying97 ak am an ao K ζ _ _ _ K af.u (J (V aw.heap) 0) 1 1 [ι ⟨ξ nm⟩,U y] K K ?c1 ?c2 ?c3 ?c4 ?c5 ?_);case c1=>grind[Vg]
       case c2=>intro b6 hu;simp at hu;obtain rfl|rfl:=hu<;>rfl
       case c3=>grind[Δ]
       case c4=>omega
       case c5=>have:=G.u.size;simp;omega
       .intro v' ax R P _ a8;obtain⟨a7,c2,ae⟩:=B8 R;rw[ae]at R a8⊢;have PG:=O ((P7.u.alloc<|γ #[ι ⟨ξ nm⟩,U y] 139).grown (v:=Y m (Q f) c) (v':=Y a7 (Q f+1) c2) (A.u.alloc _) (.inr K) P ù);have KG:=O<|(G.u.alloc<|γ #[ι ⟨ξ nm⟩,U y] 139).grown (A.u.alloc _) P;have NG:Hid (gG ax (V w.heap) (V w.heap) ((f.map (·.1))++[nm])):=by
         refine(N7.u.P (I.alloc No _<|γ #[ι ⟨ξ nm⟩,U y] 139) λ_ _ _ _ a4=>a4.elim).P (I.grown P) λap cs e hh hx=>?_;obtain⟨_,ay,a2⟩:=A9 (A.u.alloc<|γ #[ι ⟨ξ nm⟩,U y] 139) ap hx.symm;rw[hh]at a2;simp only[zQ,xW]at a2;obtain⟨_,rfl,_⟩:=a2;exact⟨ζ,ζ⟩
        have OG:=O R;clear R P a8 af P7 A G ae N7;go_wp2_with fail;go_roundw;case rel=>
         have h1:=T.u;have N:=G7.u;simp only[L9]at h1;refine⟨f++[(nm,y)],s7,a7,c2,θ,η,η,KG.u,⟨W,W,W,W⟩,?_,?_,V7.u⟩<;>simp_all[ρ,PD,O0]
        case measure=>
         have N:=G7.u;have h3:=PG.u.j3;omega
      .exact⟨K,J1 G.u (V6.u _<|ø<|U3 k) ζ⟩
    .exact⟨K,J1 x.u (V4.u _<|ø<|U3 k) ζ⟩
   .have he:=Xw N0.u;obtain rfl:=n;exact⟨K,J1 v.u (VG.u _<|ø Ev.pure) he⟩
  .have F:aH ah B pb tv L (λg=>ok g/\C g≠Θ (Y m (Q f) c)) d b.nx:=by simpa using H.u
   have PY:=F.mono (ok':=ok) λg j _=>j.1;have HA:=EH u PY ⟨7,f,[],0⟩ m none (Q f) c 0 0 ⟨_,_,K,C7 z.u<|wQ _,kW _ _ _ _,λg j=>a3 g (A9 z.u g j).1,Ä⟩ (by simp_all[St.nx]) (kQ hB t.u.size) λg j=>a3 g<|kQ t.u.size j;have EV:=O<|M.u _<|uo Q1.u;have GX:=O (show F8 s ⟨b.nx.i,b.nx.N,b.nx.T++[⟨7,f,[],0⟩]⟩ by
    have N:=T.u;simp only[F8,L9,St.nx,qQ,jQ,xQ]at N⊢;omega);clear M H F PY z N3;go_wp2_with fail;refine HA.mono ?_;clear HA;rintro e au ⟨rfl,a,i⟩;have v:=O<|t.u.trans a;have ai:=O i;clear a i;go_wp2_with fail;go_ret;exact rI v.u EV.u ai.u GX.u
end
open Go.Proofs.Tryz
open Go.RowKit
def Tryz.py:(prog.info? 82).map (λi=>(i.zero,i.size,i.bytes))=C (C<|.agg #[U 0,U 0,U 0,U 0,sN,ι ⟨#[]⟩,U 0,U 0,U 0],9,96):=î
section
variable{w:E}{B a:Nat}{c:υ}{L:List Tk}{b:Nat->Prop}{d:Nat}{s:St}
def dR.rj{w w1 w2:E}{B a}{c}{L}{b}{d:Nat}{s:St}{l}{F G}{h}{i g cap}{t}{a4}(T:B<=a)(a7:s.i<Q L)(aa:Q s.T<=s.i)(hf:Q s.N+1<=s.i+1)
 (a3:ρ w 0 106 3 c (Q L)<|rows L) (p:w.heap[a]?=C (γ #[c,U s.i,U d,Y h (Q s.N) i,l] 78 (0,0)))
 (q:ρ w B 82 9 (Y h (Q s.N) i) (Q s.N) F) (hy:ρ w B 99 4 l (Q s.T) G) (ae:eN (gE w b) s.N F) (af:eN (eI w b) s.T G) (ht:gE w b t [U t.x,U t.a,U t.b,U t.c,a4,ι ⟨ξ t.text⟩,U t.n,U t.ty,U t.at']) (A:b a/\(∀g,Θ (Y h (Q s.N) i)=C g->b g)/\(∀g,Θ l=C g->b g)) (ak:b g)
 (o:I No w w1) (R:w1.grownBy w2<|Θ<|Y h (Q s.N) i) (ho:w2.ownsRow B 82 9 (Y (C<|J g 0) (Q s.N+1) cap) (Q s.N+1)<|F++[U t.x,U t.a,U t.b,U t.c,a4,ι ⟨ξ t.text⟩,U t.n,U t.ty,U t.at']):
 Kept B b w (w2.setCell (J a 3)<|Y (C<|J g 0) (Q s.N+1) cap)/\dR (w2.setCell (J a 3)<|Y (C<|J g 0) (Q s.N+1) cap) B a c L b d ⟨s.i,s.N++[t],s.T⟩:=by
 have Z:=(aG p);have P:=o.block a Z λx=>x;have ag:=A3 q o Ξ;have ac:C a≠Θ (Y h (Q s.N) i):=by
  intro f;obtain⟨_,n,m⟩:=A9 ag a f.symm;rw[P,p]at m;simp only[zQ,xW]at m;exact absurd m.2.1 ζ
 have a8:w2.heap[a]?=C (γ #[c,U s.i,U d,Y h (Q s.N) i,l] 78 (0,0)):=by rw[R.block a (yQ Z o.size) ac,P,p]
 have a9:=(o.mono λ_ _ x=>x.elim).trans (I.grown R) Ξ;have j:I (λk=>C k=Θ (Y h (Q s.N) i)\/k=a) w (w2.setCell (J a 3)<|Y (C<|J g 0) (Q s.N+1) cap):=(a9.mono λ_ _ x=>.inl x).trans (I.set _ _ _) λ_ _ x=>.inr x;have a2:∀{H:Nat} {e:Ò} {a6:Nat} {v:υ} {a5:Nat} {xs:List υ},ρ w H e a6 v a5 xs->e≠78->e≠82->∀k,Θ v=C k->¬(C k=Θ (Y h (Q s.N) i)\/k=a):=by
  intro H e a6 v a5 xs hw he ai k z f;obtain⟨_,n,m⟩:=A9 hw k z;obtain f|rfl:=f
  .obtain⟨_,M,y⟩:=A9 q k f.symm;grind
  .grind
 have D:∀k,b k->k<V w.heap->(C k=Θ (Y h (Q s.N) i)\/k=a)->(∃n e,w.heap[k]?=C (γ n e (0,0))/\(e=139\/e=3))->False:=by
  rintro k _ _ f ⟨n,e,m,he⟩;obtain f|rfl:=f
  .obtain⟨_,M,y⟩:=A9 q k f.symm;grind
  .grind
 have u:(w2.setCell (J a 3)<|Y (C<|J g 0) (Q s.N+1) cap).heap[a]?=C (γ #[c,U s.i,U d,Y (C<|J g 0) (Q s.N+1) cap,l] 78 (0,0)):=by rw[ð w2 a 3 _ _ _ a8];rfl
 refine⟨j.mono λk z f=>?_,T,a7,⟨η,aa⟩,A3 a3 j<|a2 a3 ζ ζ,⟨A.1,λah N r S=>?_,λah N r S=>?_⟩,_,l,_,G,u,?_,A3 hy j<|a2 hy ζ ζ,(ae.imp<|gE.P j D λ_ x _=>x).snoc<|gE.P j D (λ_ x _=>x) _ _ ht,af.imp<|eI.P j D λ_ x _=>x⟩
 .obtain f|rfl:=f
  .obtain⟨ab,M,y⟩:=A9 q k f.symm;exact⟨ab,⟨_,_,_,y,.inr<|.inl K⟩,A.2.1 _ f.symm⟩
  .exact⟨T,⟨_,_,_,p,.inl K⟩,A.1⟩
 .rw[ä _ a 3 _ _ _ u]at r;cases r;have aj:C g=C N:=S;grind
 .rw[ä _ a 4 _ _ _ u]at r;grind
 .have:=A3 ho (I.set w2 (J a 3)<|Y (C<|J g 0) (Q s.N+1) cap) (λk z f=>by
   have al:=f;grind[A9]);grind
def Aj(hL:cY L)(a3:aH w B a c L b d s)(t)(l)(n m)(P:gE w b t [U t.x,U t.a,U t.b,U t.c,Y l n m,ι ⟨ξ t.text⟩,U t.n,U t.ty,U t.at'])(hf:Q s.N+1<=s.i+1)(hB:B<=V w.heap)(ai:∀ g,V w.heap<=g->b g):
 μ ε 86 #[pV a,.agg #[U t.x,U t.a,U t.b,U t.c,Y l n m,ι ⟨ξ t.text⟩,U t.n,U t.ty,U t.at']] w λa2 T=>a2=π (U (Q s.N))/\Kept B b w T/\dR T B a c L b d ⟨s.i,s.N++[t],s.T⟩:=by
 obtain⟨a7,a4,a6,R,r,nv,yv,nx,yx,h,i,S,M,N⟩:=a3;obtain⟨e,f,rfl⟩:=B8 i;have aj:=hL.jq;have F:=(aG h);have A:δ w (J a 3)=C (Y e (Q s.N) f):=cr h K;have fz:=λac=>æ w a ac _ _ h;have a8:b a/\(∀g,Θ (Y e (Q s.N) f)=C g->b g)/\(∀g,Θ yv=C g->b g):=⟨r.1,λg j=>r.2.1 _ g A j,λg j=>r.2.2 _ g (cr h K) j⟩;have v:=O λo ae g p=>dR.rj (w1:=o) (w2:=ae) (g:=g) (cap:=p) a7 a4 a6.2 hf R h i S M N P a8;have Z:=O (λg (j:Θ (Y e s.N.length f)=C g\/g=w.heap.size+2)=>show b g from η);have G:Θ (Y e (Q s.N) f)≠C a:=by
  intro u;obtain⟨_,af,q⟩:=A9 i a u;rw[h]at q;simp only[zQ,xW]at q;exact absurd q.2.1 ζ
 have ah:Θ (Y e (Q s.N) f)≠C (V w.heap):=by
  intro u;have:=(i.lt _ u).2;omega
 have z:=O i;obtain⟨i0,hi,a9,aa,ab⟩:=ý Tryz.py;clear P R h i S M N;go_in;go_wp2_with fail
 go_region_law ((refine step_append_lies _ Ω _ _ _ Ω B 82 i0 _ 9 96 underlying37 hi a9 aa ab K W (Y e (Q s.N) f) (Q s.N) nx Ω (((z.u.alloc _).alloc _).drew) (J (V w.heap+1) 0) 1 1 [U t.x,U t.a,U t.b,U t.c,Y l n m,ι ⟨ξ t.text⟩,U t.n,U t.ty,U t.at'] Ω Ω (Ó (cs:=#[U t.x,U t.a,U t.b,U t.c,Y l n m,ι ⟨ξ t.text⟩,U t.n,U t.ty,U t.at']) (t:=82) (fr:=(0,0))<|QW w _ _) (by simp [Value.oneCell']) W Ñ W (by simp;omega) (V w.heap+2) θ ?_;intro D p o H k a5 ag;have z4:δ o (J a 3)=C (Y e (Q s.N) f):=by rw[k.cell_far _ â<|Ne.symm G];exact I9 â<|I9 F A
                 have y4:o.frozen? (J a 3)=κ:=by rw[k.frozen_far _ â<|Ne.symm G];exact U4 â<|U4 F<|fz 3));all_goals
  have y:=O<|v.u _ _ D p (Z.u D a5) (((I.alloc No w _).trans (I.alloc No _ _) Ξ).trans (I.drewN No _ 1) Ξ) k H;clear k H v z;go_wp2;go_ret;exact⟨M9 W,y.u.1,y.u.2⟩
def U0(p:cY L)(h:aH w B a c L b d s)(t)(f)(j i)(r:gE w b t [U t.x,U t.a,U t.b,U t.c,Y f j i,ι ⟨ξ t.text⟩,U t.n,U t.ty,U t.at'])(u:Q s.N+1<=s.i)(o:B<=V w.heap)(q:∀g,V w.heap<=g->b g):
 μ ε 86 #[pV a,.agg #[U t.x,U t.a,U t.b,U t.c,Y f j i,ι ⟨ξ t.text⟩,U t.n,U t.ty,U t.at']] w λe k=>e=π (U (Q s.N))/\Kept B b w k/\aH k B a c L b d ⟨s.i,s.N++[t],s.T⟩:=
 (Aj p h t f j i r W o q).mono λe k ⟨l,m,n⟩=>⟨l,m,n.ph η⟩
end
theorem B6{w a b}(h:I No w a)(k:I No a b):I No w b:=h.trans k Ξ
def A4{w b}(c:I No w b){a}{v}(h:δ w a=C v):δ b a=C v:=by
 have d:=Ü w a h;have e:=c.block a.block d λx=>x;grind[δ]
def Z3(w:E)(B g:Nat)(h:υ)(L:List Tk)(c:Nat->Prop)(d:Nat)(s:St)(i:Sp->Option (Out Int))(e:ò)(f:E):Prop:=
 Kept B c w f/\∃o,Ev L i o/\match o with
  |.ok a x=>e=π (U x)/\aH f B g h L c d a/\F8 s a/\0<=x/\x<Q a.N
  |.fail b p=>e=gu b p/\b≠0
def bG(B b:Nat)(c:υ)(L:List Tk)(e:Nat)(f:Nat->St->Sp->Option (Out Int))(m:Nat):Prop:=
 ∀(w) (a) (d) (s),Q L-s.i<=m->(∀g,V w.heap<=g->a g)->B<=V w.heap->aH w B b c L a d s->
  μ ε e #[pV b] w (Z3 w B b c L a d s<|f d s)
def Ev.vb{a b}{L}{c}{k:Sp->St->a->Option (Out b)}{F}(d:∀o,Ev L (λr=>A8 (c r)<|k r) o->Ev L F o){s}{x}(h:Ev L c<|.ok s x):∀o,Ev L (λr=>k r s x) o->Ev L F o:=λo e=>d o<|ú h e
def bG.s0{B b}{c}{L}{a}{f}{m}(h:bG B b c L a f m):lM B b c L a f m:=λw p d s g i j l=>(h w p d s g i j l).mono λe r ⟨k,o,n,q⟩=>⟨k,o,n,η⟩
section
variable{w:E}{B a:Nat}{b:υ}{L:List Tk}{ok:Nat->Prop}{d:Nat}{s:St}
def RT(m:cY L)(h:aH w B a b L ok d s):
 μ ε 84 #[pV a] w λe u=>e=π (.bool<|lY L s.i)/\I No w u:=by
 have H:=W6 m h;have o:=λc (j:aH c B a b L ok d s)=>sY m (j.alloc<|γ (pZ M6) 9) (V c.heap) 10 M6 (xG _ _ _) ζ;have q:=O λc (f:I No w c)=>h.y f;have F:=Z7;unfold lY;generalize aL L s.i M6=v at*;generalize tk L s.i=r at*;obtain⟨g,t,G⟩:=r;simp only[jK]at H⊢;generalize (⟨ξ t⟩:ByteArray)=y at*;go_in;go_wp2_with fail;refine H.mono ?_;rintro e c ⟨rfl,f⟩;have p:=O<|q.u c f;have i:=O f;by_cases j:g=1
 .subst j;go_wp2;go_ret;exact⟨F9 θ,i.u⟩
 .have z:(g==1)=κ:=by simp[j]
  by_cases k:g=3
  .subst k;go_wp2;go_ret;exact⟨F9 θ,i.u⟩
  .have A:(g==3)=κ:=by simp[k]
   by_cases l:g=4
   .subst l;go_wp2;go_ret;exact⟨F9 θ,i.u⟩
   .have D:(g==4)=κ:=by simp[l]
    go_wp2_with fail;refine(o _ p.u).mono ?_;rintro e M ⟨rfl,f⟩;have n:=O<|i.u.trans ((I.alloc No c _).trans f Ξ) Ξ;go_wp2;go_ret;exact⟨F9 η,n.u⟩
def Ip(n:cY L)(h:aH w B a b L ok d s)(t)(y)(c)(i f)(v:gE w ok t [U t.x,U t.a,U t.b,U t.c,Y c i f,ι ⟨ξ t.text⟩,U t.n,U t.ty,U t.at'])(z:t.ty=-1)(o:Q s.N+1<=s.i+1)(A:B<=V w.heap)(r:∀g,V w.heap<=g->ok g):
 μ ε 45 #[pV a,.agg #[U t.x,U t.a,U t.b,U t.c,Y c i f,ι ⟨ξ t.text⟩,U t.n,U y,U t.at']] w λe k=>e=π (U (Q s.N))/\Kept B ok w k/\dR k B a b L ok d ⟨s.i,s.N++[t],s.T⟩:=by
 have j:=Aj n (h.alloc<|γ #[U t.x,U t.a,U t.b,U t.c,Y c i f,ι ⟨ξ t.text⟩,U t.n,U<|-1,U t.at'] 82) t c i f (gE.P (I.alloc No _ _) (λ_ _ _ x _=>x) (λ_ x _=>x) _ _ v) o â (λg p=>r g<|by simp at p;omega);rw[z]at j;go_in;go_wp2_with fail;refine j.mono ?_;rintro e D ⟨rfl,q,u⟩;have l:=O<|((Kept.refl B ok w).alloc _).trans q;have m:=O u;go_wp2;go_ret;exact⟨K,l.u,m.u⟩
def Q6(o:cY L)(h:aH w B a b L ok d s)(t)(y)(c)(i f)(q:gE w ok t [U t.x,U t.a,U t.b,U t.c,Y c i f,ι ⟨ξ t.text⟩,U t.n,U t.ty,U t.at'])(r:t.ty=-1)(u:Q s.N+1<=s.i)(n:B<=V w.heap)(p:∀g,V w.heap<=g->ok g):
 μ ε 45 #[pV a,.agg #[U t.x,U t.a,U t.b,U t.c,Y c i f,ι ⟨ξ t.text⟩,U t.n,U y,U t.at']] w λe j=>e=π (U (Q s.N))/\Kept B ok w j/\aH j B a b L ok d ⟨s.i,s.N++[t],s.T⟩:=
 (Ip o h t y c i f q r W n p).mono λe j ⟨k,l,m⟩=>⟨k,l,m.ph η⟩
def iJ(w:E)(c:Nat)(e:List bZ):Prop:=w.heap[c]?=C (γ (pZ e) 9 (0,0))
theorem iJ.strs{c}{e}(h:iJ w c e):Strs w c e:=
 ⟨(aG h),λj f=>by rw[ä w c j _ _ _ h];grind[pZ]⟩
def iJ.kept{ok}{g}{c}{f}(h:iJ w c f)(i:Kept B ok w g):iJ g c f:=by
 unfold iJ at h⊢;rw[i.block c (aG h) λx=>?_]
 .omega
 .obtain⟨j,e,k,l,r⟩:=x.2.1;grind
def TC{i}{c}(h:aL L i c=τ):(tk L i).x≠6:=by
 grind[aL]
def zO{ok}{w f}{q:Nat}{c}{e}(g:Kept B ok w f)(h:w.heap[q]?=C (γ c e (0,0)))(l:e≠78/\e≠82/\e≠99):f.heap[q]?=C (γ c e (0,0)):=by
 rw[g.block q (aG h) λx=>?_]
 .omega
 .obtain⟨i,j,k,m,r⟩:=x.2.1;grind
theorem aH.free{S}{A}{ok'}(h:aH w B a b L ok d s)(i:I S w A)(l:∀k,S k->¬ok k/\Θ b≠C k)(j:∀g,ok g->g<V w.heap->ok' g):aH A B a b L ok' d s:=by
 obtain⟨G,H,M,N,f,z,D,Z,yx,n,t,u,P,R⟩:=h;have r:=(aG n);have o:δ w (J a 3)=C z:=cr n K;have p:δ w (J a 4)=C D:=cr n K;have q:=i.block a r λx=>(l a x).1 f.1;have y:∀g,ok g->g<V w.heap->S g->(∃F e,w.heap[g]?=C (γ F e (0,0))/\(e=139\/e=3))->False:=λg c _ T _=>(l g T).1 c;refine⟨G,H,M,A3 N i λg c x=>(l g x).2 c,⟨j _ f.1 r,λv g m c=>?_,λv g m c=>?_⟩,z,D,Z,yx,q.trans n,A3 t i λg c x=>(l g x).1<|f.2.1 _ g o c,A3 u i λg c x=>(l g x).1<|f.2.2 _ g p c,P.imp<|gE.P i y j,R.imp<|eI.P i y j⟩
 .rw[Ë q,o]at m;cases m;exact j g (f.2.1 _ g o c) (t.lt g c).2
 .rw[Ë q,p]at m;cases m;exact j g (f.2.2 _ g p c) (u.lt g c).2
def J2{ok}{c e}{q}{o}(f:Kept B ok c e)(h:c.heap[q]?=C o)(g:¬ok q):e.heap[q]?=C o:=(f.block q (aG h) λx=>g x.2.2).trans h
def aH.nodeAt(h:aH w B a b L ok d s){k}(f:k<Q s.N):∃g c,δ w (J a 3)=C (Y (C<|J g 0) (Q s.N) c)/\Q s.N<=c/\c<=Δ/\g<V w.heap/\a<V w.heap/\δ w (J g<|k*9+8)=C (U<|iC s k):=by
 obtain⟨A,F,D,G,e,i,v,o,u⟩:=h.blk;obtain⟨y,p,rfl⟩:=B8 i;obtain⟨g,rfl,_,l,j,m,t⟩:=D5 i W;obtain⟨z,n,r⟩:=eN.at (λ_ _ h=>gE.len h) k f o;refine⟨g,p,cr e K,j,m,l,(aG e),?_⟩;obtain⟨x,rfl,_⟩:=n;have q:iC s (k:Int)=s.N[k].at':=by simp[iC,List.getD,f]
 simp_all
end
section
variable{B a:Nat}{b:υ}{L:List Tk}
end
section
variable{w:E}{B a:Nat}{c:υ}{L:List Tk}{b:Nat->Prop}{d:Nat}{s:St}
def Qx(k)(w:E):μ ε 252 #[U k] w λe i=>e=π (U<|lX k)/\i=w:=by
 by_cases f:k=5
 .subst f;go_in;go_wp2;go_ret;exact⟨K,K⟩
 .by_cases g:k=8
  .subst g;go_in;go_wp2;go_ret;exact⟨K,K⟩
  .by_cases h:k=9
   .subst h;go_in;go_wp2;go_ret;exact⟨K,K⟩
   .have e:lX k=0:=by simp[lX,f,g,h]
    rw[e];go_in;go_wp2;go_ret;exact⟨K,K⟩
def aH.cut(h:aH w B a c L b d s){k g f}(hk:k<Q s.N)(h3:δ w (J a 3)=C (Y (C<|J g 0) (Q s.N) f)):
 aH (σ w (J a 3)<|Y (C<|J g 0) k f) B a c L b d ⟨s.i,s.N.take k,s.T⟩/\Kept B b w (σ w (J a 3)<|Y (C<|J g 0) k f):=by
 have a7:=h.ju 3<|Y (C<|J g 0) k f;obtain⟨h1,h2,hf,D,F,R,z,y,yx,l,hn,N,a8,a9⟩:=h;have p:δ w (J a 3)=C R:=cr l K;have c4:δ w (J a 4)=C z:=cr l K;have Z:R=Y (C<|J g 0) (Q s.N) f:=by rw[h3]at p;exact(xZ p).symm
 subst Z;have m:=I.set w (J a 3)<|Y (C<|J g 0) k f;have u:∀{A:Nat} {e:Ò} {S:Nat} {v:υ} {n:Nat} {T:List υ},ρ w A e S v n T->e≠78->∀g,Θ v=C g->¬g=a:=by
  intro A e S v n T ho t g hg M;subst M;obtain⟨_,j,i⟩:=A9 ho g hg;rw[l]at i;simp only[zQ,xW]at i;exact t i.2.1.symm
 have P:∀g,b g->g<V w.heap->g=a->(∃j e,w.heap[g]?=C (γ j e (0,0))/\(e=139\/e=3))->False:=by
  rintro g _ _ rfl ⟨j,e,i,t⟩;rw[l]at i;simp at i;obtain rfl|rfl:=t
  .grind
  .grind
 have r:(σ w (J a 3)<|Y (C<|J g 0) k f).heap[a]?=C (γ #[c,U s.i,U d,Y (C<|J g 0) k f,z] 78 (0,0)):=by rw[ð w a 3 _ _ _ l];rfl
 have hcut:ρ w B 82 9 (Y (C<|J g 0) k f) k (y.take<|k*9):=by
  obtain⟨M,_⟩|⟨q,ab,j,H,a2,a6,ac,a3,a4,ad⟩:=hn.2
  .omega
  .simp at H;obtain⟨rfl,rfl⟩:=H;refine⟨?_,.inr ⟨g,f,j,K,a2,a6,W,a3,a4,?_⟩⟩<;>grind
 have hl:Q (s.N.take k)=k:=by rw[List.length_take];omega
 have a5:ρ (σ w (J a 3)<|Y (C<|J g 0) k f) B 82 9 (Y (C<|J g 0) k f) (Q (s.N.take k)) (y.take<|k*9):=by
  rw[hl];exact A3 hcut m (u hcut ζ)
 refine⟨⟨h1,h2,⟨η,hf.2⟩,A3 D m<|u D ζ,?_,Y (C<|J g 0) k f,z,y.take<|k*9,yx,r,a5,A3 N m<|u N ζ,(eN.take (λ_ _ h=>gE.len h) k a8).imp<|gE.P m P λ_ x _=>x,a9.imp<|eI.P m P λ_ x _=>x⟩,a7⟩;refine⟨F.1,λaa q o G=>?_,λaa q o G=>?_⟩
 .rw[ä _ a 3 _ _ _ r]at o;cases o;exact F.2.1 _ q p G
 .rw[ä _ a 4 _ _ _ r]at o;grind
def aH.ll(h:aH w B a c L b d s){k}(t):∃g l i j,δ w (J a 3)=C (Y (C<|J g 0) (Q s.N) l)/\Q s.N<=l/\l<=Δ/\g<V w.heap/\a<V w.heap/\w.frozen? (J a 3)=κ/\
 δ w (J g<|k*9)=C (U s.N[k].x)/\δ w (J g<|k*9+1)=C (U s.N[k].a)/\δ w (J g<|k*9+2)=C (U s.N[k].b)/\δ w (J g<|k*9+3)=C (U s.N[k].c)/\δ w (J g<|k*9+4)=C (Y i (Q s.N[k].M) j)/\
 δ w (J g<|k*9+5)=C (ι ⟨ξ s.N[k].text⟩)/\δ w (J g<|k*9+6)=C (U s.N[k].n)/\δ w (J g<|k*9+7)=C (U s.N[k].ty)/\δ w (J g<|k*9+8)=C (U s.N[k].at')/\
 ρ w 0 3 1 (Y i (Q s.N[k].M) j) (Q s.N[k].M) (C8 s.N[k].M)/\(∀g,Θ (Y i (Q s.N[k].M) j)=C g->b g):=by
 obtain⟨H,N,M,P,m,o,A,x,z⟩:=h.blk;obtain⟨F,y,rfl⟩:=B8 o;obtain⟨g,rfl,_,q,p,r,f⟩:=D5 o W;obtain⟨G,u,e⟩:=eN.at (λ_ _ h=>gE.len h) k t x;obtain⟨D,rfl,n,v⟩:=u;obtain⟨i,j,rfl⟩:=B8 n;exact⟨g,y,i,j,cr m K,p,r,q,(aG m),æ w a 3 _ _ m,f _ _<|(e 0 W).trans K,f _ _<|(e 1 W).trans K,f _ _<|(e 2 W).trans K,f _ _<|(e 3 W).trans K,f _ _<|(e 4 W).trans K,f _ _<|(e 5 W).trans K,f _ _<|(e 6 W).trans K,f _ _<|(e 7 W).trans K,f _ _<|(e 8 W).trans K,n,v⟩
def Gx(w:E)(e f){n}(g:V w.heap=n):((w.alloc e).alloc f).heap[n]?=C e:=by
 grind[heap_alloc_old,rY]
def Zn(w:E)(f e){n}(g:V w.heap=n):((w.alloc f).alloc e).heap[n+1]?=C e:=by
 subst g;have h:=rY (w.alloc f) e;simp_all
def I.put{S}{f e}{q o}{v}(h:I S f e)(g:S q):I S f (σ e (J q o) v):=
 h.trans (I.mono (I.set e (J q o) v) λ_ _ x=>η) Ξ
def Bp(w:E)(B a:Nat)(c:υ)(L:List Tk)(b:Nat->Prop)(d:Nat)(s:St)(k:Nat)(n:Nd)(m:Sp->Option (Out Int))(e:ò)(j:E):Prop:=
 Kept B b w j/\∃o,Ev L m o/\match o with
  |.ok f v=>(∃h i,e=π (.agg #[U (kJ n v).x,U (kJ n v).a,U (kJ n v).b,U (kJ n v).c,Y h (Q n.M) i,ι ⟨ξ n.text⟩,U n.n,U n.ty,U n.at'])/\ρ j 0 3 1 (Y h (Q n.M) i) (Q n.M) (C8 n.M)/\∀g,Θ (Y h (Q n.M) i)=C g->b g)/\aH j B a c L b d f/\s.i+1<f.i/\Q f.N+s.i+1<=Q s.N+f.i/\Q f.T+s.i+1<=Q s.T+f.i/\k<=Q f.N
  |.fail l p=>e=gu l p/\l≠0
def QG{w m t}{b j}{d k}{s l}{n}{x}{f}{h}{e}{o}(z:Kept B b w m)(D:Ev L o<|.ok l x)(M:aH m B a c L j d l)(F:F8 ⟨s.i+1,s.N.take k,s.T⟩ l)
 (G:ρ w 0 3 1 (Y f (Q n.M) h) (Q n.M)<|C8 n.M) (H:∀g,Θ (Y f (Q n.M) h)=C g->b g) (Z:Q (s.N.take k)=k) (N:∀g,j g->b g) (S:¬j (V w.heap)) (T:¬j (V w.heap+1)) (a2:Θ c≠C (V w.heap)) (a3:Θ c≠C (V w.heap+1))
 (r:I (λi=>i=V w.heap\/i=V w.heap+1) m t) (A:e=π (.agg #[U (kJ n x).x,U (kJ n x).a,U (kJ n x).b,U (kJ n x).c,Y f (Q n.M) h,ι ⟨ξ n.text⟩,U n.n,U n.ty,U n.at'])):Bp w B a c L b d s k n o e t:=by
 have q:=z.trans' r (λi P x=>W);have R:Q (s.N.take k)<=Q s.N:=by rw[List.length_take];omega
 obtain⟨p,u,v,y⟩:=F;simp only at p u v y;refine⟨q,_,D,⟨f,h,A,G9 G q ζ,H⟩,M.free r ?_ λg x _=>N g x,p,W,W,W⟩;grind
def B7e(hL:cY L)(ao)(hE:∀m',m'<ao->bG B a c L 207 (λd s r=>r.expr d s) m')(w)(b)(d)(s)(k:Nat)(hk)(hq:aL L s.i [[61]]=τ)(hm:Q L-s.i<=ao)(ax:∀g,V w.heap<=g->b g)(hB:B<=V w.heap)(aa:aH w B a c L b d s):
 μ ε 210 #[pV a,U k] w (Bp w B a c L b d s k s.N[k] λr=>if lX s.N[k].x=0 then bF L s.i 1 else r.expr d ⟨s.i+1,s.N.take k,s.T⟩):=by
 have hi:=aa.at';obtain⟨g,al,j,l,c3,bb,av,D,be,ar,n0,n1,n2,n3,n4,n5,n6,n7,n8,hl,an⟩:=aa.ll hk;unfold Δ at av;generalize au:(λ(r:Sp)=>if lX s.N[k].x=0 then bF L s.i 1 else r.expr d ⟨s.i+1,s.N.take k,s.T⟩)=FF;have M:Hid (∀o,Ev L (λr=>if lX s.N[k].x=0 then bF L s.i 1 else r.expr d ⟨s.i+1,s.N.take k,s.T⟩) o->Ev L FF o):=by
  rw[<-au];exact λ_ x=>x
 have hcut:=aa.cut hk c3;have ag:Q (s.N.take k)=k:=by rw[List.length_take];omega
 have H0:=O aa;have HK:=O λx ap=>Qx x ap;generalize s.N[k]=nd at*;obtain⟨i,v,y,z,n,t,q,u,m⟩:=nd;simp only at n0 n1 n2 n3 n4 n5 n6 n7 n8 hl an M⊢;have HL:=O hl;have ad:=O an;have ah:=H0.u.kq<|vQ _;have ai:Θ c≠C (V w.heap+1):=H0.u.kq W;by_cases ab:lX i=0
 .have G:=O<|HK.u i<|(ω w<|γ #[U 0,U 0,U 0,U 0,sN,ι ⟨#[]⟩,U 0,U 0,U 0] 82).alloc<|aM i v y z (Y j (Q n) l) t q u m;rw[ab]at G;have af:I No w ((ω w<|γ #[U 0,U 0,U 0,U 0,sN,ι ⟨#[]⟩,U 0,U 0,U 0] 82).alloc<|aM i v y z (Y j (Q n) l) t q u m):=(I.alloc No _ _).trans (I.alloc No _ _) Ξ;have HF:=O<|vP hL (H0.u.y af) 1;have K1:=O<|C9 (B:=B) (ok:=b) af;have F:=O (M.u (.fail 1 ((tk L s.i).at':Int))<|Ev.pure.eq λr=>by rw[yY ab];rfl);clear af M hcut;go_in;go_wp2_with fail;refine G.u.mono ?_;rintro a9 az ⟨rfl,rfl⟩;go_wp2_with fail;refine HF.u.mono ?_;rintro a9 aj ⟨rfl,hc⟩;exact⟨K,K1.u.trans<|C9 hc,_,F.u,K,ζ⟩
 .have G:=O<|HK.u i<|(ω w<|γ #[U 0,U 0,U 0,U 0,sN,ι ⟨#[]⟩,U 0,U 0,U 0] 82).alloc<|aM i v y z (Y j (Q n) l) t q u m;have hz:V (σ w (J a 3)<|Y (C<|J g 0) k al).heap=V w.heap:=θ;let A:Nat->Prop:=λg=>b g/\g≠V w.heap/\g≠V w.heap+1;have ak:aH ((ω (σ w (J a 3)<|Y (C<|J g 0) k al)<|γ #[U 0,U 0,U 0,U 0,sN,ι ⟨#[]⟩,U 0,U 0,U 0] 82).alloc<|aM i v y z (Y j (Q n) l) t q u m) B a c L A d ⟨s.i,s.N.take k,s.T⟩:=
   ((hcut.1.mono λg D bc=>⟨D,W,W⟩).alloc _).alloc _;have HN:=O<|I7 hL ak [61];have K1:=O<|(hcut.2.alloc<|γ #[U 0,U 0,U 0,U 0,sN,ι ⟨#[]⟩,U 0,U 0,U 0] 82).alloc<|aM i v y z (Y j (Q n) l) t q u m;have R:¬A (V w.heap):=λx=>x.2.1 K;have S:¬A (V w.heap+1):=λx=>x.2.2 K;have ay:∀g,V w.heap+2<=g->A g:=λg D=>⟨ax g W,W,W⟩;have Z:∀g,A g->b g:=λg x=>x.1;have bd:∀g,b g->g<V w.heap->A g:=λg x bi=>⟨x,W,W⟩;clear_value A;clear ak hcut;have FK:=O ab;clear ab;generalize H:lX i=kk at G;go_in;go_wp2_with fail;refine G.u.mono ?_;rintro a9 az ⟨rfl,rfl⟩;have fk:(kk==0)=κ:=by simpa[<-H]using FK.u
  go_wp2_with fail;refine HN.u.mono ?_;rintro a9 aj ⟨N,ac⟩;have f:=J2 N (Gx _ _ _ hz) R;have h:=J2 N (Zn _ _ _ hz) S;have bg:V w.heap+2<=V aj.heap:=by have:=N.size;simpa using this
  have K2:=O<|K1.u.trans<|N.mono Z;clear HN N K1 G;obtain⟨_,rfl,T⟩|⟨hx,_⟩:=ac;rotate_left
  .rw[hq]at hx;cases hx
  have H1:=O (hE (Q L-(s.i+1)) W aj A d ⟨s.i+1,s.N.take k,s.T⟩ (vQ _) (λg D=>ay g W) W T);clear T;go_wp2_with fail;refine H1.u.mono ?_;rintro a9 e ⟨P,o,am,ac⟩;have f:=J2 P f R;have h:=J2 P h S;have K3:=O<|K2.u.trans<|P.mono Z;have F:=O (M.u o<|am.eq λr=>η);have bh:=P.size;clear P am M H1 K2;cases o with
  |fail er p=>
   obtain⟨rfl,he⟩:=ac;exact⟨K,K3.u,_,F.u,K,he⟩
  |ok s3 x=>
   obtain⟨rfl,T,D,bf⟩:=ac;have ae:=O T;have G3:=O D;clear T D;have a0:δ e (J (V w.heap) 0)=C (U 0):=cr f K;have a1:δ e (J (V w.heap) 1)=C (U 0):=cr f K;have a2:δ e (J (V w.heap) 2)=C (U 0):=cr f K;have a3:δ e (J (V w.heap) 3)=C (U 0):=cr f K;have a4:δ e (J (V w.heap) 4)=C (sN):=cr f K;have a5:δ e (J (V w.heap) 5)=C (ι ⟨#[]⟩):=cr f K;have a6:δ e (J (V w.heap) 6)=C (U 0):=cr f K;have a7:δ e (J (V w.heap) 7)=C (U 0):=cr f K;have a8:δ e (J (V w.heap) 8)=C (U 0):=cr f K;have b0:δ e (J (V w.heap+1) 0)=C (U i):=cr h K;have b1:δ e (J (V w.heap+1) 1)=C (U v):=cr h K;have b2:δ e (J (V w.heap+1) 2)=C (U y):=cr h K;have b3:δ e (J (V w.heap+1) 3)=C (U z):=cr h K;have b4:δ e (J (V w.heap+1) 4)=C (Y j (Q n) l):=cr h K;have b5:δ e (J (V w.heap+1) 5)=C (ι ⟨ξ t⟩):=cr h K;have b6:δ e (J (V w.heap+1) 6)=C (U q):=cr h K;have b7:δ e (J (V w.heap+1) 7)=C (U u):=cr h K;have b8:δ e (J (V w.heap+1) 8)=C (U m):=cr h K;have z0:=æ e (V w.heap) 0 _ _ f;have y0:=æ e (V w.heap+1) 0 _ _ h;have z1:=æ e (V w.heap) 1 _ _ f;have y1:=æ e (V w.heap+1) 1 _ _ h;have z2:=æ e (V w.heap) 2 _ _ f;have y2:=æ e (V w.heap+1) 2 _ _ h;have z3:=æ e (V w.heap) 3 _ _ f;have y3:=æ e (V w.heap+1) 3 _ _ h;have z4:=æ e (V w.heap) 4 _ _ f;have y4:=æ e (V w.heap+1) 4 _ _ h;have z5:=æ e (V w.heap) 5 _ _ f;have y5:=æ e (V w.heap+1) 5 _ _ h;have z6:=æ e (V w.heap) 6 _ _ f;have y6:=æ e (V w.heap+1) 6 _ _ h;have z7:=æ e (V w.heap) 7 _ _ f;have y7:=æ e (V w.heap+1) 7 _ _ h;have z8:=æ e (V w.heap) 8 _ _ f;have y8:=æ e (V w.heap+1) 8 _ _ h;have lA:V w.heap<V e.heap:=W;have lb:V w.heap+1<V e.heap:=W;have aw:i=5/\kk=18\/i=8/\kk=19\/i=9/\kk=20:=by
    have aq:=FK.u;unfold lX at H aq;split at H<;>rename_i b9
    .omega
    split at H<;>rename_i ba
    .omega
    split at H<;>rename_i c3
    .omega
    .grind
   clear H FK fk f h n0 n1 n2 n3 n4 n5 n6 n7 n8 c3 ar;obtain⟨rfl,rfl⟩|⟨rfl,rfl⟩|⟨rfl,rfl⟩:=aw
   .go_wp2_with fail;refine ç (v:=.agg #[U 18,U x,U y,U z,Y j (Q n) l,ι ⟨ξ t⟩,U q,U u,U m]) (by simp[ã,results210,go_sem,a0,a1,a2,a3,a4,a5,a6,a7,a8]) K ?_;refine QG K3.u F.u ae.u G3.u HL.u ad.u ag Z R S ah ai ?_ K;iterate 11 refine I.put ?_ θ
    grind[I.refl]
   .go_wp2_with fail;refine ç (v:=.agg #[U 19,U v,U x,U z,Y j (Q n) l,ι ⟨ξ t⟩,U q,U u,U m]) (by simp[ã,results210,go_sem,a0,a1,a2,a3,a4,a5,a6,a7,a8]) K ?_;refine QG K3.u F.u ae.u G3.u HL.u ad.u ag Z R S ah ai ?_ K;iterate 11 refine I.put ?_ θ
    grind[I.refl]
   .go_wp2_with fail;refine ç (v:=.agg #[U 20,U v,U y,U x,Y j (Q n) l,ι ⟨ξ t⟩,U q,U u,U m]) (by simp[ã,results210,go_sem,a0,a1,a2,a3,a4,a5,a6,a7,a8]) K ?_;refine QG K3.u F.u ae.u G3.u HL.u ad.u ag Z R S ah ai ?_ K;iterate 11 refine I.put ?_ θ
    grind[I.refl]
end
section
variable{B a:Nat}{b:υ}{L:List Tk}
def Rh(n)(v):∃f d e c,kJ n v=⟨f,d,e,c,n.M,n.text,n.n,-1,n.at'⟩:=by
 unfold kJ;split
 .simp
 split<;>exact⟨_,_,_,_,K⟩
def AJ{w:E}{q}{m l k j i g f d c v0 v1 v2 v3 v4 v5 v6 v7 v8}{e}(h:w.heap[q]?=C (γ #[m,l,k,j,i,g,f,d,c] e (0,0))):
 (σ (σ (σ (σ (σ (σ (σ (σ (σ w (J q 0) v0) (J q 1) v1) (J q 2) v2) (J q 3) v3) (J q 4) v4) (J q 5) v5) (J q 6) v6) (J q 7) v7) (J q 8) v8).heap[q]?=C (γ #[v0,v1,v2,v3,v4,v5,v6,v7,v8] e (0,0)):=by
 have n:(σ w (J q 0) v0).heap[q]?=C (γ #[v0,l,k,j,i,g,f,d,c] e (0,0)):=by rw[ð w q 0 _ _ v0 h];rfl
 generalize σ w (J q 0) v0=u0 at*;have o:(σ u0 (J q 1) v1).heap[q]?=C (γ #[v0,v1,k,j,i,g,f,d,c] e (0,0)):=by rw[ð u0 q 1 _ _ v1 n];rfl
 generalize σ u0 (J q 1) v1=u1 at*;have p:(σ u1 (J q 2) v2).heap[q]?=C (γ #[v0,v1,v2,j,i,g,f,d,c] e (0,0)):=by rw[ð u1 q 2 _ _ v2 o];rfl
 generalize σ u1 (J q 2) v2=u2 at*;have r:(σ u2 (J q 3) v3).heap[q]?=C (γ #[v0,v1,v2,v3,i,g,f,d,c] e (0,0)):=by rw[ð u2 q 3 _ _ v3 p];rfl
 generalize σ u2 (J q 3) v3=u3 at*;have s:(σ u3 (J q 4) v4).heap[q]?=C (γ #[v0,v1,v2,v3,v4,g,f,d,c] e (0,0)):=by rw[ð u3 q 4 _ _ v4 r];rfl
 generalize σ u3 (J q 4) v4=u4 at*;have t:(σ u4 (J q 5) v5).heap[q]?=C (γ #[v0,v1,v2,v3,v4,v5,f,d,c] e (0,0)):=by rw[ð u4 q 5 _ _ v5 s];rfl
 generalize σ u4 (J q 5) v5=u5 at*;have u:(σ u5 (J q 6) v6).heap[q]?=C (γ #[v0,v1,v2,v3,v4,v5,v6,d,c] e (0,0)):=by rw[ð u5 q 6 _ _ v6 t];rfl
 generalize σ u5 (J q 6) v6=u6 at*;have v:(σ u6 (J q 7) v7).heap[q]?=C (γ #[v0,v1,v2,v3,v4,v5,v6,v7,c] e (0,0)):=by rw[ð u6 q 7 _ _ v7 u];rfl
 generalize σ u6 (J q 7) v7=u7 at*;have x:(σ u7 (J q 8) v8).heap[q]?=C (γ #[v0,v1,v2,v3,v4,v5,v6,v7,v8] e (0,0)):=by rw[ð u7 q 8 _ _ v8 v];rfl
 omega
theorem getD_at{k}{N:List Nd}(c:k<Q N):N.getD ((k:Int)).toNat kB=N[k]:=η
end
section
variable{w:E}{B pb:Nat}{c:υ}{L:List Tk}{ok:Nat->Prop}{d:Nat}{s:St}
theorem dR.cell{w}{B pb}{c}{L}{ok}{d}{s}(h:dR w B pb c L ok d s):
 ∃g a b e,c=Y (C<|J g 0) (Q L) a/\Q L<=a/\a<=Δ/\g<V w.heap/\pb<V w.heap/\δ w (J pb 0)=C (Y (C<|J g 0) (Q L) a)/\δ w (J pb 1)=C (U s.i)/\δ w (J pb 2)=C (U d)/\
  δ w (J pb 3)=C b/\δ w (J pb 4)=C e/\(∀o,w.frozen? (J pb o)=κ)/\∀j u,(rows L)[j]?=C u->δ w (J g j)=C u:=by
 obtain⟨p,a,rfl⟩:=B8 h.kz;obtain⟨g,rfl,_,m,i,k,l⟩:=D5 h.kz (by have:=h.at';omega);obtain⟨b,e,r,t,f,_⟩:=h.blk;have n:=(aG f);have q:=λo=>ä w pb o _ _ _ f;refine⟨g,a,b,e,K,i,k,m,n,η,η,η,η,η,λo=>?_,l⟩;grind[World.frozen?]
end
set_option linter.unusedSimpArgs false
section
variable{B a:Nat}{b:υ}{L:List Tk}
end
def I.bytes(S)(w)(e)(t):I S w (Lib.bytesWorld w e t):=by
 exact⟨K,K,K,by grind[Lib.bytesWorld_size],λk a _=>Lib.bytesWorld_at_old w e t k a⟩
section
variable{B a:Nat}{b:υ}{L:List Tk}
end
set_option linter.unusedSimpArgs false
section
variable{B a:Nat}{b:υ}{L:List Tk}
theorem aV.andThen{d}{m}{f g c}(h:aV B d m f g)(k:Kept B d g c):aV B d m f c:=by
 refine⟨k.os.trans h.os,k.tape.trans h.tape,k.output.trans h.output,kQ h.size k.size,λi j l=>?_⟩;have p:=h.block i j l;refine(k.block i (yQ j h.size) λx=>l ?_).trans p;obtain⟨q,⟨n,e,o,t,r⟩,s⟩:=x;exact .inl ⟨q,⟨n,e,o,η,r⟩,s⟩
def QX{n}{m}{w j}{q:Nat}{i}{e}(k:aV B n m w j)(h:w.heap[q]?=C (γ i e (0,0)))(o:e≠78/\e≠82/\e≠99/\e≠28/\e≠9):j.heap[q]?=C (γ i e (0,0)):=by
 refine(k.block q (aG h) λl=>?_).trans h;have p:∀f c g,w.heap[q]?=C (γ f c g)->c=e:=by
  intro f c g d;rw[h]at d;simp at d;exact d.2.1.symm
 obtain⟨_,⟨f,c,g,d,r⟩,_⟩|⟨_,f,c,g,d,r⟩:=l<;>grind
end
section
variable{w:E}{B b:Nat}{c:υ}{L:List Tk}{a:Nat->Prop}{d:Nat}{s:St}
def aV.mono{a ok'}{i}{e f}(h:aV B a i e f)(j:∀g,a g->ok' g):aV B ok' i e f:=
 I.mono h λ_ _ x=>x.elim (λx=>.inl ⟨x.1,x.2.1,j _ x.2.2⟩) .inr
theorem aV.trans{a}{j}{m n o}(h:aV B a j m n)(k:aV B a j n o):aV B a j m o:=by
 refine⟨k.os.trans h.os,k.tape.trans h.tape,k.output.trans h.output,kQ h.size k.size,λi p q=>?_⟩;have t:=h.block i p q;refine(k.block i (yQ p h.size) λx=>q ?_).trans t;obtain⟨l,⟨f,e,g,u,r⟩,v⟩|⟨l,f,e,g,u,r⟩:=x
 .exact .inl ⟨l,⟨f,e,g,η,r⟩,v⟩
 .exact .inr ⟨l,f,e,g,η,r⟩
def aV.grown{a}{g}{f w h:E}{o n}{e}{v}{p}(k:aV B a g f w)(l:ρ w (V f.heap) e o v n p)(j:w.grownBy h (Θ v)):aV B a g f h:=
 I.trans k (I.grown j) (λi q m=>by have:=(A9 l i m.symm).1;omega)
theorem aV.alloc{a}{g}{e f}(h:aV B a g e f)(o):aV B a g e (f.alloc o):=h.andThen<|(Kept.refl _ _ _).alloc o
def gG.grown{w j:E}{f i l q n}{g}{v}{r}(h:gG w f i g)(o:ρ w l 3 q v n r)(m:w.grownBy j (Θ v)):gG j f i g:=by
 refine h.P (I.grown m) λk t e x p=>?_;obtain⟨_,u,y⟩:=A9 o k p.symm;grind
theorem gG.alloc{w}{e g}{f}(h:gG w e g f)(o):gG (w.alloc o) e g f:=h.P (I.alloc No _ o) λ_ _ _ _ x=>x.elim
end
section
variable{B a:Nat}{b:υ}{L:List Tk}
end
def iD(a:Nat)(w b:E):Prop:=I (λk=>k=a\/k=a+1) w b
def iD.put{c}{a b}{q o}{v}(h:iD c a b)(d:q=c\/q=c+1):iD c a (σ b (J q o) v):=
 I.trans h (I.set b (J q o) v) (λi _ x=>η)
theorem iD.drew{c}{a b}(h:iD c a b):iD c a b.drew:=I.trans h (I.drewN No b 1) å
theorem iD.alloc{c}{a b}{o}(h:iD c a b):iD c a (b.alloc o):=I.trans h (I.alloc No b o) å
