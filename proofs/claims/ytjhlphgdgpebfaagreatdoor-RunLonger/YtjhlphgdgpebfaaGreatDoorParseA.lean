/-
  A part of the proof.
-/
import Derived.Test.YtjhlphgdgpebfaaGreatDoorProg
import Derived.Test.YtjhlphgdgpebfaaGreatDoorPlainA
import Derived.WalkKit
import Derived.WalkSpells
import Derived.WalkLawsBesides
import Derived.Laws.Rows
import Derived.Maps.AppendAt
import Derived.Deep.QuietTactic
import Derived.BigQuiet
import Derived.Deep.RegionHeld3
import Derived.Deep.RegionLaw
import Derived.Deep.AppendLies
set_option maxHeartbeats 0
set_option linter.all false
set_option maxRecDepth 100000
namespace Go.Proofs.YtjhlphgdgpebfaaGreatDoor
theorem Ψ{p:Prop}(h:p:=by kernel_rfl):p:=h
def ù{p:Prop}(h:p:=by simp[Value.ownBlock]):p:=h
def ç{p:Prop}(h:p:=by go_num):p:=h
def Ä{p:Prop}(h:p:=by grind[maxLen]):p:=h
def Ò{p:Prop}(h:p:=by grind[ByteArray.size]):p:=h
def ú{p:Prop}(h:p:=by go_simp):p:=h
open _root_.Array renaming size->V
open Bool renaming false->κ,true->τ
open Go renaming Value->χ,Ending->é,cell_of_row->á,Calls->μ,maxLen->Γ,heap_setCell_same->ê,bodyPost_ret->ä,frozen_of_row->ã,info_parts->ò,wpList_append_own_at->Ö,wpAnyH_take->ó
open Act renaming put->æ
open Ending renaming returned->π
open IntKind renaming i64->ω
open Obj renaming cells->γ
open Go.Proofs.Tryz renaming prog->η,underlying63->ü
open Value renaming slice->Y,pointer->υ,string->ζ,ownBlock->Δ
open World renaming ownsRow->ξ,cell?->δ,block_lt_of_cell?->Ì,cell?_of_block->ý,alloc->σ
open List renaming toArray->ν,length->Q
open Option renaming some->C
theorem _root_.Go.RowKit.Hid.u{p:Prop}(h:Go.RowKit.Hid p):p:=h
abbrev E:=World
theorem rY(w:World)(o):(w.alloc o).heap[V w.heap]?=C o:=Go.heap_alloc_new w o
open Go.Proofs.Tryz
theorem xW{a x}{b y}{c z}:(γ a b c=γ x y z)=(a=x/\ b=y/\ c=z):=Obj.cells.injEq ..
theorem kW(w:E)(b)(e)(s):ξ w b e s (Y none 0 0) 0 []:=World.ownsRow_nil w b e s
abbrev U(n:Int):χ:=.int ω n
abbrev pV(b:Nat):χ:=υ<|C ⟨b,0,none⟩
abbrev aM(k a b c:Int)(l:χ)(t:bZ)(n y p:Int):Obj:=γ #[U k,U a,U b,U c,l,ζ ⟨ν t⟩,U n,U y,U p] 93
abbrev No:Nat->Prop:=λ_=>False
abbrev J(b o:Nat):Addr:=⟨b,o,none⟩
abbrev sN:χ:=Y none 0 0
abbrev sV(l:bZ):χ:=ζ ⟨ν l⟩
abbrev rT:é:=π<|.tuple #[]
abbrev _root_.Go.World.z(w:E):Nat:=V w.heap
theorem aG{c:Type}{b:Array c}{i}{a}(h:b[i]?=C a):i<b.size:=(Array.getElem?_eq_some_iff.1 h).1
def blt{w:E}{a}{v}(h:δ w a=C v):a.block<V w.heap:=Ì w a h
def uG(b)(first a)(w:E):(Instr.makeFunc b first a).run η w=.ok (.func b first a) w:=rfl
open Go.RowKit in
def cr{w:E}{b o:Nat}{a:Array χ}{e:TypeId}{c:Nat×Nat}{v:χ}(h:w.heap[b]?=C (γ a e c))(d:a[o]?=C v):δ w ⟨b,o,none⟩=C v:=(á _ _ o _ _ _ h).trans d
open Go.RowKit
def F9{a b}(h:a=b):π (.bool a)=π (.bool b):=by rw[h]
def Y6(n:Nat)(w:E):μ η 129 #[.int .u8 n] w λe a=>e=π (.bool<|fP n)/\a=w:=by
 go_in;go_wp2;all_goals go_ret
 all_goals exact⟨F9<|by grind[fP],K⟩
def JK(n:Nat)(w:E):μ η 131 #[.int .u8 n] w λe a=>e=π (.bool<|iP n)/\a=w:=by
 go_in;go_wp2;all_goals go_ret
 all_goals exact⟨F9<|by grind[iP],K⟩
def Fp(n:Nat)(w:E):μ η 128 #[.int .u8 n] w λe a=>e=π (.bool<|blank n)/\a=w:=by
 go_in;go_wp2;all_goals go_ret
 all_goals exact⟨F9<|by grind[blank],K⟩
def Gb(n:Nat)(w:E):μ η 181 #[.int .u8 n] w λe a=>e=π (.bool<|iF n)/\a=w:=by
 go_in;go_wp2;all_goals go_ret
 all_goals exact⟨F9<|by grind[iF],K⟩
def VP(n:Nat)(w:E):μ η 177 #[.int .u8 n] w λe a=>e=π (.bool<|fP n)/\a=w:=by
 go_in;go_wp2_with (go_at_call 129;refine(Y6 _ _).mono ?_;rintro e a ⟨rfl,rfl⟩);go_ret;exact⟨K,K⟩
def Dp(n:Nat)(w:E):μ η 179 #[.int .u8 n] w λe a=>e=π (.bool<|iA n)/\a=w:=by
 cases h:iP n;all_goals
  go_in;go_wp2_with (first|(go_at_call 129;refine(Y6 _ _).mono ?_;rintro e a ⟨rfl,rfl⟩)|(go_at_call 131;refine(JK _ _).mono ?_;rintro e a ⟨rfl,rfl⟩));go_ret;exact⟨F9<|by grind[iA],K⟩
def M9{k}{a b}(h:a=b):π (.int k a)=π (.int k b):=by rw[h]
theorem bl(s:ByteArray):Q s.data.toList=s.size:=Θ
def Ń(s)(w:E)(d:s.size<=Γ):μ η 127 #[ζ s,.func (.func 128) #[] #[]] w λe a=>e=π (U<|sp blank s.data.toList)/\a=w:=by
 unfold Γ at d;go_in;go_wp2;go_loop [5] (λi=>∃k:Nat,k<=s.size/\i=U k/\k<=sp blank s.data.toList) (λi=>s.size-(intOf i).toNat);case atStart=>grind
 case round=>
  obtain⟨k,f,rfl,c⟩:=hrel;by_cases g:k<s.size
  .cases b:blank s[k].toNat
   .go_wp2_with (go_at_call 128;refine(Fp _ _).mono ?_;rintro e a ⟨rfl,rfl⟩);go_ret;exact⟨M9<|by rw[BM blank s.data.toList k ð c b],K⟩
   .go_wp2_with (go_at_call 128;refine(Fp _ _).mono ?_;rintro e a ⟨rfl,rfl⟩);go_round;case rel=>exact⟨k+1,W,ç,yA blank s.data.toList k ð c b⟩
    grind[intOf]
  .go_wp2;go_ret;exact⟨M9<|by grind[oX,blank,bl],K⟩
def Ň(s)(w:E)(d:s.size<=Γ):μ η 127 #[ζ s,.func (.func 177) #[] #[]] w λe a=>e=π (U<|sp fP s.data.toList)/\a=w:=by
 unfold Γ at d;go_in;go_wp2;go_loop [5] (λi=>∃k:Nat,k<=s.size/\i=U k/\k<=sp fP s.data.toList) (λi=>s.size-(intOf i).toNat);case atStart=>grind
 case round=>
  obtain⟨k,f,rfl,c⟩:=hrel;by_cases g:k<s.size
  .cases b:fP s[k].toNat
   .go_wp2_with (go_at_call 177;refine(VP _ _).mono ?_;rintro e a ⟨rfl,rfl⟩);go_ret;exact⟨M9<|by rw[BM fP s.data.toList k ð c b],K⟩
   .go_wp2_with (go_at_call 177;refine(VP _ _).mono ?_;rintro e a ⟨rfl,rfl⟩);go_round;case rel=>exact⟨k+1,W,ç,yA fP s.data.toList k ð c b⟩
    grind[intOf]
  .go_wp2;go_ret;exact⟨M9<|by grind[oX,fP,bl],K⟩
def Ō(s)(w:E)(d:s.size<=Γ):μ η 127 #[ζ s,.func (.func 179) #[] #[]] w λe a=>e=π (U<|sp iA s.data.toList)/\a=w:=by
 unfold Γ at d;go_in;go_wp2;go_loop [5] (λi=>∃k:Nat,k<=s.size/\i=U k/\k<=sp iA s.data.toList) (λi=>s.size-(intOf i).toNat);case atStart=>grind
 case round=>
  obtain⟨k,f,rfl,c⟩:=hrel;by_cases g:k<s.size
  .cases b:iA s[k].toNat
   .go_wp2_with (go_at_call 179;refine(Dp _ _).mono ?_;rintro e a ⟨rfl,rfl⟩);go_ret;exact⟨M9<|by rw[BM iA s.data.toList k ð c b],K⟩
   .go_wp2_with (go_at_call 179;refine(Dp _ _).mono ?_;rintro e a ⟨rfl,rfl⟩);go_round;case rel=>exact⟨k+1,W,ç,yA iA s.data.toList k ð c b⟩
    grind[intOf]
  .go_wp2;go_ret;exact⟨M9<|by grind[oX,iA,bl],K⟩
def Ő(s)(w:E)(d:s.size<=Γ):μ η 127 #[ζ s,.func (.func 181) #[] #[]] w λe a=>e=π (U<|sp iF s.data.toList)/\a=w:=by
 unfold Γ at d;go_in;go_wp2;go_loop [5] (λi=>∃k:Nat,k<=s.size/\i=U k/\k<=sp iF s.data.toList) (λi=>s.size-(intOf i).toNat);case atStart=>grind
 case round=>
  obtain⟨k,f,rfl,c⟩:=hrel;by_cases g:k<s.size
  .cases b:iF s[k].toNat
   .go_wp2_with (go_at_call 181;refine(Gb _ _).mono ?_;rintro e a ⟨rfl,rfl⟩);go_ret;exact⟨M9<|by rw[BM iF s.data.toList k ð c b],K⟩
   .go_wp2_with (go_at_call 181;refine(Gb _ _).mono ?_;rintro e a ⟨rfl,rfl⟩);go_round;case rel=>exact⟨k+1,W,ç,yA iF s.data.toList k ð c b⟩
    grind[intOf]
  .go_wp2;go_ret;exact⟨M9<|by grind[oX,iF,bl],K⟩
structure I(S:Nat->Prop)(w w':E):Prop where
 os:w'.os=w.os
 tape:w'.tape=w.tape
 output:w'.output=w.output
 size:V w.heap<=V w'.heap
 block:∀k,k<V w.heap->¬S k->w'.heap[k]?=w.heap[k]?
theorem I.refl(S)(w):I S w w:=⟨K,K,K,vQ _,λ_ _ _=>K⟩
theorem I.trans{S e}{a b c}(h:I S a b)(k:I e b c)(g:∀i,i<V a.heap->e i->S i):I S a c:=
 ⟨k.os.trans h.os,k.tape.trans h.tape,k.output.trans h.output,kQ h.size k.size,
  λi d f=>(k.block i (yQ d h.size) λx=>f<|g i d x).trans<|h.block i d f⟩
def I.mono{S S'}{a b}(h:I S a b)(e:∀i,i<V a.heap->S i->S' i):I S' a b:=
 ⟨h.os,h.tape,h.output,h.size,λi c d=>h.block i c λx=>d<|e i c x⟩
theorem I.alloc(S)(w)(o):I S w (w.alloc o):=⟨K,K,K,ι,λk a _=>Below.heap_alloc _ _ _ a⟩
theorem I.set(w)(a)(v):I (λk=>k=a.block) w (w.setCell a v):=
 ⟨K,K,K,ι,λk _ b=>Below.heap_setCell _ _ _ _ b⟩
def I.drewN(S)(w)(n):I S w (w.drewN n):=⟨K,K,K,vQ _,λ_ _ _=>K⟩
theorem I.grown{w b}{a}(h:w.grownBy b a):I (λk=>C k=a) w b:=⟨h.os,h.tape,h.output,h.size,λk c d=>h.block k c d⟩
def I.below{B}{w a:E}(h:Below B w a):I (λk=>B<=k) w a:=⟨h.os,h.tape,h.output,h.size,λk _ b=>h.block k W⟩
def I.ep{S}{B}{w a}(h:I S w a)(d:∀i,i<V w.heap->S i->B<=i)(b:B<=V w.heap):Below B w a:=
 ⟨h.os,h.tape,h.output,h.size,λk c=>h.block k W λx=>θ⟩
theorem A3{S}{w c}{a}{e}{b}{v}{n}{d}(h:ξ w a e b v n d)(f:I S w c)
 (i:∀g,Δ v=C g->¬S g):ξ c a e b v n d:=by
 refine⟨h.1,?_⟩;obtain j|⟨g,cap,cur,rfl,hb,hg,r⟩:=h.2
 .grind
 .exact .inr ⟨g,cap,cur,K,hb,by rw[f.block g (Array.getElem?_eq_some_iff.1 hg).1<|i g K];omega,r⟩
theorem A9{w:E}{a}{e}{c}{v}{n}{d}(h:ξ w a e c v n d):∀g,Δ v=C g->a<=g/\∃b,w.heap[g]?=C (γ b e (0,0)):=by
 intro g k;obtain⟨rfl,_⟩|⟨i,f,b,rfl,j,l,_⟩:=h.2<;>grind[Δ,zQ]
def C7{w:E}{a b}{e}{d}{v}{n}{f}(h:ξ w a e d v n f)(j:b<=a):ξ w b e d v n f:=by
 obtain⟨i,c⟩:=h;refine⟨i,?_⟩;obtain c|⟨g,cap,cur,hv,hg,r⟩:=c
 .grind
 .exact .inr ⟨g,cap,cur,hv,kQ j hg,r⟩
theorem B8{w:E}{b}{e}{d}{v}{n}{f}(h:ξ w b e d v n f):∃a c,v=Y a n c:=by
 obtain⟨rfl,rfl⟩|⟨g,i,j,k,_⟩:=h.2<;>grind
def VS{w:E}{c}{e}{a}{v}{n}{b}(h:ξ w c e a v n b):Q b=n*a:=h.1
theorem D5{w:E}{b}{e}{r}{a}{c n}{i}(h:ξ w b e r (Y a n c) n i)(x:0<n):
 ∃g,a=C ⟨g,0,none⟩/\b<=g/\g<V w.heap/\n<=c/\c<=Γ/\∀j u,i[j]?=C u->δ w ⟨g,j,none⟩=C u:=by
 have l:=λg d=>h.cells (g:=g) d;have o:=h.lt;obtain⟨_,v⟩|⟨g,s,t,f,k,d,q,p,_⟩:=h.2
 .omega
 .simp at f;obtain⟨rfl,_,rfl⟩:=f;refine⟨g,K,k,(o g K).2,q,p,λj u m=>?_⟩;have:=l g K j u m;grind[Addr.add]
/-!### Rows of structs -/
def eN{c:Type}(R:c->List χ->Prop):List c->List χ->Prop
 |[],b=>b=[]
 |a::l,b=>∃h t,b=h++t/\R a h/\eN R l t
theorem eN.snoc{f}{R}:∀{l} {c} {a:f} {h},eN R l c->R a h->eN R (l++[a]) (c++h)
 |[],c,a,h,e,d=>by
  have:=e;subst this;exact⟨h,[],ι,d,K⟩
 |b::l,c,a,h,e,d=>by
  obtain⟨g,t,rfl,i,j⟩:=e;exact⟨g,t++h,ι,i,eN.snoc j d⟩
def eN.imp{f}{R c}(d:∀a h,R a h->c a h):∀{l:List f} {e},eN R l e->eN c l e
 |[],_,b=>b
 |_::_,_,b=>by
  obtain⟨g,t,j,i,k⟩:=b;exact⟨g,t,j,d _ _ i,eN.imp d k⟩
def eN.take{f}{R}{z}(e:∀a h,R a h->Q h=z):∀{l:List f} {b} (k),eN R l b->eN R (l.take k) (b.take<|k*z)
 |[],b,k,c=>by
  grind[eN]
 |a::l,b,0,c=>by simp[eN]
 |a::l,b,k+1,c=>by
  obtain⟨g,t,rfl,d,i⟩:=c;refine⟨g,t.take<|k*z,?_,d,eN.take e k i⟩;have:=e _ _ d;rw[List.take_append,List.take_of_length_le<|by rw[this];simp[Nat.add_mul],this];congr 2;simp[Nat.add_mul]
theorem eN.at{f}{R}{z}(m:∀a h,R a h->Q h=z):∀{l:List f} {b} (k) (d),eN R l b->∃h,R l[k] h/\∀j,j<z->b[k*z+j]?=h[j]?
 |[],_,k,d,_=>θ
 |a::l,b,0,_,c=>by
  obtain⟨g,t,rfl,i,e⟩:=c;grind
 |a::l,b,k+1,d,c=>by
  obtain⟨g,t,rfl,i,e⟩:=c;obtain⟨h,o,n⟩:=eN.at m k θ e;grind
def O0(f:bZ×Int):List χ:=[ζ ⟨ν f.1⟩,.int ω f.2]
def I0(l:List<|bZ×Int):List χ:=l.flatMap O0
def C8(l:uZ):List χ:=l.map<|.int ω
def yD(t:Tk):List χ:=[.int ω t.x,ζ ⟨ν t.text⟩,.int ω t.at']
def rows(L:List Tk):List χ:=L.flatMap yD
theorem Qm(L)(t):rows (L++[t])=rows L++yD t:=by simp[rows]
theorem PD(L)(t):I0 (L++[t])=I0 L++O0 t:=by simp[I0]
theorem T4(L)(t):C8 (L++[t])=C8 L++[.int ω t]:=by simp[C8]
def eI(w:E)(c:Nat->Prop)(t:Ty)(d:List χ):Prop:=
 ∃a b,d=[.int ω t.x,a,b,.int ω t.fh]/\ξ w 0 156 2 a (Q t.eo) (I0 t.eo)/\ξ w 0 3 1 b (Q t.M) (C8 t.M)/\
  (∀g,Δ a=C g->c g)/\(∀g,Δ b=C g->c g)
def gE(w:E)(b:Nat->Prop)(n:Nd)(c:List χ):Prop:=
 ∃a,c=[.int ω n.x,.int ω n.a,.int ω n.b,.int ω n.c,a,ζ ⟨ν n.text⟩,.int ω n.n,.int ω n.ty,.int ω n.at']/\ξ w 0 3 1 a (Q n.M) (C8 n.M)/\
  (∀g,Δ a=C g->b g)
theorem eI.len{w}{b}{t}{a}(h:eI w b t a):Q a=4:=by obtain⟨_,_,rfl,_⟩:=h;rfl
theorem gE.len{w}{b}{t}{a}(h:gE w b t a):Q a=9:=by obtain⟨_,rfl,_⟩:=h;rfl
def tag(w:E)(k:Nat):Prop:=∃a e b,w.heap[k]?=C (γ a e b)/\(e=115\/e=93\/e=88)
def Kept(B:Nat)(a:Nat->Prop)(w b:E):Prop:=I (λk=>B<=k/\tag w k/\a k) w b
theorem Kept.refl(B)(a)(w):Kept B a w w:=I.refl _ _
def Kept.mono{B}{a ok'}{w b}(h:Kept B a w b)(c:∀g,a g->ok' g):Kept B ok' w b:=I.mono h λ_ _ x=>⟨x.1,x.2.1,c _ x.2.2⟩
theorem Kept.trans{B}{d}{a b c}(h:Kept B d a b)(k:Kept B d b c):Kept B d a c:=by
 refine⟨k.os.trans h.os,k.tape.trans h.tape,k.output.trans h.output,kQ h.size k.size,λi f g=>?_⟩;have m:=h.block i f g;refine(k.block i (yQ f h.size) λx=>g ⟨x.1,?_,x.2.2⟩).trans m;obtain⟨j,e,l,n,r⟩:=x.2.1;exact⟨j,e,l,θ,r⟩
def Kept.trans'{B}{d}{S}{a b c}(h:Kept B d a b)(k:I S b c)(f:∀i,i<V a.heap->¬S i):Kept B d a c:=I.trans h k λi e x=>(f i e x).elim
theorem Kept.alloc{B}{c}{a b}(h:Kept B c a b)(o):Kept B c a (b.alloc o):=h.trans<|I.alloc _ _ _
def Kept.below{B}{c}{w a}(h:Kept B c w a)(b:B<=V w.heap):Below B w a:=I.ep h (λ_ _ x=>x.1) b
def G9{B}{k}{w c}{a}{e}{b}{v}{n}{d}(h:ξ w a e b v n d)(f:Kept B k w c)
 (q:e≠115/\e≠93/\e≠88):ξ c a e b v n d:=by
 refine A3 h f λg i j=>?_;obtain⟨_,m,s⟩:=A9 h g i;obtain⟨l,o,p,t,r⟩:=j.2.1;grind
theorem eI.P{S}{w w'}{f ok'}(i:I S w w')(q:∀g,f g->g<V w.heap->S g->(∃b e,w.heap[g]?=C (γ b e (0,0))/\(e=156\/e=3))->False)(j:∀g,f g->g<V w.heap->ok' g)(t)(k)(h:eI w f t k):eI w' ok' t k:=by
 obtain⟨l,p,rfl,c,d,m,n⟩:=h;refine⟨l,p,K,A3 c i λg a x=>?_,A3 d i λg a x=>?_,λg a=>j g (m g a) (c.lt g a).2,λg a=>j g (n g a) (d.lt g a).2⟩
 .obtain⟨_,b,o⟩:=A9 c g a;grind
 .obtain⟨_,b,o⟩:=A9 d g a;grind
theorem gE.P{S}{w w'}{c ok'}(j:I S w w')(n:∀g,c g->g<V w.heap->S g->(∃d e,w.heap[g]?=C (γ d e (0,0))/\(e=156\/e=3))->False)(k:∀g,c g->g<V w.heap->ok' g)(t)(f)(h:gE w c t f):gE w' ok' t f:=by
 obtain⟨l,rfl,b,i⟩:=h;refine⟨l,K,A3 b j λg a x=>?_,λg a=>k g (i g a) (b.lt g a).2⟩;obtain⟨_,d,m⟩:=A9 b g a;grind
structure cY(L:List Tk):Prop where
 jq:Q L<=1001
 last:∀i,i<Q L->((tk L i).x=6↔i+1=Q L)
structure dR(w:E)(B pb:Nat)(tv:χ)(L:List Tk)(ok:Nat->Prop)(d:Nat)(s:St):Prop where
 low:B<=pb
 at':s.i<Q L
 fq:Q s.N<=s.i+1/\Q s.T<=s.i
 kz:ξ w 0 150 3 tv (Q L)<|rows L
 sd:ok pb/\(∀v g,δ w ⟨pb,3,none⟩=C v->Δ v=C g->ok g)/\∀v g,δ w ⟨pb,4,none⟩=C v->Δ v=C g->ok g
 blk:∃nv yv nx yx,w.heap[pb]?=C (γ #[tv,.int ω (s.i:Int),.int ω (d:Int),nv,yv] 115 (0,0))/\ξ w B 93 9 nv (Q s.N) nx/\ξ w B 88 4 yv (Q s.T) yx/\
  eN (gE w ok) s.N nx/\eN (eI w ok) s.T yx
structure aH(w:E)(B pb:Nat)(tv:χ)(L:List Tk)(ok:Nat->Prop)(d:Nat)(s:St):Prop where
 low:B<=pb
 at':s.i<Q L
 fq:Q s.N<=s.i/\Q s.T<=s.i
 kz:ξ w 0 150 3 tv (Q L)<|rows L
 sd:ok pb/\(∀v g,δ w ⟨pb,3,none⟩=C v->Δ v=C g->ok g)/\∀v g,δ w ⟨pb,4,none⟩=C v->Δ v=C g->ok g
 blk:∃nv yv nx yx,w.heap[pb]?=C (γ #[tv,.int ω (s.i:Int),.int ω (d:Int),nv,yv] 115 (0,0))/\ξ w B 93 9 nv (Q s.N) nx/\ξ w B 88 4 yv (Q s.T) yx/\
  eN (gE w ok) s.N nx/\eN (eI w ok) s.T yx
def dR.ph{w}{B b}{c}{L}{a}{d}{s}(h:dR w B b c L a d s)(e:Q s.N<=s.i):aH w B b c L a d s:=⟨h.low,h.at',⟨e,h.fq.2⟩,h.kz,h.sd,h.blk⟩
theorem aH.l{w}{B b}{c}{L}{a}{d}{s}(h:aH w B b c L a d s):dR w B b c L a d s:=⟨h.low,h.at',⟨Nat.le_succ_of_le h.fq.1,h.fq.2⟩,h.kz,h.sd,h.blk⟩
theorem dR.P{S}{w w'}{B b}{r}{L}{n ok'}{d}{s}(h:dR w B b r L n d s)(f:I S w w')
 (D:∀k c e,w.heap[k]?=C (γ c e (0,0))->S k->e≠115/\e≠93/\e≠88/\Δ r≠C k/\((e=156\/e=3)->¬n k))
 (i:∀g,n g->g<V w.heap->ok' g):dR w' B b r L ok' d s:=by
 obtain⟨M,N,P,y,o,G,H,nx,yx,l,p,q,Z,a2⟩:=h;have A:=(Array.getElem?_eq_some_iff.1 l).1;have F:∀g,n g->g<V w.heap->S g->(∃c e,w.heap[g]?=C (γ c e (0,0))/\(e=156\/e=3))->False:=by
  rintro g a _ hx ⟨c,e,m,R⟩;exact(D g c e m hx).2.2.2.2 R a
 have z:=f.block b A λx=>(D b _ _ l x).1 K;have T:ok' b/\(∀v g,δ w' ⟨b,3,none⟩=C v->Δ v=C g->ok' g)/\∀v g,δ w' ⟨b,4,none⟩=C v->Δ v=C g->ok' g:=by
  have t:δ w ⟨b,3,none⟩=C G:=by rw[á w b 3 _ _ _ l];rfl
  have u:δ w ⟨b,4,none⟩=C H:=by rw[á w b 4 _ _ _ l];rfl
  refine⟨i _ o.1 A,λv g j a=>?_,λv g j a=>?_⟩
  .rw[ý z,t]at j;cases j;exact i g (o.2.1 _ g t a) (p.lt g a).2
  .rw[ý z,u]at j;cases j;exact i g (o.2.2 _ g u a) (q.lt g a).2
 refine⟨M,N,P,A3 y f λg a x=>?_,T,G,H,nx,yx,?_,A3 p f λg a x=>?_,A3 q f λg a x=>?_,Z.imp<|gE.P f F i,a2.imp<|eI.P f F i⟩
 .obtain⟨_,c,m⟩:=A9 y g a;grind
 .grind
 .obtain⟨_,c,m⟩:=A9 p g a;grind
 .obtain⟨_,c,m⟩:=A9 q g a;grind
theorem dR.y{w c}{B b}{tv}{L:List Tk}{a:Nat->Prop}{d}{s}(h:dR w B b tv L a d s)(e:I (λ_=>False) w c):dR c B b tv L a d s:=
 h.P e (λ_ _ _ _ x=>x.elim) λ_ x _=>x
def dR.f7{w}{B c}{a}{L}{b}{d}{s}(h:dR w B c a L b d s){q o}{f}{e}{g}(v)(n:w.heap[q]?=C (γ f e g))(r:Δ a≠C q)
 (l:e≠115/\e≠93/\e≠88/\e≠156/\e≠3):dR (w.setCell ⟨q,o,none⟩ v) B c a L b d s:=by
 refine h.P (I.set w ⟨q,o,none⟩ v) (λk i j m p=>?_) λ_ x _=>x;grind
theorem aH.P{S}{w w'}{B c}{b}{L}{a ok'}{d}{s}(h:aH w B c b L a d s)(i:I S w w')
 (l:∀k f e,w.heap[k]?=C (γ f e (0,0))->S k->e≠115/\e≠93/\e≠88/\Δ b≠C k/\((e=156\/e=3)->¬a k))
 (j:∀g,a g->g<V w.heap->ok' g):aH w' B c b L ok' d s:=
 (h.l.P i l j).ph h.fq.1
theorem aH.y{w c}{B b}{tv}{L:List Tk}{a:Nat->Prop}{d}{s}(h:aH w B b tv L a d s)(e:I (λ_=>False) w c):aH c B b tv L a d s:=
 h.P e (λ_ _ _ _ x=>x.elim) λ_ x _=>x
theorem aH.alloc{w}{B b}{c}{L}{a}{d}{s}(h:aH w B b c L a d s)(o):aH (w.alloc o) B b c L a d s:=h.y<|I.alloc _ _ _
def aH.mono{w}{B b}{c}{L}{a ok'}{d}{s}(h:aH w B b c L a d s)(e:∀g,a g->g<V w.heap->ok' g):aH w B b c L ok' d s:=
 h.P (I.refl (λ_=>False) _) (λ_ _ _ _ x=>x.elim) e
def C9{B}{ok:Nat->Prop}{w a}(h:I (λ_=>False) w a):Kept B ok w a:=h.mono λ_ _ x=>x.elim
def aH.store{w}{B a}{l}{L}{z}{d}{s}(h:aH w B a l L z d s)(o)(v)(k r:Nat)(T:k<Q L)(hf:s.i<=k)
 (hv:∀c f,(#[l,.int ω (s.i:Int),.int ω (d:Int),c,f]).setIfInBounds o v=#[l,.int ω k,.int ω r,c,f]):
 aH (w.setCell ⟨a,o,none⟩ v) B a l L z r ⟨k,s.N,s.T⟩:=by
 obtain⟨S,h2,h3,D,F,c,f,nx,yx,i,G,H,a2,a3⟩:=h;have j:=I.set w ⟨a,o,none⟩ v;have y:∀{A:Nat} {e:TypeId} {N:Nat} {v:χ} {n:Nat} {P:List χ},ξ w A e N v n P->e≠115->∀g,Δ v=C g->¬g=a:=by
  intro A e N v n P Z u g m hx;subst hx;obtain⟨_,q,b⟩:=A9 Z g m;rw[i]at b;simp only[zQ,xW]at b;exact u b.2.1.symm
 have M:∀g,z g->g<V w.heap->g=a->(∃q e,w.heap[g]?=C (γ q e (0,0))/\(e=156\/e=3))->False:=by
  rintro g _ _ rfl ⟨q,e,b,u⟩;rw[i]at b;simp at b;obtain rfl|rfl:=u
  .grind
  .grind
 have t:(w.setCell ⟨a,o,none⟩ v).heap[a]?=C (γ #[l,.int ω k,.int ω r,c,f] 115 (0,0)):=by rw[ê w a o _ _ v i,hv]
 refine⟨S,T,⟨θ,θ⟩,A3 D j<|y D ε,?_,c,f,nx,yx,t,A3 G j<|y G ε,A3 H j<|y H ε,a2.imp<|gE.P j M λ_ x _=>x,a3.imp<|eI.P j M λ_ x _=>x⟩;have c3:δ w ⟨a,3,none⟩=C c:=by rw[á w a 3 _ _ _ i];rfl
 have R:δ w ⟨a,4,none⟩=C f:=by rw[á w a 4 _ _ _ i];rfl
 refine⟨F.1,λa4 g p m=>?_,λa4 g p m=>?_⟩
 .rw[á _ a 3 _ _ _ t]at p;grind
 .rw[á _ a 4 _ _ _ t]at p;cases p;exact F.2.2 _ g R m
def aH.next{w}{B a}{c}{L}{b}{d}{s}(h:aH w B a c L b d s)(e:s.i+1<Q L):aH (w.setCell ⟨a,1,none⟩<|.int ω<|s.i+1) B a c L b d s.nx:=
 h.store 1 _ (s.i+1) d e W (λ_ _=>ι)
def aH.lh{w}{B b}{e}{L}{c}{d}{s}(h:aH w B b e L c d s)(a:Nat):aH (w.setCell ⟨b,2,none⟩<|.int ω a) B b e L c a s:=
 h.store 2 _ s.i a h.at' W (λ_ _=>ι)
def aH.kq{w}{B e}{a}{L}{c}{d}{s}(h:aH w B e a L c d s){k}(f:V w.heap<=k):Δ a≠C k:=by
 intro b;have:=(h.kz.lt k b).2;omega
def aH.f7{w}{B c}{a}{L}{b}{d}{s}(h:aH w B c a L b d s){q o}{f}{e}{g}(v)(j:w.heap[q]?=C (γ f e g))(k:Δ a≠C q)
 (i:e≠115/\e≠93/\e≠88/\e≠156/\e≠3):aH (w.setCell ⟨q,o,none⟩ v) B c a L b d s:=
 (h.l.f7 v j k i).ph h.fq.1
def Kept.f7{B}{c}{a b}(h:Kept B c a b){q o}(v)(e:V a.heap<=q):Kept B c a (b.setCell ⟨q,o,none⟩ v):=
 h.trans' (I.set b ⟨q,o,none⟩ v) (λk d f=>θ)
def aH.tagged{w}{B a}{e}{L}{b}{d}{s}(h:aH w B a e L b d s):B<=a/\tag w a/\b a:=by
 obtain⟨f,i,g,j,c,_⟩:=h.blk;exact⟨h.low,⟨_,_,_,c,.inl K⟩,h.sd.1⟩
def aH.ju{w}{B a}{f}{L}{b}{d}{s}(h:aH w B a f L b d s)(o)(v):Kept B b w (w.setCell ⟨a,o,none⟩ v):=
 (I.set w ⟨a,o,none⟩ v).mono λk _ c=>by have e:=c;subst e;exact h.tagged
theorem aH.cell{w}{B a}{i}{L}{q}{d}{s}(h:aH w B a i L q d s):
 ∃g c b e,i=Y (C ⟨g,0,none⟩) (Q L) c/\Q L<=c/\c<=Γ/\g<V w.heap/\a<V w.heap/\δ w ⟨a,0,none⟩=C (Y (C ⟨g,0,none⟩) (Q L) c)/\δ w ⟨a,1,none⟩=C (.int ω s.i)/\δ w ⟨a,2,none⟩=C (.int ω d)/\
  δ w ⟨a,3,none⟩=C b/\δ w ⟨a,4,none⟩=C e/\(∀o,w.frozen? ⟨a,o,none⟩=κ)/\∀j u,(rows L)[j]?=C u->δ w ⟨g,j,none⟩=C u:=by
 obtain⟨r,c,rfl⟩:=B8 h.kz;obtain⟨g,rfl,_,n,k,l,m⟩:=D5 h.kz (by have:=h.at';omega);obtain⟨b,e,v,x,f,_⟩:=h.blk;have p:=(Array.getElem?_eq_some_iff.1 f).1;have t:=λo=>á w a o _ _ _ f;refine⟨g,c,b,e,K,k,l,n,p,θ,θ,θ,θ,θ,λo=>?_,m⟩;grind[World.frozen?]
def KI:∀(L) (k) (h) (j),j<3->(rows L)[3*k+j]?=(yD L[k])[j]?
 |[],k,h,_,_=>θ
 |t::r,0,_,j,a=>by
  grind[rows,yD]
 |t::r,k+1,h,j,a=>by
  simp only[rows,List.flatMap_cons,List.getElem_cons_succ];rw[List.getElem?_append_right<|by grind[yD]];have:=KI r k θ j a;rw[<-this];grind[yD,rows]
def WN{w:E}{g}{L}{k}(h:k<Q L)(a:∀j u,(rows L)[j]?=C u->δ w ⟨g,j,none⟩=C u):
 δ w ⟨g,k*3,none⟩=C (.int ω (tk L k).x)/\δ w ⟨g,k*3+1,none⟩=C (ζ ⟨ν (tk L k).text⟩)/\δ w ⟨g,k*3+2,none⟩=C (.int ω<|(tk L k).at'):=by
 have e:tk L k=L[k]:=by simp[tk,List.getD,h]
 rw[Nat.mul_comm k 3,e];exact⟨a _ _<|KI L k h 0 W,a _ _<|KI L k h 1 W,a _ _<|KI L k h 2 W⟩
def jK(t:Tk):χ:=.agg #[.int ω t.x,ζ ⟨ν t.text⟩,.int ω t.at']
theorem O{p}(h:p):Hid p:=h
def gu(a p:Int):é:=.panicked [{v:=.iface 126<|.agg #[.int ω a,.int ω p],recovered:=κ}]
def Z7(a b c)(w:E):(Instr.field 150 (.agg #[a,b,c]) 0).run η w=.ok a w:=Ψ
def xB(a b c)(w:E):(Instr.field 150 (.agg #[a,b,c]) 1).run η w=.ok b w:=Ψ
def Hp(a b c)(w:E):(Instr.field 150 (.agg #[a,b,c]) 2).run η w=.ok c w:=Ψ
section
variable{w:E}{B a:Nat}{tv:χ}{L:List Tk}{b:Nat->Prop}{d:Nat}{s:St}
def W6(k:cY L)(h:aH w B a tv L b d s):
 μ η 135 #[υ<|C ⟨a,0,none⟩] w λe r=>e=π (jK<|tk L s.i)/\I (λ_=>False) w r:=by
 obtain⟨g,c,M,N,rfl,D,l,F,G,y,z,_,_,_,A,f⟩:=h.cell;have m:=h.at';have H:=k.jq;obtain⟨t,u,v⟩:=WN m f;clear h f;generalize tk L s.i=p at*;obtain⟨n,q,o⟩:=p;simp only[jK]at t u v⊢;generalize (⟨ν q⟩:ByteArray)=j at*;generalize s.i=i at*;unfold Γ at l;go_in;go_wp2;go_region;go_wp2;exact ä (v:=.agg #[.int ω n,ζ j,.int ω o]) (by simp[results,results135,go_sem]) K ⟨K,(I.alloc _ _ _).trans (I.drewN _ _ 1) λ_ _ x=>x⟩
def xP(c:cY L)(h:aH w B a tv L b d s):
 μ η 136 #[υ<|C ⟨a,0,none⟩] w λe i=>e=π (.int ω ((tk L s.i).at':Int))/\I (λ_=>False) w i:=by
 have H:=W6 c h;have j:=Z7;have k:=Hp;generalize tk L s.i=g at*;obtain⟨l,n,m⟩:=g;simp only[jK]at H⊢;clear h c;go_in;go_wp2_with fail;refine H.mono ?_;clear H;rintro e o ⟨rfl,f⟩;go_wp2;go_ret;exact⟨K,f⟩
def B9d(c:cY L)(h:aH w B a tv L b d s):
 μ η 92 #[υ<|C ⟨a,0,none⟩] w λe i=>e=π (.bool<|decide<|(tk L s.i).x=6)/\I (λ_=>False) w i:=by
 have H:=W6 c h;have j:=Z7;have k:=Hp;generalize tk L s.i=g at*;obtain⟨l,n,m⟩:=g;simp only[jK]at H⊢;clear h c;go_in;go_wp2_with fail;refine H.mono ?_;clear H;rintro e o ⟨rfl,f⟩;go_wp2;go_ret;exact⟨F9 Θ,f⟩
def zM(w:E)(c p):μ η 59 #[.int ω c,.int ω p] w λe f=>e=gu c p/\I (λ_=>False) w f:=by
 go_in;go_wp2;exact⟨K,K,I.refl _ _⟩
def vP(f:cY L)(h:aH w B a tv L b d s)(c):
 μ η 93 #[υ<|C ⟨a,0,none⟩,.int ω c] w λe j=>e=gu c ((tk L s.i).at':Int)/\I (λ_=>False) w j:=by
 go_in;go_wp2_with fail;refine(xP f h).mono ?_;rintro e k ⟨rfl,g⟩;go_wp2_with fail;refine(zM _ _ _).mono ?_;rintro e l ⟨rfl,i⟩;exact⟨K,K,g.trans i λ_ _ x=>x⟩
def wx{S}{w wr:E}{c}{t}(h:I S (σ w<|γ c t) wr)(f:¬S (V w.heap)):
 (∀o v,c[o]?=C v->wr.cell? ⟨V w.heap,o,none⟩=C v)/\(∀o,wr.frozen? ⟨V w.heap,o,none⟩=κ)/\V w.heap<wr.heap.size:=by
 have e:=h.block (V w.heap) ι f;refine⟨λo v g=>?_,λo=>?_,?_⟩
 .rw[ý (a:=⟨V w.heap,o,none⟩) e,World.cell?_alloc_new,g]
 .rw[World.frozen?_of_block (a:=⟨V w.heap,o,none⟩) e];simp
 .have:=h.size;simp at this;omega
def Strs(w:E)(c:Nat)(e:List bZ):Prop:=c<V w.heap/\∀j (h),δ w ⟨c,j,none⟩=C (ζ ⟨ν e[j]⟩)
theorem Strs.y{w g}{c}{f:List bZ}(h:Strs w c f)(e:I (λ_=>False) w g):Strs g c f:=
 ⟨yQ h.1 e.size,λj i=>by rw[ý<|e.block c h.1 λx=>x];exact h.2 j i⟩
def A3d(w)(j c)(f)(t)(h:Strs w j f)(A:Q f<=4000):
 μ η 211 #[Y (C ⟨j,0,none⟩) (Q f) c,ζ ⟨ν t⟩] w λe u=>(∃k,e=π (.int ω k)/\decide (0<=k)=has f t)/\u=w:=by
 obtain⟨y,l⟩:=h;go_in;go_wp2;go_loop [8] (λi=>∃k:Nat,k<=Q f/\i=.int ω k/\Hid (has (f.take k) t=κ)) (λi=>Q f-(intOf i).toNat);case atStart=>exact⟨0,wQ _,K,Θ⟩
 case round=>
  obtain⟨k,z,rfl,o⟩:=hrel;by_cases m:k<Q f
  .have p:=l k m;have q:Hid (has (f.take<|k+1) t=(has (f.take k) t||t==f[k])):=Xn _ _ _ m;have g:Hid (∀x,x=f[k]->x∈f):=λx p=>p ▸ mQ _;generalize r:f[k]=x at*;have v:=g.u x K;clear l g r;by_cases n:x=t
   .subst n;go_wp2;go_ret;exact⟨⟨_,K,by grind[Ju]⟩,K⟩
   .have D:(t==x)=κ:=by simp[Ne.symm n]
    go_wp2;go_round;case rel=>exact⟨k+1,W,ç,by show _=_;rw[q.u,o.u];grind⟩
    grind[intOf]
  .go_wp2;go_ret;exact⟨⟨_,K,by have:=o.u;grind⟩,K⟩
def XV(w)(g c)(f)(t)(h:Strs w g f)(i:Q f<=4000):
 μ η 184 #[Y (C ⟨g,0,none⟩) (Q f) c,ζ ⟨ν t⟩] w λe j=>e=π (.bool<|has f t)/\j=w:=by
 have H:=A3d w g c f t h i;generalize has f t=r at*;go_in;go_wp2_with fail;refine H.mono ?_;clear H;rintro e m ⟨⟨k,rfl,l⟩,rfl⟩;go_wp2;all_goals go_ret
 all_goals exact⟨F9 Θ,K⟩
def sY(n:cY L)(h:aH w B a tv L b d s)(k c)(f:List bZ)(p:Strs w k f)(v:Q f<=4000):
 μ η 137 #[υ<|C ⟨a,0,none⟩,Y (C ⟨k,0,none⟩) (Q f) c] w λe z=>e=π (.bool<|aL L s.i f)/\I (λ_=>False) w z:=by
 have H:=W6 n h;have G:=Z7;have M:=xB;unfold aL;generalize tk L s.i=y at*;obtain⟨j,q,N⟩:=y;simp only[jK]at H⊢;have i:=λt u=>XV t k c f q (p.y u) v;generalize has f q=r at*;clear h n p;go_in;go_wp2_with fail;refine H.mono ?_;clear H;rintro e t ⟨rfl,o⟩;have g:=O o;clear o;by_cases m:j=5
 .subst m;go_wp2_with fail;refine(i _<|g.u.trans (I.alloc (λ_=>False) _ _) λ_ _ x=>x).mono ?_;clear i;rintro e A ⟨rfl,rfl⟩;go_wp2;go_ret;exact⟨F9 ι,g.u.trans (I.alloc (λ_=>False) _ _) λ_ _ x=>x⟩
 .by_cases l:j=2
  .subst l;go_wp2_with fail;refine(i _<|g.u.trans (I.alloc (λ_=>False) _ _) λ_ _ x=>x).mono ?_;clear i;rintro e A ⟨rfl,rfl⟩;go_wp2;go_ret;exact⟨F9 ι,g.u.trans (I.alloc (λ_=>False) _ _) λ_ _ x=>x⟩
  .have F:(j==5)=κ:=by simp[m]
   have D:(j==2)=κ:=by simp[l]
   go_wp2_with fail;go_ret;exact⟨F9 θ,g.u.trans (I.alloc (λ_=>False) _ _) λ_ _ x=>x⟩
def cY.mark(c:cY L){i}{f}(e:i<Q L)(h:aL L i f=τ):i+1<Q L:=by
 have g:=(c.last i e).2;grind[aL]
def ī(w:E)(m)(t):Strs (σ w<|γ #[ζ ⟨ν m⟩] t) (V w.heap) [m]:=by
 refine⟨ι,λj c=>?_⟩;grind[World.cell?_alloc_new]
def H7(i:cY L)(h:aH w B a tv L b d s)(m):
 μ η 185 #[υ<|C ⟨a,0,none⟩,ζ ⟨ν m⟩] w λe l=>e=π (.bool<|aL L s.i [m])/\Kept B b w l/\aH l B a tv L b d (if aL L s.i [m] then s.nx else s):=by
 have H:μ η 137 #[υ<|C ⟨a,0,none⟩,Y (C ⟨V w.heap,0,none⟩) 1 1] (σ w<|γ #[ζ ⟨ν m⟩] 9) _:=sY i (h.alloc _) (V w.heap) 1 [m] (ī w m _) ι;have n:=O λo:aL L s.i [m]=τ=>i.mark h.at' o;have t:=h.at';have v:=i.jq;generalize aL L s.i [m]=r at*;go_in;go_wp2_with fail;refine H.mono ?_;clear H;rintro e y ⟨rfl,j⟩;have f:=O<|(h.alloc _).y j;have k:=O<|((Kept.refl B b w).alloc _).trans<|C9 j;clear j h;cases r
 .go_wp2;go_ret;exact⟨K,k.u,f.u⟩
 .obtain⟨g,c,x,z,-,-,-,-,u,-,p,-,-,-,q,-⟩:=f.u.cell;go_wp2;go_ret;exact⟨K,k.u.trans<|f.u.ju _ _,f.u.next<|n.u trivial⟩
def I7(c:cY L)(h:aH w B a tv L b d s)(m):
 μ η 214 #[υ<|C ⟨a,0,none⟩,ζ ⟨ν m⟩] w λe i=>Kept B b w i/\
  (aL L s.i [m]=τ/\e=π (.tuple #[])/\aH i B a tv L b d s.nx\/aL L s.i [m]=κ/\e=gu 1 ((tk L s.i).at')):=by
 have H:=H7 c h m;have k:=λj (o:aH j B a tv L b d s)=>vP c o 1;generalize aL L s.i [m]=r at*;generalize ((tk L s.i).at':Int)=p at*;go_in;go_wp2_with fail;refine H.mono ?_;clear H h;rintro e j ⟨rfl,f,g⟩;cases r
 .have l:=O f;have n:=O g;clear f g;go_wp2_with fail;refine(k _<|by simpa using n.u).mono ?_;rintro e t ⟨rfl,q⟩;exact⟨K,l.u.trans<|C9 q,.inr ⟨K,K⟩⟩
 .go_wp2;go_end0;grind
def DL(k:cY L)(h:aH w B a tv L b d s)(D:(tk L s.i).x≠6):
 μ η 233 #[υ<|C ⟨a,0,none⟩] w λe q=>e=π (jK<|tk L s.i)/\Kept B b w q/\aH q B a tv L b d s.nx:=by
 have F:s.i+1<Q L:=by
  have n:=k.last s.i h.at';have h2:=h.at';omega
 have H:=λr (n:aH r B a tv L b d s)=>W6 k n;have a6:=k.jq;clear D;generalize tk L s.i=R at*;obtain⟨o,S,p⟩:=R;simp only[jK]at H⊢;generalize (⟨S.toArray⟩:ByteArray)=m at*;go_in;go_wp2_with fail;refine(H _<|h.alloc _).mono ?_;clear H;rintro e r ⟨rfl,f⟩;have i:=O<|(h.alloc _).y f;have t:=O<|((Kept.refl B b w).alloc _).trans<|C9 f;obtain⟨g,qf,G⟩:=wx f λx=>x;have M:=g 0 _ K;have N:=g 1 _ K;have P:=g 2 _ K;obtain⟨-,-,-,-,-,-,-,-,a5,-⟩:=h.cell;have u:=O ((f.block (V w.heap) ι λx=>x).trans<|rY w _);have j:=O<|h.kq<|vQ _;clear f h g;obtain⟨a2,c,nv,yv,-,-,-,-,a3,-,T,-,-,-,Z,-⟩:=i.u.cell;go_wp2_with fail;have l:=u.u;have a4:a≠V w.heap:=W;have v:=i.u.next F;have y:=v.f7 (q:=V w.heap) (o:=0) (.int ω o) (by rw[heap_setCell_other _ _ _ _ θ];exact l) j.u ε;have z:=y.f7 (q:=V w.heap) (o:=1) (.string m) (ê _ _ _ _ _ _<|by rw[heap_setCell_other _ _ _ _ θ];exact l) j.u ε;have A:=z.f7 (q:=V w.heap) (o:=2) (.int ω p) (ê _ _ _ _ _ _<|ê _ _ _ _ _ _<|by rw[heap_setCell_other _ _ _ _ θ];exact l) j.u ε;exact ä (v:=.agg #[.int ω o,ζ m,.int ω p]) (by simp[results,results233,go_sem,M,N,P,G]) K
  ⟨K,((((t.u.trans<|i.u.ju _ _).f7 _<|vQ _).f7 _<|vQ _).f7 _<|vQ _).alloc _,A.alloc _⟩
end
def Tryz.mf:(prog.info? 88).map (λi=>(i.zero,i.size,i.bytes))=C (C<|.agg #[U 0,sN,sN,U 0],4,64):=Ψ
section
variable{w:E}{B a:Nat}{c:χ}{L:List Tk}{b:Nat->Prop}{d:Nat}{s:St}
def QW(w:E)(f e):((w.alloc f).alloc e).drew.heap[V w.heap+1]?=C e:=by
 have:=rY (w.alloc f) e;simp only[World.size_alloc]at this;exact this
def I9{w:E}{o}{e j}{v}(f:e<V w.heap)(h:δ w (J e j)=C v):δ (w.alloc o) (J e j)=C v:=by
 grind[ý,Below.heap_alloc]
def U4{w:E}{o}{e j}(f:e<V w.heap)(h:w.frozen? (J e j)=κ):(w.alloc o).frozen? (J e j)=κ:=by
 grind[World.frozen?_of_block,Below.heap_alloc]
def FU{w:E}{e}{t}{j}{v}(h:e[j]?=C v):δ (σ w<|γ e t) (J (V w.heap) j)=C v:=ð
def aH.rh{w w1 w2:E}{B a}{c}{L}{b}{d:Nat}{s:St}{m}{G H}{h}{i g cap}{t}{N a6}(a2:B<=a)(a9:s.i<Q L)(ab:Q s.N<=s.i)(hf:Q s.T+1<=s.i)
 (a5:ξ w 0 150 3 c (Q L)<|rows L) (q:w.heap[a]?=C (γ #[c,U s.i,U d,m,Y h (Q s.T) i] 115 (0,0)))
 (hn:ξ w B 93 9 m (Q s.N) G) (y:ξ w B 88 4 (Y h (Q s.T) i) (Q s.T) H) (af:eN (gE w b) s.N G) (ag:eN (eI w b) s.T H) (ht:eI w b t [U t.x,N,a6,U t.fh]) (D:b a/\(∀g,Δ m=C g->b g)/\(∀g,Δ (Y h (Q s.T) i)=C g->b g)) (am:b g)
 (p:I No w w1) (T:w1.grownBy w2<|Δ<|Y h (Q s.T) i) (ho:w2.ownsRow B 88 4 (Y (C<|J g 0) (Q s.T+1) cap) (Q s.T+1)<|H++[U t.x,N,a6,U t.fh]):
 Kept B b w (w2.setCell (J a 4)<|Y (C<|J g 0) (Q s.T+1) cap)/\aH (w2.setCell (J a 4)<|Y (C<|J g 0) (Q s.T+1) cap) B a c L b d ⟨s.i,s.N,s.T++[t]⟩:=by
 have a3:=(aG q);have R:=p.block a a3 λx=>x;have ai:=A3 y p λ_ _ x=>x;have ae:C a≠Δ (Y h (Q s.T) i):=by
  intro f;obtain⟨_,o,n⟩:=A9 ai a f.symm;rw[R,q]at n;simp only[zQ,xW]at n;exact absurd n.2.1 ε
 have S:w2.heap[a]?=C (γ #[c,U s.i,U d,m,Y h (Q s.T) i] 115 (0,0)):=by rw[T.block a (yQ a3 p.size) ae,R,q]
 have aa:=(p.mono λ_ _ x=>x.elim).trans (I.grown T) λ_ _ x=>x;have l:I (λk=>C k=Δ (Y h (Q s.T) i)\/k=a) w (w2.setCell (J a 4)<|Y (C<|J g 0) (Q s.T+1) cap):=(aa.mono λ_ _ x=>.inl x).trans (I.set _ _ _) λ_ _ x=>.inr x;have a4:∀{M:Nat} {e:TypeId} {a8:Nat} {v:χ} {a7:Nat} {xs:List χ},ξ w M e a8 v a7 xs->e≠115->e≠88->∀k,Δ v=C k->¬(C k=Δ (Y h (Q s.T) i)\/k=a):=by
  intro M e a8 v a7 xs hw he ak k r f;obtain⟨_,o,n⟩:=A9 hw k r;obtain f|rfl:=f
  .obtain⟨_,z,j⟩:=A9 y k f.symm;grind
  .grind
 have F:∀k,b k->k<V w.heap->(C k=Δ (Y h (Q s.T) i)\/k=a)->(∃o e,w.heap[k]?=C (γ o e (0,0))/\(e=156\/e=3))->False:=by
  rintro k _ _ f ⟨o,e,n,he⟩;obtain f|rfl:=f
  .obtain⟨_,z,j⟩:=A9 y k f.symm;grind
  .grind
 have A:(w2.setCell (J a 4)<|Y (C<|J g 0) (Q s.T+1) cap).heap[a]?=C (γ #[c,U s.i,U d,m,Y (C<|J g 0) (Q s.T+1) cap] 115 (0,0)):=by rw[ê w2 a 4 _ _ _ S];rfl
 refine⟨l.mono λk r f=>?_,a2,a9,⟨ab,θ⟩,A3 a5 l<|a4 a5 ε ε,⟨D.1,λaj P u Z=>?_,λaj P u Z=>?_⟩,m,_,G,_,A,A3 hn l<|a4 hn ε ε,?_,af.imp<|gE.P l F λ_ x _=>x,(ag.imp<|eI.P l F λ_ x _=>x).snoc<|eI.P l F (λ_ x _=>x) _ _ ht⟩
 .obtain f|rfl:=f
  .obtain⟨ac,z,j⟩:=A9 y k f.symm;exact⟨ac,⟨_,_,_,j,.inr<|.inr K⟩,D.2.2 _ f.symm⟩
  .exact⟨a2,⟨_,_,_,q,.inl K⟩,D.1⟩
 .rw[á _ a 3 _ _ _ A]at u;grind
 .rw[á _ a 4 _ _ _ A]at u;cases u;have al:C g=C P:=Z;grind
 .have:=A3 ho (I.set w2 (J a 4)<|Y (C<|J g 0) (Q s.T+1) cap) (λk r f=>by
   have ah:=f;subst ah;obtain⟨_,z,j⟩:=A9 ho k r;rw[S]at j;simp only[zQ,xW]at j;exact absurd j.2.1 ε);simpa using this
def EH(hL:cY L)(a2:aH w B a c L b d s)(t)(o y)(q p A z)(ht:eI w b t [U t.x,Y o q p,Y y A z,U t.fh])(hf:Q s.T+1<=s.i)(hB:B<=V w.heap)(ak:∀ g,V w.heap<=g->b g):
 μ η 255 #[pV a,.agg #[U t.x,Y o q p,Y y A z,U t.fh]] w λe S=>e=π (U (Q s.T))/\Kept B b w S/\aH S B a c L b d ⟨s.i,s.N,s.T++[t]⟩:=by
 obtain⟨a6,a3,a5,aa,u,nv,yv,nx,yx,i,hn,j,a8,a9⟩:=a2;obtain⟨f,h,rfl⟩:=B8 j;have al:=hL.jq;have N:=(aG i);have H:δ w (J a 4)=C (Y f (Q s.T) h):=cr i K;have Z:=λaf=>ã w a af _ _ i;have a7:b a/\(∀g,Δ nv=C g->b g)/\(∀g,Δ (Y f (Q s.T) h)=C g->b g):=⟨u.1,λg k=>u.2.1 _ g (cr i K) k,λg k=>u.2.2 _ g H k⟩;have D:=O λm ag g n=>aH.rh (w1:=m) (w2:=ag) (g:=g) (cap:=n) a6 a3 a5.1 hf aa i hn j a8 a9 ht a7;have T:=O (λg (k:Δ (Y f s.T.length h)=C g\/g=w.heap.size+2)=>show b g from θ);have P:Δ (Y f (Q s.T) h)≠C a:=by
  intro v;obtain⟨_,ah,r⟩:=A9 j a v;rw[i]at r;simp only[zQ,xW]at r;exact absurd r.2.1 ε
 have aj:Δ (Y f (Q s.T) h)≠C (V w.heap):=by
  intro v;have:=(j.lt _ v).2;omega
 have G:=O j;obtain⟨i0,hi,ab,ac,ae⟩:=ò Tryz.mf;go_in;go_wp2
 go_region_law ((refine step_append_lies _ Θ _ _ _ Θ B 88 i0 _ 4 64 underlying59 hi ab ac ae K W (Y f (Q s.T) h) (Q s.T) yx Θ (((G.u.alloc _).alloc _).drew) (J (V w.heap+1) 0) 1 1 [U t.x,Y o q p,Y y A z,U t.fh] Θ Θ (World.news_of_block<|QW w _ _) (by simp [Value.oneCell']) W Ä W (by simp;omega) (V w.heap+2) ι ?_;intro M n m R l a4 ai;have z4:δ m (J a 4)=C (Y f (Q s.T) h):=by rw[l.cell_far _ à<|Ne.symm P];exact I9 à<|I9 N H
                 have y4:m.frozen? (J a 4)=κ:=by rw[l.frozen_far _ à<|Ne.symm P];exact U4 à<|U4 N<|Z 4));all_goals
  have F:=O<|D.u _ _ M n (T.u M a4) (((I.alloc No w _).trans (I.alloc No _ _) λ_ _ x=>x).trans (I.drewN No _ 1) λ_ _ x=>x) l R;clear l R D G;go_wp2;go_ret;exact⟨M9 W,F.u.1,F.u.2⟩
end
def F8(s a:St):Prop:=s.i<a.i/\Q a.N+s.i<=Q s.N+a.i/\Q a.T+s.i<=Q s.T+a.i/\Q s.N<=Q a.N
def BJ(w:E)(B g:Nat)(h:χ)(L:List Tk)(b:Nat->Prop)(d:Nat)(s:St)(i:Sp->Option (Out Int))(e:é)(f:E):Prop:=
 Kept B b w f/\∃o,Ev L i o/\match o with
  |.ok c x=>e=π (U x)/\aH f B g h L b d c/\F8 s c
  |.fail a p=>e=gu a p/\a≠0
def lM(B b:Nat)(c:χ)(L:List Tk)(e:Nat)(f:Nat->St->Sp->Option (Out Int))(m:Nat):Prop:=
 ∀(w) (a) (d) (s),Q L-s.i<=m->(∀g,V w.heap<=g->a g)->B<=V w.heap->aH w B b c L a d s->
  μ η e #[pV b] w (BJ w B b c L a d s<|f d s)
section
variable{w:E}{B b:Nat}{c:χ}{L:List Tk}{a:Nat->Prop}{d:Nat}{s:St}
def MH(j:cY L)(h:aH w B b c L a d s):
 μ η 212 #[pV b] w λe q=>Kept B a w q/\
  ((tk L s.i).x=1/\e=π (ζ ⟨ν (tk L s.i).text⟩)/\aH q B b c L a d s.nx\/(tk L s.i).x≠1/\e=gu 1 ((tk L s.i).at')):=by
 have H:=W6 j h;have l:=λf (i:aH f B b c L a d s)=>vP j i 1;have o:=λf (i:aH f B b c L a d s)=>DL j i;have u:=O λf (g:I No w f)=>h.y g;have F:=Z7;have G:=xB;generalize tk L s.i=y at*;obtain⟨p,z,N⟩:=y;simp only[jK]at H o l⊢;generalize (⟨ν z⟩:ByteArray)=D at*;go_in;go_wp2_with fail;refine H.mono ?_;rintro e f ⟨rfl,g⟩;have n:=O<|u.u f g;have m:=O<|C9 (B:=B) (ok:=a) g;by_cases k:p=1
 .subst k;go_wp2_with fail;refine(o _ n.u ε).mono ?_;rintro e A ⟨rfl,v,x⟩;have r:=O<|m.u.trans v;have t:=O x;go_wp2;go_ret;exact⟨r.u,K,t.u⟩
 .have M:(p==1)=κ:=by simp[k]
  go_wp2_with fail;refine(l _ n.u).mono ?_;rintro e A ⟨rfl,g⟩;exact⟨K,m.u.trans<|C9 g,.inr ⟨k,K⟩⟩
def zw(w:E)(t):
 μ η 274 #[ζ ⟨ν t⟩] w λe f=>e=π (U<|I1 t)/\f=w:=by
 go_in;go_wp2;all_goals go_ret
 all_goals exact⟨M9<|by simp_all [I1],K⟩
def GC{g}{L}{f:Sp->Option (Out g)}{i}{e}(h:∀r,f r=bF L i e):Ev L f (.fail e<|(tk L i).at'):=Ev.pure.eq h
def Sb(A:cY L)(m)(j)(D:lM B b c L 243 j m)(f)(P:Q L-s.i<=m)(a6:∀g,V w.heap<=g->a g)(hB:B<=V w.heap)(h:aH w B b c L a d s):
 μ η 139 #[pV b,.bool f,.func (.func 243) #[pV b] #[]] w (BJ w B b c L a d s λr=>aS L f d s λd s=>j d s r):=by
 obtain⟨g,R,nv,yv,-,-,-,-,a4,-,T,Z,-,-,fz,-⟩:=h.cell;have l:=λu=>vP A h u;have q:=O h;cases f
 .go_in;go_wp2_with fail;refine(l 1).mono ?_;rintro e y ⟨rfl,i⟩;exact⟨K,C9 i,_,GC λr=>Θ,K,ε⟩
 .by_cases hd:20<=d
  .have F:20<=d:=W;go_in;go_wp2_with fail;refine(l 8).mono ?_;rintro e y ⟨rfl,i⟩;exact⟨K,C9 i,_,GC λr=>by grind[aS],K,ε⟩
  .have F:¬20<=d:=W;go_in;go_wp2_with fail;refine(D _ a (d+1) s P ð ð<|by simpa using q.u.lh<|d+1).mono ?_;rintro e y ⟨N,o,H,x⟩;have n:=O<|(q.u.ju 2 _).trans N;have k:=O (H.eq (ψ:=λr=>aS L τ d s λd s=>j d s r) λr=>by grind[aS]);cases o with
   |fail u p=>
    obtain⟨rfl,G⟩:=x;exact⟨K,n.u,_,k.u,K,G⟩
   |ok s' a8=>
    obtain⟨rfl,v,M⟩:=x;have t:=O v;have z:=O M;obtain⟨g',S,a7,a9,-,-,-,-,a5,-,-,a2,-,-,a3,-⟩:=v.cell;go_wp2;go_ret;exact⟨n.u.trans<|t.u.ju _ _,_,k.u,K,t.u.lh d,z.u⟩
def pZ(e:List bZ):Array χ:=ν (e.map λm=>ζ ⟨ν m⟩)
theorem xG(w:E)(e)(t):Strs (σ w<|γ (pZ e) t) (V w.heap) e:=by
 refine⟨ι,λj f=>?_⟩;grind[World.cell?_alloc_new,pZ]
theorem A5e(t:cY L)(m)(G:lM B b c L 243 (λd s r=>r.union d s) m):lM B b c L 234 (λd s r=>r.typ d s) m:=by
 intro w a d s R T F h;have z:=λk i f=>Sb (w:=k) t m _ G f R (λg j=>T g<|kQ i.size j) (kQ F i.size)<|h.y i;have D:=sY t (h.alloc<|γ (pZ EM) 9) (V w.heap) 9 EM (xG _ _ _) ε;have v:=O (λf (H:f=aL L s.i EM) o (S:Ev L (λr=>aS L f d s λd s=>r.union d s) o)=>(Ev.step (φ:=λr=>r.typ d s)<|S.eq λr=>by rw[H];rfl));generalize aL L s.i EM=f at*;go_in;go_wp2_with fail;refine D.mono ?_;rintro e k ⟨rfl,i⟩;have l:=O<|(I.alloc No w _).trans i λ_ _ x=>x;go_wp2_with fail;refine(z k l.u f).mono ?_;rintro e a2 ⟨P,o,N,u⟩;have n:=O<|(C9 l.u).trans P;have q:=O<|v.u f K o N;cases o with
 |fail er p=>
  obtain⟨rfl,M⟩:=u;exact⟨K,n.u,_,q.u,K,M⟩
 |ok s' x=>
  obtain⟨rfl,Z,j⟩:=u;have A:=O Z;have y:=O j;go_wp2;go_ret;exact⟨n.u,_,q.u,K,A.u,y.u⟩
def J1{g}{f}{e p}(j:Kept B a w f)(i:Ev L g<|.fail e p)(h:e≠0):BJ w B b c L a d s g (gu e p) f:=⟨j,_,i,K,h⟩
def rI{g}{f}{e}{x}(j:Kept B a w f)(h:Ev L g<|.ok e x)(k:aH f B b c L a d e)(i:F8 s e):BJ w B b c L a d s g (π<|U x) f:=⟨j,_,h,K,k,i⟩
def Gj(w)(a)(k o):eI w a ⟨k,[],[],o⟩ [U k,sN,sN,U o]:=
 ⟨_,_,K,kW _ _ _ _,kW _ _ _ _,ù,ù⟩
def CI(L:List Tk)(s:St):Option (Out Int):=if (tk L s.i).x=2/\I1 (tk L s.i).text≠0 then bQ s.nx ⟨I1 (tk L s.i).text,[],[],0⟩ else bF L s.i 1
def zy(l:cY L)(T:B<=V w.heap)(a3:∀g,V w.heap<=g->a g)(h:aH w B b c L a d s):
 μ η 267 #[pV b] w (BJ w B b c L a d s λ_=>CI L s):=by
 have H:=λi (j:aH i B b c L a d s)=>W6 l j;have p:=λi (j:aH i B b c L a d s)=>vP l j 1;have G:=λi (j:aH i B b c L a d s.nx) t k=>EH l j ⟨k,[],[],0⟩ none none 0 0 0 0 (Gj i a k 0) (by show Q s.T+1<=s.i+1;have:=h.fq;omega) (kQ T t) λg Z=>a3 g<|kQ t Z;have a9:=Z7;have aa:=xB;have t:=l.jq;have hi:=h.at';have y:=O (λ(r:(tk L s.i).x=2)=>show s.i+1<Q L by
  have j:=l.last s.i hi;omega);have n:=O (show CI L s=if (tk L s.i).x=2/\I1 (tk L s.i).text≠0 then bQ s.nx ⟨I1 (tk L s.i).text,[],[],0⟩ else C (.fail 1 ((tk L s.i).at':Int)) from K);have z:=O h;generalize CI L s=ό at*;generalize tk L s.i=a5 at*;obtain⟨D,v,pl⟩:=a5;simp only[jK]at H p y n;have S:=λi=>zw i v;generalize I1 v=u at*;generalize (⟨ν v⟩:ByteArray)=bx at*;go_in;go_wp2_with fail;refine(H _ z.u).mono ?_;rintro e i ⟨rfl,f⟩;have q:=O<|z.u.y f;have x:=O f;by_cases r:D=2
 .subst r;go_wp2_with fail;refine(H _ q.u).mono ?_;rintro e af ⟨rfl,f⟩;have m:=O<|q.u.y f;have o:=O<|x.u.trans f λ_ _ a6=>a6;go_wp2_with fail;refine(S _).mono ?_;rintro e ag ⟨rfl,rfl⟩;by_cases A:u=0
  .subst A;go_wp2_with fail;refine(p _ m.u).mono ?_;rintro e F ⟨rfl,f⟩;exact⟨K,J1 ((C9 o.u).trans<|C9 f) (Ev.pure.eq λ_=>by rw[n.u];simp) ε⟩
  .have ad:(u==0)=κ:=by simp[A]
   obtain⟨g',c',ae,ah,-,-,-,-,ac,-,a7,-,-,-,a8,-⟩:=m.u.cell;have P:=O<|m.u.next<|y.u trivial;have M:=O<|(C9 o.u).trans<|m.u.ju 1<|U<|s.i+1;go_wp2_with fail;refine(G _ P.u (by have:=o.u.size;simp_all) u).mono ?_;rintro e F ⟨rfl,a2,a4⟩;have N:=O<|M.u.trans a2;have R:=O a4;go_wp2;go_ret;exact rI N.u (Ev.pure.eq λ_=>by rw[n.u];grind[bQ]) R.u (by grind[F8,St.nx])
 .have ab:(D==2)=κ:=by simp[r]
  go_wp2_with fail;refine(p _ q.u).mono ?_;rintro e F ⟨rfl,f⟩;exact⟨K,J1 ((C9 x.u).trans<|C9 f) (Ev.pure.eq λ_=>by rw[n.u];grind) ε⟩
theorem JT{s e}(h:F8 s.nx e):F8 s e:=by
 obtain⟨f,g,i,j⟩:=h;simp only[St.nx]at f g i j;exact⟨W,W,W,W⟩
theorem zn(G:cY L)(m)(ac:∀y,y<m->lM B b c L 234 (λd s r=>r.typ d s) y)
 (ab:∀y,y<m->lM B b c L 265 (λd s r=>r.jl d s []) y) (aa:∀y,y<m->lM B b c L 266 (λd s r=>r.kv d s) y):
 lM B b c L 254 (λd s r=>r.gd d s) m:=by
 intro w a d s hm H F a6;have hi:=a6.at';have Z:=G.jq;have N:=λi (k:aH i B b c L a d s) mk=>H7 G k mk;have a8:=λi (k:aH i B b c L a d s) l=>zy G (kQ F l) (λg f=>H g<|kQ l f) k;have HO:=λi k l=>ab (Q L-(s.i+1)) W i a d s.nx (vQ _) (λg f=>H g<|kQ l f) (kQ F l) k;have HB:=λi k l=>aa (Q L-(s.i+1)) W i a d s.nx (vQ _) (λg f=>H g<|kQ l f) (kQ F l) k;have HY:=λi k l=>ac (Q L-(s.i+1)) W i a d s.nx (vQ _) (λg f=>H g<|kQ l f) (kQ F l) k;have HN:=λi s1 (k:aH i B b c L a d s1)=>I7 G k [93];have HA:=λi s1 (k:aH i B b c L a d s1) Z hq a7=>EH G k ⟨8,[],[],a7⟩ none none 0 0 0 0 (Gj i a 8 a7) hq (kQ F Z) λg f=>H g<|kQ Z f;have D:Hid (∀o,Ev L (λr=>if aL L s.i [[123]] then r.jl d s.nx [] else if aL L s.i [[91]] then A8 (r.typ d s.nx) λs x=>A8 (aC L s [93]) λs _=>bQ s ⟨8,[],[],x⟩
  else if aL L s.i [[40]] then r.kv d s.nx else CI L s) o->Ev L (λr=>r.gd d s) o):=λo ho=>Ev.step<|ho.eq λr=>K;have HP:=O a6;have H1:=N w HP.u [123];have H2:=λi k=>N i k [91];have H3:=λi k=>N i k [40];generalize aL L s.i [[123]]=b1 at*;generalize aL L s.i [[91]]=b2 at*;generalize aL L s.i [[40]]=b3 at*;generalize CI L s=ό at*;go_in;go_wp2_with fail;refine H1.mono ?_;rintro e i ⟨rfl,j,h⟩;have P:=O j;have a3:=O h;cases b1
 .go_wp2_with fail;refine(H2 _<|by simpa using a3.u).mono ?_;rintro e ad ⟨rfl,j,h⟩;have R:=O<|P.u.trans j;have a4:=O h;cases b2
  .go_wp2_with fail;refine(H3 _<|by simpa using a4.u).mono ?_;rintro e ae ⟨rfl,j,h⟩;have M:=O<|R.u.trans j;have a5:=O h;cases b3
   .go_wp2_with fail;refine(a8 _ (by simpa using a5.u) M.u.size).mono ?_;rintro e a2 ⟨j,o,v,t⟩;have q:=O<|M.u.trans j;have n:=O (D.u o<|v.eq λr=>ι);cases o with
    |fail T p=>
     obtain⟨rfl,A⟩:=t;exact⟨K,J1 q.u n.u A⟩
    |ok s' x=>
     obtain⟨rfl,h,f⟩:=t;have u:=O h;have z:=O f;clear h f;go_wp2;go_ret;exact rI q.u n.u u.u z.u
   .go_wp2_with fail;refine(HB _ (by simpa using a5.u) M.u.size).mono ?_;rintro e a2 ⟨j,o,v,t⟩;have q:=O<|M.u.trans j;have n:=O (D.u o<|v.eq λr=>ι);cases o with
    |fail T p=>
     obtain⟨rfl,A⟩:=t;exact⟨K,J1 q.u n.u A⟩
    |ok s' x=>
     obtain⟨rfl,h,f⟩:=t;have u:=O h;have z:=O<|JT f;go_wp2;go_ret;exact rI q.u n.u u.u z.u
  .go_wp2_with fail;refine(HY _ (by simpa using a4.u) R.u.size).mono ?_;rintro e a2 ⟨j,o,v,t⟩;have q:=O<|R.u.trans j;have n:=O v;cases o with
   |fail T p=>
    obtain⟨rfl,A⟩:=t;exact⟨K,J1 q.u (D.u _<|(Ev.bad n.u).eq λr=>by simp;rfl) A⟩
   |ok s' x=>
    obtain⟨rfl,h,f⟩:=t;have u:=O h;have z:=O<|JT f;go_wp2_with fail;refine(HN _ _ u.u).mono ?_;rintro e af ⟨j,hr⟩;have S:=O<|q.u.trans j;obtain⟨l,rfl,h⟩|⟨l,rfl⟩:=hr
    .have a9:=O h;have B5:=O l;go_wp2_with fail;refine(HA _ _ a9.u S.u.size (by have:=u.u.fq;grind[St.nx]) x).mono ?_;rintro e ag ⟨rfl,j,h⟩;have K6:=O<|S.u.trans j;have P6:=O h;go_wp2_with fail;go_ret;refine rI K6.u (D.u _<|Ev.eq (Ev.bind n.u (k:=λ_ s x=>A8 (aC L s [93]) λs _=>bQ s ⟨8,[],[],x⟩)<|Ev.pure.eq λr=>?_) λr=>ι) P6.u ?_
     .simp[aC,B5.u,A8,bQ]
     .have:=z.u;grind[F8,St.nx,qQ,jQ,xQ]
    .refine⟨K,J1 S.u (D.u _<|Ev.eq (Ev.bind n.u (k:=λ_ s x=>A8 (aC L s [93]) λs _=>bQ s ⟨8,[],[],x⟩)<|Ev.pure.eq λr=>?_) λr=>ι) ε⟩;grind[aC,A8,bF]
 .go_wp2_with fail;refine(HO _ (by simpa using a3.u) P.u.size).mono ?_;rintro e a2 ⟨j,o,v,t⟩;have q:=O<|P.u.trans j;have n:=O (D.u o<|v.eq λr=>ι);clear j v;cases o with
  |fail T p=>
   obtain⟨rfl,A⟩:=t;exact⟨K,J1 q.u n.u A⟩
  |ok s' x=>
   obtain⟨rfl,h,f⟩:=t;have u:=O h;have z:=O<|JT f;clear h f;go_wp2_with fail;go_ret;exact rI q.u n.u u.u z.u
def Tryz.fy:(prog.info? 3).map (λi=>(i.zero,i.size,i.bytes))=C (C<|U 0,1,8):=Ψ
theorem aH.grown{w l:E}{m t n}{e}{v v':χ}{u}(h:aH w B b c L (λg=>a g/\C g≠Δ v) d s)(p:ξ w m e t v n u)(F:e=3\/e=156)(i:w.grownBy l (Δ v))
 (D:Δ v'=Δ v\/Δ v'=C (V w.heap)):aH l B b c L (λg=>a g/\C g≠Δ v') d s:=by
 refine h.P (I.grown i) (λk x A o j=>?_) λg i H=>?_
 .obtain⟨_,y,f⟩:=A9 p k j.symm;rw[o]at f;simp at f;obtain⟨_,rfl,_⟩:=f;refine⟨θ,θ,θ,λq=>?_,λ_ r=>r.2 j⟩;obtain⟨_,z,G⟩:=A9 h.kz k q;grind
 grind
theorem Kept.grown{a}{f w g:E}{m n}{e}{v}{o}(j:Kept B a f w)(k:ξ w (V f.heap) e m v n o)(h:w.grownBy g (Δ v)):Kept B a f g:=
 j.trans' (I.grown h) (λi p l=>by have:=(A9 k i l.symm).1;omega)
def xh(w:E)(e)(f:e<=V w.heap)(x):ξ (σ w<|γ #[U x] 3) e 3 1 (Y (C<|J (V w.heap) 0) 1 1) 1 (C8 [x]):=
 ⟨K,.inr ⟨V w.heap,1,#[U x],K,f,rY w _,W,by simp[Γ],K,K⟩⟩
def qI(w:E)(b:Nat):Nat:=(intOf<|(δ w<|J b 1).getD<|U 0).toNat
def aH.j3(h:aH w B b c L a d s):qI w b=s.i:=by
 obtain⟨g,e,i,j,-,-,-,-,-,-,f,-⟩:=h.cell;grind[qI,intOf]
theorem Sn(S:cY L)(a5)(ab:∀m',m'<=a5->lM B b c L 254 (λd s r=>r.gd d s) m'):
 lM B b c L 243 (λd s r=>r.union d s) a5:=by
 intro w a d s hm Z hB h;have b0:=S.jq;have H1:=ab a5 (vQ _) w a d s hm Z hB h;have HF:=O h.fq.2;have HV:Hid (∀o,Ev L (λr=>A8 (r.gd d s) λs x=>if aL L s.i [[124]] then A8 (r.gp d s [x]) λs l=>bQ s ⟨10,[],l,0⟩ else C<|.ok s x) o->Ev L (λr=>r.union d s) o):=λo u=>Ev.step<|u.eq λr=>K;go_in;go_wp2_with fail;refine H1.mono ?_;rintro e ag ⟨k,o,T,H⟩;have K1:=O k;have E1:=O T;cases o with
 |fail er p=>
  obtain⟨rfl,he⟩:=H;exact⟨K,J1 K1.u (HV.u _<|Ev.bad E1.u) he⟩
 |ok s1 x=>
  obtain⟨rfl,m,j⟩:=H;have ai:=O m;have G1:=O j;have HI:=sY S (m.alloc<|γ (pZ [[124]]) 9) (V ag.heap) 1 [[124]] (xG _ _ _) ε;have a7:=O λo u=>HV.u o<|Ev.bind E1.u u;generalize hb:aL L s1.i [[124]]=aj at*;have B1:=O hb;go_wp2_with fail;refine HI.mono ?_;rintro e au ⟨rfl,hc⟩;have a8:=O<|(ai.u.alloc _).y hc;have K2:=O<|K1.u.trans<|((Kept.refl B a ag).alloc _).trans<|C9 hc;cases aj
  .go_wp2;go_ret;exact rI K2.u (a7.u _<|Ev.pure.eq λr=>ι) a8.u G1.u
  .have HB:=O B1.u;go_wp2;go_loopw [4] (λar wr=>∃(i:uZ) (f:St) (n:Option Addr) (q:Nat),ar=Y n (Q i) q/\Q i<=f.i/\Hid (aL L f.i [[124]]=τ\/Q f.T+1+s.i<=Q s.T+f.i)/\Hid (Kept B a w wr)/\Hid (F8 s f)/\Hid (wr.ownsRow (V w.heap) 3 1 (Y n (Q i) q) (Q i)<|C8 i)/\
    Hid (aH wr B b c L (λg=>a g/\C g≠Δ (Y n (Q i) q)) d f)/\Hid (∀o,Ev L (λr=>A8 (r.gp d f i) λs l=>bQ s ⟨10,[],l,0⟩) o->Ev L (λr=>r.union d s) o)) (λ_ wr=>Q L-qI wr b);case atStart=>
    refine⟨[x],s1,_,1,K,by have:=G1.u.1;grind,.inl B1.u,K2.u.alloc _,G1.u,xh au _ K2.u.size x,a8.u.P (I.alloc No _ _) (λ_ _ _ _ x=>x.elim) λg j hl=>⟨j,by grind[Δ]⟩,λo u=>a7.u o<|u.eq λr=>ι⟩
   case round=>
    obtain⟨i,f,n,q,rfl,av,SR,KR,M,OR,PR,D⟩:=hrel;have HT:=H7 S PR.u [124];have aw:=PR.u.at';have az:=PR.u.j3;generalize hq:aL L f.i [[124]]=aq at*;have Q1:=O hq;go_wp2_with fail;refine HT.mono ?_;rintro e a6 ⟨rfl,k,m⟩;have t:=O<|KR.u.trans<|k.mono λ_ h=>h.1;have P:=O m;have z:=O (G9 OR.u k ε);cases aq
    .have S2:Q f.T+1+s.i<=Q s.T+f.i:=by
      obtain F|F:=SR.u
      .grind
      .omega
     have hT:=HF.u;have PY:aH a6 B b c L (λg=>a g/\C g≠Δ (Y n (Q i) q)) d f:=by simpa using P.u
     have A:=PY.mono λg j _=>j.1;have HA:=EH S A ⟨10,[],i,0⟩ none n 0 0 (Q i) q ⟨_,_,K,kW _ _ _ _,C7 z.u<|wQ _,ù,λg j=>Z g (A9 z.u g j).1⟩ W (kQ hB t.u.size) λg j=>Z g<|kQ t.u.size j;have EV:=O (D.u _<|Ev.bind (s:=f) (x:=i) (k:=λ_ s l=>bQ s ⟨10,[],l,0⟩) (Ev.step<|Ev.pure.eq λr=>by show (if aL L f.i [[124]] then _ else _)=_;rw[Q1.u];rfl) Ev.pure);have GX:=O (show F8 s ⟨f.i,f.N,f.T++[⟨10,[],i,0⟩]⟩ by
      have G:=M.u;grind[F8,qQ,jQ,xQ]);clear D z P A PY M;go_wp2_with fail;refine HA.mono ?_;clear HA;rintro e ah ⟨rfl,k,m⟩;have v:=O<|t.u.trans k;have R:=O m;clear k m;go_wp2_with fail;go_ret;exact rI v.u EV.u R.u GX.u
    .have A:aH a6 B b c L (λg=>a g/\C g≠Δ (Y n (Q i) q)) d f.nx:=by simpa using P.u
     have ax:=A.at';have hj:=M.u.1;have HM:=ab (Q L-f.nx.i) (by grind[St.nx]) a6 _ d f.nx (vQ _) (λg j=>⟨Z g<|kQ t.u.size j,λhx=>by have:=(z.u.lt g hx.symm).2;omega⟩) (kQ hB t.u.size) A;clear P A;go_wp2_with fail;refine HM.mono ?_;clear HM;rintro e ah ⟨k,o,T,H⟩;have v:=O<|t.u.trans<|k.mono λ_ h=>h.1;have N:=O (G9 z.u k ε);have E4:=O T;clear k T t z;cases o with
     |fail er p=>
      obtain⟨rfl,he⟩:=H;exact⟨K,J1 v.u (D.u _<|Ev.bad<|Ev.step<|(Ev.bad E4.u).eq λr=>by show (if aL L f.i [[124]] then _ else _)=_;rw[Q1.u];rfl) he⟩
     |ok s4 y=>
      obtain⟨rfl,m,j⟩:=H;have R:=O m;have G4:=O j;have ay:=m.at';clear m j;have VN:=O (λo (u:Ev L (λr=>A8 (r.gp d s4<|i++[y]) λs l=>bQ s ⟨10,[],l,0⟩) o)=>D.u o (by
       obtain⟨ak,F⟩:=E4.u;obtain⟨al,G⟩:=u;refine⟨ak+al+1,λaa hf=>?_⟩;obtain⟨g,rfl⟩:∃g,aa=g+1:=⟨aa-1,W⟩;have a1:(gW L g).gd d f.nx=C (.ok s4 y):=F g W;have a2:=G g W;show A8 (if aL L f.i [[124]] then A8 ((gW L g).gd d f.nx) λs x=>(gW L g).gp d s (i++[x]) else C<|.ok f i) _=C o;rw[Q1.u,yY K,a1];exact a2));clear D;obtain⟨i0,am,an,ao,ap⟩:=ò Tryz.fy;have af:=O<|N.u.alloc<|γ #[U y] 3;go_wp2_with (at_builtin;refine Ö _ K _ _ 63 K (V w.heap) 3 i0 (U 0) 1 8 ü am an ao ap K ε _ _ _ K af.u (J (V ah.heap) 0) 1 1 [U y] K K ?c1 ?c2 ?c3 ?c4 ?c5 ?_);case c1=>grind[cell_one_new]
      case c2=>intro b1 hu;simp at hu;obtain rfl:=hu;rfl
      case c3=>grind[Γ]
      case c4=>omega
      case c5=>have:=v.u.size;simp;omega
      .intro v' b2 a3 a4 _ ac;obtain⟨a9,c2,ae⟩:=B8 a3;rw[ae]at a3 ac⊢;have PG:=O ((R.u.alloc<|γ #[U y] 3).grown (v:=Y n (Q i) q) (v':=Y a9 (Q i+1) c2) (N.u.alloc _) (.inl K) a4 ð);have KG:=O<|(v.u.alloc<|γ #[U y] 3).grown (N.u.alloc _) a4;have OG:=O a3;clear a3 a4 ac af R N v ae;go_wp2_with fail;go_roundw;case rel=>
        have F:=M.u;have G:=G4.u;simp only[F8,St.nx]at F G;refine⟨i++[y],s4,a9,c2,ι,θ,.inr W,KG.u,⟨W,W,W,W⟩,?_,?_,VN.u⟩<;>simp_all[ξ,T4]
       case measure=>
        have G:=G4.u;have h3:=PG.u.j3;grind[F8,St.nx]
end
def tA{P}{f}{b}{d:Exit->Act->E->Prop}{S:E->Prop}{i k:Nat}{m}{o}{n}{g}{l}{v}{j}{e}{a}{w:E}(r:b[i]?=C (Oper.mk (C k) m o n g l))
 (h:wpAnyH P f b d S j (e.setIfInBounds i τ) (a.put (C k) v) w) (t:Region.noSelect b=τ:=by kernel_rfl) (q:Region.free f b e i=τ:=by kernel_rfl) (s:(Region.ready f b e).contains i=τ:=by kernel_rfl) (hQ:∀c a w,d (.panic c) (a.put (C k) v) w->d (.panic c) a w:=by exact λ_ _ _ h=>h)
 (hy:YieldsIf P b S (Oper.mk (C k) m o n g l) v a:=by exact Or.inl ⟨Θ,λw u=>ú⟩) (p:S w:=by assumption):wpAnyH P f b d S (j+1) e a w:=ó r t q s hQ hy p h
def tU{P}{f}{b}{d:Exit->Act->E->Prop}{S:E->Prop}{i k:Nat}{m}{o}{n}{g}{l}{j}{e}{a}{w:E}(s:b[i]?=C (Oper.mk (C k) m o n g l))
 (h:wpAnyH P f b d S j (e.setIfInBounds i τ) (a.put (C k) undef) w) (u:Region.noSelect b=τ:=by kernel_rfl) (r:Region.free f b e i=τ:=by kernel_rfl) (t:(Region.ready f b e).contains i=τ:=by kernel_rfl) (p:∀c a w,d (.panic c) (a.put (C k) undef) w->d (.panic c) a w:=by exact λ_ _ _ h=>h)
 (v:YieldsIf P b S (Oper.mk (C k) m o n g l) undef a:=by exact Or.inr ⟨Θ,K⟩) (q:S w:=by assumption):wpAnyH P f b d S (j+1) e a w:=ó s u r t p v q h
theorem aT{b:Type}(l:List b)(i)(a):l.toArray.setIfInBounds i a=ν (l.set i a):=wZ ..
theorem a0{c:Type}(a b)(l:List c):(a::l).set 0 b=b::l:=rfl
theorem a1{c:Type}(a b)(l:List c)(n):(a::l).set (n+1) b=a::l.set n b:=rfl
section
variable{w:E}{B a:Nat}{b:χ}{L:List Tk}{ok:Nat->Prop}{d:Nat}{s:St}
def VH{p}{E}{e}{c}(f:aL L s.i [E]=τ):Ev L (λr=>r.M p E d s e c) (.ok s.nx c):=
 Ev.step (Ev.pure.eq λr=>by show (if aL L s.i [E] then _ else _)=_;grind)
def EP{p}{E}{e}{c}{f}{o}(i:aL L s.i [E]=κ)(g:(if Q c=0 then C (.ok s ()) else aC L s [44])=C (.ok f ()))
 (h:Ev L (λr=>A8 (part L r d f e p) λs x=>r.M p E d s x.2<|c++[x.1]) o):Ev L (λr=>r.M p E d s e c) o:=
 Ev.step (h.eq λr=>by
  show (if aL L s.i [E] then _ else A8 (if Q c=0 then C (.ok s ()) else aC L s [44]) _)=_;rw[i,g];rfl)
def VF{p}{E}{h}{c}{e q}(g:aL L s.i [E]=κ)(f:(if Q c=0 then C (.ok s ()) else aC L s [44])=C (.fail e q)):Ev L (λr=>r.M p E d s h c) (.fail e q):=
 Ev.step (Ev.pure.eq λr=>by
  show (if aL L s.i [E] then _ else A8 (if Q c=0 then C (.ok s ()) else aC L s [44]) _)=_;rw[g,f];rfl)
def L9(s c:St):Prop:=s.i<=c.i/\Q c.N+s.i<=Q s.N+c.i/\Q c.T+s.i<=Q s.T+c.i/\Q s.N<=Q c.N
def LV(w:E)(B a:Nat)(b:χ)(L:List Tk)(ok:Nat->Prop)(d:Nat)(s:St)(j:Sp->Option (Out uZ))(e:é)(g:E):Prop:=
 Kept B ok w g/\∃o,Ev L j o/\match o with
  |.ok f l=>∃h c,e=π (Y h (Q l) c)/\ξ g (V w.heap) 3 1 (Y h (Q l) c) (Q l) (C8 l)/\Q l<=f.i/\aH g B a b L ok d f/\F8 s f
  |.fail i p=>e=gu i p/\i≠0
def QA{f}{e}{c p}(i:Kept B ok w e)(h:Ev L f<|.fail c p)(g:c≠0):LV w B a b L ok d s f (gu c p) e:=⟨i,_,h,K,g⟩
def yu{h}{f}{e}{l}{g}{c}(k:Kept B ok w f)(i:Ev L h<|.ok e l)(n:ξ f (V w.heap) 3 1 (Y g (Q l) c) (Q l)<|C8 l)(m:Q l<=e.i)(o:aH f B a b L ok d e)(j:F8 s e):
 LV w B a b L ok d s h (π<|Y g (Q l) c) f:=⟨k,_,i,_,_,K,n,m,o,j⟩
def dS{e}{g:Nat->St->Sp->Option (Out Int)}(k:∀r d s,part L r d s [] e=A8 (g d s r) λs x=>C<|.ok s (x,[])){E}{c}{f}{o}(j:aL L s.i [E]=κ)(i:(if Q c=0 then C (.ok s ()) else aC L s [44])=C (.ok f ()))
 (h:Ev L (λr=>A8 (A8 (g d f r) λs x=>C<|.ok s (x,[])) λs x=>r.M e E d s x.2<|c++[x.1]) o):Ev L (λr=>r.M e E d s [] c) o:=EP j i (h.eq λr=>θ)
def PJ(kf:Nat)(cf:∀(ah) (ύ:E),(callFunc kf ah).run η ύ=.ok (.enter kf ah) ύ){pt}{φ}(a8:∀r d s,part L r d s [] pt=A8 (φ d s r) λs a6=>C<|.ok s (a6,[]))(hL:cY L)(ak)(ai:∀m',m'<=ak->lM B a b L kf φ m')(E)(hm:Q L-s.i<=ak)(aj:∀g,V w.heap<=g->ok g)(hB:B<=V w.heap)(h:aH w B a b L ok d s):
 μ η 273 #[pV a,ζ ⟨E.toArray⟩,.func (.func kf) #[pV a] #[]] w (LV w B a b L ok d s λr=>r.M pt E d s [] []):=by
 have ax:=hL.jq;have HP:=O h;go_in;go_wp2;go_loopw [7] (λaq wr=>∃(e:uZ) (f:St) (v:Option Addr) (c:Nat),aq=Y v (Q e) c/\Q e<=f.i/\Hid (Kept B ok w wr)/\Hid (L9 s f)/\Hid (wr.ownsRow (V w.heap) 3 1 (Y v (Q e) c) (Q e)<|C8 e)/\
  Hid (aH wr B a b L (λg=>ok g/\C g≠Δ (Y v (Q e) c)) d f)/\Hid (∀o,Ev L (λr=>r.M pt E d f [] e) o->Ev L (λr=>r.M pt E d s [] []) o)) (λ_ wr=>Q L-qI wr a);case atStart=>exact⟨[],s,none,0,K,ι,Kept.refl _ _ _,⟨vQ _,W,W,W⟩,kW _ _ _ _,HP.u.mono λg j _=>⟨j,ù⟩,λ_ h=>h⟩
 case round=>
  obtain⟨e,f,v,c,rfl,al,KR,M,OR,PR,q⟩:=hrel;have HT:=H7 hL PR.u E;have aw:=PR.u.j3;generalize hq:aL L f.i [E]=ao at*;have G:=O hq;clear hq;go_wp2_with fail;refine HT.mono ?_;clear HT;rintro a9 af ⟨rfl,i,l⟩;have z:=O<|KR.u.trans<|i.mono λ_ h=>h.1;have a7:=O l;have A:=O (G9 OR.u i ε);clear i l OR PR KR;cases ao
  .have k:aH af B a b L (λg=>ok g/\C g≠Δ (Y v (Q e) c)) d f:=by simpa using a7.u
   clear a7;by_cases hz:Q e=0
   .have N:Hid ((if Q e=0 then C (.ok f ()) else aC L f [44])=C (Out.ok f ())):=by show _=_;rw[yY hz]
    have ha:=List.eq_nil_of_length_eq_zero hz;subst ha;simp only[xQ]at A k al⊢;clear hz;have hj:=M.u.1;have P:=ai (Q L-f.i) W af _ d f (vQ _) (λg j=>⟨aj g<|kQ z.u.size j,λhx=>by have:=(A.u.lt g hx.symm).2;omega⟩) (kQ hB z.u.size) k;clear k;go_wp2_with fail;refine P.mono ?_;clear P;rintro a9 ag ⟨i,o,a2,a3⟩;have m:=O<|z.u.trans<|i.mono λ_ h=>h.1;have n:=O (G9 A.u i ε);have H:=O a2;clear i a2 z A;cases o with
    |fail er p=>
     obtain⟨rfl,he⟩:=a3;exact⟨K,QA m.u (q.u _<|dS a8 G.u N.u<|Ev.bad<|Ev.bad H.u) he⟩
    |ok F y=>
     obtain⟨rfl,l,j⟩:=a3;have S:=O l;have x:=O j;have am:=l.at';clear l j;have VN:=O λo (ho:Ev L (λr=>r.M pt E d F []<|[]++[y]) o)=>q.u o<|dS a8 G.u N.u<|Ev.bind (Ev.bind H.u (k:=λ_ s a6=>C<|.ok s (a6,[])) Ev.pure) ho;clear q;obtain⟨i0,aa,ab,ac,ae⟩:=ò Tryz.fy;have a5:=O<|n.u.alloc<|γ #[U y] 3;have an:0+1<=F.i:=by
      have t:=x.u.1;first|(simp only[St.nx]at t;omega)|omega
     go_wp2_with (at_builtin;refine Ö _ K _ _ 63 K (V w.heap) 3 i0 (U 0) 1 8 ü aa ab ac ae K ε _ _ _ K a5.u (J (V ag.heap) 0) 1 1 [U y] K K ?c1 ?c2 ?c3 ?c4 ?c5 ?_);case c1=>grind[cell_one_new]
     case c2=>intro ap hu;simp at hu;obtain rfl:=hu;rfl
     case c3=>grind[Γ]
     case c4=>omega
     case c5=>have:=m.u.size;simp;omega
     .intro v' ar u D _ Z;obtain⟨T,c2,a4⟩:=B8 u;rw[a4]at u Z⊢;have PG:=O ((S.u.alloc<|γ #[U y] 3).grown (v:=Y v 0 c) (v':=Y T (0+1) c2) (n.u.alloc _) (.inl K) D ð);have KG:=O<|(m.u.alloc<|γ #[U y] 3).grown (n.u.alloc _) D;have OG:=O u;clear u D Z a5 S n m a4;go_wp2_with fail;go_roundw;case rel=>
       have h1:=M.u;have t:=x.u;simp only[F8,L9]at h1 t;refine⟨[y],F,T,c2,ι,W,KG.u,⟨W,W,W,W⟩,?_,?_,VN.u⟩<;>grind[ξ,C8]
      case measure=>
       have t:=x.u;have h3:=PG.u.j3;grind[F8]
   .have ay:(0:Int)<(Q e:Int):=W;have HN:=I7 hL k [44];go_wp2_with fail;refine HN.mono ?_;clear HN;rintro a9 au ⟨i,hr⟩;have R:=O<|z.u.trans<|i.mono λ_ h=>h.1;have O6:=O (G9 A.u i ε);clear i z A k;obtain⟨hb,rfl,k⟩|⟨hb,rfl⟩:=hr
    .have av:=k.at';have N:Hid ((if Q e=0 then C (.ok f ()) else aC L f [44])=C (Out.ok f.nx ())):=by show _=_;rw[wY hz,aC,hb];rfl
     clear hb;have hj:=M.u.1;have P:=ai (Q L-f.nx.i) (by grind[St.nx]) au _ d f.nx (vQ _) (λg j=>⟨aj g<|kQ R.u.size j,λhx=>by have:=(O6.u.lt g hx.symm).2;omega⟩) (kQ hB R.u.size) k;clear k;go_wp2_with fail;refine P.mono ?_;clear P;rintro a9 ag ⟨i,o,a2,a3⟩;have m:=O<|R.u.trans<|i.mono λ_ h=>h.1;have n:=O (G9 O6.u i ε);have H:=O a2;clear i a2 R O6;cases o with
     |fail er p=>
      obtain⟨rfl,he⟩:=a3;exact⟨K,QA m.u (q.u _<|dS a8 G.u N.u<|Ev.bad<|Ev.bad H.u) he⟩
     |ok F y=>
      obtain⟨rfl,l,j⟩:=a3;have S:=O l;have x:=O j;have am:=l.at';clear l j;have VN:=O λo (ho:Ev L (λr=>r.M pt E d F []<|e++[y]) o)=>q.u o<|dS a8 G.u N.u<|Ev.bind (Ev.bind H.u (k:=λ_ s a6=>C<|.ok s (a6,[])) Ev.pure) ho;clear q;obtain⟨i0,aa,ab,ac,ae⟩:=ò Tryz.fy;have a5:=O<|n.u.alloc<|γ #[U y] 3;have an:Q e+1<=F.i:=by
       have t:=x.u.1;first|grind[St.nx]|omega
      go_wp2_with (at_builtin;refine Ö _ K _ _ 63 K (V w.heap) 3 i0 (U 0) 1 8 ü aa ab ac ae K ε _ _ _ K a5.u (J (V ag.heap) 0) 1 1 [U y] K K ?c1 ?c2 ?c3 ?c4 ?c5 ?_);case c1=>grind[cell_one_new]
      case c2=>intro ap hu;simp at hu;obtain rfl:=hu;rfl
      case c3=>grind[Γ]
      case c4=>omega
      case c5=>have:=m.u.size;simp;omega
      .intro v' ar u D _ Z;obtain⟨T,c2,a4⟩:=B8 u;rw[a4]at u Z⊢;have PG:=O ((S.u.alloc<|γ #[U y] 3).grown (v:=Y v (Q e) c) (v':=Y T (Q e+1) c2) (n.u.alloc _) (.inl K) D ð);have KG:=O<|(m.u.alloc<|γ #[U y] 3).grown (n.u.alloc _) D;have OG:=O u;clear u D Z a5 S n m a4;go_wp2_with fail;go_roundw;case rel=>
        have h1:=M.u;have t:=x.u;simp only[F8,L9,St.nx]at h1 t;refine⟨e++[y],F,T,c2,ι,θ,KG.u,⟨W,W,W,W⟩,?_,?_,VN.u⟩<;>grind[ξ,T4]
       case measure=>
        have t:=x.u;have h3:=PG.u.j3;grind[F8,St.nx]
    .exact⟨K,QA R.u (q.u _<|VF G.u<|by rw[wY hz,aC,hb];rfl) ε⟩
  .have k:aH af B a b L (λg=>ok g/\C g≠Δ (Y v (Q e) c)) d f.nx:=by simpa using a7.u
   have PY:=O<|k.mono (ok':=ok) λg j _=>j.1;have EV:=O<|q.u _<|VH G.u;have GX:=O (show F8 s f.nx by
    have t:=M.u;grind[F8,L9,St.nx]);clear q a7 k;go_wp2_with fail;go_ret;exact yu z.u EV.u A.u (by grind[St.nx]) PY.u GX.u
theorem Ĭ(z:cY L)(m)(a3:∀m',m'<=m->lM B a b L 234 (λd s r=>r.typ d s) m'):lM B a b L 266 (λd s r=>r.kv d s) m:=by
 intro w ok d s hm A D h;have HF:=O h.fq;have H1:=PJ 234 (λ_ _=>ú) (pt:=.typ) (φ:=λd s r=>r.typ d s) (λ_ _ _=>K) z m a3 [41] hm A D h;have S:Hid (∀o,Ev L (λr=>A8 (r.M .typ [41] d s [] []) λs l=>if aL L s.i [[61,62]] then A8 (r.typ d s.nx) λs x=>bQ s ⟨9,[],l,x⟩ else match l with|[x]=>C (.ok s x)|_=>bF L s.i 1) o->Ev L (λr=>r.kv d s) o):=λo k=>Ev.step<|k.eq λr=>K;clear h;go_in;go_wp2_with fail;refine H1.mono ?_;rintro e af ⟨f,o,G,n⟩;have T:=O f;have M:=O G;cases o with
 |fail er p=>
  obtain⟨rfl,F⟩:=n;exact⟨K,J1 T.u (S.u _<|Ev.bad M.u) F⟩
 |ok q l=>
  obtain⟨ad,a6,rfl,k,hl,i,c⟩:=n;have a9:=O i;have P:=O c;have O1:=O k;have HT:=H7 z i [61,62];have y:=O λo k=>S.u o<|Ev.bind M.u k;generalize hq:aL L q.i [[61,62]]=a8 at*;go_wp2_with fail;refine HT.mono ?_;rintro e H ⟨rfl,f,i⟩;have j:=O<|T.u.trans f;have Z:=O (G9 O1.u f ε);have a2:=O i;cases a8
  .have v:aH H B a b L ok d q:=by simpa using a2.u
   have HX:=vP z v 1;have PY:=O v;by_cases h1:Q l=1
   .obtain⟨x,rfl⟩:=List.length_eq_one_iff.1 h1;obtain⟨g,rfl,_,c,ac,ae,a7⟩:=D5 Z.u ι;have aa:=a7 0 _ K;go_wp2;go_ret;exact rI j.u (y.u _<|Ev.pure.eq λr=>ι) PY.u P.u
   .have ab:((Q l:Int)==1)=κ:=à;go_wp2_with fail;refine HX.mono ?_;rintro e ag ⟨rfl,hc⟩;refine⟨K,J1 (j.u.trans<|C9 hc) (y.u _<|Ev.pure.eq λr=>?_) ε⟩;simp;match l,h1 with
    |[],_=>rfl
    |[x],h=>grind
    |_::_::_,_=>rfl
  .have v:aH H B a b L ok d q.nx:=by simpa using a2.u
   have HM:=a3 (Q L-q.nx.i) (by have:=P.u.1;grind[St.nx]) H ok d q.nx (vQ _) (λg c=>A g<|kQ j.u.size c) (kQ D j.u.size) v;go_wp2_with fail;refine HM.mono ?_;rintro e ah ⟨f,o,G,n⟩;have u:=O<|j.u.trans f;have O4:=O (G9 Z.u f ε);have N:=O G;cases o with
   |fail er p=>
    obtain⟨rfl,F⟩:=n;exact⟨K,J1 u.u (y.u _<|Ev.eq (Ev.bad N.u) λr=>by simp;rfl) F⟩
   |ok t a4=>
    obtain⟨rfl,i,c⟩:=n;have R:=O (show F8 s ⟨t.i,t.N,t.T++[⟨9,[],l,a4⟩]⟩/\Q t.T+1<=t.i by
     have h4:=HF.u;grind[F8,St.nx,qQ,jQ,xQ]);have HA:=EH z i ⟨9,[],l,a4⟩ none ad 0 0 (Q l) a6 ⟨_,_,K,kW _ _ _ _,C7 O4.u<|wQ _,ù,λg c=>A g (A9 O4.u g c).1⟩ R.u.2 (kQ D u.u.size) λg c=>A g<|kQ u.u.size c;have EV:=O (y.u _<|Ev.eq (Ev.bind N.u (k:=λ_ s x=>bQ s ⟨9,[],l,x⟩) Ev.pure) λr=>ι);go_wp2_with fail;refine HA.mono ?_;rintro e ai ⟨rfl,f,i⟩;have K5:=O<|u.u.trans f;have a5:=O i;go_wp2;go_ret;exact rI K5.u EV.u a5.u R.u.1
end
set_option linter.unusedSimpArgs false
section
variable{w:E}{B pb:Nat}{tv:χ}{L:List Tk}{ok:Nat->Prop}{d:Nat}{s:St}
def Tryz.o8:(prog.info? 9).map (λi=>(i.zero,i.size,i.bytes))=C (C<|ζ ⟨#[]⟩,1,16):=Ψ
def uN(a:List bZ):List χ:=a.map λm=>ζ ⟨ν m⟩
theorem ŗ(a)(m):uN (a++[m])=uN a++[ζ ⟨ν m⟩]:=by simp[uN]
def gG(w:E)(e f:Nat)(a:List bZ):Prop:=
 e<=f/\∃b c,w.heap[f]?=C (γ #[Y b (Q a) c] 23 (0,0))/\ξ w e 9 1 (Y b (Q a) c) (Q a) (uN a)
def KT(w:E)(k:Nat):Prop:=∃a e b,w.heap[k]?=C (γ a e b)/\(e=23\/e=9)
def aV(B:Nat)(ok:Nat->Prop)(a:Nat)(w b:E):Prop:=I (λk=>(B<=k/\tag w k/\ok k)\/(a<=k/\KT w k)) w b
def gG.kept{ok}{w i}{f a}{g}(h:gG w f a g)(b:Kept B ok w i):gG i f a g:=by
 obtain⟨k,j,c,l,m⟩:=h;refine⟨k,j,c,?_,G9 m b ε⟩;rw[b.block a (aG l) λx=>?_]
 .omega
 .obtain⟨n,e,o,p,r⟩:=x.2.1;grind
theorem Dj{w a b}{c}{v}(f:δ a (J c 0)=C v)(g:Hid<|I No w a)(e:I No a b):δ b (J c 0)=C v/\Hid (I No w b):=by
 refine⟨?_,g.u.trans e λ_ _ x=>x⟩;rw[ý<|e.block c (Ì a _ f) λx=>x];omega
def ĭ{w}{g}{a}(c:g<V w.heap)(b:∀j u,(uN a)[j]?=C u->δ w (J g j)=C u):Strs w g a:=
 ⟨c,λj e=>b j _<|by grind[uN]⟩
def xk(w:E)(a)(c)(t:bZ):
 μ η 211 #[Y a 0 c,ζ ⟨ν t⟩] w λe b=>e=π (U<|-1)/\b=w:=by
 go_in;go_wp2;go_loop [8] (λi=>i=U 0) (λ_=>0);case atStart=>rfl
 case round=>
  subst hrel;go_wp2;go_ret;exact⟨K,K⟩
def yb(w:E)(a)(c)(t:bZ):
 μ η 184 #[Y a 0 c,ζ ⟨ν t⟩] w λe b=>e=π (.bool κ)/\b=w:=by
 have H:=xk w a c t;go_in;go_wp2_with fail;refine H.mono ?_;rintro e f ⟨rfl,rfl⟩;go_wp2;go_ret;exact⟨K,K⟩
def Vn(w:E)(l)(b)(c)(a)(t)(h:ξ w l 9 1 (Y b (Q a) c) (Q a)<|uN a)(j:Q a<=4000):
 μ η 184 #[Y b (Q a) c,ζ ⟨ν t⟩] w λe m=>e=π (.bool<|has a t)/\m=w:=by
 by_cases k:0<Q a
 .obtain⟨g,rfl,_,i,_,_,f⟩:=D5 h k;exact XV w g c a t (ĭ i f) j
 .have:a=[]:=List.eq_nil_of_length_eq_zero W;subst this;exact yb w b c t
def gG.push{w w1 w2:E}{j a n c g cap}{i}{q}{x}(h:aH w B pb tv L ok d s)(Z:j<=a)(p:w.heap[a]?=C (γ #[Y i n c] 23 (0,0)))(D:ξ w j 9 1 (Y i n c) n q)(m:I No w w1)
 (y:w1.grownBy w2<|Δ<|Y i n c) (N:w2.ownsRow j 9 1 (Y (C<|J g 0) (n+1) cap) (n+1)<|q++[x]):
 aV B ok j w (w2.setCell (J a 0)<|Y (C<|J g 0) (n+1) cap)/\aH (w2.setCell (J a 0)<|Y (C<|J g 0) (n+1) cap) B pb tv L ok d s/\
  (w2.setCell (J a 0)<|Y (C<|J g 0) (n+1) cap).heap[a]?=C (γ #[Y (C<|J g 0) (n+1) cap] 23 (0,0))/\
  ξ (w2.setCell (J a 0)<|Y (C<|J g 0) (n+1) cap) j 9 1 (Y (C<|J g 0) (n+1) cap) (n+1) (q++[x]):=by
 have A:=(aG p);have u:=m.block a A λx=>x;have M:=A3 D m λ_ _ x=>x;have H:C a≠Δ (Y i n c):=by
  intro f;obtain⟨_,t,b⟩:=A9 M a f.symm;rw[u,p]at b;simp only[zQ,xW]at b;exact absurd b.2.1 ε
 have G:w2.heap[a]?=C (γ #[Y i n c] 23 (0,0)):=by rw[y.block a (yQ A m.size) H,u,p]
 have v:I (λk=>C k=Δ (Y i n c)\/k=a) w (w2.setCell (J a 0)<|Y (C<|J g 0) (n+1) cap):=
  (((m.mono λ_ _ x=>x.elim).trans (I.grown y) λ_ _ x=>x).mono λ_ _ x=>.inl x).trans (I.set _ _ _) λ_ _ x=>.inr x;have F:∀k,(C k=Δ (Y i n c)\/k=a)->j<=k/\∃l e,w.heap[k]?=C (γ l e (0,0))/\(e=23\/e=9):=by
  rintro k (f|rfl)
  .obtain⟨o,t,b⟩:=A9 D k f.symm;grind
  .grind
 refine⟨v.mono λk _ f=>?_,h.P v (λk t e z f=>?_) λ_ x _=>x,by rw[ê w2 a 0 _ _ _ G];rfl,A3 N (I.set w2 (J a 0) _) λk z f=>?_⟩
 .obtain⟨o,l,e,b,r⟩:=F k f;exact .inr ⟨o,l,e,_,b,r⟩
 .obtain⟨o,l,S,b,r⟩:=F k f;rw[z]at b;simp at b;obtain⟨_,rfl,_⟩:=b;refine⟨θ,θ,θ,λP=>?_,λa3=>?_⟩
  .obtain⟨_,R,T⟩:=A9 h.kz k P;grind
  grind
 .have a2:=f;grind[A9]
def Kept.mj{lo}{w a}(h:Kept B ok w a):aV B ok lo w a:=I.mono h λ_ _ x=>.inl x
def aV.after{n}{a b c}(h:Kept B ok a b)(k:aV B ok n b c):aV B ok n a c:=by
 refine⟨k.os.trans h.os,k.tape.trans h.tape,k.output.trans h.output,kQ h.size k.size,λi l m=>?_⟩;have o:=h.block i l λx=>m<|.inl x;refine(k.block i (yQ l h.size) λx=>m ?_).trans o;obtain⟨j,⟨f,e,g,p,r⟩,q⟩|⟨j,f,e,g,p,r⟩:=x
 .exact .inl ⟨j,⟨f,e,g,θ,r⟩,q⟩
 .exact .inr ⟨j,f,e,g,θ,r⟩
def QY(P:cY L)(a8:aH w B pb tv L ok d s)(l f)(a:List bZ)(hn:gG w l f a)(hl:Q a<=1001)(ab:l<=V w.heap):
 μ η 272 #[pV pb,pV f] w λe b=>aV B ok l w b/\
  match aO L s a with
  |C (.ok s' nm)=>e=π (ζ ⟨ν nm⟩)/\gG b l f (a++[nm])/\aH b B pb tv L ok d s'
  |C (.fail er ag)=>e=gu er ag
  |none=>False:=by
 have H:=λg (i:aH g B pb tv L ok d s)=>W6 P i;have N:=λg (i:aH g B pb tv L ok d s)=>vP P i 6;have q:=λg (i:aH g B pb tv L ok d s)=>MH P i;have r:=O a8;have HM:=O hn;obtain⟨a3,v,c,R,ho⟩:=hn;have k0:δ w (J f 0)=C (Y v (Q a) c):=cr R K;have p:Hid (I No w w.drew):=I.drewN No w 1;have am:=Z7;have an:=xB;unfold aO bF;generalize tk L s.i=ai at*;obtain⟨kd,j,pl⟩:=ai;simp only[jK]at H N q⊢;by_cases D:kd=1
 .subst D;have HC:Hid (∀g:E,I No w g->μ η 184 #[Y v (Q a) c,ζ ⟨ν j⟩] g λe b=>e=π (.bool<|has a j)/\b=g):=
   λg i=>Vn g l v c a j (A3 ho i λ_ _ x=>x) W;generalize has a j=ah at*;go_in;go_wp2;go_region_held3 (λb=>δ b (J f 0)=C (Y v (Q a) c)/\Hid (I No w b))
   (first
    |exact⟨k0,p⟩
    |grind[Dj]
    |(go_split_ands;exact Dj ö ö S)
    |(go_split_ands;exact⟨ö,ö⟩))
   (first
    |((go_at_call 135;go_split_ands;refine(H _<|r.u.y<|Hid.u W).mono ?_;rintro e b ⟨rfl,S⟩))
    |((go_at_call 184;go_split_ands;refine(HC.u _<|Hid.u W).mono ?_;rintro e b ⟨rfl,rfl⟩)));have h:Hid (I No w b):=ö;have u:=O<|r.u.y h.u;cases ah
  .go_wp2_with fail;refine(q _ u.u).mono ?_;rintro e m ⟨F,hr⟩;obtain⟨_,rfl,a5⟩|⟨o,_⟩:=hr
   .have n:=O<|(C9 h.u).trans F;have N2:=O<|HM.u.kept n.u;obtain⟨_,y,c2,k,G⟩:=N2.u;have a2:=(aG k);have q0:δ m (J f 0)=C (Y y (Q a) c2):=cr k K;have fz:=ã m f 0 _ _ k;have Z:Δ (Y y (Q a) c2)≠C f:=by
     intro o;obtain⟨_,ak,T⟩:=A9 G f o;rw[k]at T;simp only[zQ,xW]at T;exact absurd T.2.1 ε
    have HX:=O λM aj (a7 z:Nat)=>gG.push (w1:=M) (w2:=aj) (g:=a7) (cap:=z) (x:=ζ ⟨ν j⟩) a5 a3 k G;have O2:=O G;have ap:=kQ ab n.u.size;obtain⟨i0,hi,ac,ae,af⟩:=ò Tryz.o8;clear F a5 k G q N H HC R ho k0 p;have a6:=O<|O2.u.alloc<|γ #[ζ ⟨ν j⟩] 9;go_wp2_with (at_builtin;refine wpList_append_lies _ K _ _ _ K l 9 i0 _ 1 16 underlying23 hi ac ae af K ε (Y y (Q a) c2) (Q a) (uN a) K a6.u (J (V m.heap) 0) 1 1 [ζ ⟨ν j⟩] K K ?c1 ?c2 ?c0 ?c3 ?c4 ?c5 (V m.heap+1) ι ?_);case c1=>grind[cell_one_new]
    case c2=>intro ar hu;simp at hu;obtain rfl:=hu;rfl
    case c0=>omega
    case c3=>grind[Γ]
    case c4=>omega
    case c5=>simp;omega
    .intro gg z M a4 A al aq;have z4:M.cell? (J f 0)=C (Y y (Q a) c2):=by rw[A.cell_far _ à<|Ne.symm Z];exact I9 a2 q0
     have y4:M.frozen? (J f 0)=κ:=by rw[A.frozen_far _ à<|Ne.symm Z];exact U4 a2 fz
     have t:=O<|HX.u _ _ gg z (I.alloc No _ _) A a4;clear A a4 HX a6 O2 Z;go_wp2_with fail;go_ret;refine⟨aV.after n.u t.u.1,K,⟨a3,C<|J gg 0,z,?_,?_⟩,t.u.2.1⟩
     .have:=t.u.2.2.1;grind
     .have:=t.u.2.2.2;grind[ŗ]
   .exact absurd K o
  .go_wp2_with fail;refine(N _ u.u).mono ?_;rintro e m ⟨rfl,aa⟩;exact⟨K,(C9 (B:=B) (ok:=ok)<|h.u.trans aa λ_ _ x=>x).mj,K⟩
 .have ao:(kd==1)=κ:=by simp[D]
  clear R ho;go_in;go_wp2_with fail;refine wp_region_held_drew (S:=λb=>Hid<|I No w b) Θ p λa9=>?_;refine tA (i:=0) (k:=6) (v:=pV pb) K ?_;simp only[æ,aT,a0,a1];refine wpAnyH_ready (rs:=[1]) Ψ ι ?_;refine AllReadyH.cons (o:=Oper.mk (C 7) _ _ _ _ _) K (λϋ hK=>?_) AllReadyH.nil;go_simp;refine(H _<|r.u.y p.u).mono ?_;rintro e b ⟨rfl,S⟩;have h:=O<|p.u.trans S λ_ _ x=>x;refine hK _ _ h λ_=>?_;clear hK ϋ a9;refine tA (i:=2) (k:=8) (v:=U kd) K ?_;simp only[æ,aT,a0,a1];refine tA (i:=3) (k:=9) (v:=.bool κ) K ?_;simp only[æ,aT,a0,a1];refine tA (i:=4) (k:=10) (v:=.bool κ) K ?_;simp only[æ,aT,a0,a1];refine tU (i:=5) (k:=11) K ?_;simp only[æ,aT,a0,a1];refine tU (i:=6) (k:=12) K ?_;simp only[æ,aT,a0,a1];refine tU (i:=7) (k:=13) K ?_;simp only[æ,aT,a0,a1];refine tU (i:=8) (k:=14) K ?_;simp only[æ,aT,a0,a1];refine tU (i:=9) (k:=15) K ?_;simp only[æ,aT,a0,a1];refine tU (i:=10) (k:=16) K ?_;simp only[æ,aT,a0,a1];refine tU (i:=11) (k:=17) K ?_;simp only[æ,aT,a0,a1];refine tA (i:=12) (k:=18) (v:=.bool κ) K ?_;simp only[æ,aT,a0,a1];refine wpAnyH_done Θ ?_ _;have u:=O<|r.u.y h.u;go_wp2_with fail;refine(q _ u.u).mono ?_;rintro e m ⟨F,hr⟩;obtain⟨o,_⟩|⟨_,rfl⟩:=hr
  .exact absurd o D
  .have n:=(C9 (B:=B) (ok:=ok) h.u).trans F;exact⟨K,n.mj,by simp[D];rfl⟩
def Tryz.j7:(prog.info? 156).map (λi=>(i.zero,i.size,i.bytes))=C (C<|.agg #[ζ ⟨#[]⟩,U 0],2,24):=Ψ
def Kept.l9{a b c}(h:Kept B ok a b)(k:aV B ok (V a.heap) b c):Kept B ok a c:=by
 refine⟨k.os.trans h.os,k.tape.trans h.tape,k.output.trans h.output,kQ h.size k.size,λi f g=>?_⟩;have n:=h.block i f g;refine(k.block i (yQ f h.size) λx=>?_).trans n;obtain⟨j,⟨l,e,m,p,r⟩,o⟩|⟨j,_⟩:=x
 .exact g ⟨j,⟨l,e,m,θ,r⟩,o⟩
 omega
def PM{w k}{t i}{e}{j}{v}{n}{l}(h:ξ w i e j v n l)(m:aV B ok t w k)
 (x:e≠115/\e≠93/\e≠88/\e≠23/\e≠9):ξ k i e j v n l:=by
 refine A3 h m λg o q=>?_;obtain⟨_,u,p⟩:=A9 h g o;have y:∀c a f,w.heap[g]?=C (γ c a f)->a=e:=by
  intro c a f b;rw[p]at b;simp only[zQ,xW]at b;exact b.2.1.symm
 obtain⟨_,⟨c,a,f,b,r⟩,_⟩|⟨_,c,a,f,b,r⟩:=q<;>grind
theorem gG.P{S}{w w'}{j a}{l}(h:gG w j a l)(i:I S w w')(q:∀k n e,w.heap[k]?=C (γ n e (0,0))->S k->e≠23/\e≠9):gG w' j a l:=by
 obtain⟨o,m,c,b,f⟩:=h;refine⟨o,m,c,?_,A3 f i λg p u=>?_⟩
 .rw[i.block a (aG b) λx=>(q a _ _ b x).1 K];omega
 .obtain⟨_,r,t⟩:=A9 f g p;grind
theorem Vg(w:E)(x y)(t):∀j u,[x,y][j]?=C u->δ (σ w<|γ #[x,y] t) (((J (V w.heap) 0)).add j)=C u:=by
 grind[Addr.add,World.cell?_alloc_new]
def gI{b}{a}{c}(h:aO L s b=C (.ok a c)):a=s.nx:=by
 grind[aO,bF]
def Xw{b}{a p}(h:aO L s b=C (.fail a p)):a≠0:=by
 grind[aO,bF]
def uo{a}(b:aL L s.i [[125]]=τ):Ev L (λr=>r.jl d s a) (.ok ⟨s.nx.i,s.nx.N,s.nx.T++[⟨7,a,[],0⟩]⟩ (Q s.nx.T)):=
 Ev.step (Ev.pure.eq λr=>by show (if aL L s.i [[125]] then _ else _)=_;rw[b];rfl)
def B8d{a:List (bZ×Int)}{o:Out Int}(c:aL L s.i [[125]]=κ)
 (h:Ev L (λr=>A8 (aO L s (a.map (·.1))) λs b=>A8 (aC L s [58]) λs _=>A8 (r.typ d s) λs x=>A8 (aC L s [59]) λs _=>r.jl d s<|a++[(b,x)]) o):Ev L (λr=>r.jl d s a) o:=
 Ev.step (h.eq λr=>by show (if aL L s.i [[125]] then _ else _)=_;grind)
def Q8{mk}(h:aL L s.i [mk]=τ):Ev L (λ_=>aC L s mk) (.ok s.nx ()):=Ev.pure.eq λr=>by grind[aC]
def U3{mk}(h:aL L s.i [mk]=κ):Ev L (λ_=>aC L s mk) (.fail 1<|(tk L s.i).at'):=Ev.pure.eq λr=>by rw[aC,h];rfl
theorem Ũ(u:cY L)(ag)(aj:∀m',m'<=ag->lM B pb tv L 234 (λd s r=>r.typ d s) m'):lM B pb tv L 265 (λd s r=>r.jl d s []) ag:=by
 intro w ok d s hm a3 hB h;have b5:=u.jq;have hi:=h.at';have HP:=O h;clear h;go_in;go_wp2_with fail;go_loopw [4] (λar wr=>∃(f:List (bZ×Int)) (b:St) (m:Option Addr) (c:Nat),ar=Y m (Q f) c/\Q f<=b.i/\Hid (gG wr (V w.heap) (V w.heap) (f.map (·.1)))/\Hid (Kept B ok w wr)/\Hid (L9 s b)/\Hid (wr.ownsRow (V w.heap) 156 2 (Y m (Q f) c) (Q f)<|I0 f)/\
  Hid (aH wr B pb tv L (λg=>ok g/\C g≠Δ (Y m (Q f) c)) d b)/\Hid (∀o,Ev L (λr=>r.jl d b f) o->Ev L (λr=>r.jl d s []) o)) (λ_ wr=>Q L-qI wr pb);case atStart=>
  refine⟨[],s,none,0,K,ι,⟨vQ _,none,0,rY w _,kW _ _ _ _⟩,(Kept.refl B ok w).alloc _,⟨vQ _,W,W,W⟩,kW _ _ _ _,(HP.u.alloc _).mono λg j _=>⟨j,ù⟩,λ_ h=>h⟩
 case round=>
  obtain⟨f,b,m,c,rfl,az,NR,KR,T,OR,D,M⟩:=hrel;have HT:=H7 u D.u [125];have b1:=D.u.at';have b4:=D.u.j3;have hj:=T.u.1;have b0:=D.u.fq;generalize hq:aL L b.i [[125]]=aq at*;have Q1:=O hq;clear hq;go_wp2_with fail;refine HT.mono ?_;clear HT;rintro e ah ⟨rfl,a,i⟩;have t:=O<|KR.u.trans<|a.mono λ_ h=>h.1;have H:=O i;have z:=O (G9 OR.u a ε);have N3:=O<|NR.u.kept a;clear a i OR D KR NR;cases aq
  .have F:aH ah B pb tv L (λg=>ok g/\C g≠Δ (Y m (Q f) c)) d b:=by simpa using H.u
   have HN:=QY u F (V w.heap) (V w.heap) (f.map (·.1)) N3.u à t.u.size;clear H F N3;have VG:=O λo l=>M.u o<|B8d Q1.u l;clear M;generalize ab:aO L b (f.map (·.1))=NN at*;have N0:=O ab;clear ab;go_wp2_with fail;refine HN.mono ?_;clear HN;rintro e au ⟨a,n⟩;have v:=O<|t.u.l9<|I.mono a λ_ _ a4=>a4.imp (λy=>⟨y.1,y.2.1,y.2.2.1⟩) id;have O4:=O (PM z.u a ε);clear a t z;obtain _|⟨s1,nm⟩|⟨er,p⟩:=NN
   .exact n.elim
   .obtain⟨rfl,aa,i⟩:=n;have al:=gI N0.u;subst al;have a5:=I7 u i [58];have N4:=O aa;clear i aa;have V4:=O λo l=>VG.u o<|Ev.bind (s:=b.nx) (x:=nm) Ev.pure l;clear VG;go_wp2_with fail;refine a5.mono ?_;clear a5;rintro e av ⟨a,n⟩;have x:=O<|v.u.trans<|a.mono λ_ h=>h.1;have O5:=O (G9 O4.u a ε);have N5:=O<|N4.u.kept a;clear a v O4 N4;obtain⟨k,rfl,i⟩|⟨k,rfl⟩:=n
    .have b2:=i.at';have HM:=aj (Q L-b.nx.nx.i) (by grind[St.nx]) av _ d b.nx.nx (vQ _) (λg j=>⟨a3 g<|kQ x.u.size j,λhx=>by have:=(O5.u.lt g hx.symm).2;omega⟩) (kQ hB x.u.size) i;have V5:=O λo l=>V4.u o<|Ev.bind (Q8 k) l;clear i k V4;go_wp2_with fail;refine HM.mono ?_;clear HM;rintro e b7 ⟨a,o,a9,ac⟩;have Z:=O<|x.u.trans<|a.mono λ_ h=>h.1;have O6:=O (G9 O5.u a ε);have N6:=O<|N5.u.kept a;have S:=O a9;clear a a9 x O5 N5;cases o with
     |fail er p=>
      obtain⟨rfl,he⟩:=ac;exact⟨K,J1 Z.u (V5.u _<|Ev.bad S.u) he⟩
     |ok q y=>
      obtain⟨rfl,i,j⟩:=ac;have a6:=I7 u i [59];have G6:=O j;have V6:=O λo l=>V5.u o<|Ev.bind S.u l;clear i j V5 S;go_wp2_with fail;refine a6.mono ?_;clear a6;rintro e aw ⟨a,n⟩;have G:=O<|Z.u.trans<|a.mono λ_ h=>h.1;have A:=O (G9 O6.u a ε);have N7:=O<|N6.u.kept a;clear a Z O6 N6;obtain⟨k,rfl,i⟩|⟨k,rfl⟩:=n
      .have P7:=O i;have b3:=i.at';have V7:=O λo l=>V6.u o<|Ev.bind (Q8 k) l;clear i k V6;have G7:=O (show b.i+4<=q.nx.i/\Q q.nx.N+b.i<=Q b.N+q.nx.i/\Q q.nx.T+b.i<=Q b.T+q.nx.i/\Q b.N<=Q q.nx.N by
        have N:=G6.u;grind[F8,St.nx]);clear G6;generalize q.nx=s7 at*;obtain⟨i0,ak,am,an,ao⟩:=ò Tryz.j7;have af:=O<|A.u.alloc<|γ #[ζ ⟨ν nm⟩,U y] 156;go_wp2_with (at_builtin;refine Ö _ K _ _ 86 K (V w.heap) 156 i0 _ 2 24 underlying86 ak am an ao K ε _ _ _ K af.u (J (V aw.heap) 0) 1 1 [ζ ⟨ν nm⟩,U y] K K ?c1 ?c2 ?c3 ?c4 ?c5 ?_);case c1=>grind[Vg]
       case c2=>intro b6 hu;simp at hu;obtain rfl|rfl:=hu<;>rfl
       case c3=>grind[Γ]
       case c4=>omega
       case c5=>have:=G.u.size;simp;omega
       .intro v' ax R P _ a8;obtain⟨a7,c2,ae⟩:=B8 R;rw[ae]at R a8⊢;have PG:=O ((P7.u.alloc<|γ #[ζ ⟨ν nm⟩,U y] 156).grown (v:=Y m (Q f) c) (v':=Y a7 (Q f+1) c2) (A.u.alloc _) (.inr K) P ð);have KG:=O<|(G.u.alloc<|γ #[ζ ⟨ν nm⟩,U y] 156).grown (A.u.alloc _) P;have NG:Hid (gG ax (V w.heap) (V w.heap) ((f.map (·.1))++[nm])):=by
         refine(N7.u.P (I.alloc No _<|γ #[ζ ⟨ν nm⟩,U y] 156) λ_ _ _ _ a4=>a4.elim).P (I.grown P) λap cs e hh hx=>?_;obtain⟨_,ay,a2⟩:=A9 (A.u.alloc<|γ #[ζ ⟨ν nm⟩,U y] 156) ap hx.symm;rw[hh]at a2;simp only[zQ,xW]at a2;obtain⟨_,rfl,_⟩:=a2;exact⟨ε,ε⟩
        have OG:=O R;clear R P a8 af P7 A G ae N7;go_wp2_with fail;go_roundw;case rel=>
         have h1:=T.u;have N:=G7.u;simp only[L9]at h1;refine⟨f++[(nm,y)],s7,a7,c2,ι,θ,θ,KG.u,⟨W,W,W,W⟩,?_,?_,V7.u⟩<;>simp_all[ξ,PD,O0]
        case measure=>
         have N:=G7.u;have h3:=PG.u.j3;omega
      .exact⟨K,J1 G.u (V6.u _<|Ev.bad<|U3 k) ε⟩
    .exact⟨K,J1 x.u (V4.u _<|Ev.bad<|U3 k) ε⟩
   .have he:=Xw N0.u;obtain rfl:=n;exact⟨K,J1 v.u (VG.u _<|Ev.bad Ev.pure) he⟩
  .have F:aH ah B pb tv L (λg=>ok g/\C g≠Δ (Y m (Q f) c)) d b.nx:=by simpa using H.u
   have PY:=F.mono (ok':=ok) λg j _=>j.1;have HA:=EH u PY ⟨7,f,[],0⟩ m none (Q f) c 0 0 ⟨_,_,K,C7 z.u<|wQ _,kW _ _ _ _,λg j=>a3 g (A9 z.u g j).1,ù⟩ (by simp_all[St.nx]) (kQ hB t.u.size) λg j=>a3 g<|kQ t.u.size j;have EV:=O<|M.u _<|uo Q1.u;have GX:=O (show F8 s ⟨b.nx.i,b.nx.N,b.nx.T++[⟨7,f,[],0⟩]⟩ by
    have N:=T.u;simp only[F8,L9,St.nx,qQ,jQ,xQ]at N⊢;omega);clear M H F PY z N3;go_wp2_with fail;refine HA.mono ?_;clear HA;rintro e au ⟨rfl,a,i⟩;have v:=O<|t.u.trans a;have ai:=O i;clear a i;go_wp2_with fail;go_ret;exact rI v.u EV.u ai.u GX.u
def ZU(a:cY L):∀m,lM B pb tv L 234 (λd s r=>r.typ d s) m:=by
 intro m;induction m using Nat.strongRecOn<;>grind[Nat.strongRecOn,lM,Ũ,Ĭ,zn,A5e,Sn]
end
