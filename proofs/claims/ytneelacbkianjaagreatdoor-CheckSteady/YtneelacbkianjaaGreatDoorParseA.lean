/-
  A part of the proof.
-/
import Derived.Test.YtneelacbkianjaaGreatDoorProg
import Derived.Test.YtneelacbkianjaaGreatDoorPlainA
import Derived.WalkKit
import Derived.WalkSpells
import Derived.WalkLawsBesides
import Derived.Laws.Rows
import Derived.Maps.AppendAt
import Derived.Deep.QuietTactic
import Derived.BigQuiet
import Derived.Deep.RegionHeld3
import Derived.Deep.RegionLaw
import Derived.Deep.AppendLies
set_option maxHeartbeats 16000000
set_option maxRecDepth 100000
namespace Go.Proofs.YtneelacbkianjaaGreatDoor
theorem _root_.Go.RowKit.Hid.o{p:Prop}(h:Go.RowKit.Hid p):p:=h
abbrev lZ:=World
theorem qY(w:World)(o:Obj):(w.alloc o).heap[w.heap.size]?=some o:=Go.heap_alloc_new w o
open Go.Proofs.Tryz
theorem xW{a x : Array Value}{b y : TypeId}{c z : Nat × Nat} : (Obj.cells a b c = .cells x y z) = (a = x /\ b = y /\ c = z) := Obj.cells.injEq ..
theorem kW(w :lZ)(b : Nat)(e : TypeId)(s : Nat) : w.ownsRow b e s (.slice none 0 0) 0 [] := World.ownsRow_nil w b e s
abbrev U(n:Int):Value:= .int .i64 n
abbrev pV(b:Nat):Value:= .pointer (some ⟨b,0,none⟩)
abbrev ndC(k a b c:Int)(l:Value)(t:bZ)(n y p:Int):Obj:= .cells #[U k,U a,U b,U c,l,.string ⟨t.toArray⟩,U n,U y,U p] 87
abbrev No:Nat->Prop:=λ_=>False
abbrev J(b o:Nat):Addr:=⟨b,o,none⟩
abbrev sN:Value:= .slice none 0 0
abbrev sV(l:bZ):Value:= .string ⟨l.toArray⟩
abbrev rT:Ending:= .returned (.tuple #[])
abbrev _root_.Go.World.z(w:lZ):Nat:=w.heap.size
theorem ltG{c:Type}{b:Array c}{i:Nat}{a:c}(h:b[i]? =some a):i<b.size:=(Array.getElem?_eq_some_iff.1 h).1
theorem blt{w:lZ}{a:Addr}{v:Value}(h:w.cell? a=some v):a.block<w.heap.size:=World.block_lt_of_cell? w a h
theorem mkf(b:Fn)(first a:Array Value)(w:lZ):(Instr.makeFunc b first a).run prog w= .ok (.func b first a) w:=rfl
open Go.RowKit in
theorem cr{w:lZ}{b o:Nat}{a:Array Value}{e:TypeId}{c:Nat×Nat}{v:Value}(h:w.heap[b]? =some (.cells a e c))(d:a[o]? =some v):w.cell? ⟨b,o,none⟩=some v:=(cell_of_row _ _ o _ _ _ h).trans d
open Go.RowKit
theorem F8{a b:Bool}(h:a=b):Ending.returned (.bool a)= .returned (.bool b):=by rw[h]
theorem Y4(n:Nat)(w:lZ):Calls prog 84 #[.int .u8 (n:Int)] w λe a=>e= .returned (.bool (dig n))/\a=w:=by
 go_enter func84,ntmps84;go_wp2;all_goals go_ret
 all_goals exact⟨F8 (by rw[Bool.eq_iff_iff];simp[dig];omega),rfl⟩
theorem D2a(n:Nat)(w:lZ):Calls prog 86 #[.int .u8 (n:Int)] w λe a=>e= .returned (.bool (let' n))/\a=w:=by
 go_enter func86,ntmps86;go_wp2;all_goals go_ret
 all_goals exact⟨F8 (by rw[Bool.eq_iff_iff];simp[let'];omega),rfl⟩
theorem H1b(n:Nat)(w:lZ):Calls prog 83 #[.int .u8 (n:Int)] w λe a=>e= .returned (.bool (blank n))/\a=w:=by
 go_enter func83,ntmps83;go_wp2;all_goals go_ret
 all_goals exact⟨F8 (by rw[Bool.eq_iff_iff];simp[blank];omega),rfl⟩
theorem G9b(n:Nat)(w:lZ):Calls prog 123 #[.int .u8 (n:Int)] w λe a=>e= .returned (.bool (txt n))/\a=w:=by
 go_enter func123,ntmps123;go_wp2;all_goals go_ret
 all_goals exact⟨F8 (by rw[Bool.eq_iff_iff];simp[txt];omega),rfl⟩
theorem W1a(n:Nat)(w:lZ):Calls prog 119 #[.int .u8 (n:Int)] w λe a=>e= .returned (.bool (dig n))/\a=w:=by
 go_enter func119,ntmps119;go_wp2_with (go_at_call 84;refine(Y4 _ _).mono ?_;rintro e a ⟨rfl,rfl⟩)
 go_ret;exact⟨rfl,rfl⟩
theorem I5b(n:Nat)(w:lZ):Calls prog 121 #[.int .u8 (n:Int)] w λe a=>e= .returned (.bool (nam n))/\a=w:=by
 cases h:let' n;all_goals
  go_enter func121,ntmps121;go_wp2_with (first|(go_at_call 84;refine(Y4 _ _).mono ?_;rintro e a ⟨rfl,rfl⟩)|(go_at_call 86;refine(D2a _ _).mono ?_;rintro e a ⟨rfl,rfl⟩))
  go_ret;exact⟨F8 (by simp[nam,h]),rfl⟩
theorem M7{k:IntKind}{a b:Int}(h:a=b):Ending.returned (.int k a)= .returned (.int k b):=by rw[h]
theorem bl(s:ByteArray):s.data.toList.length=s.size:=by rw[Array.length_toList];rfl
theorem Z3b(s:ByteArray)(w:lZ)(f:s.size<=maxLen):Calls prog 82 #[.string s,.func (.func 83) #[] #[]] w λe a=>e= .returned (U (sp blank s.data.toList))/\a=w:=by
 unfold maxLen at f;go_enter func82,ntmps82;go_wp2;go_loop [5] (λi=>∃k:Nat,k<=s.size/\i=U k/\k<=sp blank s.data.toList) (λi=>s.size - (intOf i).toNat)
 case atStart=>exact⟨0,wQ _,rfl,wQ _⟩
 case round=>
  obtain⟨k,g,rfl,d⟩:=hrel;by_cases b:k<s.size
  · cases c:blank s[k].toNat
    · go_wp2_with (go_at_call 83;refine(H1b _ _).mono ?_;rintro e a ⟨rfl,rfl⟩)
      go_ret;exact⟨M7 (by rw[P9b blank s.data.toList k (by rw[bl];exact b) d c]),rfl⟩
    · go_wp2_with (go_at_call 83;refine(H1b _ _).mono ?_;rintro e a ⟨rfl,rfl⟩)
      go_round
      case rel=>exact⟨k+1,by omega,by go_num,T2a blank s.data.toList k (by rw[bl];exact b) d c⟩
      case measure=>simp[intOf];omega
  · go_wp2;go_ret;exact⟨M7 (by have:=G3a blank s.data.toList;rw[bl]at this;omega),rfl⟩
theorem Z2b(s:ByteArray)(w:lZ)(f:s.size<=maxLen):Calls prog 82 #[.string s,.func (.func 119) #[] #[]] w λe a=>e= .returned (U (sp dig s.data.toList))/\a=w:=by
 unfold maxLen at f;go_enter func82,ntmps82;go_wp2;go_loop [5] (λi=>∃k:Nat,k<=s.size/\i=U k/\k<=sp dig s.data.toList) (λi=>s.size - (intOf i).toNat)
 case atStart=>exact⟨0,wQ _,rfl,wQ _⟩
 case round=>
  obtain⟨k,g,rfl,d⟩:=hrel;by_cases b:k<s.size
  · cases c:dig s[k].toNat
    · go_wp2_with (go_at_call 119;refine(W1a _ _).mono ?_;rintro e a ⟨rfl,rfl⟩)
      go_ret;exact⟨M7 (by rw[P9b dig s.data.toList k (by rw[bl];exact b) d c]),rfl⟩
    · go_wp2_with (go_at_call 119;refine(W1a _ _).mono ?_;rintro e a ⟨rfl,rfl⟩)
      go_round
      case rel=>exact⟨k+1,by omega,by go_num,T2a dig s.data.toList k (by rw[bl];exact b) d c⟩
      case measure=>simp[intOf];omega
  · go_wp2;go_ret;exact⟨M7 (by have:=G3a dig s.data.toList;rw[bl]at this;omega),rfl⟩
theorem Z1b(s:ByteArray)(w:lZ)(f:s.size<=maxLen):Calls prog 82 #[.string s,.func (.func 121) #[] #[]] w λe a=>e= .returned (U (sp nam s.data.toList))/\a=w:=by
 unfold maxLen at f;go_enter func82,ntmps82;go_wp2;go_loop [5] (λi=>∃k:Nat,k<=s.size/\i=U k/\k<=sp nam s.data.toList) (λi=>s.size - (intOf i).toNat)
 case atStart=>exact⟨0,wQ _,rfl,wQ _⟩
 case round=>
  obtain⟨k,g,rfl,d⟩:=hrel;by_cases b:k<s.size
  · cases c:nam s[k].toNat
    · go_wp2_with (go_at_call 121;refine(I5b _ _).mono ?_;rintro e a ⟨rfl,rfl⟩)
      go_ret;exact⟨M7 (by rw[P9b nam s.data.toList k (by rw[bl];exact b) d c]),rfl⟩
    · go_wp2_with (go_at_call 121;refine(I5b _ _).mono ?_;rintro e a ⟨rfl,rfl⟩)
      go_round
      case rel=>exact⟨k+1,by omega,by go_num,T2a nam s.data.toList k (by rw[bl];exact b) d c⟩
      case measure=>simp[intOf];omega
  · go_wp2;go_ret;exact⟨M7 (by have:=G3a nam s.data.toList;rw[bl]at this;omega),rfl⟩
theorem Z0b(s:ByteArray)(w:lZ)(f:s.size<=maxLen):Calls prog 82 #[.string s,.func (.func 123) #[] #[]] w λe a=>e= .returned (U (sp txt s.data.toList))/\a=w:=by
 unfold maxLen at f;go_enter func82,ntmps82;go_wp2;go_loop [5] (λi=>∃k:Nat,k<=s.size/\i=U k/\k<=sp txt s.data.toList) (λi=>s.size - (intOf i).toNat)
 case atStart=>exact⟨0,wQ _,rfl,wQ _⟩
 case round=>
  obtain⟨k,g,rfl,d⟩:=hrel;by_cases b:k<s.size
  · cases c:txt s[k].toNat
    · go_wp2_with (go_at_call 123;refine(G9b _ _).mono ?_;rintro e a ⟨rfl,rfl⟩)
      go_ret;exact⟨M7 (by rw[P9b txt s.data.toList k (by rw[bl];exact b) d c]),rfl⟩
    · go_wp2_with (go_at_call 123;refine(G9b _ _).mono ?_;rintro e a ⟨rfl,rfl⟩)
      go_round
      case rel=>exact⟨k+1,by omega,by go_num,T2a txt s.data.toList k (by rw[bl];exact b) d c⟩
      case measure=>simp[intOf];omega
  · go_wp2;go_ret;exact⟨M7 (by have:=G3a txt s.data.toList;rw[bl]at this;omega),rfl⟩
structure I(S:Nat->Prop)(w w':lZ):Prop where
 os:w'.os=w.os
 tape:w'.tape=w.tape
 output:w'.output=w.output
 size:w.heap.size<=w'.heap.size
 block:∀k,k<w.heap.size->¬S k->w'.heap[k]? =w.heap[k]?
theorem I.refl(S:Nat->Prop)(w:lZ):I S w w:=⟨rfl,rfl,rfl,vQ _,λ_ _ _=>rfl⟩
theorem I.trans{S e:Nat->Prop}{a b c:lZ}(h:I S a b)(k:I e b c)(g:∀i,i<a.heap.size->e i->S i):I S a c:=
  ⟨k.os.trans h.os,k.tape.trans h.tape,k.output.trans h.output,kQ h.size k.size,
   λi d f=>(k.block i (yQ d h.size) (λx=>f (g i d x))).trans (h.block i d f)⟩
theorem I.mono{S S':Nat->Prop}{a b:lZ}(h:I S a b)(e:∀i,i<a.heap.size->S i->S' i):I S' a b:=
 ⟨h.os,h.tape,h.output,h.size,λi c d=>h.block i c (λx=>d (e i c x))⟩
theorem I.alloc(S:Nat->Prop)(w:lZ)(o:Obj):I S w (w.alloc o):=⟨rfl,rfl,rfl,by simp,λk a _=>Below.heap_alloc _ _ _ a⟩
theorem I.set(w:lZ)(a:Addr)(v:Value):I (λk=>k=a.block) w (w.setCell a v):=
 ⟨rfl,rfl,rfl,by simp[World.setCell],λk _ b=>Below.heap_setCell _ _ _ _ b⟩
theorem I.drewN(S:Nat->Prop)(w:lZ)(n:Nat):I S w (w.drewN n):=⟨rfl,rfl,rfl,vQ _,λ_ _ _=>rfl⟩
theorem I.grown{w b:lZ}{a:Option Nat}(h:w.grownBy b a):I (λk=>some k=a) w b:=⟨h.os,h.tape,h.output,h.size,λk c d=>h.block k c d⟩
theorem I.below{B:Nat}{w a:lZ}(h:Below B w a):I (λk=>B<=k) w a:=⟨h.os,h.tape,h.output,h.size,λk _ b=>h.block k (by omega)⟩
theorem I.toBelow{S:Nat->Prop}{B:Nat}{w a:lZ}(h:I S w a)(b:∀i,i<w.heap.size->S i->B<=i)(c:B<=w.heap.size):Below B w a:=
 ⟨h.os,h.tape,h.output,h.size,λk d=>h.block k (by omega) (λx=>by have:=b k (by omega) x;omega)⟩
theorem A4{S:Nat->Prop}{w c:lZ}{a:Nat}{e:TypeId}{b:Nat}{v:Value}{n:Nat}{d:List Value}(h:w.ownsRow a e b v n d)(i:I S w c)
 (j:∀g,v.ownBlock=some g->¬S g):c.ownsRow a e b v n d:=by
 refine⟨h.1, ?_⟩;rcases h.2 with f|⟨g,cap,cur,rfl,hb,hg,r⟩
 · exact .inl f
 · exact .inr ⟨g,cap,cur,rfl,hb,by rw[i.block g (Array.getElem?_eq_some_iff.1 hg).1 (j g rfl)];exact hg,r⟩
theorem A9{w:lZ}{c:Nat}{e:TypeId}{i:Nat}{v:Value}{n:Nat}{j:List Value}(h:w.ownsRow c e i v n j):∀g,v.ownBlock=some g->c<=g/\∃a,w.heap[g]? =some (.cells a e (0,0)):=by
 intro g b;rcases h.2 with ⟨rfl,_⟩|⟨l,k,a,rfl,d,f,_⟩
 · simp[Value.ownBlock]at b
 · simp only[Value.ownBlock,zQ]at b;subst b;exact⟨d,a,f⟩
theorem C9{w:lZ}{b c:Nat}{e:TypeId}{d:Nat}{v:Value}{n:Nat}{f:List Value}(h:w.ownsRow b e d v n f)(j:c<=b):w.ownsRow c e d v n f:=by
 obtain⟨i,a⟩:=h;refine⟨i, ?_⟩;rcases a with a|⟨g,cap,cur,hv,hg,r⟩
 · exact .inl a
 · exact .inr ⟨g,cap,cur,hv,kQ j hg,r⟩
theorem B9{w:lZ}{b:Nat}{e:TypeId}{f:Nat}{v:Value}{n:Nat}{i:List Value}(h:w.ownsRow b e f v n i):∃a c,v= .slice a n c:=by
 rcases h.2 with ⟨rfl,rfl⟩|⟨g,j,k,d,_⟩
 · exact⟨_,_,rfl⟩
 · exact⟨_,_,d⟩
theorem Y3c{w:lZ}{c:Nat}{e:TypeId}{a:Nat}{v:Value}{n:Nat}{b:List Value}(h:w.ownsRow c e a v n b):b.length=n * a:=h.1
theorem F5{w:lZ}{b:Nat}{e:TypeId}{s:Nat}{a:Option Addr}{c n:Nat}{i:List Value}(h:w.ownsRow b e s (.slice a n c) n i)(y:0<n):
 ∃g,a=some ⟨g,0,none⟩/\b<=g/\g<w.heap.size/\n<=c/\c<=maxLen/\∀j u,i[j]? =some u->w.cell? ⟨g,j,none⟩=some u:=by
 have m:=λg d=>h.cells (g:=g) d;have p:=h.lt;rcases h.2 with ⟨_,x⟩|⟨g,t,v,f,l,d,r,q,_⟩
 · omega
 · simp only[Value.slice.injEq]at f;obtain⟨rfl,_,rfl⟩:=f;refine⟨g,rfl,l,(p g rfl).2,r,q,λj u o=> ?_⟩;have:=m g rfl j u o;have k:(⟨g,0,none⟩:Addr).add j=⟨g,j,none⟩:=by unfold Addr.add;split<;>simp_all
   rw[k]at this;exact this
/-! ### Rows of structs -/
def Rws{c:Type}(R:c->List Value->Prop):List c->List Value->Prop
 |[],b=>b=[]
 |a::l,b=>∃h t,b=h++t/\R a h/\Rws R l t
theorem Rws.snoc{f:Type}{R:f->List Value->Prop}:∀{l:List f} {c:List Value} {a:f} {h:List Value},Rws R l c->R a h->Rws R (l++[a]) (c++h)
 |[],c,a,h,e,d=>by
  have:c=[]:=e;subst this;exact⟨h,[],by simp,d,rfl⟩
 |b::l,c,a,h,e,d=>by
  obtain⟨g,t,rfl,i,j⟩:=e;exact⟨g,t++h,by simp,i,Rws.snoc j d⟩
theorem Rws.imp{f:Type}{R c:f->List Value->Prop}(d:∀a h,R a h->c a h):∀{l:List f} {e:List Value},Rws R l e->Rws c l e
 |[],_,b=>b
 |_::_,_,b=>by
  obtain⟨g,t,j,i,k⟩:=b;exact⟨g,t,j,d _ _ i,Rws.imp d k⟩
theorem Rws.take{f:Type}{R:f->List Value->Prop}{z:Nat}(e:∀a h,R a h->h.length=z):∀{l:List f} {b:List Value} (k:Nat),Rws R l b->Rws R (l.take k) (b.take (k * z))
 |[],b,k,c=>by
  have:b=[]:=c;subst this;simp[Rws]
 |a::l,b,0,c=>by simp[Rws]
 |a::l,b,k+1,c=>by
  obtain⟨g,t,rfl,d,i⟩:=c;refine⟨g,t.take (k * z), ?_,d,Rws.take e k i⟩;have:=e _ _ d;rw[List.take_append,List.take_of_length_le (by rw[this];simp[Nat.add_mul]),this];congr 2
  simp[Nat.add_mul]
theorem Rws.at{n:Type}{R:n->List Value->Prop}{z:Nat}(f:∀a h,R a h->h.length=z):∀{l:List n} {d:List Value} (k:Nat) (c:k<l.length),Rws R l d->∃h,R l[k] h/\∀j,j<z->d[k * z+j]? =h[j]?
 |[],_,k,c,_=>by simp at c
 |a::l,d,0,_,e=>by
  obtain⟨g,t,rfl,b,m⟩:=e;refine⟨g,b,λj i=> ?_⟩;have:=f _ _ b;rw[List.getElem?_append_left (by omega)];simp
 |a::l,d,k+1,c,e=>by
  obtain⟨g,t,rfl,b,m⟩:=e;obtain⟨h,p,i⟩:=Rws.at f k (by simpa using c) m;refine⟨h,p,λj o=> ?_⟩;have:=f _ _ b;rw[List.getElem?_append_right (by rw[this,Nat.add_mul];omega),this,<-i j o];congr 1
  rw[Nat.add_mul];omega
def M5(f:bZ×Int):List Value:=[.string ⟨f.1.toArray⟩,.int .i64 f.2]
def G5(l:List (bZ×Int)):List Value:=l.flatMap M5
def C8(l:uZ):List Value:=l.map (.int .i64)
def S8a(t:Tk):List Value:=[.int .i64 t.kind,.string ⟨t.text.toArray⟩,.int .i64 (t.at':Int)]
def F9a(L:List Tk):List Value:=L.flatMap S8a
theorem N9c(L:List Tk)(t:Tk):F9a (L++[t])=F9a L++S8a t:=by simp[F9a]
theorem O7a(L:List (bZ×Int))(t:bZ×Int):G5 (L++[t])=G5 L++M5 t:=by simp[G5]
theorem T7(L:uZ)(t:Int):C8 (L++[t])=C8 L++[.int .i64 t]:=by simp[C8]
def TyV(w:lZ)(c:Nat->Prop)(t:Ty)(d:List Value):Prop:=
 ∃a b,d=[.int .i64 t.kind,a,b,.int .i64 t.of']/\w.ownsRow 0 131 2 a t.fields.length (G5 t.fields)/\w.ownsRow 0 3 1 b t.list.length (C8 t.list)/\
  (∀g,a.ownBlock=some g->c g)/\(∀g,b.ownBlock=some g->c g)
def NdV(w:lZ)(b:Nat->Prop)(n:Nd)(c:List Value):Prop:=
 ∃a,c=[.int .i64 n.kind,.int .i64 n.a,.int .i64 n.b,.int .i64 n.c,a,.string ⟨n.text.toArray⟩,.int .i64 n.n,.int .i64 n.ty,.int .i64 n.at']/\w.ownsRow 0 3 1 a n.list.length (C8 n.list)/\
  (∀g,a.ownBlock=some g->b g)
theorem TyV.len{w:lZ}{b:Nat->Prop}{t:Ty}{a:List Value}(h:TyV w b t a):a.length=4:=by obtain⟨_,_,rfl,_⟩:=h;rfl
theorem NdV.len{w:lZ}{b:Nat->Prop}{t:Nd}{a:List Value}(h:NdV w b t a):a.length=9:=by obtain⟨_,rfl,_⟩:=h;rfl
def tag(w:lZ)(k:Nat):Prop:=∃a e b,w.heap[k]? =some (.cells a e b)/\(e=84\/e=87\/e=76)
def Kept(B:Nat)(a:Nat->Prop)(w b:lZ):Prop:=I (λk=>B<=k/\tag w k/\a k) w b
theorem Kept.refl(B:Nat)(a:Nat->Prop)(w:lZ):Kept B a w w:=I.refl _ _
theorem Kept.mono{B:Nat}{a ok':Nat->Prop}{w b:lZ}(h:Kept B a w b)(c:∀g,a g->ok' g):Kept B ok' w b:=I.mono h λ_ _ x=>⟨x.1,x.2.1,c _ x.2.2⟩
theorem Kept.trans{B:Nat}{d:Nat->Prop}{a b c:lZ}(h:Kept B d a b)(k:Kept B d b c):Kept B d a c:=by
 refine⟨k.os.trans h.os,k.tape.trans h.tape,k.output.trans h.output,kQ h.size k.size,λi g j=> ?_⟩;have f:=h.block i g j;refine(k.block i (yQ g h.size) (λx=>j ⟨x.1, ?_,x.2.2⟩)).trans f;obtain⟨l,e,m,n,r⟩:=x.2.1;exact⟨l,e,m,by rw[<-f];exact n,r⟩
theorem Kept.trans'{B:Nat}{d:Nat->Prop}{S:Nat->Prop}{a b c:lZ}(h:Kept B d a b)(k:I S b c)(f:∀i,i<a.heap.size->¬S i):Kept B d a c:=I.trans h k λi e x=>(f i e x).elim
theorem Kept.alloc{B:Nat}{c:Nat->Prop}{a b:lZ}(h:Kept B c a b)(o:Obj):Kept B c a (b.alloc o):=h.trans (I.alloc _ _ _)
theorem Kept.below{B:Nat}{c:Nat->Prop}{w a:lZ}(h:Kept B c w a)(b:B<=w.heap.size):Below B w a:=I.toBelow h (λ_ _ x=>x.1) b
theorem G0{B:Nat}{o:Nat->Prop}{w f:lZ}{c:Nat}{e:TypeId}{d:Nat}{v:Value}{n:Nat}{i:List Value}(h:w.ownsRow c e d v n i)(j:Kept B o w f)
 (a:e≠84/\e≠87/\e≠76):f.ownsRow c e d v n i:=by
 refine A4 h j λg k m=> ?_;obtain⟨_,q,l⟩:=A9 h g k;obtain⟨p,s,t,b,r⟩:=m.2.1;rw[l]at b;simp only[zQ,xW]at b;obtain⟨_,rfl,_⟩:=b;rcases r with r|r|r
 · exact a.1 r
 · exact a.2.1 r
 · exact a.2.2 r
theorem TyV.chg{S:Nat->Prop}{w o:lZ}{i ok':Nat->Prop}(l:I S w o)(n:∀g,i g->g<w.heap.size->S g->(∃b e,w.heap[g]? =some (.cells b e (0,0))/\(e=131\/e=3))->False)(m:∀g,i g->g<w.heap.size->ok' g)(t:Ty)(p:List Value)(h:TyV w i t p):TyV o ok' t p:=by
 obtain⟨q,r,rfl,c,d,j,k⟩:=h;refine⟨q,r,rfl,A4 c l λg a x=> ?_,A4 d l λg a x=> ?_,λg a=>m g (j g a) (c.lt g a).2,λg a=>m g (k g a) (d.lt g a).2⟩
 · obtain⟨_,b,f⟩:=A9 c g a;exact n g (j g a) (c.lt g a).2 x ⟨b,_,f,.inl rfl⟩
 · obtain⟨_,b,f⟩:=A9 d g a;exact n g (k g a) (d.lt g a).2 x ⟨b,_,f,.inr rfl⟩
theorem NdV.chg{S:Nat->Prop}{w i:lZ}{d ok':Nat->Prop}(k:I S w i)(n:∀g,d g->g<w.heap.size->S g->(∃c e,w.heap[g]? =some (.cells c e (0,0))/\(e=131\/e=3))->False)(m:∀g,d g->g<w.heap.size->ok' g)(t:Nd)(j:List Value)(h:NdV w d t j):NdV i ok' t j:=by
 obtain⟨o,rfl,b,f⟩:=h;refine⟨o,rfl,A4 b k λg a x=> ?_,λg a=>m g (f g a) (b.lt g a).2⟩;obtain⟨_,c,l⟩:=A9 b g a;exact n g (f g a) (b.lt g a).2 x ⟨c,_,l,.inr rfl⟩
structure LOk(L:List Tk):Prop where
 short:L.length<=1001
 last:∀i,i<L.length->((tk L i).kind=6 ↔ i+1=L.length)
structure PstL(w:lZ)(B pb:Nat)(tv:Value)(L:List Tk)(ok:Nat->Prop)(d:Nat)(s:St):Prop where
 low:B<=pb
 at':s.i<L.length
 few:s.N.length<=s.i+1/\s.T.length<=s.i
 toks:w.ownsRow 0 116 3 tv L.length (F9a L)
 oks:ok pb/\(∀v g,w.cell? ⟨pb,3,none⟩=some v->v.ownBlock=some g->ok g)/\∀v g,w.cell? ⟨pb,4,none⟩=some v->v.ownBlock=some g->ok g
 blk:∃nv yv nx yx,w.heap[pb]? =some (.cells #[tv,.int .i64 (s.i:Int),.int .i64 (d:Int),nv,yv] 84 (0,0))/\w.ownsRow B 87 9 nv s.N.length nx/\w.ownsRow B 76 4 yv s.T.length yx/\
  Rws (NdV w ok) s.N nx/\Rws (TyV w ok) s.T yx
structure Pst(w:lZ)(B pb:Nat)(tv:Value)(L:List Tk)(ok:Nat->Prop)(d:Nat)(s:St):Prop where
 low:B<=pb
 at':s.i<L.length
 few:s.N.length<=s.i/\s.T.length<=s.i
 toks:w.ownsRow 0 116 3 tv L.length (F9a L)
 oks:ok pb/\(∀v g,w.cell? ⟨pb,3,none⟩=some v->v.ownBlock=some g->ok g)/\∀v g,w.cell? ⟨pb,4,none⟩=some v->v.ownBlock=some g->ok g
 blk:∃nv yv nx yx,w.heap[pb]? =some (.cells #[tv,.int .i64 (s.i:Int),.int .i64 (d:Int),nv,yv] 84 (0,0))/\w.ownsRow B 87 9 nv s.N.length nx/\w.ownsRow B 76 4 yv s.T.length yx/\
  Rws (NdV w ok) s.N nx/\Rws (TyV w ok) s.T yx
theorem PstL.pst{w:lZ}{B b:Nat}{c:Value}{L:List Tk}{a:Nat->Prop}{d:Nat}{s:St}(h:PstL w B b c L a d s)(e:s.N.length<=s.i):Pst w B b c L a d s:=⟨h.low,h.at',⟨e,h.few.2⟩,h.toks,h.oks,h.blk⟩
theorem Pst.l{w:lZ}{B b:Nat}{c:Value}{L:List Tk}{a:Nat->Prop}{d:Nat}{s:St}(h:Pst w B b c L a d s):PstL w B b c L a d s:=⟨h.low,h.at',⟨Nat.le_succ_of_le h.few.1,h.few.2⟩,h.toks,h.oks,h.blk⟩
theorem PstL.chg{S:Nat->Prop}{w o:lZ}{B a:Nat}{y:Value}{L:List Tk}{p ok':Nat->Prop}{d:Nat}{s:St}(h:PstL w B a y L p d s)(f:I S w o)
 (l:∀k c e,w.heap[k]? =some (.cells c e (0,0))->S k->e≠84/\e≠87/\e≠76/\y.ownBlock≠some k/\((e=131\/e=3)->¬p k))
 (m:∀g,p g->g<w.heap.size->ok' g):PstL o B a y L ok' d s:=by
 obtain⟨H,K,M,C,q,F,G,W,X,j,t,u,R,T⟩:=h;have r:=(Array.getElem?_eq_some_iff.1 j).1;have E:∀g,p g->g<w.heap.size->S g->(∃c e,w.heap[g]? =some (.cells c e (0,0))/\(e=131\/e=3))->False:=by
  rintro g b _ V ⟨c,e,i,N⟩;exact(l g c e i V).2.2.2.2 N b
 have D:o.heap[a]? =w.heap[a]? :=f.block a r (λx=>(l a _ _ j x).1 rfl);have P:ok' a/\(∀v g,o.cell? ⟨a,3,none⟩=some v->v.ownBlock=some g->ok' g)/\∀v g,o.cell? ⟨a,4,none⟩=some v->v.ownBlock=some g->ok' g:=by
  have z:w.cell? ⟨a,3,none⟩=some F:=by rw[cell_of_row w a 3 _ _ _ j];rfl
  have A:w.cell? ⟨a,4,none⟩=some G:=by rw[cell_of_row w a 4 _ _ _ j];rfl
  refine⟨m _ q.1 r,λv g n b=> ?_,λv g n b=> ?_⟩
  · rw[World.cell?_of_block (a:=⟨a,3,none⟩) D,z]at n;cases n;exact m g (q.2.1 _ g z b) (t.lt g b).2
  · rw[World.cell?_of_block (a:=⟨a,4,none⟩) D,A]at n;cases n;exact m g (q.2.2 _ g A b) (u.lt g b).2
 refine⟨H,K,M,A4 C f λg b x=> ?_,P,F,G,W,X, ?_,A4 t f λg b x=> ?_,A4 u f λg b x=> ?_,R.imp (NdV.chg f E m),T.imp (TyV.chg f E m)⟩
 · obtain⟨_,c,i⟩:=A9 C g b;exact(l g c _ i x).2.2.2.1 b
 · rw[f.block a r (λx=>(l a _ _ j x).1 rfl)];exact j
 · obtain⟨_,c,i⟩:=A9 t g b;exact(l g c _ i x).2.1 rfl
 · obtain⟨_,c,i⟩:=A9 u g b;exact(l g c _ i x).2.2.1 rfl
theorem PstL.still{w c:lZ}{B b:Nat}{tv:Value}{L:List Tk}{a:Nat->Prop}{d:Nat}{s:St}(h:PstL w B b tv L a d s)(e:I (λ_=>False) w c):PstL c B b tv L a d s:=
 h.chg e (λ_ _ _ _ x=>x.elim) (λ_ x _=>x)
theorem PstL.setOwn{w:lZ}{B g:Nat}{c:Value}{L:List Tk}{f:Nat->Prop}{d:Nat}{s:St}(h:PstL w B g c L f d s){q o:Nat}{i:Array Value}{e:TypeId}{j:Nat×Nat}(v:Value)(l:w.heap[q]? =some (.cells i e j))(p:c.ownBlock≠some q)
 (a:e≠84/\e≠87/\e≠76/\e≠131/\e≠3):PstL (w.setCell ⟨q,o,none⟩ v) B g c L f d s:=by
 refine h.chg (I.set w ⟨q,o,none⟩ v) (λk r t b m=> ?_) (λ_ x _=>x);have n:k=q:=m;subst n;rw[l]at b;simp only[zQ,xW]at b;obtain⟨_,rfl,_⟩:=b;exact⟨a.1,a.2.1,a.2.2.1,p,λx=>by rcases x with x|x;exact absurd x a.2.2.2.1;exact absurd x a.2.2.2.2⟩
theorem Pst.chg{S:Nat->Prop}{w f:lZ}{B c:Nat}{b:Value}{L:List Tk}{a ok':Nat->Prop}{d:Nat}{s:St}(h:Pst w B c b L a d s)(j:I S w f)
 (m:∀k i e,w.heap[k]? =some (.cells i e (0,0))->S k->e≠84/\e≠87/\e≠76/\b.ownBlock≠some k/\((e=131\/e=3)->¬a k))
 (l:∀g,a g->g<w.heap.size->ok' g):Pst f B c b L ok' d s:=
 (h.l.chg j m l).pst h.few.1
theorem Pst.still{w c:lZ}{B b:Nat}{tv:Value}{L:List Tk}{a:Nat->Prop}{d:Nat}{s:St}(h:Pst w B b tv L a d s)(e:I (λ_=>False) w c):Pst c B b tv L a d s:=
 h.chg e (λ_ _ _ _ x=>x.elim) (λ_ x _=>x)
theorem Pst.alloc{w:lZ}{B b:Nat}{c:Value}{L:List Tk}{a:Nat->Prop}{d:Nat}{s:St}(h:Pst w B b c L a d s)(o:Obj):Pst (w.alloc o) B b c L a d s:=h.still (I.alloc _ _ _)
theorem Pst.mono{w:lZ}{B b:Nat}{c:Value}{L:List Tk}{a ok':Nat->Prop}{d:Nat}{s:St}(h:Pst w B b c L a d s)(e:∀g,a g->g<w.heap.size->ok' g):Pst w B b c L ok' d s:=
 h.chg (I.refl (λ_=>False) _) (λ_ _ _ _ x=>x.elim) e
theorem C7{B:Nat}{ok:Nat->Prop}{w a:lZ}(h:I (λ_=>False) w a):Kept B ok w a:=h.mono λ_ _ x=>x.elim
theorem Pst.store{w:lZ}{B a:Nat}{p:Value}{L:List Tk}{C:Nat->Prop}{d:Nat}{s:St}(h:Pst w B a p L C d s)(o:Nat)(v:Value)(c r:Nat)(S:c<L.length)(hf:s.i<=c)
 (X:∀f i,(#[p,.int .i64 (s.i:Int),.int .i64 (d:Int),f,i]:Array Value).setIfInBounds o v=#[p,.int .i64 (c:Int),.int .i64 (r:Int),f,i]):
 Pst (w.setCell ⟨a,o,none⟩ v) B a p L C r ⟨c,s.N,s.T⟩:=by
 obtain⟨R,h2,h3,E,t,f,i,Z,yx,j,F,G,V,W⟩:=h;have k:=I.set w ⟨a,o,none⟩ v;have A:∀{D:Nat} {e:TypeId} {K:Nat} {v:Value} {n:Nat} {M:List Value},w.ownsRow D e K v n M->e≠84->∀g,v.ownBlock=some g->¬g=a:=by
  intro D e K v n M T z g l Y;subst Y;obtain⟨_,q,b⟩:=A9 T g l;rw[j]at b;simp only[zQ,xW]at b;exact z b.2.1.symm
 have H:∀g,C g->g<w.heap.size->g=a->(∃q e,w.heap[g]? =some (.cells q e (0,0))/\(e=131\/e=3))->False:=by
  rintro g _ _ rfl ⟨q,e,b,z⟩;rw[j]at b;simp only[zQ,xW]at b;rcases z with rfl|rfl
  · exact absurd b.2.1 (by decide)
  · exact absurd b.2.1 (by decide)
 have y:(w.setCell ⟨a,o,none⟩ v).heap[a]? =some (.cells #[p,.int .i64 (c:Int),.int .i64 (r:Int),f,i] 84 (0,0)):=by rw[heap_setCell_same w a o _ _ v j,X]
 refine⟨R,S,⟨by show s.N.length<=c;omega,by show s.T.length<=c;omega⟩,A4 E k (A E (by decide)), ?_,f,i,Z,yx,y,A4 F k (A F (by decide)),A4 G k (A G (by decide)),V.imp (NdV.chg k H (λ_ x _=>x)),W.imp (TyV.chg k H (λ_ x _=>x))⟩;have N:w.cell? ⟨a,3,none⟩=some f:=by rw[cell_of_row w a 3 _ _ _ j];rfl
 have P:w.cell? ⟨a,4,none⟩=some i:=by rw[cell_of_row w a 4 _ _ _ j];rfl
 refine⟨t.1,λu g m l=> ?_,λu g m l=> ?_⟩
 · rw[cell_of_row _ a 3 _ _ _ y]at m;cases m;exact t.2.1 _ g N l
 · rw[cell_of_row _ a 4 _ _ _ y]at m;cases m;exact t.2.2 _ g P l
theorem Pst.next{w:lZ}{B a:Nat}{c:Value}{L:List Tk}{b:Nat->Prop}{d:Nat}{s:St}(h:Pst w B a c L b d s)(e:s.i+1<L.length):Pst (w.setCell ⟨a,1,none⟩ (.int .i64 ((s.i:Int)+1))) B a c L b d s.nx:=
 h.store 1 _ (s.i+1) d e (by omega) (λ_ _=>by simp)
theorem Pst.deeper{w:lZ}{B b:Nat}{e:Value}{L:List Tk}{c:Nat->Prop}{d:Nat}{s:St}(h:Pst w B b e L c d s)(a:Nat):Pst (w.setCell ⟨b,2,none⟩ (.int .i64 (a:Int))) B b e L c a s:=
 h.store 2 _ s.i a h.at' (by omega) (λ_ _=>by simp)
theorem Pst.tokLt{w:lZ}{B e:Nat}{a:Value}{L:List Tk}{c:Nat->Prop}{d:Nat}{s:St}(h:Pst w B e a L c d s){k:Nat}(f:w.heap.size<=k):a.ownBlock≠some k:=by
 intro b;have:=(h.toks.lt k b).2;omega
theorem Pst.setOwn{w:lZ}{B c:Nat}{a:Value}{L:List Tk}{b:Nat->Prop}{d:Nat}{s:St}(h:Pst w B c a L b d s){q o:Nat}{f:Array Value}{e:TypeId}{g:Nat×Nat}(v:Value)(j:w.heap[q]? =some (.cells f e g))(k:a.ownBlock≠some q)
 (i:e≠84/\e≠87/\e≠76/\e≠131/\e≠3):Pst (w.setCell ⟨q,o,none⟩ v) B c a L b d s:=
 (h.l.setOwn v j k i).pst h.few.1
theorem Kept.setOwn{B:Nat}{c:Nat->Prop}{a b:lZ}(h:Kept B c a b){q o:Nat}(v:Value)(f:a.heap.size<=q):Kept B c a (b.setCell ⟨q,o,none⟩ v):=
 h.trans' (I.set b ⟨q,o,none⟩ v) (λk e d=>by have g:k=q:=d;omega)
theorem Pst.tagged{w:lZ}{B a:Nat}{e:Value}{L:List Tk}{b:Nat->Prop}{d:Nat}{s:St}(h:Pst w B a e L b d s):B<=a/\tag w a/\b a:=by
 obtain⟨f,i,g,j,c,_⟩:=h.blk;exact⟨h.low,⟨_,_,_,c,.inl rfl⟩,h.oks.1⟩
theorem Pst.keptSet{w:lZ}{B a:Nat}{f:Value}{L:List Tk}{b:Nat->Prop}{d:Nat}{s:St}(h:Pst w B a f L b d s)(o:Nat)(v:Value):Kept B b w (w.setCell ⟨a,o,none⟩ v):=
 (I.set w ⟨a,o,none⟩ v).mono λk _ c=>by have e:k=a:=c;subst e;exact h.tagged
theorem Pst.cell{w:lZ}{B a:Nat}{k:Value}{L:List Tk}{r:Nat->Prop}{d:Nat}{s:St}(h:Pst w B a k L r d s):
 ∃g c f i,k= .slice (some ⟨g,0,none⟩) L.length c/\L.length<=c/\c<=maxLen/\g<w.heap.size/\a<w.heap.size/\w.cell? ⟨a,0,none⟩=some (.slice (some ⟨g,0,none⟩) L.length c)/\w.cell? ⟨a,1,none⟩=some (.int .i64 (s.i:Int))/\w.cell? ⟨a,2,none⟩=some (.int .i64 (d:Int))/\
  w.cell? ⟨a,3,none⟩=some f/\w.cell? ⟨a,4,none⟩=some i/\(∀o,w.frozen? ⟨a,o,none⟩=false)/\∀j u,(F9a L)[j]? =some u->w.cell? ⟨g,j,none⟩=some u:=by
 obtain⟨t,c,rfl⟩:=B9 h.toks;obtain⟨g,rfl,_,p,l,m,n⟩:=F5 h.toks (by have:=h.at';omega);obtain⟨f,i,v,x,e,_⟩:=h.blk;have q:=(Array.getElem?_eq_some_iff.1 e).1;have b:=λo=>cell_of_row w a o _ _ _ e;refine⟨g,c,f,i,rfl,l,m,p,q,by rw[b];rfl,by rw[b];rfl,by rw[b];rfl,by rw[b];rfl,by rw[b];rfl,λo=> ?_,n⟩;simp[World.frozen?,e]
theorem X7a:∀(L:List Tk) (k:Nat) (h:k<L.length) (j:Nat),j<3->(F9a L)[3 * k+j]? =(S8a L[k])[j]?
 |[],k,h,_,_=>by simp at h
 |t::r,0,_,j,a=>by
  simp only[F9a,List.flatMap_cons,Nat.mul_zero,Nat.zero_add,List.getElem_cons_zero];rw[List.getElem?_append_left (by simp[S8a];omega)]
 |t::r,k+1,h,j,a=>by
  simp only[F9a,List.flatMap_cons,List.getElem_cons_succ];rw[List.getElem?_append_right (by simp[S8a];omega)];have:=X7a r k (by simpa using h) j a;rw[<-this];simp only[S8a,jQ,xQ,F9a];congr 1
  omega
theorem P4b{w:lZ}{g:Nat}{L:List Tk}{k:Nat}(h:k<L.length)(a:∀j u,(F9a L)[j]? =some u->w.cell? ⟨g,j,none⟩=some u):
 w.cell? ⟨g,k * 3,none⟩=some (.int .i64 (tk L k).kind)/\w.cell? ⟨g,k * 3+1,none⟩=some (.string ⟨(tk L k).text.toArray⟩)/\w.cell? ⟨g,k * 3+2,none⟩=some (.int .i64 ((tk L k).at':Int)):=by
 have e:tk L k=L[k]:=by simp[tk,List.getD,h]
 rw[Nat.mul_comm k 3,e];exact⟨a _ _ (X7a L k h 0 (by omega)),a _ _ (X7a L k h 1 (by omega)),a _ _ (X7a L k h 2 (by omega))⟩
def tkv(t:Tk):Value:= .agg #[.int .i64 t.kind,.string ⟨t.text.toArray⟩,.int .i64 (t.at':Int)]
theorem O{p:Prop}(h:p):Hid p:=h
def gu(a p:Int):Ending:= .panicked [{ v:= .iface 109 (.agg #[.int .i64 a,.int .i64 p]),recovered:=false }]
theorem Y9(a b c:Value)(w:lZ):(Instr.field 116 (.agg #[a,b,c]) 0).run prog w= .ok a w:=by kernel_rfl
theorem B6a(a b c:Value)(w:lZ):(Instr.field 116 (.agg #[a,b,c]) 1).run prog w= .ok b w:=by kernel_rfl
theorem K5b(a b c:Value)(w:lZ):(Instr.field 116 (.agg #[a,b,c]) 2).run prog w= .ok c w:=by kernel_rfl
section
variable{w:lZ}{B a:Nat}{tv:Value}{L:List Tk}{b:Nat->Prop}{d:Nat}{s:St}
theorem V8(k:LOk L)(h:Pst w B a tv L b d s):
 Calls prog 90 #[.pointer (some ⟨a,0,none⟩)] w λe r=>e= .returned (tkv (tk L s.i))/\I (λ_=>False) w r:=by
 obtain⟨g,c,G,H,rfl,C,l,D,E,y,z,_,_,_,A,f⟩:=h.cell;have m:=h.at';have F:=k.short;obtain⟨t,u,v⟩:=P4b m f;clear h f;generalize tk L s.i=p at *;obtain⟨n,q,o⟩:=p;simp only[tkv]at t u v⊢;generalize (⟨q.toArray⟩:ByteArray)=j at *;generalize s.i=i at *;unfold maxLen at l;go_enter func90,ntmps90;go_wp2;go_region
 go_wp2;exact bodyPost_ret (v:= .agg #[.int .i64 n,.string j,.int .i64 o]) (by simp[results,results90,go_sem]) rfl ⟨rfl,(I.alloc _ _ _).trans (I.drewN _ _ 1) (λ_ _ x=>x)⟩
theorem U9a(c:LOk L)(h:Pst w B a tv L b d s):
 Calls prog 91 #[.pointer (some ⟨a,0,none⟩)] w λe i=>e= .returned (.int .i64 ((tk L s.i).at':Int))/\I (λ_=>False) w i:=by
 have H:=V8 c h;have j:=Y9;have k:=K5b;generalize tk L s.i=g at *;obtain⟨l,n,m⟩:=g;simp only[tkv]at H⊢;clear h c;go_enter func91,ntmps91;go_wp2_with fail
 refine H.mono ?_;clear H;rintro e o ⟨rfl,f⟩;go_wp2;go_ret;exact⟨rfl,f⟩
theorem J3b(c:LOk L)(h:Pst w B a tv L b d s):
 Calls prog 51 #[.pointer (some ⟨a,0,none⟩)] w λe i=>e= .returned (.bool (decide ((tk L s.i).kind=6)))/\I (λ_=>False) w i:=by
 have H:=V8 c h;have j:=Y9;have k:=K5b;generalize tk L s.i=g at *;obtain⟨l,n,m⟩:=g;simp only[tkv]at H⊢;clear h c;go_enter func51,ntmps51;go_wp2_with fail
 refine H.mono ?_;clear H;rintro e o ⟨rfl,f⟩;go_wp2;go_ret;exact⟨F8 (by rw[Bool.eq_iff_iff];simp),f⟩
theorem B1a(w:lZ)(c p:Int):Calls prog 47 #[.int .i64 c,.int .i64 p] w λe f=>e=gu c p/\I (λ_=>False) w f:=by
 go_enter func47,ntmps47;go_wp2;exact⟨rfl,rfl,I.refl _ _⟩
theorem Z6(f:LOk L)(h:Pst w B a tv L b d s)(c:Int):
 Calls prog 52 #[.pointer (some ⟨a,0,none⟩),.int .i64 c] w λe j=>e=gu c ((tk L s.i).at':Int)/\I (λ_=>False) w j:=by
 go_enter func52,ntmps52;go_wp2_with fail
 refine(U9a f h).mono ?_;rintro e k ⟨rfl,g⟩;go_wp2_with fail
 refine(B1a _ _ _).mono ?_;rintro e l ⟨rfl,i⟩;exact⟨rfl,rfl,g.trans i (λ_ _ x=>x)⟩
theorem S1b{S:Nat->Prop}{w wr:lZ}{c:Array Value}{t:TypeId}(h:I S (w.alloc (.cells c t)) wr)(f:¬S w.heap.size):
 (∀o v,c[o]? =some v->wr.cell? ⟨w.heap.size,o,none⟩=some v)/\(∀o,wr.frozen? ⟨w.heap.size,o,none⟩=false)/\w.heap.size<wr.heap.size:=by
 have e:=h.block w.heap.size (by simp) f;refine⟨λo v g=> ?_,λo=> ?_, ?_⟩
 · rw[World.cell?_of_block (a:=⟨w.heap.size,o,none⟩) e,World.cell?_alloc_new,g]
 · rw[World.frozen?_of_block (a:=⟨w.heap.size,o,none⟩) e];simp
 · have:=h.size;simp at this;omega
def Strs(w:lZ)(c:Nat)(e:List bZ):Prop:=c<w.heap.size/\∀j (h:j<e.length),w.cell? ⟨c,j,none⟩=some (.string ⟨e[j].toArray⟩)
theorem Strs.still{w g:lZ}{c:Nat}{f:List bZ}(h:Strs w c f)(e:I (λ_=>False) w g):Strs g c f:=
 ⟨yQ h.1 e.size,λj i=>by rw[World.cell?_of_block (e.block c h.1 (λx=>x))];exact h.2 j i⟩
theorem Q2c(w:lZ)(l c:Nat)(f:List bZ)(t:bZ)(h:Strs w l f)(A:f.length<=4000):
 Calls prog 137 #[.slice (some ⟨l,0,none⟩) f.length c,.string ⟨t.toArray⟩] w λe v=>(∃k:Int,e= .returned (.int .i64 k)/\decide (0<=k)=has f t)/\v=w:=by
 obtain⟨y,m⟩:=h;go_enter func137,ntmps137;go_wp2;go_loop [8] (λi=>∃k:Nat,k<=f.length/\i= .int .i64 k/\Hid (has (f.take k) t=false)) (λi=>f.length - (intOf i).toNat)
 case atStart=>exact⟨0,wQ _,rfl,by simp[Hid,has]⟩
 case round=>
  obtain⟨k,z,rfl,o⟩:=hrel;by_cases n:k<f.length
  · have p:=m k n;have q:Hid (has (f.take (k+1)) t=(has (f.take k) t||t==f[k])):=F6d _ _ _ n;have j:Hid (∀x,x=f[k]->x∈f):=λx p=>p ▸ mQ _;generalize u:f[k]=x at *;have r:=j.o x rfl;clear m j u;by_cases g:x=t
    · subst g;go_wp2;go_ret;exact⟨⟨_,rfl,by rw[Y3a r];simp⟩,rfl⟩
    · have C:(t==x)=false:=by simp[Ne.symm g]
      go_wp2;go_round
      case rel=>exact⟨k+1,by omega,by go_num,by show _=_;rw[q.o,o.o];simp;exact λh=>g h.symm⟩
      case measure=>simp[intOf];omega
  · go_wp2;go_ret;exact⟨⟨_,rfl,by have:=o.o;rw[List.take_of_length_le (by omega)]at this;rw[this];simp⟩,rfl⟩
theorem R9a(w:lZ)(g c:Nat)(f:List bZ)(t:bZ)(h:Strs w g f)(i:f.length<=4000):
 Calls prog 100 #[.slice (some ⟨g,0,none⟩) f.length c,.string ⟨t.toArray⟩] w λe j=>e= .returned (.bool (has f t))/\j=w:=by
 have H:=Q2c w g c f t h i;generalize has f t=r at *;go_enter func100,ntmps100;go_wp2_with fail
 refine H.mono ?_;clear H;rintro e m ⟨⟨k,rfl,l⟩,rfl⟩;go_wp2;all_goals go_ret
 all_goals exact⟨F8 (by simp_all),rfl⟩
theorem I0a(q:LOk L)(h:Pst w B a tv L b d s)(k c:Nat)(f:List bZ)(u:Strs w k f)(y:f.length<=4000):
 Calls prog 59 #[.pointer (some ⟨a,0,none⟩),.slice (some ⟨k,0,none⟩) f.length c] w λe p=>e= .returned (.bool (isM L s.i f))/\I (λ_=>False) w p:=by
 have H:=V8 q h;have E:=Y9;have F:=B6a;unfold isM;generalize tk L s.i=z at *;obtain⟨l,m,G⟩:=z;simp only[tkv]at H⊢;have j:∀g:lZ,I (λ_=>False) w g->Calls prog 100 #[.slice (some ⟨k,0,none⟩) f.length c,.string ⟨m.toArray⟩] g λe p=>e= .returned (.bool (has f m))/\p=g:=λg v=>R9a g k c f m (u.still v) y;generalize has f m=r at *;clear h q u;go_enter func59,ntmps59;go_wp2_with fail
 refine H.mono ?_;clear H;rintro e g ⟨rfl,t⟩;have i:=O t;clear t;by_cases o:l=5
 · subst o;go_wp2_with fail
   refine(j _ (i.o.trans (I.alloc (λ_=>False) _ _) (λ_ _ x=>x))).mono ?_;clear j;rintro e A ⟨rfl,rfl⟩;go_wp2;go_ret;exact⟨F8 (by simp),i.o.trans (I.alloc (λ_=>False) _ _) (λ_ _ x=>x)⟩
 · by_cases n:l=2
   · subst n;go_wp2_with fail
     refine(j _ (i.o.trans (I.alloc (λ_=>False) _ _) (λ_ _ x=>x))).mono ?_;clear j;rintro e A ⟨rfl,rfl⟩;go_wp2;go_ret;exact⟨F8 (by simp),i.o.trans (I.alloc (λ_=>False) _ _) (λ_ _ x=>x)⟩
   · have D:(l==5)=false:=by simp[o]
     have C:(l==2)=false:=by simp[n]
     go_wp2_with fail
     go_ret;exact⟨F8 (by simp[o,n]),i.o.trans (I.alloc (λ_=>False) _ _) (λ_ _ x=>x)⟩
theorem LOk.mark(f:LOk L){i:Nat}{j:List bZ}(g:i<L.length)(h:isM L i j=true):i+1<L.length:=by
 have c:=(f.last i g).2;by_cases e:i+1=L.length
 · have:=c e;simp[isM,this]at h
 · omega
theorem V9c(w:lZ)(m:bZ)(t:TypeId):Strs (w.alloc (.cells #[.string ⟨m.toArray⟩] t)) w.heap.size [m]:=by
 refine⟨by simp,λj c=> ?_⟩;simp only[jQ,xQ,Nat.zero_add]at c;have:j=0:=by omega
 subst this;simp[World.cell?_alloc_new]
theorem G8(i:LOk L)(h:Pst w B a tv L b d s)(m:bZ):
 Calls prog 102 #[.pointer (some ⟨a,0,none⟩),.string ⟨m.toArray⟩] w λe l=>e= .returned (.bool (isM L s.i [m]))/\Kept B b w l/\Pst l B a tv L b d (if isM L s.i [m] then s.nx else s):=by
 have H:Calls prog 59 #[.pointer (some ⟨a,0,none⟩),.slice (some ⟨w.heap.size,0,none⟩) 1 1] (w.alloc (.cells #[.string ⟨m.toArray⟩] 9)) _:=I0a i (h.alloc _) w.heap.size 1 [m] (V9c w m _) (by simp);have n:=O (λo:isM L s.i [m]=true=>i.mark h.at' o);have t:=h.at';have v:=i.short;generalize isM L s.i [m]=r at *;go_enter func102,ntmps102;go_wp2_with fail
 refine H.mono ?_;clear H;rintro e y ⟨rfl,j⟩;have f:=O ((h.alloc _).still j);have k:=O (((Kept.refl B b w).alloc _).trans (C7 j));clear j h;cases r
 · go_wp2;go_ret;exact⟨rfl,k.o,f.o⟩
 · obtain⟨g,c,x,z,-,-,-,-,u,-,p,-,-,-,q,-⟩:=f.o.cell;go_wp2;go_ret;exact⟨rfl,k.o.trans (f.o.keptSet _ _),f.o.next (n.o trivial)⟩
theorem J0(g:LOk L)(h:Pst w B a tv L b d s)(m:bZ):
 Calls prog 139 #[.pointer (some ⟨a,0,none⟩),.string ⟨m.toArray⟩] w λe i=>Kept B b w i/\
  (isM L s.i [m]=true/\e= .returned (.tuple #[])/\Pst i B a tv L b d s.nx\/isM L s.i [m]=false/\e=gu 1 ((tk L s.i).at':Int)):=by
 have H:=G8 g h m;have k:=λj (o:Pst j B a tv L b d s)=>Z6 g o 1;generalize isM L s.i [m]=r at *;generalize ((tk L s.i).at':Int)=p at *;go_enter func139,ntmps139;go_wp2_with fail
 refine H.mono ?_;clear H h;rintro e j ⟨rfl,c,f⟩;cases r
 · have l:=O c;have n:=O f;clear c f;go_wp2_with fail
   refine(k _ (by simpa using n.o)).mono ?_;rintro e t ⟨rfl,q⟩;exact⟨rfl,l.o.trans (C7 q),.inr ⟨rfl,rfl⟩⟩
 · go_wp2;go_end0;exact⟨c,rfl,by simpa using f⟩
theorem J4a(l:LOk L)(h:Pst w B a tv L b d s)(D:(tk L s.i).kind≠6):
 Calls prog 194 #[.pointer (some ⟨a,0,none⟩)] w λe r=>e= .returned (tkv (tk L s.i))/\Kept B b w r/\Pst r B a tv L b d s.nx:=by
 have E:s.i+1<L.length:=by
  have o:=l.last s.i h.at';have T:=h.at';omega
 have H:=λt (o:Pst t B a tv L b d s)=>V8 l o;have Y:=l.short;clear D;generalize tk L s.i=N at *;obtain⟨p,P,q⟩:=N;simp only[tkv]at H⊢;generalize (⟨P.toArray⟩:ByteArray)=n at *;go_enter func194,ntmps194;go_wp2_with fail
 refine(H _ (h.alloc _)).mono ?_;clear H;rintro e t ⟨rfl,f⟩;have j:=O ((h.alloc _).still f);have u:=O (((Kept.refl B b w).alloc _).trans (C7 f));obtain⟨i,qf,F⟩:=S1b f (λx=>x);have G:=i 0 _ rfl;have K:=i 1 _ rfl;have M:=i 2 _ rfl;obtain⟨-,-,-,-,-,-,-,-,X,-⟩:=h.cell;have v:=O ((f.block w.heap.size (by simp) (λx=>x)).trans (qY w _));have k:=O (h.tokLt (vQ _));clear f h i;obtain⟨g,c,Z,yv,-,-,-,-,V,-,R,-,-,-,S,-⟩:=j.o.cell;go_wp2_with fail
 have m:=v.o;have W:a≠w.heap.size:=by omega
 have y:=j.o.next E;have z:=y.setOwn (q:=w.heap.size) (o:=0) (.int .i64 p) (by rw[heap_setCell_other _ _ _ _ (by show w.heap.size≠a;omega)];exact m) k.o (by decide);have A:=z.setOwn (q:=w.heap.size) (o:=1) (.string n) (heap_setCell_same _ _ _ _ _ _ (by rw[heap_setCell_other _ _ _ _ (by show w.heap.size≠a;omega)];exact m)) k.o (by decide);have C:=A.setOwn (q:=w.heap.size) (o:=2) (.int .i64 q) (heap_setCell_same _ _ _ _ _ _ (heap_setCell_same _ _ _ _ _ _ (by rw[heap_setCell_other _ _ _ _ (by show w.heap.size≠a;omega)];exact m))) k.o (by decide);exact bodyPost_ret (v:= .agg #[.int .i64 p,.string n,.int .i64 q]) (by simp[results,results194,go_sem,G,K,M,F]) rfl
  ⟨rfl,((((u.o.trans (j.o.keptSet _ _)).setOwn _ (vQ _)).setOwn _ (vQ _)).setOwn _ (vQ _)).alloc _,C.alloc _⟩
end
theorem Tryz.infoTy:(prog.info? 76).map (λi=>(i.zero,i.size,i.bytes))=some (some (.agg #[U 0,sN,sN,U 0]),4,64):=by kernel_rfl
section
variable{w:lZ}{B a:Nat}{c:Value}{L:List Tk}{b:Nat->Prop}{d:Nat}{s:St}
theorem K7a(w:lZ)(f e:Obj):((w.alloc f).alloc e).drew.heap[w.heap.size+1]? =some e:=by
 have:=qY (w.alloc f) e;simp only[World.size_alloc]at this;exact this
theorem I5{w:lZ}{o:Obj}{e j:Nat}{v:Value}(f:e<w.heap.size)(h:w.cell? (J e j)=some v):(w.alloc o).cell? (J e j)=some v:=by
 rw[World.cell?_of_block (Below.heap_alloc w o e f)];exact h
theorem X8{w:lZ}{o:Obj}{e j:Nat}(f:e<w.heap.size)(h:w.frozen? (J e j)=false):(w.alloc o).frozen? (J e j)=false:=by
 rw[World.frozen?_of_block (Below.heap_alloc w o e f)];exact h
theorem Pst.pushT{w w1 w2:lZ}{B a:Nat}{c:Value}{L:List Tk}{b:Nat->Prop}{d:Nat}{s:St}{o:Value}{H C:List Value}{j:Option Addr}{l g cap:Nat}{t:Ty}{M a2:Value}(T:B<=a)(a5:s.i<L.length)(a8:s.N.length<=s.i)(hf:s.T.length+1<=s.i)
 (Z:w.ownsRow 0 116 3 c L.length (F9a L)) (m:w.heap[a]? =some (.cells #[c,U (s.i:Int),U (d:Int),o,.slice j s.T.length l] 84 (0,0)))
 (W:w.ownsRow B 87 9 o s.N.length H) (A:w.ownsRow B 76 4 (.slice j s.T.length l) s.T.length C) (ae:Rws (NdV w b) s.N H) (af:Rws (TyV w b) s.T C) (ht:TyV w b t [U t.kind,M,a2,U t.of']) (z:b a/\(∀g,o.ownBlock=some g->b g)/\(∀g,Value.ownBlock (.slice j s.T.length l)=some g->b g)) (aa:b g)
 (r:I No w w1) (S:w1.grownBy w2 (Value.ownBlock (.slice j s.T.length l))) (Y:w2.ownsRow B 76 4 (.slice (some (J g 0)) (s.T.length+1) cap) (s.T.length+1) (C++[U t.kind,M,a2,U t.of'])):
 Kept B b w (w2.setCell (J a 4) (.slice (some (J g 0)) (s.T.length+1) cap))/\Pst (w2.setCell (J a 4) (.slice (some (J g 0)) (s.T.length+1) cap)) B a c L b d ⟨s.i,s.N,s.T++[t]⟩:=by
 have V:=(ltG m);have P:w1.heap[a]? =w.heap[a]? :=r.block a V (λx=>x);have ah:w1.ownsRow B 76 4 (.slice j s.T.length l) s.T.length C:=A4 A r (λ_ _ x=>x);have ac:some a≠Value.ownBlock (.slice j s.T.length l):=by
  intro f;obtain⟨_,q,h⟩:=A9 ah a f.symm;rw[P,m]at h;simp only[zQ,xW]at h;exact absurd h.2.1 (by decide)
 have R:w2.heap[a]? =some (.cells #[c,U (s.i:Int),U (d:Int),o,.slice j s.T.length l] 84 (0,0)):=by rw[S.block a (yQ V r.size) ac,P,m]
 have a6:I (λk=>some k=Value.ownBlock (.slice j s.T.length l)) w w2:=(r.mono λ_ _ x=>x.elim).trans (I.grown S) (λ_ _ x=>x);have n:I (λk=>some k=Value.ownBlock (.slice j s.T.length l)\/k=a) w (w2.setCell (J a 4) (.slice (some (J g 0)) (s.T.length+1) cap)):=(a6.mono λ_ _ x=> .inl x).trans (I.set _ _ _) (λ_ _ x=> .inr x);have X:∀{K:Nat} {e:TypeId} {a4:Nat} {v:Value} {a3:Nat} {xs:List Value},w.ownsRow K e a4 v a3 xs->e≠84->e≠76->∀k,v.ownBlock=some k->¬(some k=Value.ownBlock (.slice j s.T.length l)\/k=a):=by
  intro K e a4 v a3 xs hw u a7 k y f;obtain⟨_,q,h⟩:=A9 hw k y;rcases f with f|rfl
  · obtain⟨_,D,i⟩:=A9 A k f.symm;rw[h]at i;simp only[zQ,xW]at i;exact a7 i.2.1
  · rw[m]at h;simp only[zQ,xW]at h;exact u h.2.1.symm
 have G:∀k,b k->k<w.heap.size->(some k=Value.ownBlock (.slice j s.T.length l)\/k=a)->(∃q e,w.heap[k]? =some (.cells q e (0,0))/\(e=131\/e=3))->False:=by
  rintro k _ _ f ⟨q,e,h,u⟩;rcases f with f|rfl
  · obtain⟨_,D,i⟩:=A9 A k f.symm;rw[h]at i;simp only[zQ,xW]at i;rcases u with rfl|rfl<;>exact absurd i.2.1 (by decide)
  · rw[m]at h;simp only[zQ,xW]at h;rcases u with rfl|rfl<;>exact absurd h.2.1 (by decide)
 have E:(w2.setCell (J a 4) (.slice (some (J g 0)) (s.T.length+1) cap)).heap[a]? =some (.cells #[c,U (s.i:Int),U (d:Int),o,.slice (some (J g 0)) (s.T.length+1) cap] 84 (0,0)):=by rw[heap_setCell_same w2 a 4 _ _ _ R];rfl
 refine⟨n.mono λk y f=> ?_,T,a5,⟨a8,by simp;omega⟩,A4 Z n (X Z (by decide) (by decide)),⟨z.1,λai N p F=> ?_,λai N p F=> ?_⟩,o,_,H,_,E,A4 W n (X W (by decide) (by decide)), ?_,ae.imp (NdV.chg n G (λ_ x _=>x)),(af.imp (TyV.chg n G (λ_ x _=>x))).snoc (TyV.chg n G (λ_ x _=>x) _ _ ht)⟩
 · rcases f with f|rfl
   · obtain⟨ab,D,i⟩:=A9 A k f.symm;exact⟨ab,⟨_,_,_,i,.inr (.inr rfl)⟩,z.2.2 _ f.symm⟩
   · exact⟨T,⟨_,_,_,m,.inl rfl⟩,z.1⟩
 · rw[cell_of_row _ a 3 _ _ _ E]at p;cases p;exact z.2.1 _ F
 · rw[cell_of_row _ a 4 _ _ _ E]at p;cases p;have a9:some g=some N:=F;cases a9;exact aa
 · have:=A4 Y (I.set w2 (J a 4) (.slice (some (J g 0)) (s.T.length+1) cap)) (λk y f=>by
    have ag:k=a:=f;subst ag;obtain⟨_,D,i⟩:=A9 Y k y;rw[R]at i;simp only[zQ,xW]at i;exact absurd i.2.1 (by decide))
   simpa using this
theorem C1a(hL : LOk L)(a2 : Pst w B a c L b d s)(t : Ty)(l r : Option Addr)(n m v u : Nat)(V : TyV w b t [U t.kind, .slice l n m, .slice r v u, U t.of'])(hf : s.T.length + 1 <= s.i)(hB : B <= w.heap.size)(a7 : ∀ g, w.heap.size <= g -> b g) :
    Calls prog 103 #[pV a,.agg #[U t.kind,.slice l n m,.slice r v u,U t.of']] w λe X=>e= .returned (U (s.T.length:Int))/\Kept B b w X/\Pst X B a c L b d ⟨s.i,s.N,s.T++[t]⟩:=by
  obtain⟨a6,a3,a5,W,q,nv,yv,nx,yx,j,N,k,S,T⟩:=a2
  obtain⟨h,i,rfl⟩:=B9 k
  have hs:=hL.short
  have M:=(ltG j)
  have H:w.cell? (J a 4)=some (.slice h s.T.length i):=cr j rfl
  have Z:∀o,w.frozen? (J a o)=false:=λo=>frozen_of_row w a o _ _ j
  have C:b a/\(∀g,nv.ownBlock=some g->b g)/\(∀g,Value.ownBlock (.slice h s.T.length i)=some g->b g):=⟨q.1,λg f=>q.2.1 _ g (cr j rfl) f,λg f=>q.2.2 _ g H f⟩
  have E:=O (λ(y ab:lZ) (g z:Nat)=>Pst.pushT (w1:=y) (w2:=ab) (g:=g) (cap:=z) a6 a3 a5.1 hf W j N k S T V C)
  have Y:=O (λ(g:Nat) (f:Value.ownBlock (.slice h s.T.length i)=some g\/g=w.heap.size+2)=>show b g from by rcases f with f|f;exact C.2.2 g f;exact a7 g (by omega))
  clear q C
  have P:Value.ownBlock (.slice h s.T.length i)≠some a:=by
    intro D
    obtain⟨_,ac,A⟩:=A9 k a D
    rw[j]at A
    simp only[zQ,xW]at A
    exact absurd A.2.1 (by decide)
  have af:Value.ownBlock (.slice h s.T.length i)≠some w.heap.size:=by
    intro D
    have:=(k.lt _ D).2
    omega
  have G:=O k
  obtain⟨i0,hi,a8,a9,aa⟩:=info_parts Tryz.infoTy
  clear V W j N k S T
  go_enter func103,ntmps103
  go_wp2_with fail
  go_region_law ((refine step_append_lies _ (by rfl) _ _ _ (by rfl) B 76 i0 _ 4 64 underlying38 hi a8 a9 aa rfl (by omega) (.slice h s.T.length i) s.T.length yx (by rfl) (((G.o.alloc _).alloc _).drew) (J (w.heap.size + 1) 0) 1 1 [U t.kind, .slice l n m, .slice r v u, U t.of'] (by rfl) (by rfl) (World.news_of_block (cs := #[U t.kind, .slice l n m, .slice r v u, U t.of']) (t := 76) (fr := (0, 0)) (K7a w _ _)) (by simp [Value.oneCell']) (by omega) (by simp only [maxLen]; omega) (by omega) (by simp; omega) (w.heap.size + 2) (by simp) ?_
                  intro K z y R p a4 ae
                  have z4:y.cell? (J a 4)=some (.slice h s.T.length i):=by rw[p.cell_far _ (by simp;omega) (Ne.symm P)];exact I5 (by simp;omega) (I5 M H)
                  have y4:y.frozen? (J a 4)=false:=by rw[p.frozen_far _ (by simp;omega) (Ne.symm P)];exact X8 (by simp;omega) (X8 M (Z 4))))
  all_goals
    have F:=O (E.o _ _ K z (Y.o K a4) (((I.alloc No w _).trans (I.alloc No _ _) (λ_ _ x=>x)).trans (I.drewN No _ 1) (λ_ _ x=>x)) p R)
    clear p R E G
    go_wp2
    go_ret
    exact⟨M7 (by omega),F.o.1,F.o.2⟩
end
def F6(s a:St):Prop:=s.i<a.i/\a.N.length+s.i<=s.N.length+a.i/\a.T.length+s.i<=s.T.length+a.i/\s.N.length<=a.N.length
def M0d(w:lZ)(B g:Nat)(h:Value)(L:List Tk)(b:Nat->Prop)(d:Nat)(s:St)(i:Sp->Option (Out Int))(e:Ending)(f:lZ):Prop:=
 Kept B b w f/\∃o,Ev L i o/\match o with
  | .ok c x=>e= .returned (U x)/\Pst f B g h L b d c/\F6 s c
  | .fail a p=>e=gu a p/\a≠0
def Con(B b:Nat)(c:Value)(L:List Tk)(K:Nat)(e:Nat->St->Sp->Option (Out Int))(m:Nat):Prop:=
 ∀(w:lZ) (a:Nat->Prop) (d:Nat) (s:St),L.length - s.i<=m->(∀g,w.heap.size<=g->a g)->B<=w.heap.size->Pst w B b c L a d s->
  Calls prog K #[pV b] w (M0d w B b c L a d s (e d s))
section
variable{w:lZ}{B a:Nat}{b:Value}{L:List Tk}{ok:Nat->Prop}{d:Nat}{s:St}
theorem T7a(j:LOk L)(h:Pst w B a b L ok d s):
 Calls prog 166 #[pV a] w λe t=>Kept B ok w t/\
  ((tk L s.i).kind=1/\e= .returned (.string ⟨(tk L s.i).text.toArray⟩)/\Pst t B a b L ok d s.nx\/(tk L s.i).kind≠1/\e=gu 1 ((tk L s.i).at':Int)):=by
 have H:=V8 j h;have l:=λf (i:Pst f B a b L ok d s)=>Z6 j i 1;have g:=λf (i:Pst f B a b L ok d s)=>J4a j i;have o:=O (λf (c:I No w f)=>h.still c);have C:=Y9;have D:=B6a;generalize tk L s.i=x at *;obtain⟨r,y,F⟩:=x;simp only[tkv]at H g l⊢;generalize (⟨y.toArray⟩:ByteArray)=A at *;clear h;go_enter func166,ntmps166;go_wp2_with fail
 refine H.mono ?_;clear H;rintro e f ⟨rfl,c⟩;have n:=O (o.o f c);have m:=O (C7 (B:=B) (ok:=ok) c);clear c o;by_cases k:r=1
 · subst k;go_wp2_with fail
   refine(g _ n.o (by decide)).mono ?_;clear g;rintro e z ⟨rfl,p,q⟩;have u:=O (m.o.trans p);have v:=O q;clear p q;go_wp2;go_ret;exact⟨u.o,rfl,v.o⟩
 · have E:(r==1)=false:=by simp[k]
   go_wp2_with fail
   refine(l _ n.o).mono ?_;rintro e z ⟨rfl,c⟩;exact⟨rfl,m.o.trans (C7 c),.inr ⟨k,rfl⟩⟩
theorem E8b(w:lZ)(t:bZ):
 Calls prog 180 #[.string ⟨t.toArray⟩] w λe c=>e= .returned (U (H7 t))/\c=w:=by
 go_enter func180,ntmps180;go_wp2;all_goals go_ret
 all_goals exact⟨M7 (by simp_all [H7]),rfl⟩
theorem M9b{f:Type}{L:List Tk}{c:Sp->Option (Out f)}{i:Nat}{e:Int}(h:∀r,c r=fltQ L i e):Ev L c (.fail e ((tk L i).at':Int)):=Ev.pure.eq h
theorem U5a(H:LOk L)(m:Nat)(n:Nat->St->Sp->Option (Out Int))(x:Con B a b L 61 n m)(i:Bool)(N:L.length - s.i<=m)(P:∀g,w.heap.size<=g->ok g)(G:B<=w.heap.size)(h:Pst w B a b L ok d s):
 Calls prog 60 #[pV a,.bool i,.func (.func 61) #[pV a] #[]] w (M0d w B a b L ok d s (λr=>insideQ L i d s (λd s=>n d s r))):=by
 obtain⟨g,c,nv,yv,-,-,-,-,Z,-,S,T,-,-,W,-⟩:=h.cell;have f:=λv=>Z6 H h v;have t:=O h;clear h;cases i
 · go_enter func60,ntmps60;go_wp2_with fail
   refine(f 1).mono ?_;rintro e D ⟨rfl,j⟩;exact⟨rfl,C7 j,_,M9b (e:=1) (i:=s.i) (λr=>by simp[insideQ]),rfl,by decide⟩
 · by_cases k:20<=d
   · have K:(20:Int)<=(d:Int):=by omega
     go_enter func60,ntmps60;go_wp2_with fail
     refine(f 8).mono ?_;rintro e D ⟨rfl,j⟩;exact⟨rfl,C7 j,_,M9b (e:=8) (i:=s.i) (λr=>by simp[insideQ,k]),rfl,by decide⟩
   · have K:¬(20:Int)<=(d:Int):=by omega
     have E:=O k;clear k;go_enter func60,ntmps60;go_wp2_with fail
     refine(x _ ok (d+1) s N (by simpa using P) (by simpa using G) (by simpa using t.o.deeper (d+1))).mono ?_;rintro e D ⟨A,o,y,C⟩;have q:=O ((t.o.keptSet 2 _).trans A);have p:=O (y.eq (ψ:=λr=>insideQ L true d s (λd s=>n d s r)) (λr=>by simp[insideQ,E.o]));cases o with
     |fail v a4=>
      obtain⟨rfl,M⟩:=C;exact⟨rfl,q.o,_,p.o,rfl,M⟩
     |ok s' a5=>
      obtain⟨rfl,l,z⟩:=C;have u:=O l;have F:=O z;obtain⟨Y,R,a3,a6,-,-,-,-,a2,-,-,V,-,-,X,-⟩:=l.cell;clear l z y A f x;go_wp2_with fail
      go_ret;exact⟨q.o.trans (u.o.keptSet _ _),_,p.o,rfl,u.o.deeper d,F.o⟩
def T0a(c:List bZ):Array Value:=(c.map λm=>Value.string ⟨m.toArray⟩).toArray
theorem A5a(w:lZ)(c:List bZ)(t:TypeId):Strs (w.alloc (.cells (T0a c) t)) w.heap.size c:=by
 refine⟨by simp,λj e=> ?_⟩;rw[World.cell?_alloc_new];simp[T0a,e]
theorem N3d(v:LOk L)(m:Nat)(y:Con B a b L 61 (λd s r=>r.union d s) m):Con B a b L 31 (λd s r=>r.typ d s) m:=by
 intro w ok d s M P G h;have n:=λj (f:I No w j) (c:Bool)=>U5a (w:=j) (ok:=ok) v m _ y c M (λg i=>P g (kQ f.size i)) (kQ G f.size) (h.still f);have t:=I0a v (h.alloc (.cells (T0a A3a) 9)) w.heap.size 9 A3a (A5a _ _ _) (by decide);clear y;have l:=O (λc (H:c=isM L s.i A3a) o (N:Ev L (λr=>insideQ L c d s (λd s=>r.union d s)) o)=>(Ev.step (φ:=λr=>r.typ d s) (N.eq (λr=>by rw[H];rfl))));generalize isM L s.i A3a=c at *;go_enter func31,ntmps31;go_wp2_with fail
 refine t.mono ?_;clear t;rintro e j ⟨rfl,f⟩;have k:=O ((I.alloc No w _).trans f (λ_ _ x=>x));clear f;go_wp2_with fail
 refine(n j k.o c).mono ?_;clear n;rintro e T ⟨A,o,z,D⟩;have q:=O ((C7 k.o).trans A);have u:=O (l.o c rfl o z);clear A z l;cases o with
 |fail R p=>
  obtain⟨rfl,K⟩:=D;exact⟨rfl,q.o,_,u.o,rfl,K⟩
 |ok S x=>
  obtain⟨rfl,C,i⟩:=D;have F:=O C;have E:=O i;clear C i;go_wp2_with fail
  go_ret;exact⟨q.o,_,u.o,rfl,F.o,E.o⟩
theorem J2{f:Sp->Option (Out Int)}{e:lZ}{c p:Int}(i:Kept B ok w e)(h:Ev L f (.fail c p))(g:c≠0):M0d w B a b L ok d s f (gu c p) e:=⟨i,_,h,rfl,g⟩
theorem B4a{f:Sp->Option (Out Int)}{e:lZ}{c:St}{x:Int}(i:Kept B ok w e)(g:Ev L f (.ok c x))(j:Pst e B a b L ok d c)(h:F6 s c):M0d w B a b L ok d s f (.returned (U x)) e:=⟨i,_,g,rfl,j,h⟩
theorem G5b(w:lZ)(ok:Nat->Prop)(k o:Int):TyV w ok ⟨k,[],[],o⟩ [U k,sN,sN,U o]:=
 ⟨_,_,rfl,kW _ _ _ _,kW _ _ _ _,by simp[Value.ownBlock],by simp[Value.ownBlock]⟩
def Q4a(L:List Tk)(s:St):Option (Out Int):=if (tk L s.i).kind=2/\H7 (tk L s.i).text≠0 then addTQ s.nx ⟨H7 (tk L s.i).text,[],[],0⟩ else fltQ L s.i 1
theorem E7b(l:LOk L)(S:B<=w.heap.size)(X:∀g,w.heap.size<=g->ok g)(h:Pst w B a b L ok d s):
 Calls prog 141 #[pV a] w (M0d w B a b L ok d s (λ_=>Q4a L s)):=by
 have H:=λf (i:Pst f B a b L ok d s)=>V8 l i;have j:=λf (i:Pst f B a b L ok d s)=>Z6 l i 1;have y:=λf (i:Pst f B a b L ok d s.nx) (u:w.heap.size<=f.heap.size) (k:Int)=>C1a l i ⟨k,[],[],0⟩ none none 0 0 0 0 (G5b f ok k 0) (by show s.T.length+1<=s.i+1;have:=h.few;omega) (kQ S u) (λg T=>X g (kQ u T));have a4:=Y9;have a5:=B6a;have u:=l.short;have W:=h.at';have A:=O (λ(p:(tk L s.i).kind=2)=>show s.i+1<L.length by
  have i:=l.last s.i W;by_cases R:s.i+1=L.length
  · have:=i.2 R;omega
  · omega)
 have o:=O (show Q4a L s=if (tk L s.i).kind=2/\H7 (tk L s.i).text≠0 then addTQ s.nx ⟨H7 (tk L s.i).text,[],[],0⟩ else some (.fail 1 ((tk L s.i).at':Int)) from rfl);have D:=O h;clear h;generalize Q4a L s=V at *;generalize tk L s.i=Y at *;obtain⟨K,v,pl⟩:=Y;simp only[tkv]at H j A o;have E:=λf=>E8b f v;generalize H7 v=pk at *;generalize (⟨v.toArray⟩:ByteArray)=Z at *;go_enter func141,ntmps141;go_wp2_with fail
 refine(H _ D.o).mono ?_;rintro e f ⟨rfl,c⟩;have m:=O (D.o.still c);have q:=O c;clear c;by_cases p:K=2
 · subst p;go_wp2_with fail
   refine(H _ m.o).mono ?_;clear H;rintro e aa ⟨rfl,c⟩;have n:=O (m.o.still c);have r:=O (q.o.trans c (λ_ _ x=>x));clear c m q;go_wp2_with fail
   refine(E _).mono ?_;clear E;rintro e ab ⟨rfl,rfl⟩;by_cases t:pk=0
   · subst t;go_wp2_with fail
     refine(j _ n.o).mono ?_;clear j;rintro e M ⟨rfl,c⟩;exact⟨rfl,J2 ((C7 r.o).trans (C7 c)) (Ev.pure.eq (λ_=>by rw[o.o];simp)) (by decide)⟩
   · have a8:(pk==0)=false:=by simp[t]
     obtain⟨g',c',a9,ac,-,-,-,-,a7,-,a2,-,-,-,a3,-⟩:=n.o.cell;have C:=O (n.o.next (A.o trivial));have z:=O ((C7 r.o).trans (n.o.keptSet 1 (U ((s.i:Int)+1))));go_wp2_with fail
     refine(y _ C.o (by have:=r.o.size;simp;omega) pk).mono ?_;clear y;rintro e M ⟨rfl,F,G⟩;have N:=O (z.o.trans F);have P:=O G;clear F G C z;go_wp2_with fail
     go_ret;exact B4a N.o (Ev.pure.eq (λ_=>by rw[o.o];simp[t,addTQ])) P.o (by simp[F6,St.nx];omega)
 · have a6:(K==2)=false:=by simp[p]
   go_wp2_with fail
   refine(j _ m.o).mono ?_;clear j;rintro e M ⟨rfl,c⟩;exact⟨rfl,J2 ((C7 q.o).trans (C7 c)) (Ev.pure.eq (λ_=>by rw[o.o];simp[p])) (by decide)⟩
theorem Y4a{s c:St}(h:F6 s.nx c):F6 s c:=by
 obtain⟨e,f,g,i⟩:=h;simp only[St.nx]at e f g i;exact⟨by omega,by omega,by omega,by omega⟩
theorem B7c(E:LOk L)(m:Nat)(a5:∀y,y<m->Con B a b L 31 (λd s r=>r.typ d s) y)
 (a4:∀y,y<m->Con B a b L 138 (λd s r=>r.objL d s []) y) (a3:∀y,y<m->Con B a b L 140 (λd s r=>r.fob d s) y):
 Con B a b L 101 (λd s r=>r.member d s) m:=by
 intro w ok d s hm F D h;have hi:=h.at';have V:=E.short;have H:=λc (k:Pst c B a b L ok d s) mk=>G8 E k mk;have a7:=λc (k:Pst c B a b L ok d s) (l:w.heap.size<=c.heap.size)=>E7b E (kQ D l) (λg j=>F g (kQ l j)) k;have HO:=λc (k:Pst c B a b L ok d s.nx) (l:w.heap.size<=c.heap.size)=>a4 (L.length - (s.i+1)) (by omega) c ok d s.nx (vQ _) (λg j=>F g (kQ l j)) (kQ D l) k;have HB:=λc (k:Pst c B a b L ok d s.nx) (l:w.heap.size<=c.heap.size)=>a3 (L.length - (s.i+1)) (by omega) c ok d s.nx (vQ _) (λg j=>F g (kQ l j)) (kQ D l) k;have HY:=λc (k:Pst c B a b L ok d s.nx) (l:w.heap.size<=c.heap.size)=>a5 (L.length - (s.i+1)) (by omega) c ok d s.nx (vQ _) (λg j=>F g (kQ l j)) (kQ D l) k;have HN:=λc G (k:Pst c B a b L ok d G)=>J0 E k [93];have HA:=λc (G:St) (k:Pst c B a b L ok d G) (V:w.heap.size<=c.heap.size) (hq:G.T.length+1<=G.i) (a6:Int)=>C1a E k ⟨8,[],[],a6⟩ none none 0 0 0 0 (G5b c ok 8 a6) hq (kQ D V) (λg j=>F g (kQ V j));have C:Hid (∀o,Ev L (λr=>if isM L s.i [[123]] then r.objL d s.nx [] else if isM L s.i [[91]] then A3 (r.typ d s.nx) λs x=>A3 (needQ L s [93]) λs _=>addTQ s ⟨8,[],[],x⟩
  else if isM L s.i [[40]] then r.fob d s.nx else Q4a L s) o->Ev L (λr=>r.member d s) o):=λo ho=>Ev.step (ho.eq (λr=>rfl))
 have HF:=O h.few;have HP:=O h;clear h a5 a4 a3;have Y:=H w HP.o [123];have Z:=λc (k:Pst c B a b L ok d s)=>H c k [91];have H3:=λc (k:Pst c B a b L ok d s)=>H c k [40];clear H;generalize isM L s.i [[123]]=b1 at *;generalize isM L s.i [[91]]=b2 at *;generalize isM L s.i [[40]]=b3 at *;generalize Q4a L s=a9 at *;go_enter func101,ntmps101;go_wp2_with fail
 refine Y.mono ?_;clear Y;rintro e c ⟨rfl,f,i⟩;have K:=O f;have R:=O i;clear f i;cases b1
 · go_wp2_with fail
   refine(Z _ (by simpa using R.o)).mono ?_;clear Z;rintro e aa ⟨rfl,f,i⟩;have M:=O (K.o.trans f);have S:=O i;clear f i R K;cases b2
   · go_wp2_with fail
     refine(H3 _ (by simpa using S.o)).mono ?_;clear H3;rintro e ab ⟨rfl,f,i⟩;have N:=O (M.o.trans f);have a2:=O i;clear f i S M;cases b3
     · go_wp2_with fail
       refine(a7 _ (by simpa using a2.o) N.o.size).mono ?_;rintro e X ⟨f,o,t,u⟩;have q:=O (N.o.trans f);have n:=O (C.o o (t.eq (λr=>by simp)));clear f t;cases o with
       |fail T p=>
        obtain⟨rfl,A⟩:=u;exact⟨rfl,J2 q.o n.o A⟩
       |ok W x=>
        obtain⟨rfl,i,j⟩:=u;have v:=O i;have z:=O j;clear i j;go_wp2_with fail
        go_ret;exact B4a q.o n.o v.o z.o
     · go_wp2_with fail
       refine(HB _ (by simpa using a2.o) N.o.size).mono ?_;rintro e X ⟨f,o,t,u⟩;have q:=O (N.o.trans f);have n:=O (C.o o (t.eq (λr=>by simp)));clear f t;cases o with
       |fail T p=>
        obtain⟨rfl,A⟩:=u;exact⟨rfl,J2 q.o n.o A⟩
       |ok W x=>
        obtain⟨rfl,i,j⟩:=u;have v:=O i;have z:=O (Y4a j);clear i j;go_wp2_with fail
        go_ret;exact B4a q.o n.o v.o z.o
   · go_wp2_with fail
     refine(HY _ (by simpa using S.o) M.o.size).mono ?_;rintro e X ⟨f,o,t,u⟩;have q:=O (M.o.trans f);have n:=O t;clear f t;cases o with
     |fail T p=>
      obtain⟨rfl,A⟩:=u;exact⟨rfl,J2 q.o (C.o _ ((Ev.bad n.o).eq (λr=>by simp;rfl))) A⟩
     |ok W x=>
      obtain⟨rfl,i,j⟩:=u;have v:=O i;have z:=O (Y4a j);clear i j;go_wp2_with fail
      refine(HN _ _ v.o).mono ?_;rintro e ac ⟨f,hr⟩;have P:=O (q.o.trans f);clear f;rcases hr with ⟨l,rfl,i⟩|⟨l,rfl⟩
      · have a8:=O i;have B5:=O l;clear i l;go_wp2_with fail
        refine(HA _ _ a8.o P.o.size (by have:=v.o.few;simp[St.nx];omega) x).mono ?_;rintro e ad ⟨rfl,f,i⟩;have K6:=O (P.o.trans f);have P6:=O i;clear f i;go_wp2_with fail
        go_ret;refine B4a K6.o (C.o _ (Ev.eq (Ev.bind n.o (k:=λ_ s x=>A3 (needQ L s [93]) λs _=>addTQ s ⟨8,[],[],x⟩) (Ev.pure.eq (λr=> ?_))) (λr=>by simp))) P6.o ?_
        · simp[needQ,B5.o,A3,addTQ]
        · have:=z.o;simp only[F6,St.nx,qQ,jQ,xQ]at this⊢;omega
      · refine⟨rfl,J2 P.o (C.o _ (Ev.eq (Ev.bind n.o (k:=λ_ s x=>A3 (needQ L s [93]) λs _=>addTQ s ⟨8,[],[],x⟩) (Ev.pure.eq (λr=> ?_))) (λr=>by simp))) (by decide)⟩;simp[needQ,l,A3,fltQ]
 · go_wp2_with fail
   refine(HO _ (by simpa using R.o) K.o.size).mono ?_;rintro e X ⟨f,o,t,u⟩;have q:=O (K.o.trans f);have n:=O (C.o o (t.eq (λr=>by simp)));clear f t;cases o with
   |fail T p=>
    obtain⟨rfl,A⟩:=u;exact⟨rfl,J2 q.o n.o A⟩
   |ok W x=>
    obtain⟨rfl,i,j⟩:=u;have v:=O i;have z:=O (Y4a j);clear i j;go_wp2_with fail
    go_ret;exact B4a q.o n.o v.o z.o
theorem Tryz.infoInt:(prog.info? 3).map (λi=>(i.zero,i.size,i.bytes))=some (some (U 0),1,8):=by kernel_rfl
theorem Pst.grown{w p:lZ}{q y n:Nat}{e:TypeId}{v v':Value}{z:List Value}(h:Pst w B a b L (λg=>ok g/\some g≠v.ownBlock) d s)(t:w.ownsRow q e y v n z)(c:e=3\/e=131)(i:w.grownBy p v.ownBlock)
 (r:v'.ownBlock=v.ownBlock\/v'.ownBlock=some w.heap.size):Pst p B a b L (λg=>ok g/\some g≠v'.ownBlock) d s:=by
 refine h.chg (I.grown i) (λk A E o f=> ?_) (λg i F=> ?_)
 · obtain⟨_,C,l⟩:=A9 t k f.symm;rw[o]at l;simp only[zQ,xW]at l;obtain⟨_,rfl,_⟩:=l;refine⟨by rcases c with rfl|rfl<;>decide,by rcases c with rfl|rfl<;>decide,by rcases c with rfl|rfl<;>decide,λu=> ?_,λ_ x=>x.2 f⟩;obtain⟨_,D,m⟩:=A9 h.toks k u;rw[o]at m;simp only[zQ,xW]at m;obtain⟨_,rfl,_⟩:=m;rcases c with c|c<;>exact absurd c (by decide)
 · refine⟨i.1,λf=> ?_⟩;rcases r with j|j
   · exact i.2 (by rw[<-j];exact f)
   · rw[j]at f;simp only[zQ]at f;omega
theorem Kept.grown{ok:Nat->Prop}{c w f:lZ}{l n:Nat}{e:TypeId}{v:Value}{m:List Value}(h:Kept B ok c w)(j:w.ownsRow c.heap.size e l v n m)(g:w.grownBy f v.ownBlock):Kept B ok c f:=
 h.trans' (I.grown g) (λi o k=>by have:=(A9 j i k.symm).1;omega)
theorem Y2c(w:lZ)(c:Nat)(e:c<=w.heap.size)(x:Int):(w.alloc (.cells #[U x] 3)).ownsRow c 3 1 (.slice (some (J w.heap.size 0)) 1 1) 1 (C8 [x]):=
 ⟨rfl,.inr ⟨w.heap.size,1,#[U x],rfl,e,qY w _,by omega,by simp[maxLen],rfl,rfl⟩⟩
def nxt(w:lZ)(a:Nat):Nat:=(intOf ((w.cell? (J a 1)).getD (U 0))).toNat
theorem Pst.nxt(h:Pst w B a b L ok d s):nxt w a=s.i:=by
 obtain⟨g,c,f,i,-,-,-,-,-,-,e,-⟩:=h.cell;simp[YtneelacbkianjaaGreatDoor.nxt,e,intOf]
theorem M7c(R:LOk L)(a6:Nat)(aa:∀m',m'<=a6->Con B a b L 101 (λd s r=>r.member d s) m'):
 Con B a b L 61 (λd s r=>r.union d s) a6:=by
 intro w ok d s hm S hB h;have hi:=h.at';have hs:=R.short;have H1:=aa a6 (vQ _) w ok d s hm S hB h;have HF:=O h.few.2;have X:Hid (∀o,Ev L (λr=>A3 (r.member d s) λs x=>if isM L s.i [[124]] then A3 (r.unionL d s [x]) λs l=>addTQ s ⟨10,[],l,0⟩ else some (.ok s x)) o->Ev L (λr=>r.union d s) o):=λo u=>Ev.step (u.eq (λr=>rfl));clear h;go_enter func61,ntmps61;go_wp2_with fail
 refine H1.mono ?_;clear H1;rintro e ae ⟨k,o,D,E⟩;have Z:=O k;have W:=O D;clear k D;cases o with
 |fail er ao=>
  obtain⟨rfl,he⟩:=E;exact⟨rfl,J2 Z.o (X.o _ (Ev.bad W.o)) he⟩
 |ok s1 x=>
  obtain⟨rfl,m,j⟩:=E;have a7:=O m;have F:=O j;have HI:=I0a R (m.alloc (.cells (T0a [[124]]) 9)) ae.heap.size 1 [[124]] (A5a _ _ _) (by decide);clear m j;have Y:=O (λo u=>X.o o (Ev.bind W.o u));clear X W;generalize hb:isM L s1.i [[124]]=ag at *;have B1:=O hb;clear hb;go_wp2_with fail
  refine HI.mono ?_;clear HI;rintro e ar ⟨rfl,hc⟩;have a3:=O ((a7.o.alloc _).still hc);have H:=O (Z.o.trans (((Kept.refl B ok ae).alloc _).trans (C7 hc)));clear hc a7 Z;cases ag
  · go_wp2_with fail
    go_ret;exact B4a H.o (Y.o _ (Ev.pure.eq (λr=>by simp))) a3.o F.o
  · have HB:=O B1.o;go_wp2_with fail
    go_loopw [4] (λaq wr=>∃(i:uZ) (f:St) (n:Option Addr) (c:Nat),aq= .slice n i.length c/\i.length<=f.i/\Hid (isM L f.i [[124]]=true\/f.T.length+1+s.i<=s.T.length+f.i)/\Hid (Kept B ok w wr)/\Hid (F6 s f)/\Hid (wr.ownsRow w.heap.size 3 1 (.slice n i.length c) i.length (C8 i))/\
     Hid (Pst wr B a b L (λg=>ok g/\some g≠Value.ownBlock (.slice n i.length c)) d f)/\Hid (∀o,Ev L (λr=>A3 (r.unionL d f i) λs l=>addTQ s ⟨10,[],l,0⟩) o->Ev L (λr=>r.union d s) o)) (λ_ wr=>L.length - nxt wr a)
    case atStart=>
     refine⟨[x],s1,_,1,rfl,by have:=F.o.1;simp;omega,.inl B1.o,H.o.alloc _,F.o,Y2c ar _ H.o.size x,a3.o.chg (I.alloc No _ _) (λ_ _ _ _ x=>x.elim) (λg j hl=>⟨j,by simp[Value.ownBlock];omega⟩),λo u=>Y.o o (u.eq (λr=>by simp))⟩
    case round=>
     clear Y a3 H F;obtain⟨i,f,n,c,rfl,au,SR,KR,G,OR,P,C⟩:=hrel;have HT:=G8 R P.o [124];have av:=P.o.at';have ak:=P.o.nxt;generalize hq:isM L f.i [[124]]=ap at *;have Q1:=O hq;clear hq;go_wp2_with fail
     refine HT.mono ?_;clear HT;rintro e V ⟨rfl,k,m⟩;have p:=O (KR.o.trans (k.mono λ_ h=>h.1));have M:=O m;have z:=O (G0 OR.o k (by decide));clear k m OR P KR;cases ap
     · have S2:f.T.length+1+s.i<=s.T.length+f.i:=by
        rcases SR.o with q|q
        · cases q
        · exact q
       have hT:=HF.o;have PY:Pst V B a b L (λg=>ok g/\some g≠Value.ownBlock (.slice n i.length c)) d f:=by simpa using M.o
       have A:Pst V B a b L ok d f:=PY.mono (λg j _=>j.1);have HA:=C1a R A ⟨10,[],i,0⟩ none n 0 0 i.length c ⟨_,_,rfl,kW _ _ _ _,C9 z.o (wQ _),by simp[Value.ownBlock],λg j=>S g (A9 z.o g j).1⟩ (by omega) (kQ hB p.o.size) (λg j=>S g (kQ p.o.size j));have EV:=O (C.o _ (Ev.bind (s:=f) (x:=i) (k:=λ_ s l=>addTQ s ⟨10,[],l,0⟩) (Ev.step (Ev.pure.eq (λr=>by show (if isM L f.i [[124]] then _ else _)=_;rw[Q1.o];rfl))) Ev.pure));have GX:=O (show F6 s ⟨f.i,f.N,f.T++[⟨10,[],i,0⟩]⟩ by
        have t:=G.o;simp only[F6,qQ,jQ,xQ]at t⊢
        omega)
       clear C z M A PY G;go_wp2_with fail
       refine HA.mono ?_;clear HA;rintro e af ⟨rfl,k,m⟩;have v:=O (p.o.trans k);have N:=O m;clear k m;go_wp2_with fail
       go_ret;exact B4a v.o EV.o N.o GX.o
     · have A:Pst V B a b L (λg=>ok g/\some g≠Value.ownBlock (.slice n i.length c)) d f.nx:=by simpa using M.o
       have aw:=A.at';have hj:s.i<f.i:=G.o.1;have HM:=aa (L.length - f.nx.i) (by simp only[St.nx];omega) V _ d f.nx (vQ _) (λg j=>⟨S g (kQ p.o.size j),λhx=>by have:=(z.o.lt g hx.symm).2;omega⟩) (kQ hB p.o.size) A;clear M A;go_wp2_with fail
       refine HM.mono ?_;clear HM;rintro e af ⟨k,o,D,E⟩;have v:=O (p.o.trans (k.mono λ_ h=>h.1));have K:=O (G0 z.o k (by decide));have E4:=O D;clear k D p z;cases o with
       |fail er ao=>
        obtain⟨rfl,he⟩:=E;exact⟨rfl,J2 v.o (C.o _ (Ev.bad (Ev.step ((Ev.bad E4.o).eq (λr=>by show (if isM L f.i [[124]] then _ else _)=_;rw[Q1.o];rfl))))) he⟩
       |ok s4 y=>
        obtain⟨rfl,m,j⟩:=E;have N:=O m;have G4:=O j;have ax:=m.at';clear m j;have VN:=O (λo (u:Ev L (λr=>A3 (r.unionL d s4 (i++[y])) λs l=>addTQ s ⟨10,[],l,0⟩) o)=>C.o o (by
         obtain⟨ah,q⟩:=E4.o;obtain⟨ai,t⟩:=u;refine⟨ah+ai+1,λa9 hf=> ?_⟩;obtain⟨g,rfl⟩:∃g,a9=g+1:=⟨a9 - 1,by omega⟩;have a1:(sp' L g).member d f.nx=some (.ok s4 y):=q g (by omega);have a2:=t g (by omega);show A3 (if isM L f.i [[124]] then A3 ((sp' L g).member d f.nx) λs x=>(sp' L g).unionL d s (i++[x]) else some (.ok f i)) _=some o;rw[Q1.o,rY rfl,a1];exact a2))
        clear C;obtain⟨i0,aj,al,am,an⟩:=info_parts Tryz.infoInt;have ac:=O (K.o.alloc (.cells #[U y] 3));go_wp2_with (at_builtin;refine wpList_append_own_at _ rfl _ _ 43 rfl w.heap.size 3 i0 (U 0) 1 8 underlying43 aj al am an rfl (by decide) _ _ _ rfl ac.o (J af.heap.size 0) 1 1 [U y] rfl rfl ?c1 ?c2 ?c3 ?c4 ?c5 ?_)
        case c1=>exact cell_one_new _ _ _
        case c2=>intro ay hu;simp at hu;rcases hu with rfl;rfl
        case c3=>simp only[maxLen];omega
        case c4=>omega
        case c5=>have:=v.o.size;simp;omega
        · intro v' az T a5 _ a4;obtain⟨a8,c2,ab⟩:=B9 T;rw[ab]at T a4⊢;have PG:=O ((N.o.alloc (.cells #[U y] 3)).grown (v:= .slice n i.length c) (v':= .slice a8 (i.length+1) c2) (K.o.alloc _) (.inl rfl) a5 (by simpa using a4));have KG:=O ((v.o.alloc (.cells #[U y] 3)).grown (K.o.alloc _) a5);have OG:=O T;clear T a5 a4 ac N K v ab;go_wp2_with fail
          go_roundw
          case rel=>
           have q:=G.o;have t:=G4.o;simp only[F6,St.nx]at q t;refine⟨i++[y],s4,a8,c2,by simp,by simp;omega,.inr (by omega),KG.o,⟨by omega,by omega,by omega,by omega⟩, ?_, ?_,VN.o⟩
           · have:=OG.o;show World.ownsRow _ _ _ _ _ _ _;rw[T7];simpa using this
           · have:=PG.o;show Pst _ _ _ _ _ _ _ _;simpa using this
          case measure=>
           have t:=G4.o;have h3:=PG.o.nxt;simp only[F6,St.nx]at t;rw[h3,ak];omega
end
theorem tA{P:Program}{f:Region.Mode}{b:Array Oper}{d:Exit->Act->lZ->Prop}{S:lZ->Prop}{i k:Nat}{m:Op}{o:TypeId}{n:String}{g:Array Edge}{l:Option (Nat×Bool)}{v:Value}{j:Nat}{e:Array Bool}{a:Act}{w:lZ}(s:b[i]? =some (Oper.mk (some k) m o n g l))
 (h:wpAnyH P f b d S j (e.setIfInBounds i true) (a.put (some k) v) w) (u:Region.noSelect b=true:=by kernel_rfl) (r:Region.free f b e i=true:=by kernel_rfl) (t:(Region.ready f b e).contains i=true:=by kernel_rfl) (p:∀c a w,d (.panic c) (a.put (some k) v) w->d (.panic c) a w:=by exact λ_ _ _ h=>h)
 (hy:YieldsIf P b S (Oper.mk (some k) m o n g l) v a:=by exact Or.inl ⟨by rfl,λw x=>by go_simp⟩) (q:S w:=by assumption):wpAnyH P f b d S (j+1) e a w:=wpAnyH_take s u r t p hy q h
theorem tU{P:Program}{f:Region.Mode}{b:Array Oper}{d:Exit->Act->lZ->Prop}{S:lZ->Prop}{i k:Nat}{m:Op}{o:TypeId}{n:String}{g:Array Edge}{l:Option (Nat×Bool)}{j:Nat}{e:Array Bool}{a:Act}{w:lZ}(s:b[i]? =some (Oper.mk (some k) m o n g l))
 (h:wpAnyH P f b d S j (e.setIfInBounds i true) (a.put (some k) undef) w) (u:Region.noSelect b=true:=by kernel_rfl) (r:Region.free f b e i=true:=by kernel_rfl) (t:(Region.ready f b e).contains i=true:=by kernel_rfl) (p:∀c a w,d (.panic c) (a.put (some k) undef) w->d (.panic c) a w:=by exact λ_ _ _ h=>h)
 (v:YieldsIf P b S (Oper.mk (some k) m o n g l) undef a:=by exact Or.inr ⟨by rfl,rfl⟩) (q:S w:=by assumption):wpAnyH P f b d S (j+1) e a w:=wpAnyH_take s u r t p v q h
theorem aT{b:Type}(l:List b)(i:Nat)(a:b):l.toArray.setIfInBounds i a=(l.set i a).toArray:=yZ ..
theorem a0{c:Type}(a b:c)(l:List c):(a::l).set 0 b=b::l:=rfl
theorem a1{c:Type}(a b:c)(l:List c)(n:Nat):(a::l).set (n+1) b=a::l.set n b:=rfl
section
variable{w:lZ}{B a:Nat}{b:Value}{L:List Tk}{ok:Nat->Prop}{d:Nat}{s:St}
theorem W3a{p:V4a}{E:bZ}{f:List bZ}{c:uZ}(e:isM L s.i [E]=true):Ev L (λr=>r.list p E d s f c) (.ok s.nx c):=
 Ev.step (Ev.pure.eq λr=>by show (if isM L s.i [E] then _ else _)=_;rw[e];rfl)
theorem Z7{p:V4a}{E:bZ}{e:List bZ}{c:uZ}{f:St}{o:Out uZ}(i:isM L s.i [E]=false)(g:(if c.length=0 then some (.ok s ()) else needQ L s [44])=some (.ok f ()))
 (h:Ev L (λr=>A3 (part L r d f e p) λs x=>r.list p E d s x.2 (c++[x.1])) o):Ev L (λr=>r.list p E d s e c) o:=
 Ev.step (h.eq λr=>by
  show (if isM L s.i [E] then _ else A3 (if c.length=0 then some (.ok s ()) else needQ L s [44]) _)=_;rw[i,g];rfl)
theorem W4a{p:V4a}{E:bZ}{h:List bZ}{c:uZ}{e q:Int}(g:isM L s.i [E]=false)(f:(if c.length=0 then some (.ok s ()) else needQ L s [44])=some (.fail e q)):Ev L (λr=>r.list p E d s h c) (.fail e q):=
 Ev.step (Ev.pure.eq λr=>by
  show (if isM L s.i [E] then _ else A3 (if c.length=0 then some (.ok s ()) else needQ L s [44]) _)=_;rw[g,f];rfl)
def J9(s c:St):Prop:=s.i<=c.i/\c.N.length+s.i<=s.N.length+c.i/\c.T.length+s.i<=s.T.length+c.i/\s.N.length<=c.N.length
def L9d(w:lZ)(B a:Nat)(b:Value)(L:List Tk)(ok:Nat->Prop)(d:Nat)(s:St)(j:Sp->Option (Out uZ))(e:Ending)(g:lZ):Prop:=
 Kept B ok w g/\∃o,Ev L j o/\match o with
  | .ok f l=>∃h c,e= .returned (.slice h l.length c)/\g.ownsRow w.heap.size 3 1 (.slice h l.length c) l.length (C8 l)/\l.length<=f.i/\Pst g B a b L ok d f/\F6 s f
  | .fail i p=>e=gu i p/\i≠0
theorem O0a{f:Sp->Option (Out uZ)}{e:lZ}{c p:Int}(i:Kept B ok w e)(h:Ev L f (.fail c p))(g:c≠0):L9d w B a b L ok d s f (gu c p) e:=⟨i,_,h,rfl,g⟩
theorem X6c{h:Sp->Option (Out uZ)}{f:lZ}{e:St}{l:uZ}{g:Option Addr}{c:Nat}(k:Kept B ok w f)(i:Ev L h (.ok e l))(n:f.ownsRow w.heap.size 3 1 (.slice g l.length c) l.length (C8 l))(m:l.length<=e.i)(o:Pst f B a b L ok d e)(j:F6 s e):
 L9d w B a b L ok d s h (.returned (.slice g l.length c)) f:=⟨k,_,i,_,_,rfl,n,m,o,j⟩
theorem ev_list_more'{e:V4a}{g:Nat->St->Sp->Option (Out Int)}(j:∀r d s,part L r d s [] e=A3 (g d s r) λs x=>some (.ok s (x,[]))){E:bZ}{c:uZ}{f:St}{o:Out uZ}(k:isM L s.i [E]=false)(i:(if c.length=0 then some (.ok s ()) else needQ L s [44])=some (.ok f ()))
 (h:Ev L (λr=>A3 (A3 (g d f r) λs x=>some (.ok s (x,[]))) λs x=>r.list e E d s x.2 (c++[x.1])) o):Ev L (λr=>r.list e E d s [] c) o:=Z7 k i (h.eq λr=>by rw[j])
theorem O6a(kf:Nat)(cf:∀(ae:Array Value) (ac:lZ),(callFunc kf ae).run prog ac= .ok (.enter kf ae) ac){pt:V4a}{φ:Nat->St->Sp->Option (Out Int)}(a4:∀r d s,part L r d s [] pt=A3 (φ d s r) λs a2=>some (.ok s (a2,[])))(hL:LOk L)(ai:Nat)(af:∀m',m'<=ai->Con B a b L kf φ m')(E:bZ)(hm:L.length - s.i<=ai)(ah:∀g,w.heap.size<=g->ok g)(hB:B<=w.heap.size)(h:Pst w B a b L ok d s):
 Calls prog 179 #[pV a,.string ⟨E.toArray⟩,.func (.func kf) #[pV a] #[]] w (L9d w B a b L ok d s (λr=>r.list pt E d s [] [])):=by
 have hs:=hL.short;have hi:=h.at';have HP:=O h;clear h;go_enter func179,ntmps179;go_wp2_with fail
 go_loopw [7] (λap wr=>∃(f:uZ) (e:St) (u:Option Addr) (c:Nat),ap= .slice u f.length c/\f.length<=e.i/\Hid (Kept B ok w wr)/\Hid (J9 s e)/\Hid (wr.ownsRow w.heap.size 3 1 (.slice u f.length c) f.length (C8 f))/\
  Hid (Pst wr B a b L (λg=>ok g/\some g≠Value.ownBlock (.slice u f.length c)) d e)/\Hid (∀o,Ev L (λr=>r.list pt E d e [] f) o->Ev L (λr=>r.list pt E d s [] []) o)) (λ_ wr=>L.length - nxt wr a)
 case atStart=>exact⟨[],s,none,0,rfl,by simp,Kept.refl _ _ _,⟨vQ _,by omega,by omega,by omega⟩,kW _ _ _ _,HP.o.mono (λg k _=>⟨k,by simp[Value.ownBlock]⟩),λ_ h=>h⟩
 case round=>
  obtain⟨f,e,u,c,rfl,aj,KR,H,OR,PR,q⟩:=hrel;have HT:=G8 hL PR.o E;have au:=PR.o.at';have ag:=PR.o.nxt;generalize hq:isM L e.i [E]=an at *;have F:=O hq;clear hq;go_wp2_with fail
  refine HT.mono ?_;clear HT;rintro a5 aa ⟨rfl,i,m⟩;have x:=O (KR.o.trans (i.mono λ_ h=>h.1));have a3:=O m;have z:=O (G0 OR.o i (by decide));clear i m OR PR KR;cases an
  · have l:Pst aa B a b L (λg=>ok g/\some g≠Value.ownBlock (.slice u f.length c)) d e:=by simpa using a3.o
    clear a3;by_cases Z:f.length=0
    · have K:Hid ((if f.length=0 then some (.ok e ()) else needQ L e [44])=some (Out.ok e ())):=by show _=_;rw[rY Z]
      have ha:f=[]:=iY Z;subst ha;simp only[xQ]at z l aj⊢;clear Z;have hj:s.i<=e.i:=H.o.1;have M:=af (L.length - e.i) (by first|(simp only[St.nx];omega)|omega) aa _ d e (vQ _) (λg k=>⟨ah g (kQ x.o.size k),λhx=>by have:=(z.o.lt g hx.symm).2;omega⟩) (kQ hB x.o.size) l;clear l;go_wp2_with fail
      refine M.mono ?_;clear M;rintro a5 ab ⟨i,o,T,V⟩;have n:=O (x.o.trans (i.mono λ_ h=>h.1));have p:=O (G0 z.o i (by decide));have G:=O T;clear i T x z;cases o with
      |fail er am=>
       obtain⟨rfl,he⟩:=V;exact⟨rfl,O0a n.o (q.o _ (ev_list_more' a4 F.o K.o (Ev.bad (Ev.bad G.o)))) he⟩
      |ok D y=>
       obtain⟨rfl,m,k⟩:=V;have P:=O m;have v:=O k;have ak:=m.at';clear m k;have VN:=O (λo (ho:Ev L (λr=>r.list pt E d D [] ([]++[y])) o)=>q.o o (ev_list_more' a4 F.o K.o (Ev.bind (Ev.bind G.o (k:=λ_ s a2=>some (.ok s (a2,[]))) Ev.pure) ho)));clear q;obtain⟨i0,a6,a7,a8,a9⟩:=info_parts Tryz.infoInt;have Y:=O (p.o.alloc (.cells #[U y] 3));have al:0+1<=D.i:=by
        have j:=v.o.1;first|(simp only[St.nx]at j;omega)|omega
       go_wp2_with (at_builtin;refine wpList_append_own_at _ rfl _ _ 43 rfl w.heap.size 3 i0 (U 0) 1 8 underlying43 a6 a7 a8 a9 rfl (by decide) _ _ _ rfl Y.o (J ab.heap.size 0) 1 1 [U y] rfl rfl ?c1 ?c2 ?c3 ?c4 ?c5 ?_)
       case c1=>exact cell_one_new _ _ _
       case c2=>intro ao W;simp at W;rcases W with rfl;rfl
       case c3=>simp only[maxLen];omega
       case c4=>omega
       case c5=>have:=n.o.size;simp;omega
       · intro v' aq t C _ A;obtain⟨S,c2,X⟩:=B9 t;rw[X]at t A⊢;have R:=O ((P.o.alloc (.cells #[U y] 3)).grown (v:= .slice u 0 c) (v':= .slice S (0+1) c2) (p.o.alloc _) (.inl rfl) C (by simpa using A));have KG:=O ((n.o.alloc (.cells #[U y] 3)).grown (p.o.alloc _) C);have OG:=O t;clear t C A Y P p n X;go_wp2_with fail
         go_roundw
         case rel=>
          have h1:=H.o;have j:=v.o;simp only[F6,J9]at h1 j;refine⟨[y],D,S,c2,by simp,by simp;omega,KG.o,⟨by omega,by omega,by omega,by omega⟩, ?_, ?_,VN.o⟩
          · have:=OG.o;show World.ownsRow _ _ _ _ _ _ _;simpa[C8]using this
          · have:=R.o;show Pst _ _ _ _ _ _ _ _;simpa using this
         case measure=>
          have j:=v.o;have h3:=R.o.nxt;simp only[F6]at j;rw[h3,ag];omega
    · have aw:(0:Int)<(f.length:Int):=by omega
      have HN:=J0 hL l [44];go_wp2_with fail
      refine HN.mono ?_;clear HN;rintro a5 ar ⟨i,hr⟩;have N:=O (x.o.trans (i.mono λ_ h=>h.1));have O6:=O (G0 z.o i (by decide));clear i x z l;rcases hr with ⟨hb,rfl,l⟩|⟨hb,rfl⟩
      · have av:=l.at';have K:Hid ((if f.length=0 then some (.ok e ()) else needQ L e [44])=some (Out.ok e.nx ())):=by show _=_;rw[yY Z,needQ,hb];rfl
        clear hb;have hj:s.i<=e.i:=H.o.1;have M:=af (L.length - e.nx.i) (by first|(simp only[St.nx];omega)|omega) ar _ d e.nx (vQ _) (λg k=>⟨ah g (kQ N.o.size k),λhx=>by have:=(O6.o.lt g hx.symm).2;omega⟩) (kQ hB N.o.size) l;clear l;go_wp2_with fail
        refine M.mono ?_;clear M;rintro a5 ab ⟨i,o,T,V⟩;have n:=O (N.o.trans (i.mono λ_ h=>h.1));have p:=O (G0 O6.o i (by decide));have G:=O T;clear i T N O6;cases o with
        |fail er am=>
         obtain⟨rfl,he⟩:=V;exact⟨rfl,O0a n.o (q.o _ (ev_list_more' a4 F.o K.o (Ev.bad (Ev.bad G.o)))) he⟩
        |ok D y=>
         obtain⟨rfl,m,k⟩:=V;have P:=O m;have v:=O k;have ak:=m.at';clear m k;have VN:=O (λo (ho:Ev L (λr=>r.list pt E d D [] (f++[y])) o)=>q.o o (ev_list_more' a4 F.o K.o (Ev.bind (Ev.bind G.o (k:=λ_ s a2=>some (.ok s (a2,[]))) Ev.pure) ho)));clear q;obtain⟨i0,a6,a7,a8,a9⟩:=info_parts Tryz.infoInt;have Y:=O (p.o.alloc (.cells #[U y] 3));have al:f.length+1<=D.i:=by
          have j:=v.o.1;first|(simp only[St.nx]at j;omega)|omega
         go_wp2_with (at_builtin;refine wpList_append_own_at _ rfl _ _ 43 rfl w.heap.size 3 i0 (U 0) 1 8 underlying43 a6 a7 a8 a9 rfl (by decide) _ _ _ rfl Y.o (J ab.heap.size 0) 1 1 [U y] rfl rfl ?c1 ?c2 ?c3 ?c4 ?c5 ?_)
         case c1=>exact cell_one_new _ _ _
         case c2=>intro ao W;simp at W;rcases W with rfl;rfl
         case c3=>simp only[maxLen];omega
         case c4=>omega
         case c5=>have:=n.o.size;simp;omega
         · intro v' aq t C _ A;obtain⟨S,c2,X⟩:=B9 t;rw[X]at t A⊢;have R:=O ((P.o.alloc (.cells #[U y] 3)).grown (v:= .slice u f.length c) (v':= .slice S (f.length+1) c2) (p.o.alloc _) (.inl rfl) C (by simpa using A));have KG:=O ((n.o.alloc (.cells #[U y] 3)).grown (p.o.alloc _) C);have OG:=O t;clear t C A Y P p n X;go_wp2_with fail
           go_roundw
           case rel=>
            have h1:=H.o;have j:=v.o;simp only[F6,J9,St.nx]at h1 j;refine⟨f++[y],D,S,c2,by simp,by simp;omega,KG.o,⟨by omega,by omega,by omega,by omega⟩, ?_, ?_,VN.o⟩
            · have:=OG.o;show World.ownsRow _ _ _ _ _ _ _;rw[T7];simpa using this
            · have:=R.o;show Pst _ _ _ _ _ _ _ _;simpa using this
           case measure=>
            have j:=v.o;have h3:=R.o.nxt;simp only[F6,St.nx]at j;rw[h3,ag];omega
      · exact⟨rfl,O0a N.o (q.o _ (W4a F.o (by rw[yY Z,needQ,hb];rfl))) (by decide)⟩
  · have l:Pst aa B a b L (λg=>ok g/\some g≠Value.ownBlock (.slice u f.length c)) d e.nx:=by simpa using a3.o
    have PY:=O (l.mono (ok':=ok) (λg k _=>k.1));have EV:=O (q.o _ (W3a F.o));have GX:=O (show F6 s e.nx by
     have j:=H.o;simp only[F6,J9,St.nx]at j⊢
     omega)
    clear q a3 l;go_wp2_with fail
    go_ret;exact X6c x.o EV.o z.o (by simp only[St.nx];omega) PY.o GX.o
theorem S9d(p:LOk L)(m:Nat)(a2:∀m',m'<=m->Con B a b L 31 (λd s r=>r.typ d s) m'):Con B a b L 140 (λd s r=>r.fob d s) m:=by
 intro w ok d s hm C N h;have hs:=p.short;have hi:=h.at';have HF:=O h.few;have T:=O6a 31 (λ_ _=>by go_simp) (pt:= .typ) (φ:=λd s r=>r.typ d s) (λ_ _ _=>rfl) p m a2 [41] hm C N h;have G:Hid (∀o,Ev L (λr=>A3 (r.list .typ [41] d s [] []) λs l=>if isM L s.i [[61,62]] then A3 (r.typ d s.nx) λs x=>addTQ s ⟨9,[],l,x⟩ else match l with|[x]=>some (.ok s x)|_=>fltQ L s.i 1) o->Ev L (λr=>r.fob d s) o):=λo n=>Ev.step (n.eq (λr=>rfl));clear h;go_enter func140,ntmps140;go_wp2_with fail
 refine T.mono ?_;clear T;rintro e ai ⟨f,o,q,t⟩;have K:=O f;have E:=O q;clear f q;cases o with
 |fail er a8=>
  obtain⟨rfl,P⟩:=t;exact⟨rfl,J2 K.o (G.o _ (Ev.bad E.o)) P⟩
 |ok u l=>
  obtain⟨ad,a7,rfl,n,hl,c,i⟩:=t;have a5:=O c;have F:=O i;have Y:=O n;have ag:=c.at';have X:=G8 p c [61,62];clear c i n;have A:=O (λo n=>G.o o (Ev.bind E.o n));clear G E;generalize hq:isM L u.i [[61,62]]=a9 at *;have Q1:=O hq;clear hq;go_wp2_with fail
  refine X.mono ?_;clear X;rintro e D ⟨rfl,f,c⟩;have k:=O (K.o.trans f);have M:=O (G0 Y.o f (by decide));have z:=O c;clear f c K Y a5;cases a9
  · have j:Pst D B a b L ok d u:=by simpa using z.o
    have H:=Z6 p j 1;have PY:=O j;clear z j;by_cases h1:l.length=1
    · obtain⟨x,rfl⟩:=List.length_eq_one_iff.1 h1;obtain⟨g,rfl,_,i,ae,af,a3⟩:=F5 M.o (by simp);have ab:D.cell? (J g 0)=some (U x):=a3 0 _ rfl;clear a3 H;go_wp2_with fail
      go_ret;exact B4a k.o (A.o _ (Ev.pure.eq (λr=>by simp))) PY.o F.o
    · have ac:((l.length:Int)==1)=false:=by simp;omega
      go_wp2_with fail
      refine H.mono ?_;clear H;rintro e aj ⟨rfl,hc⟩;refine⟨rfl,J2 (k.o.trans (C7 hc)) (A.o _ (Ev.pure.eq (λr=> ?_))) (by decide)⟩;simp only[rZ,if_false];match l,h1 with
      |[],_=>rfl
      |[x],h=>simp at h
      |_::_::_,_=>rfl
  · have j:Pst D B a b L ok d u.nx:=by simpa using z.o
    have ah:=j.at';have W:=a2 (L.length - u.nx.i) (by have:=F.o.1;simp only[St.nx];omega) D ok d u.nx (vQ _) (λg i=>C g (kQ k.o.size i)) (kQ N k.o.size) j;clear z j;go_wp2_with fail
    refine W.mono ?_;clear W;rintro e ak ⟨f,o,q,t⟩;have y:=O (k.o.trans f);have Z:=O (G0 M.o f (by decide));have R:=O q;clear f q k M;cases o with
    |fail er a8=>
     obtain⟨rfl,P⟩:=t;exact⟨rfl,J2 y.o (A.o _ (Ev.eq (Ev.bad R.o) (λr=>by simp;rfl))) P⟩
    |ok v a4=>
     obtain⟨rfl,c,i⟩:=t;have aa:=O c;have S:=O (show F6 s ⟨v.i,v.N,v.T++[⟨9,[],l,a4⟩]⟩/\v.T.length+1<=v.i by
      have h2:=F.o;have h3:=i;have h4:=HF.o;simp only[F6,St.nx,qQ,jQ,xQ]at h2 h3⊢
      omega)
     have V:=C1a p c ⟨9,[],l,a4⟩ none ad 0 0 l.length a7 ⟨_,_,rfl,kW _ _ _ _,C9 Z.o (wQ _),by simp[Value.ownBlock],λg i=>C g (A9 Z.o g i).1⟩ S.o.2 (kQ N y.o.size) (λg i=>C g (kQ y.o.size i));have EV:=O (A.o _ (Ev.eq (Ev.bind R.o (k:=λ_ s x=>addTQ s ⟨9,[],l,x⟩) Ev.pure) (λr=>by simp)));clear c i;go_wp2_with fail
     refine V.mono ?_;clear V;rintro e al ⟨rfl,f,c⟩;have K5:=O (y.o.trans f);have a6:=O c;clear f c;go_wp2_with fail
     go_ret;exact B4a K5.o EV.o a6.o S.o.1
end
set_option linter.unusedSimpArgs false
section
variable{w:lZ}{B pb:Nat}{tv:Value}{L:List Tk}{ok:Nat->Prop}{d:Nat}{s:St}
theorem Tryz.infoStr:(prog.info? 9).map (λi=>(i.zero,i.size,i.bytes))=some (some (.string ⟨#[]⟩),1,16):=by kernel_rfl
def V8a(a:List bZ):List Value:=a.map λm=> .string ⟨m.toArray⟩
theorem Y6b(a:List bZ)(m:bZ):V8a (a++[m])=V8a a++[.string ⟨m.toArray⟩]:=by simp[V8a]
def Nms(w:lZ)(e f:Nat)(a:List bZ):Prop:=
 e<=f/\∃b c,w.heap[f]? =some (.cells #[.slice b a.length c] 122 (0,0))/\w.ownsRow e 9 1 (.slice b a.length c) a.length (V8a a)
def tagS(w:lZ)(k:Nat):Prop:=∃a e b,w.heap[k]? =some (.cells a e b)/\(e=122\/e=9)
def KeptS(B:Nat)(ok:Nat->Prop)(a:Nat)(w b:lZ):Prop:=I (λk=>(B<=k/\tag w k/\ok k)\/(a<=k/\tagS w k)) w b
theorem Nms.kept{ok:Nat->Prop}{w k:lZ}{i f:Nat}{j:List bZ}(h:Nms w i f j)(g:Kept B ok w k):Nms k i f j:=by
 obtain⟨m,l,c,a,n⟩:=h;refine⟨m,l,c, ?_,G0 n g (by decide)⟩;rw[g.block f (ltG a) (λx=> ?_)]
 · exact a
 · obtain⟨o,e,p,b,r⟩:=x.2.1;rw[a]at b;simp only[zQ,xW]at b;obtain⟨_,rfl,_⟩:=b;rcases r with r|r|r<;>exact absurd r (by decide)
theorem X0d{w a b:lZ}{c:Nat}{v:Value}(e:a.cell? (J c 0)=some v)(g:Hid (I No w a))(f:I No a b):b.cell? (J c 0)=some v/\Hid (I No w b):=by
 refine⟨?_,g.o.trans f (λ_ _ x=>x)⟩;rw[World.cell?_of_block (f.block c (World.block_lt_of_cell? a _ e) (λx=>x))];exact e
theorem V8c{w:lZ}{g:Nat}{a:List bZ}(c:g<w.heap.size)(b:∀j u,(V8a a)[j]? =some u->w.cell? (J g j)=some u):Strs w g a:=
 ⟨c,λj e=>b j _ (by simp[V8a,e])⟩
theorem C6c(w:lZ)(a:Option Addr)(c:Nat)(t:bZ):
 Calls prog 137 #[.slice a 0 c,.string ⟨t.toArray⟩] w λe b=>e= .returned (U (-1))/\b=w:=by
 go_enter func137,ntmps137;go_wp2;go_loop [8] (λi=>i=U 0) (λ_=>0)
 case atStart=>rfl
 case round=>
  subst hrel;go_wp2;go_ret;exact⟨rfl,rfl⟩
theorem F9b(w:lZ)(a:Option Addr)(c:Nat)(t:bZ):
 Calls prog 100 #[.slice a 0 c,.string ⟨t.toArray⟩] w λe b=>e= .returned (.bool false)/\b=w:=by
 have H:=C6c w a c t;go_enter func100,ntmps100;go_wp2_with fail
 refine H.mono ?_;clear H;rintro e f ⟨rfl,rfl⟩;go_wp2;go_ret;exact⟨rfl,rfl⟩
theorem N7b(w:lZ)(l:Nat)(b:Option Addr)(c:Nat)(a:List bZ)(t:bZ)(h:w.ownsRow l 9 1 (.slice b a.length c) a.length (V8a a))(j:a.length<=4000):
 Calls prog 100 #[.slice b a.length c,.string ⟨t.toArray⟩] w λe m=>e= .returned (.bool (has a t))/\m=w:=by
 by_cases k:0<a.length
 · obtain⟨g,rfl,_,i,_,_,f⟩:=F5 h k;exact R9a w g c a t (V8c i f) j
 · have:a=[]:=iY (by omega);subst this;exact F9b w b c t
theorem Nms.push{w w1 w2:lZ}{j a n c g cap:Nat}{i:Option Addr}{u:List Value}{x:Value}(h:Pst w B pb tv L ok d s)(M:j<=a)(p:w.heap[a]? =some (.cells #[.slice i n c] 122 (0,0)))(G:w.ownsRow j 9 1 (.slice i n c) n u)(m:I No w w1)
 (E:w1.grownBy w2 (Value.ownBlock (.slice i n c))) (H:w2.ownsRow j 9 1 (.slice (some (J g 0)) (n+1) cap) (n+1) (u++[x])):
 KeptS B ok j w (w2.setCell (J a 0) (.slice (some (J g 0)) (n+1) cap))/\Pst (w2.setCell (J a 0) (.slice (some (J g 0)) (n+1) cap)) B pb tv L ok d s/\
  (w2.setCell (J a 0) (.slice (some (J g 0)) (n+1) cap)).heap[a]? =some (.cells #[.slice (some (J g 0)) (n+1) cap] 122 (0,0))/\
  (w2.setCell (J a 0) (.slice (some (J g 0)) (n+1) cap)).ownsRow j 9 1 (.slice (some (J g 0)) (n+1) cap) (n+1) (u++[x]):=by
 have F:=(ltG p);have A:w1.heap[a]? =w.heap[a]? :=m.block a F (λx=>x);have P:w1.ownsRow j 9 1 (.slice i n c) n u:=A4 G m (λ_ _ x=>x);have N:some a≠Value.ownBlock (.slice i n c):=by
  intro f;obtain⟨_,v,b⟩:=A9 P a f.symm;rw[A,p]at b;simp only[zQ,xW]at b;exact absurd b.2.1 (by decide)
 have C:w2.heap[a]? =some (.cells #[.slice i n c] 122 (0,0)):=by rw[E.block a (yQ F m.size) N,A,p]
 have D:I (λk=>some k=Value.ownBlock (.slice i n c)\/k=a) w (w2.setCell (J a 0) (.slice (some (J g 0)) (n+1) cap)):=
  (((m.mono λ_ _ x=>x.elim).trans (I.grown E) (λ_ _ x=>x)).mono λ_ _ x=> .inl x).trans (I.set _ _ _) (λ_ _ x=> .inr x)
 have K:∀k,(some k=Value.ownBlock (.slice i n c)\/k=a)->j<=k/\∃l e,w.heap[k]? =some (.cells l e (0,0))/\(e=122\/e=9):=by
  rintro k (f|rfl)
  · obtain⟨o,v,b⟩:=A9 G k f.symm;exact⟨o,v,_,b,.inr rfl⟩
  · exact⟨M,_,_,p,.inl rfl⟩
 refine⟨D.mono λk _ f=> ?_,h.chg D (λk v e q f=> ?_) (λ_ x _=>x),by rw[heap_setCell_same w2 a 0 _ _ _ C];rfl,A4 H (I.set w2 (J a 0) _) (λk q f=> ?_)⟩
 · obtain⟨o,l,e,b,r⟩:=K k f;exact .inr ⟨o,l,e,_,b,r⟩
 · obtain⟨o,l,W,b,r⟩:=K k f;rw[q]at b;simp only[zQ,xW]at b;obtain⟨_,rfl,_⟩:=b;refine⟨by rcases r with rfl|rfl<;>decide,by rcases r with rfl|rfl<;>decide,by rcases r with rfl|rfl<;>decide,λR=> ?_,λt=> ?_⟩
   · obtain⟨_,V,z⟩:=A9 h.toks k R;rw[q]at z;simp only[zQ,xW]at z;obtain⟨_,rfl,_⟩:=z;rcases r with r|r<;>exact absurd r (by decide)
   · rcases r with rfl|rfl<;>rcases t with t|t<;>exact absurd t (by decide)
 · have S:k=a:=f;subst S;obtain⟨_,T,y⟩:=A9 H k q;rw[C]at y;simp only[zQ,xW]at y;exact absurd y.2.1 (by decide)
theorem Kept.toS{lo:Nat}{w a:lZ}(h:Kept B ok w a):KeptS B ok lo w a:=I.mono h λ_ _ x=> .inl x
theorem KeptS.after{p:Nat}{a b c:lZ}(h:Kept B ok a b)(k:KeptS B ok p b c):KeptS B ok p a c:=by
 refine⟨k.os.trans h.os,k.tape.trans h.tape,k.output.trans h.output,kQ h.size k.size,λi n o=> ?_⟩;have j:=h.block i n (λx=>o (.inl x));refine(k.block i (yQ n h.size) (λx=>o ?_)).trans j;rcases x with ⟨m,⟨f,e,g,l,r⟩,q⟩|⟨m,f,e,g,l,r⟩
 · exact .inl ⟨m,⟨f,e,g,by rw[<-j];exact l,r⟩,q⟩
 · exact .inr ⟨m,f,e,g,by rw[<-j];exact l,r⟩
theorem K1a(N:LOk L)(a2:Pst w B pb tv L ok d s)(k f:Nat)(a:List bZ)(hn:Nms w k f a)(hl:a.length<=1001)(ab:k<=w.heap.size):
 Calls prog 178 #[pV pb,pV f] w λe b=>KeptS B ok k w b/\
  match newNameQ L s a with
  |some (.ok s' nm)=>e= .returned (.string ⟨nm.toArray⟩)/\Nms b k f (a++[nm])/\Pst b B pb tv L ok d s'
  |some (.fail er ag)=>e=gu er ag
  |none=>False:=by
 have H:=λg (j:Pst g B pb tv L ok d s)=>V8 N j;have M:=λg (j:Pst g B pb tv L ok d s)=>Z6 N j 6;have q:=λg (j:Pst g B pb tv L ok d s)=>T7a N j;have r:=O a2;have HM:=O hn;obtain⟨a4,v,c,A,S⟩:=hn;have ar:=(ltG A);have k0:w.cell? (J f 0)=some (.slice v a.length c):=cr A rfl;have p:Hid (I No w w.drew):=I.drewN No w 1;have an:=Y9;have ao:=B6a;unfold newNameQ fltQ;clear a2;generalize tk L s.i=ai at *;obtain⟨W,l,pl⟩:=ai;simp only[tkv]at H M q⊢;by_cases E:W=1
 · subst E;have X:Hid (∀g:lZ,I No w g->Calls prog 100 #[.slice v a.length c,.string ⟨l.toArray⟩] g λe b=>e= .returned (.bool (has a l))/\b=g):=
    λg j=>N7b g k v c a l (A4 S j (λ_ _ x=>x)) (by omega)
   generalize has a l=ah at *;go_enter func178,ntmps178;go_wp2_with fail
   go_region_held3 (λb=>b.cell? (J f 0)=some (.slice v a.length c)/\Hid (I No w b))
    (first
     |exact⟨k0,p⟩
     |exact X0d (by assumption) (by assumption) C
     |(go_split_ands;exact X0d (by assumption) (by assumption) C)
     |(go_split_ands;exact⟨by assumption,by assumption⟩))
    (first
     |((go_at_call 90;go_split_ands;refine(H _ (r.o.still (Hid.o (by assumption)))).mono ?_;rintro e b ⟨rfl,C⟩))
     |((go_at_call 100;go_split_ands;refine(X.o _ (Hid.o (by assumption))).mono ?_;rintro e b ⟨rfl,rfl⟩)))
   have i:Hid (I No w b):=by assumption
   have u:=O (r.o.still i.o);cases ah
   · go_wp2_with fail
     refine(q _ u.o).mono ?_;rintro e h ⟨F,V⟩;rcases V with ⟨_,rfl,T⟩|⟨o,_⟩
     · have n:=O ((C7 (B:=B) (ok:=ok) i.o).trans F);have N2:=O (HM.o.kept n.o);have ak:=O T;obtain⟨_,y,c2,m,G⟩:=N2.o;have a3:=(ltG m);have q0:h.cell? (J f 0)=some (.slice y a.length c2):=cr m rfl;have fz:h.frozen? (J f 0)=false:=frozen_of_row h f 0 _ _ m;have R:Value.ownBlock (.slice y a.length c2)≠some f:=by
        intro o;obtain⟨_,al,P⟩:=A9 G f o;rw[m]at P;simp only[zQ,xW]at P;exact absurd P.2.1 (by decide)
       have Y:=O (λ(K aj:lZ) (a8 z:Nat)=>Nms.push (w1:=K) (w2:=aj) (g:=a8) (cap:=z) (x:= .string ⟨l.toArray⟩) T a4 m G);have Z:=O G;have aq:k<=h.heap.size:=kQ ab n.o.size;obtain⟨i0,hi,ac,ae,af⟩:=info_parts Tryz.infoStr;clear F T m G q M H X A S k0 p;have a6:=O (Z.o.alloc (.cells #[.string ⟨l.toArray⟩] 9));go_wp2_with (at_builtin;refine wpList_append_lies _ rfl _ _ _ rfl k 9 i0 _ 1 16 underlying122 hi ac ae af rfl (by decide) (.slice y a.length c2) a.length (V8a a) rfl a6.o (J h.heap.size 0) 1 1 [.string ⟨l.toArray⟩] rfl rfl ?c1 ?c2 ?c0 ?c3 ?c4 ?c5 (h.heap.size+1) (by simp) ?_)
       case c1=>exact cell_one_new _ _ _
       case c2=>intro av hu;simp at hu;rcases hu with rfl;rfl
       case c0=>omega
       case c3=>simp only[maxLen];omega
       case c4=>omega
       case c5=>simp;omega
       · intro gg z K a5 D am au;have z4:K.cell? (J f 0)=some (.slice y a.length c2):=by rw[D.cell_far _ (by simp;omega) (Ne.symm R)];exact I5 a3 q0
         have y4:K.frozen? (J f 0)=false:=by rw[D.frozen_far _ (by simp;omega) (Ne.symm R)];exact X8 a3 fz
         have t:=O (Y.o _ _ gg z (I.alloc No _ _) D a5);clear D a5 Y a6 Z R;go_wp2_with fail
         go_ret;refine⟨KeptS.after n.o t.o.1,rfl,⟨a4,some (J gg 0),z, ?_, ?_⟩,t.o.2.1⟩
         · have:=t.o.2.2.1;simpa using this
         · have:=t.o.2.2.2;rw[Y6b];simpa using this
     · exact absurd rfl o
   · go_wp2_with fail
     refine(M _ u.o).mono ?_;rintro e h ⟨rfl,aa⟩;exact⟨rfl,(C7 (B:=B) (ok:=ok) (i.o.trans aa (λ_ _ x=>x))).toS,rfl⟩
 · have ap:(W==1)=false:=by simp[E]
   clear A S;go_enter func178,ntmps178;go_wp2_with fail
   refine wp_region_held_drew (S:=λb=>Hid (I No w b)) (by kernel_rfl) p (λa9=> ?_);refine tA (i:=0) (k:=6) (v:=pV pb) rfl ?_;simp only[Act.put,aT,a0,a1];refine wpAnyH_ready (rs:=[1]) (by kernel_rfl) (by simp) ?_;refine AllReadyH.cons (o:=Oper.mk (some 7) _ _ _ _ _) rfl (λa7 hK=> ?_) AllReadyH.nil;go_simp
   refine(H _ (r.o.still p.o)).mono ?_;rintro e b ⟨rfl,C⟩;have i:=O (p.o.trans C (λ_ _ x=>x));refine hK _ _ i (λ_=> ?_);clear hK a7 a9;refine tA (i:=2) (k:=8) (v:=U W) rfl ?_;simp only[Act.put,aT,a0,a1];refine tA (i:=3) (k:=9) (v:= .bool false) rfl ?_;simp only[Act.put,aT,a0,a1];refine tA (i:=4) (k:=10) (v:= .bool false) rfl ?_;simp only[Act.put,aT,a0,a1];refine tU (i:=5) (k:=11) rfl ?_;simp only[Act.put,aT,a0,a1];refine tU (i:=6) (k:=12) rfl ?_;simp only[Act.put,aT,a0,a1];refine tU (i:=7) (k:=13) rfl ?_;simp only[Act.put,aT,a0,a1];refine tU (i:=8) (k:=14) rfl ?_;simp only[Act.put,aT,a0,a1];refine tU (i:=9) (k:=15) rfl ?_;simp only[Act.put,aT,a0,a1];refine tU (i:=10) (k:=16) rfl ?_;simp only[Act.put,aT,a0,a1];refine tU (i:=11) (k:=17) rfl ?_;simp only[Act.put,aT,a0,a1];refine tA (i:=12) (k:=18) (v:= .bool false) rfl ?_;simp only[Act.put,aT,a0,a1];refine wpAnyH_done (by kernel_rfl) ?_ _;have u:=O (r.o.still i.o);go_wp2_with fail
   refine(q _ u.o).mono ?_;rintro e h ⟨F,V⟩;rcases V with ⟨o,_⟩|⟨_,rfl⟩
   · exact absurd o E
   · have n:=(C7 (B:=B) (ok:=ok) i.o).trans F;exact⟨rfl,n.toS,by simp[E];rfl⟩
theorem Tryz.infoField:(prog.info? 131).map (λi=>(i.zero,i.size,i.bytes))=some (some (.agg #[.string ⟨#[]⟩,U 0]),2,24):=by kernel_rfl
theorem Kept.transS{a b c:lZ}(h:Kept B ok a b)(k:KeptS B ok a.heap.size b c):Kept B ok a c:=by
 refine⟨k.os.trans h.os,k.tape.trans h.tape,k.output.trans h.output,kQ h.size k.size,λi g j=> ?_⟩;have f:=h.block i g j;refine(k.block i (yQ g h.size) (λx=> ?_)).trans f;rcases x with ⟨l,⟨m,e,n,o,r⟩,p⟩|⟨l,_⟩
 · exact j ⟨l,⟨m,e,n,by rw[<-f];exact o,r⟩,p⟩
 · omega
theorem O3a{w m:lZ}{x j:Nat}{e:TypeId}{l:Nat}{v:Value}{n:Nat}{o:List Value}(h:w.ownsRow j e l v n o)(p:KeptS B ok x w m)
 (c:e≠84/\e≠87/\e≠76/\e≠122/\e≠9):m.ownsRow j e l v n o:=by
 refine A4 h p λg q u=> ?_;obtain⟨_,y,t⟩:=A9 h g q;have k:∀f b i,w.heap[g]? =some (.cells f b i)->b=e:=by
  intro f b i a;rw[t]at a;simp only[zQ,xW]at a;exact a.2.1.symm
 rcases u with ⟨_,⟨f,b,i,a,r⟩,_⟩|⟨_,f,b,i,a,r⟩
 · have:=k _ _ _ a;subst this;rcases r with r|r|r
   · exact c.1 r
   · exact c.2.1 r
   · exact c.2.2.1 r
 · have:=k _ _ _ a;subst this;rcases r with r|r
   · exact c.2.2.2.1 r
   · exact c.2.2.2.2 r
theorem Nms.chg{S:Nat->Prop}{w n:lZ}{l a:Nat}{m:List bZ}(h:Nms w l a m)(i:I S w n)(j:∀k p e,w.heap[k]? =some (.cells p e (0,0))->S k->e≠122/\e≠9):Nms n l a m:=by
 obtain⟨r,o,c,b,f⟩:=h;refine⟨r,o,c, ?_,A4 f i (λg t v=> ?_)⟩
 · rw[i.block a (ltG b) (λx=>(j a _ _ b x).1 rfl)];exact b
 · obtain⟨_,q,u⟩:=A9 f g t;exact(j g q _ u v).2 rfl
theorem N9b(w:lZ)(x y:Value)(t:TypeId):∀j u,[x,y][j]? =some u->(w.alloc (.cells #[x,y] t)).cell? (((J w.heap.size 0):Addr).add j)=some u:=by
 intro j u b;have a:((J w.heap.size 0):Addr).add j=(J w.heap.size j):=by unfold Addr.add;split<;>simp_all
 rw[a,World.cell?_alloc_new];rw[<-b];simp
theorem newName_ok{b:List bZ}{a:St}{c:bZ}(h:newNameQ L s b=some (.ok a c)):a=s.nx:=by
 unfold newNameQ fltQ at h;split at h
 · split at h
   · cases h
   · simp only[zQ,Out.ok.injEq]at h;exact h.1.symm
 · cases h
theorem L6b{b:List bZ}{a p:Int}(h:newNameQ L s b=some (.fail a p)):a≠0:=by
 unfold newNameQ fltQ at h;split at h
 · split at h
   · simp only[zQ,Out.fail.injEq]at h;omega
   · cases h
 · simp only[zQ,Out.fail.injEq]at h;omega
theorem E3c{a:List (bZ×Int)}(b:isM L s.i [[125]]=true):Ev L (λr=>r.objL d s a) (.ok ⟨s.nx.i,s.nx.N,s.nx.T++[⟨7,a,[],0⟩]⟩ s.nx.T.length):=
 Ev.step (Ev.pure.eq λr=>by show (if isM L s.i [[125]] then _ else _)=_;rw[b];rfl)
theorem S0c{a:List (bZ×Int)}{o:Out Int}(b:isM L s.i [[125]]=false)
 (h:Ev L (λr=>A3 (newNameQ L s (a.map (·.1))) λs c=>A3 (needQ L s [58]) λs _=>A3 (r.typ d s) λs x=>A3 (needQ L s [59]) λs _=>r.objL d s (a++[(c,x)])) o):Ev L (λr=>r.objL d s a) o:=
 Ev.step (h.eq λr=>by show (if isM L s.i [[125]] then _ else _)=_;rw[b];rfl)
theorem Q7{mk:bZ}(h:isM L s.i [mk]=true):Ev L (λ_=>needQ L s mk) (.ok s.nx ()):=Ev.pure.eq λr=>by rw[needQ,h];rfl
theorem U0{mk:bZ}(h:isM L s.i [mk]=false):Ev L (λ_=>needQ L s mk) (.fail 1 ((tk L s.i).at':Int)):=Ev.pure.eq λr=>by rw[needQ,h];rfl
theorem A8b(t:LOk L)(af:Nat)(ai:∀m',m'<=af->Con B pb tv L 31 (λd s r=>r.typ d s) m'):Con B pb tv L 138 (λd s r=>r.objL d s []) af:=by
 intro w ok d s hm a3 hB h;have hs:=t.short;have hi:=h.at';have HP:=O h;clear h;go_enter func138,ntmps138;go_wp2_with fail
 go_loopw [4] (λau wr=>∃(f:List (bZ×Int)) (b:St) (m:Option Addr) (c:Nat),au= .slice m f.length c/\f.length<=b.i/\Hid (Nms wr w.heap.size w.heap.size (f.map (·.1)))/\Hid (Kept B ok w wr)/\Hid (J9 s b)/\Hid (wr.ownsRow w.heap.size 131 2 (.slice m f.length c) f.length (G5 f))/\
  Hid (Pst wr B pb tv L (λg=>ok g/\some g≠Value.ownBlock (.slice m f.length c)) d b)/\Hid (∀o,Ev L (λr=>r.objL d b f) o->Ev L (λr=>r.objL d s []) o)) (λ_ wr=>L.length - nxt wr pb)
 case atStart=>
  refine⟨[],s,none,0,rfl,by simp,⟨vQ _,none,0,qY w _,kW _ _ _ _⟩,(Kept.refl B ok w).alloc _,⟨vQ _,by omega,by omega,by omega⟩,kW _ _ _ _,(HP.o.alloc _).mono (λg j _=>⟨j,by simp[Value.ownBlock]⟩),λ_ h=>h⟩
 case round=>
  obtain⟨f,b,m,c,rfl,b0,NR,KR,N,OR,A,G⟩:=hrel;have HT:=G8 t A.o [125];have b2:=A.o.at';have ak:=A.o.nxt;have hj:s.i<=b.i:=N.o.1;have b1:=A.o.few;generalize hq:isM L b.i [[125]]=ar at *;have Q1:=O hq;clear hq;go_wp2_with fail
  refine HT.mono ?_;clear HT;rintro e ag ⟨rfl,a,i⟩;have q:=O (KR.o.trans (a.mono λ_ h=>h.1));have F:=O i;have x:=O (G0 OR.o a (by decide));have R:=O (NR.o.kept a);clear a i OR A KR NR;cases ar
  · have C:Pst ag B pb tv L (λg=>ok g/\some g≠Value.ownBlock (.slice m f.length c)) d b:=by simpa using F.o
    have HN:=K1a t C w.heap.size w.heap.size (f.map (·.1)) R.o (by simp;omega) q.o.size;clear F C R;have X:=O (λo l=>G.o o (S0c Q1.o l));clear G;generalize aa:newNameQ L b (f.map (·.1))=NN at *;have N0:=O aa;clear aa;go_wp2_with fail
    refine HN.mono ?_;clear HN;rintro e av ⟨a,n⟩;have u:=O (q.o.transS (I.mono a λ_ _ a4=>a4.imp (λy=>⟨y.1,y.2.1,y.2.2.1⟩) id));have O4:=O (O3a x.o a (by decide));clear a q x;rcases NN with _|⟨s1,nm⟩|⟨er,aq⟩
    · exact n.elim
    · obtain⟨rfl,a9,i⟩:=n;have al:s1=b.nx:=newName_ok N0.o;subst al;have a5:=J0 t i [58];have N4:=O a9;clear i a9;have T:=O (λo l=>X.o o (Ev.bind (s:=b.nx) (x:=nm) Ev.pure l));clear X;go_wp2_with fail
      refine a5.mono ?_;clear a5;rintro e aw ⟨a,n⟩;have v:=O (u.o.trans (a.mono λ_ h=>h.1));have S:=O (G0 O4.o a (by decide));have N5:=O (N4.o.kept a);clear a u O4 N4;rcases n with ⟨k,rfl,i⟩|⟨k,rfl⟩
      · have b3:=i.at';have HM:=ai (L.length - b.nx.nx.i) (by simp only[St.nx];omega) aw _ d b.nx.nx (vQ _) (λg j=>⟨a3 g (kQ v.o.size j),λhx=>by have:=(S.o.lt g hx.symm).2;omega⟩) (kQ hB v.o.size) i;have V:=O (λo l=>T.o o (Ev.bind (Q7 k) l));clear i k T;go_wp2_with fail
        refine HM.mono ?_;clear HM;rintro e b6 ⟨a,o,a8,ab⟩;have P:=O (v.o.trans (a.mono λ_ h=>h.1));have O6:=O (G0 S.o a (by decide));have N6:=O (N5.o.kept a);have M:=O a8;clear a a8 v S N5;cases o with
        |fail er aq=>
         obtain⟨rfl,Z⟩:=ab;exact⟨rfl,J2 P.o (V.o _ (Ev.bad M.o)) Z⟩
        |ok p y=>
         obtain⟨rfl,i,j⟩:=ab;have a6:=J0 t i [59];have G6:=O j;have W:=O (λo l=>V.o o (Ev.bind M.o l));clear i j V M;go_wp2_with fail
         refine a6.mono ?_;clear a6;rintro e ax ⟨a,n⟩;have E:=O (P.o.trans (a.mono λ_ h=>h.1));have z:=O (G0 O6.o a (by decide));have N7:=O (N6.o.kept a);clear a P O6 N6;rcases n with ⟨k,rfl,i⟩|⟨k,rfl⟩
         · have P7:=O i;have b4:=i.at';have V7:=O (λo l=>W.o o (Ev.bind (Q7 k) l));clear i k W;have G7:=O (show b.i+4<=p.nx.i/\p.nx.N.length+b.i<=b.N.length+p.nx.i/\p.nx.T.length+b.i<=b.T.length+p.nx.i/\b.N.length<=p.nx.N.length by
            have D:=G6.o;simp only[F6,St.nx]at D⊢
            omega)
           clear G6;generalize p.nx=s7 at *;obtain⟨i0,aj,am,an,ao⟩:=info_parts Tryz.infoField;have ae:=O (z.o.alloc (.cells #[.string ⟨nm.toArray⟩,U y] 131));go_wp2_with (at_builtin;refine wpList_append_own_at _ rfl _ _ 74 rfl w.heap.size 131 i0 _ 2 24 underlying74 aj am an ao rfl (by decide) _ _ _ rfl ae.o (J ax.heap.size 0) 1 1 [.string ⟨nm.toArray⟩,U y] rfl rfl ?c1 ?c2 ?c3 ?c4 ?c5 ?_)
           case c1=>exact N9b _ _ _ _
           case c2=>intro b5 hu;simp at hu;rcases hu with rfl|rfl<;>rfl
           case c3=>simp only[maxLen];omega
           case c4=>omega
           case c5=>have:=E.o.size;simp;omega
           · intro v' ay K H _ Y;obtain⟨a7,c2,ac⟩:=B9 K;rw[ac]at K Y⊢;have PG:=O ((P7.o.alloc (.cells #[.string ⟨nm.toArray⟩,U y] 131)).grown (v:= .slice m f.length c) (v':= .slice a7 (f.length+1) c2) (z.o.alloc _) (.inr rfl) H (by simpa using Y));have KG:=O ((E.o.alloc (.cells #[.string ⟨nm.toArray⟩,U y] 131)).grown (z.o.alloc _) H);have NG:Hid (Nms ay w.heap.size w.heap.size ((f.map (·.1))++[nm])):=by
              refine(N7.o.chg (I.alloc No _ (.cells #[.string ⟨nm.toArray⟩,U y] 131)) (λ_ _ _ _ a4=>a4.elim)).chg (I.grown H) (λap cs e hh hx=> ?_);obtain⟨_,az,a2⟩:=A9 (z.o.alloc (.cells #[.string ⟨nm.toArray⟩,U y] 131)) ap hx.symm;rw[hh]at a2;simp only[zQ,xW]at a2;obtain⟨_,rfl,_⟩:=a2;exact⟨by decide,by decide⟩
             have OG:=O K;clear K H Y ae P7 z E ac N7;go_wp2_with fail
             go_roundw
             case rel=>
              have h1:=N.o;have D:=G7.o;simp only[J9]at h1;refine⟨f++[(nm,y)],s7,a7,c2,by simp,by simp;omega,by have:=NG.o;show Nms _ _ _ _;simpa using this,KG.o,⟨by omega,by omega,by omega,by omega⟩, ?_, ?_,V7.o⟩
              · have:=OG.o;show World.ownsRow _ _ _ _ _ _ _;rw[O7a];simpa[M5]using this
              · have:=PG.o;show Pst _ _ _ _ _ _ _ _;simpa using this
             case measure=>
              have D:=G7.o;have h3:=PG.o.nxt;rw[h3,ak];omega
         · exact⟨rfl,J2 E.o (W.o _ (Ev.bad (U0 k))) (by decide)⟩
      · exact⟨rfl,J2 v.o (T.o _ (Ev.bad (U0 k))) (by decide)⟩
    · have Z:er≠0:=L6b N0.o;obtain rfl:=n;exact⟨rfl,J2 u.o (X.o _ (Ev.bad Ev.pure)) Z⟩
  · have C:Pst ag B pb tv L (λg=>ok g/\some g≠Value.ownBlock (.slice m f.length c)) d b.nx:=by simpa using F.o
    have PY:=C.mono (ok':=ok) (λg j _=>j.1);have HA:=C1a t PY ⟨7,f,[],0⟩ m none f.length c 0 0 ⟨_,_,rfl,C9 x.o (wQ _),kW _ _ _ _,λg j=>a3 g (A9 x.o g j).1,by simp[Value.ownBlock]⟩ (by simp only[St.nx];omega) (kQ hB q.o.size) (λg j=>a3 g (kQ q.o.size j));have EV:=O (G.o _ (E3c Q1.o));have GX:=O (show F6 s ⟨b.nx.i,b.nx.N,b.nx.T++[⟨7,f,[],0⟩]⟩ by
     have D:=N.o;simp only[F6,J9,St.nx,qQ,jQ,xQ]at D⊢
     omega)
    clear G F C PY x R;go_wp2_with fail
    refine HA.mono ?_;clear HA;rintro e av ⟨rfl,a,i⟩;have u:=O (q.o.trans a);have ah:=O i;clear a i;go_wp2_with fail
    go_ret;exact B4a u.o EV.o ah.o GX.o
theorem K3b(b:LOk L):∀m,Con B pb tv L 31 (λd s r=>r.typ d s) m:=by
 intro m;induction m using Nat.strongRecOn with
 |_ m e=>
  have g:∀a,a<m->Con B pb tv L 138 (λd s r=>r.objL d s []) a:=λa h=>A8b b a (λk c=>e k (by omega));have hF:∀a,a<m->Con B pb tv L 140 (λd s r=>r.fob d s) a:=λa h=>S9d b a (λk c=>e k (by omega));have f:∀a,a<=m->Con B pb tv L 101 (λd s r=>r.member d s) a:=λa h=>B7c b a (λk c=>e k (by omega)) (λk c=>g k (by omega)) (λk c=>hF k (by omega));exact N3d b m (M7c b m f)
end
