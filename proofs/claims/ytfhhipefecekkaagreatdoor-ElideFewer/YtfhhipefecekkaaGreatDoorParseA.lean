/-
  A part of the proof.
-/
import Derived.Test.YtfhhipefecekkaaGreatDoorProg
import Derived.Test.YtfhhipefecekkaaGreatDoorPlainA
import Derived.WalkKit
import Derived.WalkSpells
import Derived.WalkLawsBesides
import Derived.Laws.Rows
import Derived.Maps.AppendAt
import Derived.Deep.QuietTactic
import Derived.BigQuiet
import Derived.Deep.RegionHeld3
import Derived.Deep.RegionLaw
import Derived.Deep.AppendLies
set_option maxHeartbeats 16000000
set_option maxRecDepth 100000
namespace Go.Proofs.YtfhhipefecekkaaGreatDoor
open Go.Proofs.Tryz
theorem xW{a x : Array Value}{b y : TypeId}{c z : Nat × Nat} : (Obj.cells a b c = .cells x y z) = (a = x /\ b = y /\ c = z) := Obj.cells.injEq ..
theorem kW(w : World)(b : Nat)(e : TypeId)(s : Nat) : w.ownsRow b e s (.slice none 0 0) 0 [] := World.ownsRow_nil w b e s
abbrev iV(n:Int):Value:= .int .i64 n
abbrev pV(b:Nat):Value:= .pointer (some ⟨b,0,none⟩)
abbrev ndC(k a b c:Int)(l:Value)(t:List UInt8)(n y p:Int):Obj:= .cells #[iV k,iV a,iV b,iV c,l,.string ⟨t.toArray⟩,iV n,iV y,iV p] 70
abbrev No:Nat->Prop:=λ_=>False
abbrev aD(b o:Nat):Addr:=⟨b,o,none⟩
abbrev sN:Value:= .slice none 0 0
abbrev sV(l:List UInt8):Value:= .string ⟨l.toArray⟩
abbrev rT:Ending:= .returned (.tuple #[])
abbrev _root_.Go.World.z(w:World):Nat:=w.heap.size
theorem ltG{α:Type}{xs:Array α}{i:Nat}{a:α}(h:xs[i]? =some a):i<xs.size:=(Array.getElem?_eq_some_iff.1 h).1
theorem blt{w:World}{a:Addr}{v:Value}(h:w.cell? a=some v):a.block<w.heap.size:=World.block_lt_of_cell? w a h
theorem mkf(fn:Fn)(first cap:Array Value)(w:World):(Instr.makeFunc fn first cap).run prog w= .ok (.func fn first cap) w:=rfl
open Go.RowKit in
theorem cr{w:World}{b o:Nat}{cs:Array Value}{e:TypeId}{fz:Nat×Nat}{v:Value}(h:w.heap[b]? =some (.cells cs e fz))(hv:cs[o]? =some v):w.cell? ⟨b,o,none⟩=some v:=(cell_of_row _ _ o _ _ _ h).trans hv
open Go.RowKit
theorem F1{a b:Bool}(h:a=b):Ending.returned (.bool a)= .returned (.bool b):=by rw[h]
theorem T5(n:Nat)(w:World):Calls prog 95 #[.int .u8 (n:Int)] w λe w'=>e= .returned (.bool (M.dig n))/\w'=w:=by
 go_enter func95,ntmps95;go_wp2;all_goals go_ret
 all_goals exact⟨F1 (by rw[Bool.eq_iff_iff];simp[M.dig];omega),rfl⟩
theorem Y6(n:Nat)(w:World):Calls prog 97 #[.int .u8 (n:Int)] w λe w'=>e= .returned (.bool (M.let' n))/\w'=w:=by
 go_enter func97,ntmps97;go_wp2;all_goals go_ret
 all_goals exact⟨F1 (by rw[Bool.eq_iff_iff];simp[M.let'];omega),rfl⟩
theorem Y6a(n:Nat)(w:World):Calls prog 94 #[.int .u8 (n:Int)] w λe w'=>e= .returned (.bool (M.blank n))/\w'=w:=by
 go_enter func94,ntmps94;go_wp2;all_goals go_ret
 all_goals exact⟨F1 (by rw[Bool.eq_iff_iff];simp[M.blank];omega),rfl⟩
theorem Y4a(n:Nat)(w:World):Calls prog 135 #[.int .u8 (n:Int)] w λe w'=>e= .returned (.bool (M.txt n))/\w'=w:=by
 go_enter func135,ntmps135;go_wp2;all_goals go_ret
 all_goals exact⟨F1 (by rw[Bool.eq_iff_iff];simp[M.txt];omega),rfl⟩
theorem O6a(n:Nat)(w:World):Calls prog 131 #[.int .u8 (n:Int)] w λe w'=>e= .returned (.bool (M.dig n))/\w'=w:=by
 go_enter func131,ntmps131;go_wp2_with (go_at_call 95;refine(T5 _ _).mono ?_;rintro e w' ⟨rfl,rfl⟩)
 go_ret;exact⟨rfl,rfl⟩
theorem Z8a(n:Nat)(w:World):Calls prog 133 #[.int .u8 (n:Int)] w λe w'=>e= .returned (.bool (M.nam n))/\w'=w:=by
 cases h:M.let' n;all_goals
  go_enter func133,ntmps133;go_wp2_with (first|(go_at_call 95;refine(T5 _ _).mono ?_;rintro e w' ⟨rfl,rfl⟩)|(go_at_call 97;refine(Y6 _ _).mono ?_;rintro e w' ⟨rfl,rfl⟩))
  go_ret;exact⟨F1 (by simp[M.nam,h]),rfl⟩
theorem J3{k:IntKind}{a b:Int}(h:a=b):Ending.returned (.int k a)= .returned (.int k b):=by rw[h]
theorem bl(s:ByteArray):s.data.toList.length=s.size:=by rw[Array.length_toList];rfl
theorem O1b(s:ByteArray)(w:World)(hs:s.size<=maxLen):Calls prog 93 #[.string s,.func (.func 94) #[] #[]] w λe w'=>e= .returned (iV (M.sp M.blank s.data.toList))/\w'=w:=by
 unfold maxLen at hs;go_enter func93,ntmps93;go_wp2;go_loop [5] (λi=>∃k:Nat,k<=s.size/\i=iV k/\k<=M.sp M.blank s.data.toList) (λi=>s.size - (intOf i).toNat)
 case atStart=>exact⟨0,wQ _,rfl,wQ _⟩
 case round=>
  obtain⟨k,hk,rfl,hq⟩:=hrel;by_cases hlt:k<s.size
  · cases hp:M.blank s[k].toNat
    · go_wp2_with (go_at_call 94;refine(Y6a _ _).mono ?_;rintro e w' ⟨rfl,rfl⟩)
      go_ret;exact⟨J3 (by rw[M.G9b M.blank s.data.toList k (by rw[bl];exact hlt) hq hp]),rfl⟩
    · go_wp2_with (go_at_call 94;refine(Y6a _ _).mono ?_;rintro e w' ⟨rfl,rfl⟩)
      go_round
      case rel=>exact⟨k+1,by omega,by go_num,M.M5a M.blank s.data.toList k (by rw[bl];exact hlt) hq hp⟩
      case measure=>simp[intOf];omega
  · go_wp2;go_ret;exact⟨J3 (by have:=M.B8a M.blank s.data.toList;rw[bl]at this;omega),rfl⟩
theorem O0b(s:ByteArray)(w:World)(hs:s.size<=maxLen):Calls prog 93 #[.string s,.func (.func 131) #[] #[]] w λe w'=>e= .returned (iV (M.sp M.dig s.data.toList))/\w'=w:=by
 unfold maxLen at hs;go_enter func93,ntmps93;go_wp2;go_loop [5] (λi=>∃k:Nat,k<=s.size/\i=iV k/\k<=M.sp M.dig s.data.toList) (λi=>s.size - (intOf i).toNat)
 case atStart=>exact⟨0,wQ _,rfl,wQ _⟩
 case round=>
  obtain⟨k,hk,rfl,hq⟩:=hrel;by_cases hlt:k<s.size
  · cases hp:M.dig s[k].toNat
    · go_wp2_with (go_at_call 131;refine(O6a _ _).mono ?_;rintro e w' ⟨rfl,rfl⟩)
      go_ret;exact⟨J3 (by rw[M.G9b M.dig s.data.toList k (by rw[bl];exact hlt) hq hp]),rfl⟩
    · go_wp2_with (go_at_call 131;refine(O6a _ _).mono ?_;rintro e w' ⟨rfl,rfl⟩)
      go_round
      case rel=>exact⟨k+1,by omega,by go_num,M.M5a M.dig s.data.toList k (by rw[bl];exact hlt) hq hp⟩
      case measure=>simp[intOf];omega
  · go_wp2;go_ret;exact⟨J3 (by have:=M.B8a M.dig s.data.toList;rw[bl]at this;omega),rfl⟩
theorem N9b(s:ByteArray)(w:World)(hs:s.size<=maxLen):Calls prog 93 #[.string s,.func (.func 133) #[] #[]] w λe w'=>e= .returned (iV (M.sp M.nam s.data.toList))/\w'=w:=by
 unfold maxLen at hs;go_enter func93,ntmps93;go_wp2;go_loop [5] (λi=>∃k:Nat,k<=s.size/\i=iV k/\k<=M.sp M.nam s.data.toList) (λi=>s.size - (intOf i).toNat)
 case atStart=>exact⟨0,wQ _,rfl,wQ _⟩
 case round=>
  obtain⟨k,hk,rfl,hq⟩:=hrel;by_cases hlt:k<s.size
  · cases hp:M.nam s[k].toNat
    · go_wp2_with (go_at_call 133;refine(Z8a _ _).mono ?_;rintro e w' ⟨rfl,rfl⟩)
      go_ret;exact⟨J3 (by rw[M.G9b M.nam s.data.toList k (by rw[bl];exact hlt) hq hp]),rfl⟩
    · go_wp2_with (go_at_call 133;refine(Z8a _ _).mono ?_;rintro e w' ⟨rfl,rfl⟩)
      go_round
      case rel=>exact⟨k+1,by omega,by go_num,M.M5a M.nam s.data.toList k (by rw[bl];exact hlt) hq hp⟩
      case measure=>simp[intOf];omega
  · go_wp2;go_ret;exact⟨J3 (by have:=M.B8a M.nam s.data.toList;rw[bl]at this;omega),rfl⟩
theorem N8b(s:ByteArray)(w:World)(hs:s.size<=maxLen):Calls prog 93 #[.string s,.func (.func 135) #[] #[]] w λe w'=>e= .returned (iV (M.sp M.txt s.data.toList))/\w'=w:=by
 unfold maxLen at hs;go_enter func93,ntmps93;go_wp2;go_loop [5] (λi=>∃k:Nat,k<=s.size/\i=iV k/\k<=M.sp M.txt s.data.toList) (λi=>s.size - (intOf i).toNat)
 case atStart=>exact⟨0,wQ _,rfl,wQ _⟩
 case round=>
  obtain⟨k,hk,rfl,hq⟩:=hrel;by_cases hlt:k<s.size
  · cases hp:M.txt s[k].toNat
    · go_wp2_with (go_at_call 135;refine(Y4a _ _).mono ?_;rintro e w' ⟨rfl,rfl⟩)
      go_ret;exact⟨J3 (by rw[M.G9b M.txt s.data.toList k (by rw[bl];exact hlt) hq hp]),rfl⟩
    · go_wp2_with (go_at_call 135;refine(Y4a _ _).mono ?_;rintro e w' ⟨rfl,rfl⟩)
      go_round
      case rel=>exact⟨k+1,by omega,by go_num,M.M5a M.txt s.data.toList k (by rw[bl];exact hlt) hq hp⟩
      case measure=>simp[intOf];omega
  · go_wp2;go_ret;exact⟨J3 (by have:=M.B8a M.txt s.data.toList;rw[bl]at this;omega),rfl⟩
structure Chg(S:Nat->Prop)(w w':World):Prop where
 os:w'.os=w.os
 tape:w'.tape=w.tape
 output:w'.output=w.output
 size:w.heap.size<=w'.heap.size
 block:∀k,k<w.heap.size->¬S k->w'.heap[k]? =w.heap[k]?
theorem Chg.refl(S:Nat->Prop)(w:World):Chg S w w:=⟨rfl,rfl,rfl,vQ _,λ_ _ _=>rfl⟩
theorem Chg.trans{S S':Nat->Prop}{a b c:World}(h:Chg S a b)(k:Chg S' b c)(hs:∀i,i<a.heap.size->S' i->S i):Chg S a c:=
  ⟨k.os.trans h.os,k.tape.trans h.tape,k.output.trans h.output,kQ h.size k.size,
   λi hi hn=>(k.block i (yQ hi h.size) (λx=>hn (hs i hi x))).trans (h.block i hi hn)⟩
theorem Chg.mono{S S':Nat->Prop}{a b:World}(h:Chg S a b)(hs:∀i,i<a.heap.size->S i->S' i):Chg S' a b:=
 ⟨h.os,h.tape,h.output,h.size,λi hi hn=>h.block i hi (λx=>hn (hs i hi x))⟩
theorem Chg.alloc(S:Nat->Prop)(w:World)(o:Obj):Chg S w (w.alloc o):=⟨rfl,rfl,rfl,by simp,λk hk _=>Below.heap_alloc _ _ _ hk⟩
theorem Chg.set(w:World)(a:Addr)(v:Value):Chg (λk=>k=a.block) w (w.setCell a v):=
 ⟨rfl,rfl,rfl,by simp[World.setCell],λk _ hn=>Below.heap_setCell _ _ _ _ hn⟩
theorem Chg.drewN(S:Nat->Prop)(w:World)(n:Nat):Chg S w (w.drewN n):=⟨rfl,rfl,rfl,vQ _,λ_ _ _=>rfl⟩
theorem Chg.grown{w w':World}{row:Option Nat}(h:w.grownBy w' row):Chg (λk=>some k=row) w w':=⟨h.os,h.tape,h.output,h.size,λk hk hn=>h.block k hk hn⟩
theorem Chg.below{B:Nat}{w w':World}(h:Below B w w'):Chg (λk=>B<=k) w w':=⟨h.os,h.tape,h.output,h.size,λk _ hn=>h.block k (by omega)⟩
theorem Chg.toBelow{S:Nat->Prop}{B:Nat}{w w':World}(h:Chg S w w')(hs:∀i,i<w.heap.size->S i->B<=i)(hB:B<=w.heap.size):Below B w w':=
 ⟨h.os,h.tape,h.output,h.size,λk hk=>h.block k (by omega) (λx=>by have:=hs k (by omega) x;omega)⟩
theorem A3{S:Nat->Prop}{w w':World}{base:Nat}{e:TypeId}{size:Nat}{v:Value}{n:Nat}{xs:List Value}(h:w.ownsRow base e size v n xs)(hc:Chg S w w')
 (hs:∀g,v.ownBlock=some g->¬S g):w'.ownsRow base e size v n xs:=by
 refine⟨h.1, ?_⟩;rcases h.2 with h2|⟨g,cap,cur,rfl,hb,hg,r⟩
 · exact .inl h2
 · exact .inr ⟨g,cap,cur,rfl,hb,by rw[hc.block g (Array.getElem?_eq_some_iff.1 hg).1 (hs g rfl)];exact hg,r⟩
theorem A9{w:World}{base:Nat}{e:TypeId}{size:Nat}{v:Value}{n:Nat}{xs:List Value}(h:w.ownsRow base e size v n xs):∀g,v.ownBlock=some g->base<=g/\∃cur,w.heap[g]? =some (.cells cur e (0,0)):=by
 intro g hg;rcases h.2 with ⟨rfl,_⟩|⟨g',cap,cur,rfl,hb,hh,_⟩
 · simp[Value.ownBlock]at hg
 · simp only[Value.ownBlock,zQ]at hg;subst hg;exact⟨hb,cur,hh⟩
theorem C7{w:World}{base base':Nat}{e:TypeId}{size:Nat}{v:Value}{n:Nat}{xs:List Value}(h:w.ownsRow base e size v n xs)(hb:base'<=base):w.ownsRow base' e size v n xs:=by
 obtain⟨h1,h2⟩:=h;refine⟨h1, ?_⟩;rcases h2 with h2|⟨g,cap,cur,hv,hg,r⟩
 · exact .inl h2
 · exact .inr ⟨g,cap,cur,hv,kQ hb hg,r⟩
theorem B7{w:World}{base:Nat}{e:TypeId}{size:Nat}{v:Value}{n:Nat}{xs:List Value}(h:w.ownsRow base e size v n xs):∃ad c,v= .slice ad n c:=by
 rcases h.2 with ⟨rfl,rfl⟩|⟨g,cap,cur,hv,_⟩
 · exact⟨_,_,rfl⟩
 · exact⟨_,_,hv⟩
theorem J8c{w:World}{base:Nat}{e:TypeId}{size:Nat}{v:Value}{n:Nat}{xs:List Value}(h:w.ownsRow base e size v n xs):xs.length=n * size:=h.1
theorem D8{w:World}{base:Nat}{e:TypeId}{size:Nat}{ad:Option Addr}{c n:Nat}{xs:List Value}(h:w.ownsRow base e size (.slice ad n c) n xs)(hn:0<n):
 ∃g,ad=some ⟨g,0,none⟩/\base<=g/\g<w.heap.size/\n<=c/\c<=maxLen/\∀j u,xs[j]? =some u->w.cell? ⟨g,j,none⟩=some u:=by
 have hc:=λg hg=>h.cells (g:=g) hg;have hl:=h.lt;rcases h.2 with ⟨_,h0⟩|⟨g,cap,cur,hv,hb,hg,hn2,hm,_⟩
 · omega
 · simp only[Value.slice.injEq]at hv;obtain⟨rfl,_,rfl⟩:=hv;refine⟨g,rfl,hb,(hl g rfl).2,hn2,hm,λj u hj=> ?_⟩;have:=hc g rfl j u hj;have hadd:(⟨g,0,none⟩:Addr).add j=⟨g,j,none⟩:=by unfold Addr.add;split<;>simp_all
   rw[hadd]at this;exact this
/-! ### Rows of structs -/
def Rws{α:Type}(R:α->List Value->Prop):List α->List Value->Prop
 |[],xs=>xs=[]
 |a::l,xs=>∃h t,xs=h++t/\R a h/\Rws R l t
theorem Rws.snoc{α:Type}{R:α->List Value->Prop}:∀{l:List α} {xs:List Value} {a:α} {h:List Value},Rws R l xs->R a h->Rws R (l++[a]) (xs++h)
 |[],xs,a,h,hx,hr=>by
  have:xs=[]:=hx;subst this;exact⟨h,[],by simp,hr,rfl⟩
 |b::l,xs,a,h,hx,hr=>by
  obtain⟨h1,t,rfl,hb,ht⟩:=hx;exact⟨h1,t++h,by simp,hb,Rws.snoc ht hr⟩
theorem Rws.imp{α:Type}{R R':α->List Value->Prop}(hi:∀a h,R a h->R' a h):∀{l:List α} {xs:List Value},Rws R l xs->Rws R' l xs
 |[],_,hx=>hx
 |_::_,_,hx=>by
  obtain⟨h1,t,he,hb,ht⟩:=hx;exact⟨h1,t,he,hi _ _ hb,Rws.imp hi ht⟩
theorem Rws.take{α:Type}{R:α->List Value->Prop}{z:Nat}(hz:∀a h,R a h->h.length=z):∀{l:List α} {xs:List Value} (k:Nat),Rws R l xs->Rws R (l.take k) (xs.take (k * z))
 |[],xs,k,hx=>by
  have:xs=[]:=hx;subst this;simp[Rws]
 |a::l,xs,0,hx=>by simp[Rws]
 |a::l,xs,k+1,hx=>by
  obtain⟨h1,t,rfl,hb,ht⟩:=hx;refine⟨h1,t.take (k * z), ?_,hb,Rws.take hz k ht⟩;have:=hz _ _ hb;rw[List.take_append,List.take_of_length_le (by rw[this];simp[Nat.add_mul]),this];congr 2
  simp[Nat.add_mul]
theorem Rws.at{α:Type}{R:α->List Value->Prop}{z:Nat}(hz:∀a h,R a h->h.length=z):∀{l:List α} {xs:List Value} (k:Nat) (hk:k<l.length),Rws R l xs->∃h,R l[k] h/\∀j,j<z->xs[k * z+j]? =h[j]?
 |[],_,k,hk,_=>by simp at hk
 |a::l,xs,0,_,hx=>by
  obtain⟨h1,t,rfl,hb,ht⟩:=hx;refine⟨h1,hb,λj hj=> ?_⟩;have:=hz _ _ hb;rw[List.getElem?_append_left (by omega)];simp
 |a::l,xs,k+1,hk,hx=>by
  obtain⟨h1,t,rfl,hb,ht⟩:=hx;obtain⟨h,hr,hj⟩:=Rws.at hz k (by simpa using hk) ht;refine⟨h,hr,λj hj'=> ?_⟩;have:=hz _ _ hb;rw[List.getElem?_append_right (by rw[this,Nat.add_mul];omega),this,<-hj j hj'];congr 1
  rw[Nat.add_mul];omega
def J1(f:List UInt8×Int):List Value:=[.string ⟨f.1.toArray⟩,.int .i64 f.2]
def F5(l:List (List UInt8×Int)):List Value:=l.flatMap J1
def B8(l:List Int):List Value:=l.map (.int .i64)
def M1a(t:M.Tk):List Value:=[.int .i64 t.kind,.string ⟨t.text.toArray⟩,.int .i64 (t.at':Int)]
def B5a(L:List M.Tk):List Value:=L.flatMap M1a
theorem A5c(L:List M.Tk)(t:M.Tk):B5a (L++[t])=B5a L++M1a t:=by simp[B5a]
theorem I7a(L:List (List UInt8×Int))(t:List UInt8×Int):F5 (L++[t])=F5 L++J1 t:=by simp[F5]
theorem M5(L:List Int)(t:Int):B8 (L++[t])=B8 L++[.int .i64 t]:=by simp[B8]
def TyV(w:World)(ok:Nat->Prop)(t:M.Ty)(xs:List Value):Prop:=
 ∃fv lv,xs=[.int .i64 t.kind,fv,lv,.int .i64 t.of']/\w.ownsRow 0 121 2 fv t.fields.length (F5 t.fields)/\w.ownsRow 0 3 1 lv t.list.length (B8 t.list)/\
  (∀g,fv.ownBlock=some g->ok g)/\(∀g,lv.ownBlock=some g->ok g)
def NdV(w:World)(ok:Nat->Prop)(n:M.Nd)(xs:List Value):Prop:=
 ∃lv,xs=[.int .i64 n.kind,.int .i64 n.a,.int .i64 n.b,.int .i64 n.c,lv,.string ⟨n.text.toArray⟩,.int .i64 n.n,.int .i64 n.ty,.int .i64 n.at']/\w.ownsRow 0 3 1 lv n.list.length (B8 n.list)/\
  (∀g,lv.ownBlock=some g->ok g)
theorem TyV.len{w:World}{ok:Nat->Prop}{t:M.Ty}{xs:List Value}(h:TyV w ok t xs):xs.length=4:=by obtain⟨_,_,rfl,_⟩:=h;rfl
theorem NdV.len{w:World}{ok:Nat->Prop}{t:M.Nd}{xs:List Value}(h:NdV w ok t xs):xs.length=9:=by obtain⟨_,rfl,_⟩:=h;rfl
def tag(w:World)(k:Nat):Prop:=∃cs e fz,w.heap[k]? =some (.cells cs e fz)/\(e=92\/e=70\/e=66)
def Kept(B:Nat)(ok:Nat->Prop)(w w':World):Prop:=Chg (λk=>B<=k/\tag w k/\ok k) w w'
theorem Kept.refl(B:Nat)(ok:Nat->Prop)(w:World):Kept B ok w w:=Chg.refl _ _
theorem Kept.mono{B:Nat}{ok ok':Nat->Prop}{w w':World}(h:Kept B ok w w')(ho:∀g,ok g->ok' g):Kept B ok' w w':=Chg.mono h λ_ _ x=>⟨x.1,x.2.1,ho _ x.2.2⟩
theorem Kept.trans{B:Nat}{ok:Nat->Prop}{a b c:World}(h:Kept B ok a b)(k:Kept B ok b c):Kept B ok a c:=by
 refine⟨k.os.trans h.os,k.tape.trans h.tape,k.output.trans h.output,kQ h.size k.size,λi hi hn=> ?_⟩;have h1:=h.block i hi hn;refine(k.block i (yQ hi h.size) (λx=>hn ⟨x.1, ?_,x.2.2⟩)).trans h1;obtain⟨cs,e,fz,hh,r⟩:=x.2.1;exact⟨cs,e,fz,by rw[<-h1];exact hh,r⟩
theorem Kept.trans'{B:Nat}{ok:Nat->Prop}{S:Nat->Prop}{a b c:World}(h:Kept B ok a b)(k:Chg S b c)(hs:∀i,i<a.heap.size->¬S i):Kept B ok a c:=Chg.trans h k λi hi x=>(hs i hi x).elim
theorem Kept.alloc{B:Nat}{ok:Nat->Prop}{a b:World}(h:Kept B ok a b)(o:Obj):Kept B ok a (b.alloc o):=h.trans (Chg.alloc _ _ _)
theorem Kept.below{B:Nat}{ok:Nat->Prop}{w w':World}(h:Kept B ok w w')(hB:B<=w.heap.size):Below B w w':=Chg.toBelow h (λ_ _ x=>x.1) hB
theorem F4{B:Nat}{ok:Nat->Prop}{w w':World}{base:Nat}{e:TypeId}{size:Nat}{v:Value}{n:Nat}{xs:List Value}(h:w.ownsRow base e size v n xs)(hc:Kept B ok w w')
 (he:e≠92/\e≠70/\e≠66):w'.ownsRow base e size v n xs:=by
 refine A3 h hc λg hg hx=> ?_;obtain⟨_,cur,hh⟩:=A9 h g hg;obtain⟨cs,e',fz,hh',r⟩:=hx.2.1;rw[hh]at hh';simp only[zQ,xW]at hh';obtain⟨_,rfl,_⟩:=hh';rcases r with r|r|r
 · exact he.1 r
 · exact he.2.1 r
 · exact he.2.2 r
theorem TyV.chg{S:Nat->Prop}{w w':World}{ok ok':Nat->Prop}(hc:Chg S w w')(hs:∀g,ok g->g<w.heap.size->S g->(∃cur e,w.heap[g]? =some (.cells cur e (0,0))/\(e=121\/e=3))->False)(ho:∀g,ok g->g<w.heap.size->ok' g)(t:M.Ty)(xs:List Value)(h:TyV w ok t xs):TyV w' ok' t xs:=by
 obtain⟨fv,lv,rfl,h1,h2,h3,h4⟩:=h;refine⟨fv,lv,rfl,A3 h1 hc λg hg x=> ?_,A3 h2 hc λg hg x=> ?_,λg hg=>ho g (h3 g hg) (h1.lt g hg).2,λg hg=>ho g (h4 g hg) (h2.lt g hg).2⟩
 · obtain⟨_,cur,hh⟩:=A9 h1 g hg;exact hs g (h3 g hg) (h1.lt g hg).2 x ⟨cur,_,hh,.inl rfl⟩
 · obtain⟨_,cur,hh⟩:=A9 h2 g hg;exact hs g (h4 g hg) (h2.lt g hg).2 x ⟨cur,_,hh,.inr rfl⟩
theorem NdV.chg{S:Nat->Prop}{w w':World}{ok ok':Nat->Prop}(hc:Chg S w w')(hs:∀g,ok g->g<w.heap.size->S g->(∃cur e,w.heap[g]? =some (.cells cur e (0,0))/\(e=121\/e=3))->False)(ho:∀g,ok g->g<w.heap.size->ok' g)(t:M.Nd)(xs:List Value)(h:NdV w ok t xs):NdV w' ok' t xs:=by
 obtain⟨lv,rfl,h2,h4⟩:=h;refine⟨lv,rfl,A3 h2 hc λg hg x=> ?_,λg hg=>ho g (h4 g hg) (h2.lt g hg).2⟩;obtain⟨_,cur,hh⟩:=A9 h2 g hg;exact hs g (h4 g hg) (h2.lt g hg).2 x ⟨cur,_,hh,.inr rfl⟩
structure LOk(L:List M.Tk):Prop where
 short:L.length<=1001
 last:∀i,i<L.length->((M.tk L i).kind=6 ↔ i+1=L.length)
structure PstL(w:World)(B pb:Nat)(tv:Value)(L:List M.Tk)(ok:Nat->Prop)(d:Nat)(s:M.St):Prop where
 low:B<=pb
 at':s.i<L.length
 few:s.N.length<=s.i+1/\s.T.length<=s.i
 toks:w.ownsRow 0 115 3 tv L.length (B5a L)
 oks:ok pb/\(∀v g,w.cell? ⟨pb,3,none⟩=some v->v.ownBlock=some g->ok g)/\∀v g,w.cell? ⟨pb,4,none⟩=some v->v.ownBlock=some g->ok g
 blk:∃nv yv nx yx,w.heap[pb]? =some (.cells #[tv,.int .i64 (s.i:Int),.int .i64 (d:Int),nv,yv] 92 (0,0))/\w.ownsRow B 70 9 nv s.N.length nx/\w.ownsRow B 66 4 yv s.T.length yx/\
  Rws (NdV w ok) s.N nx/\Rws (TyV w ok) s.T yx
structure Pst(w:World)(B pb:Nat)(tv:Value)(L:List M.Tk)(ok:Nat->Prop)(d:Nat)(s:M.St):Prop where
 low:B<=pb
 at':s.i<L.length
 few:s.N.length<=s.i/\s.T.length<=s.i
 toks:w.ownsRow 0 115 3 tv L.length (B5a L)
 oks:ok pb/\(∀v g,w.cell? ⟨pb,3,none⟩=some v->v.ownBlock=some g->ok g)/\∀v g,w.cell? ⟨pb,4,none⟩=some v->v.ownBlock=some g->ok g
 blk:∃nv yv nx yx,w.heap[pb]? =some (.cells #[tv,.int .i64 (s.i:Int),.int .i64 (d:Int),nv,yv] 92 (0,0))/\w.ownsRow B 70 9 nv s.N.length nx/\w.ownsRow B 66 4 yv s.T.length yx/\
  Rws (NdV w ok) s.N nx/\Rws (TyV w ok) s.T yx
theorem PstL.pst{w:World}{B pb:Nat}{tv:Value}{L:List M.Tk}{ok:Nat->Prop}{d:Nat}{s:M.St}(h:PstL w B pb tv L ok d s)(hn:s.N.length<=s.i):Pst w B pb tv L ok d s:=⟨h.low,h.at',⟨hn,h.few.2⟩,h.toks,h.oks,h.blk⟩
theorem Pst.l{w:World}{B pb:Nat}{tv:Value}{L:List M.Tk}{ok:Nat->Prop}{d:Nat}{s:M.St}(h:Pst w B pb tv L ok d s):PstL w B pb tv L ok d s:=⟨h.low,h.at',⟨Nat.le_succ_of_le h.few.1,h.few.2⟩,h.toks,h.oks,h.blk⟩
theorem PstL.chg{S:Nat->Prop}{w w':World}{B pb:Nat}{tv:Value}{L:List M.Tk}{ok ok':Nat->Prop}{d:Nat}{s:M.St}(h:PstL w B pb tv L ok d s)(hc:Chg S w w')
 (hs:∀k cur e,w.heap[k]? =some (.cells cur e (0,0))->S k->e≠92/\e≠70/\e≠66/\tv.ownBlock≠some k/\((e=121\/e=3)->¬ok k))
 (ho:∀g,ok g->g<w.heap.size->ok' g):PstL w' B pb tv L ok' d s:=by
 obtain⟨h1,h2,h3,h4,h5,nv,yv,nx,yx,hb,hn,hy,hrn,hry⟩:=h;have hlt:=(Array.getElem?_eq_some_iff.1 hb).1;have key:∀g,ok g->g<w.heap.size->S g->(∃cur e,w.heap[g]? =some (.cells cur e (0,0))/\(e=121\/e=3))->False:=by
  rintro g hg _ hx ⟨cur,e,hh,he⟩;exact(hs g cur e hh hx).2.2.2.2 he hg
 have hbw:w'.heap[pb]? =w.heap[pb]? :=hc.block pb hlt (λx=>(hs pb _ _ hb x).1 rfl);have hok5:ok' pb/\(∀v g,w'.cell? ⟨pb,3,none⟩=some v->v.ownBlock=some g->ok' g)/\∀v g,w'.cell? ⟨pb,4,none⟩=some v->v.ownBlock=some g->ok' g:=by
  have c3:w.cell? ⟨pb,3,none⟩=some nv:=by rw[cell_of_row w pb 3 _ _ _ hb];rfl
  have c4:w.cell? ⟨pb,4,none⟩=some yv:=by rw[cell_of_row w pb 4 _ _ _ hb];rfl
  refine⟨ho _ h5.1 hlt,λv g hv hg=> ?_,λv g hv hg=> ?_⟩
  · rw[World.cell?_of_block (a:=⟨pb,3,none⟩) hbw,c3]at hv;cases hv;exact ho g (h5.2.1 _ g c3 hg) (hn.lt g hg).2
  · rw[World.cell?_of_block (a:=⟨pb,4,none⟩) hbw,c4]at hv;cases hv;exact ho g (h5.2.2 _ g c4 hg) (hy.lt g hg).2
 refine⟨h1,h2,h3,A3 h4 hc λg hg x=> ?_,hok5,nv,yv,nx,yx, ?_,A3 hn hc λg hg x=> ?_,A3 hy hc λg hg x=> ?_,hrn.imp (NdV.chg hc key ho),hry.imp (TyV.chg hc key ho)⟩
 · obtain⟨_,cur,hh⟩:=A9 h4 g hg;exact(hs g cur _ hh x).2.2.2.1 hg
 · rw[hc.block pb hlt (λx=>(hs pb _ _ hb x).1 rfl)];exact hb
 · obtain⟨_,cur,hh⟩:=A9 hn g hg;exact(hs g cur _ hh x).2.1 rfl
 · obtain⟨_,cur,hh⟩:=A9 hy g hg;exact(hs g cur _ hh x).2.2.1 rfl
theorem PstL.still{w w':World}{B pb:Nat}{tv:Value}{L:List M.Tk}{ok:Nat->Prop}{d:Nat}{s:M.St}(h:PstL w B pb tv L ok d s)(hc:Chg (λ_=>False) w w'):PstL w' B pb tv L ok d s:=
 h.chg hc (λ_ _ _ _ x=>x.elim) (λ_ x _=>x)
theorem PstL.setOwn{w:World}{B pb:Nat}{tv:Value}{L:List M.Tk}{ok:Nat->Prop}{d:Nat}{s:M.St}(h:PstL w B pb tv L ok d s){q o:Nat}{cs:Array Value}{e:TypeId}{fz:Nat×Nat}(v:Value)(hq:w.heap[q]? =some (.cells cs e fz))(ht:tv.ownBlock≠some q)
 (he:e≠92/\e≠70/\e≠66/\e≠121/\e≠3):PstL (w.setCell ⟨q,o,none⟩ v) B pb tv L ok d s:=by
 refine h.chg (Chg.set w ⟨q,o,none⟩ v) (λk cur e' hk hs=> ?_) (λ_ x _=>x);have hs':k=q:=hs;subst hs';rw[hq]at hk;simp only[zQ,xW]at hk;obtain⟨_,rfl,_⟩:=hk;exact⟨he.1,he.2.1,he.2.2.1,ht,λx=>by rcases x with x|x;exact absurd x he.2.2.2.1;exact absurd x he.2.2.2.2⟩
theorem Pst.chg{S:Nat->Prop}{w w':World}{B pb:Nat}{tv:Value}{L:List M.Tk}{ok ok':Nat->Prop}{d:Nat}{s:M.St}(h:Pst w B pb tv L ok d s)(hc:Chg S w w')
 (hs:∀k cur e,w.heap[k]? =some (.cells cur e (0,0))->S k->e≠92/\e≠70/\e≠66/\tv.ownBlock≠some k/\((e=121\/e=3)->¬ok k))
 (ho:∀g,ok g->g<w.heap.size->ok' g):Pst w' B pb tv L ok' d s:=
 (h.l.chg hc hs ho).pst h.few.1
theorem Pst.still{w w':World}{B pb:Nat}{tv:Value}{L:List M.Tk}{ok:Nat->Prop}{d:Nat}{s:M.St}(h:Pst w B pb tv L ok d s)(hc:Chg (λ_=>False) w w'):Pst w' B pb tv L ok d s:=
 h.chg hc (λ_ _ _ _ x=>x.elim) (λ_ x _=>x)
theorem Pst.alloc{w:World}{B pb:Nat}{tv:Value}{L:List M.Tk}{ok:Nat->Prop}{d:Nat}{s:M.St}(h:Pst w B pb tv L ok d s)(o:Obj):Pst (w.alloc o) B pb tv L ok d s:=h.still (Chg.alloc _ _ _)
theorem Pst.mono{w:World}{B pb:Nat}{tv:Value}{L:List M.Tk}{ok ok':Nat->Prop}{d:Nat}{s:M.St}(h:Pst w B pb tv L ok d s)(ho:∀g,ok g->g<w.heap.size->ok' g):Pst w B pb tv L ok' d s:=
 h.chg (Chg.refl (λ_=>False) _) (λ_ _ _ _ x=>x.elim) ho
theorem C8{B:Nat}{ok:Nat->Prop}{w w':World}(h:Chg (λ_=>False) w w'):Kept B ok w w':=h.mono λ_ _ x=>x.elim
theorem Pst.store{w:World}{B pb:Nat}{tv:Value}{L:List M.Tk}{ok:Nat->Prop}{d:Nat}{s:M.St}(h:Pst w B pb tv L ok d s)(o:Nat)(v:Value)(i' d':Nat)(hi:i'<L.length)(hf:s.i<=i')
 (hv:∀nv yv,(#[tv,.int .i64 (s.i:Int),.int .i64 (d:Int),nv,yv]:Array Value).setIfInBounds o v=#[tv,.int .i64 (i':Int),.int .i64 (d':Int),nv,yv]):
 Pst (w.setCell ⟨pb,o,none⟩ v) B pb tv L ok d' ⟨i',s.N,s.T⟩:=by
 obtain⟨h1,h2,h3,h4,h5,nv,yv,nx,yx,hb,hn,hy,hrn,hry⟩:=h;have hc:=Chg.set w ⟨pb,o,none⟩ v;have hno:∀{base:Nat} {e:TypeId} {size:Nat} {v:Value} {n:Nat} {xs:List Value},w.ownsRow base e size v n xs->e≠92->∀g,v.ownBlock=some g->¬g=pb:=by
  intro base e size v n xs ho he g hg hx;subst hx;obtain⟨_,cur,hh⟩:=A9 ho g hg;rw[hb]at hh;simp only[zQ,xW]at hh;exact he hh.2.1.symm
 have key:∀g,ok g->g<w.heap.size->g=pb->(∃cur e,w.heap[g]? =some (.cells cur e (0,0))/\(e=121\/e=3))->False:=by
  rintro g _ _ rfl ⟨cur,e,hh,he⟩;rw[hb]at hh;simp only[zQ,xW]at hh;rcases he with rfl|rfl
  · exact absurd hh.2.1 (by decide)
  · exact absurd hh.2.1 (by decide)
 have hb2:(w.setCell ⟨pb,o,none⟩ v).heap[pb]? =some (.cells #[tv,.int .i64 (i':Int),.int .i64 (d':Int),nv,yv] 92 (0,0)):=by rw[heap_setCell_same w pb o _ _ v hb,hv]
 refine⟨h1,hi,⟨by show s.N.length<=i';omega,by show s.T.length<=i';omega⟩,A3 h4 hc (hno h4 (by decide)), ?_,nv,yv,nx,yx,hb2,A3 hn hc (hno hn (by decide)),A3 hy hc (hno hy (by decide)),hrn.imp (NdV.chg hc key (λ_ x _=>x)),hry.imp (TyV.chg hc key (λ_ x _=>x))⟩;have c3:w.cell? ⟨pb,3,none⟩=some nv:=by rw[cell_of_row w pb 3 _ _ _ hb];rfl
 have c4:w.cell? ⟨pb,4,none⟩=some yv:=by rw[cell_of_row w pb 4 _ _ _ hb];rfl
 refine⟨h5.1,λu g hu hg=> ?_,λu g hu hg=> ?_⟩
 · rw[cell_of_row _ pb 3 _ _ _ hb2]at hu;cases hu;exact h5.2.1 _ g c3 hg
 · rw[cell_of_row _ pb 4 _ _ _ hb2]at hu;cases hu;exact h5.2.2 _ g c4 hg
theorem Pst.next{w:World}{B pb:Nat}{tv:Value}{L:List M.Tk}{ok:Nat->Prop}{d:Nat}{s:M.St}(h:Pst w B pb tv L ok d s)(hi:s.i+1<L.length):Pst (w.setCell ⟨pb,1,none⟩ (.int .i64 ((s.i:Int)+1))) B pb tv L ok d s.nx:=
 h.store 1 _ (s.i+1) d hi (by omega) (λ_ _=>by simp)
theorem Pst.deeper{w:World}{B pb:Nat}{tv:Value}{L:List M.Tk}{ok:Nat->Prop}{d:Nat}{s:M.St}(h:Pst w B pb tv L ok d s)(d':Nat):Pst (w.setCell ⟨pb,2,none⟩ (.int .i64 (d':Int))) B pb tv L ok d' s:=
 h.store 2 _ s.i d' h.at' (by omega) (λ_ _=>by simp)
theorem Pst.tokLt{w:World}{B pb:Nat}{tv:Value}{L:List M.Tk}{ok:Nat->Prop}{d:Nat}{s:M.St}(h:Pst w B pb tv L ok d s){k:Nat}(hk:w.heap.size<=k):tv.ownBlock≠some k:=by
 intro hx;have:=(h.toks.lt k hx).2;omega
theorem Pst.setOwn{w:World}{B pb:Nat}{tv:Value}{L:List M.Tk}{ok:Nat->Prop}{d:Nat}{s:M.St}(h:Pst w B pb tv L ok d s){q o:Nat}{cs:Array Value}{e:TypeId}{fz:Nat×Nat}(v:Value)(hq:w.heap[q]? =some (.cells cs e fz))(ht:tv.ownBlock≠some q)
 (he:e≠92/\e≠70/\e≠66/\e≠121/\e≠3):Pst (w.setCell ⟨q,o,none⟩ v) B pb tv L ok d s:=
 (h.l.setOwn v hq ht he).pst h.few.1
theorem Kept.setOwn{B:Nat}{ok:Nat->Prop}{a b:World}(h:Kept B ok a b){q o:Nat}(v:Value)(hq:a.heap.size<=q):Kept B ok a (b.setCell ⟨q,o,none⟩ v):=
 h.trans' (Chg.set b ⟨q,o,none⟩ v) (λk hk hx=>by have hx':k=q:=hx;omega)
theorem Pst.tagged{w:World}{B pb:Nat}{tv:Value}{L:List M.Tk}{ok:Nat->Prop}{d:Nat}{s:M.St}(h:Pst w B pb tv L ok d s):B<=pb/\tag w pb/\ok pb:=by
 obtain⟨nv,yv,nx,yx,hb,_⟩:=h.blk;exact⟨h.low,⟨_,_,_,hb,.inl rfl⟩,h.oks.1⟩
theorem Pst.keptSet{w:World}{B pb:Nat}{tv:Value}{L:List M.Tk}{ok:Nat->Prop}{d:Nat}{s:M.St}(h:Pst w B pb tv L ok d s)(o:Nat)(v:Value):Kept B ok w (w.setCell ⟨pb,o,none⟩ v):=
 (Chg.set w ⟨pb,o,none⟩ v).mono λk _ hk=>by have hk':k=pb:=hk;subst hk';exact h.tagged
theorem Pst.cell{w:World}{B pb:Nat}{tv:Value}{L:List M.Tk}{ok:Nat->Prop}{d:Nat}{s:M.St}(h:Pst w B pb tv L ok d s):
 ∃g c nv yv,tv= .slice (some ⟨g,0,none⟩) L.length c/\L.length<=c/\c<=maxLen/\g<w.heap.size/\pb<w.heap.size/\w.cell? ⟨pb,0,none⟩=some (.slice (some ⟨g,0,none⟩) L.length c)/\w.cell? ⟨pb,1,none⟩=some (.int .i64 (s.i:Int))/\w.cell? ⟨pb,2,none⟩=some (.int .i64 (d:Int))/\
  w.cell? ⟨pb,3,none⟩=some nv/\w.cell? ⟨pb,4,none⟩=some yv/\(∀o,w.frozen? ⟨pb,o,none⟩=false)/\∀j u,(B5a L)[j]? =some u->w.cell? ⟨g,j,none⟩=some u:=by
 obtain⟨ad,c,rfl⟩:=B7 h.toks;obtain⟨g,rfl,_,hg,hc1,hc2,hcell⟩:=D8 h.toks (by have:=h.at';omega);obtain⟨nv,yv,nx,yx,hb,_⟩:=h.blk;have hlt:=(Array.getElem?_eq_some_iff.1 hb).1;have hc:=λo=>cell_of_row w pb o _ _ _ hb;refine⟨g,c,nv,yv,rfl,hc1,hc2,hg,hlt,by rw[hc];rfl,by rw[hc];rfl,by rw[hc];rfl,by rw[hc];rfl,by rw[hc];rfl,λo=> ?_,hcell⟩;simp[World.frozen?,hb]
theorem Q4a:∀(L:List M.Tk) (k:Nat) (h:k<L.length) (j:Nat),j<3->(B5a L)[3 * k+j]? =(M1a L[k])[j]?
 |[],k,h,_,_=>by simp at h
 |t::r,0,_,j,hj=>by
  simp only[B5a,List.flatMap_cons,Nat.mul_zero,Nat.zero_add,List.getElem_cons_zero];rw[List.getElem?_append_left (by simp[M1a];omega)]
 |t::r,k+1,h,j,hj=>by
  simp only[B5a,List.flatMap_cons,List.getElem_cons_succ];rw[List.getElem?_append_right (by simp[M1a];omega)];have:=Q4a r k (by simpa using h) j hj;rw[<-this];simp only[M1a,jQ,xQ,B5a];congr 1
  omega
theorem G5b{w:World}{g:Nat}{L:List M.Tk}{k:Nat}(h:k<L.length)(hc:∀j u,(B5a L)[j]? =some u->w.cell? ⟨g,j,none⟩=some u):
 w.cell? ⟨g,k * 3,none⟩=some (.int .i64 (M.tk L k).kind)/\w.cell? ⟨g,k * 3+1,none⟩=some (.string ⟨(M.tk L k).text.toArray⟩)/\w.cell? ⟨g,k * 3+2,none⟩=some (.int .i64 ((M.tk L k).at':Int)):=by
 have e:M.tk L k=L[k]:=by simp[M.tk,List.getD,h]
 rw[Nat.mul_comm k 3,e];exact⟨hc _ _ (Q4a L k h 0 (by omega)),hc _ _ (Q4a L k h 1 (by omega)),hc _ _ (Q4a L k h 2 (by omega))⟩
def tkv(t:M.Tk):Value:= .agg #[.int .i64 t.kind,.string ⟨t.text.toArray⟩,.int .i64 (t.at':Int)]
theorem A0{p:Prop}(h:p):Hid p:=h
def gu(er p:Int):Ending:= .panicked [{ v:= .iface 103 (.agg #[.int .i64 er,.int .i64 p]),recovered:=false }]
theorem T9(a b c:Value)(w:World):(Instr.field 115 (.agg #[a,b,c]) 0).run prog w= .ok a w:=by kernel_rfl
theorem X7(a b c:Value)(w:World):(Instr.field 115 (.agg #[a,b,c]) 1).run prog w= .ok b w:=by kernel_rfl
theorem B2b(a b c:Value)(w:World):(Instr.field 115 (.agg #[a,b,c]) 2).run prog w= .ok c w:=by kernel_rfl
section
variable{w:World}{B pb:Nat}{tv:Value}{L:List M.Tk}{ok:Nat->Prop}{d:Nat}{s:M.St}
theorem R4(hL:LOk L)(h:Pst w B pb tv L ok d s):
 Calls prog 101 #[.pointer (some ⟨pb,0,none⟩)] w λe w'=>e= .returned (tkv (M.tk L s.i))/\Chg (λ_=>False) w w':=by
 obtain⟨g,c,nv,yv,rfl,hc1,hc2,hg,hlt,c0,c1,_,_,_,fz,hcell⟩:=h.cell;have hi:=h.at';have hs:=hL.short;obtain⟨x0,x1,x2⟩:=G5b hi hcell;clear h hcell;generalize M.tk L s.i=tk at *;obtain⟨kd,tx,pl⟩:=tk;simp only[tkv]at x0 x1 x2⊢;generalize (⟨tx.toArray⟩:ByteArray)=bx at *;generalize s.i=i at *;unfold maxLen at hc2;go_enter func101,ntmps101;go_wp2;go_region
 go_wp2;exact bodyPost_ret (v:= .agg #[.int .i64 kd,.string bx,.int .i64 pl]) (by simp[results,results101,go_sem]) rfl ⟨rfl,(Chg.alloc _ _ _).trans (Chg.drewN _ _ 1) (λ_ _ x=>x)⟩
theorem N7a(hL:LOk L)(h:Pst w B pb tv L ok d s):
 Calls prog 102 #[.pointer (some ⟨pb,0,none⟩)] w λe w'=>e= .returned (.int .i64 ((M.tk L s.i).at':Int))/\Chg (λ_=>False) w w':=by
 have H:=R4 hL h;have hf0:=T9;have hf2:=B2b;generalize M.tk L s.i=tk at *;obtain⟨kd,tx,pl⟩:=tk;simp only[tkv]at H⊢;clear h hL;go_enter func102,ntmps102;go_wp2_with fail
 refine H.mono ?_;clear H;rintro e w1 ⟨rfl,hc⟩;go_wp2;go_ret;exact⟨rfl,hc⟩
theorem D9c(hL:LOk L)(h:Pst w B pb tv L ok d s):
 Calls prog 70 #[.pointer (some ⟨pb,0,none⟩)] w λe w'=>e= .returned (.bool (decide ((M.tk L s.i).kind=6)))/\Chg (λ_=>False) w w':=by
 have H:=R4 hL h;have hf0:=T9;have hf2:=B2b;generalize M.tk L s.i=tk at *;obtain⟨kd,tx,pl⟩:=tk;simp only[tkv]at H⊢;clear h hL;go_enter func70,ntmps70;go_wp2_with fail
 refine H.mono ?_;clear H;rintro e w1 ⟨rfl,hc⟩;go_wp2;go_ret;exact⟨F1 (by rw[Bool.eq_iff_iff];simp),hc⟩
theorem V9(w:World)(er p:Int):Calls prog 45 #[.int .i64 er,.int .i64 p] w λe w'=>e=gu er p/\Chg (λ_=>False) w w':=by
 go_enter func45,ntmps45;go_wp2;exact⟨rfl,rfl,Chg.refl _ _⟩
theorem Y1(hL:LOk L)(h:Pst w B pb tv L ok d s)(er:Int):
 Calls prog 71 #[.pointer (some ⟨pb,0,none⟩),.int .i64 er] w λe w'=>e=gu er ((M.tk L s.i).at':Int)/\Chg (λ_=>False) w w':=by
 go_enter func71,ntmps71;go_wp2_with fail
 refine(N7a hL h).mono ?_;rintro e w1 ⟨rfl,hc⟩;go_wp2_with fail
 refine(V9 _ _ _).mono ?_;rintro e w2 ⟨rfl,hc2⟩;exact⟨rfl,rfl,hc.trans hc2 (λ_ _ x=>x)⟩
theorem J9c{S:Nat->Prop}{w wr:World}{cs:Array Value}{t:TypeId}(h:Chg S (w.alloc (.cells cs t)) wr)(hS:¬S w.heap.size):
 (∀o v,cs[o]? =some v->wr.cell? ⟨w.heap.size,o,none⟩=some v)/\(∀o,wr.frozen? ⟨w.heap.size,o,none⟩=false)/\w.heap.size<wr.heap.size:=by
 have hb:=h.block w.heap.size (by simp) hS;refine⟨λo v hv=> ?_,λo=> ?_, ?_⟩
 · rw[World.cell?_of_block (a:=⟨w.heap.size,o,none⟩) hb,World.cell?_alloc_new,hv]
 · rw[World.frozen?_of_block (a:=⟨w.heap.size,o,none⟩) hb];simp
 · have:=h.size;simp at this;omega
def Strs(w:World)(b:Nat)(ms:List (List UInt8)):Prop:=b<w.heap.size/\∀j (h:j<ms.length),w.cell? ⟨b,j,none⟩=some (.string ⟨ms[j].toArray⟩)
theorem Strs.still{w w':World}{b:Nat}{ms:List (List UInt8)}(h:Strs w b ms)(hc:Chg (λ_=>False) w w'):Strs w' b ms:=
 ⟨yQ h.1 hc.size,λj hj=>by rw[World.cell?_of_block (hc.block b h.1 (λx=>x))];exact h.2 j hj⟩
theorem C2c(w:World)(b c:Nat)(ms:List (List UInt8))(t:List UInt8)(h:Strs w b ms)(hm:ms.length<=4000):
 Calls prog 161 #[.slice (some ⟨b,0,none⟩) ms.length c,.string ⟨t.toArray⟩] w λe w'=>(∃k:Int,e= .returned (.int .i64 k)/\decide (0<=k)=M.has ms t)/\w'=w:=by
 obtain⟨hb,hcell⟩:=h;go_enter func161,ntmps161;go_wp2;go_loop [8] (λi=>∃k:Nat,k<=ms.length/\i= .int .i64 k/\Hid (M.has (ms.take k) t=false)) (λi=>ms.length - (intOf i).toNat)
 case atStart=>exact⟨0,wQ _,rfl,by simp[Hid,M.has]⟩
 case round=>
  obtain⟨k,hk,rfl,hq⟩:=hrel;by_cases hlt:k<ms.length
  · have hx:=hcell k hlt;have HS:Hid (M.has (ms.take (k+1)) t=(M.has (ms.take k) t||t==ms[k])):=M.N7c _ _ _ hlt;have HM:Hid (∀x,x=ms[k]->x∈ms):=λx hx=>hx ▸ mQ _;generalize hy:ms[k]=x at *;have HX:=HM.out x rfl;clear hcell HM hy;by_cases hp:x=t
    · subst hp;go_wp2;go_ret;exact⟨⟨_,rfl,by rw[M.Y1c HX];simp⟩,rfl⟩
    · have hp':(t==x)=false:=by simp[Ne.symm hp]
      go_wp2;go_round
      case rel=>exact⟨k+1,by omega,by go_num,by show _=_;rw[HS.out,hq.out];simp;exact λh=>hp h.symm⟩
      case measure=>simp[intOf];omega
  · go_wp2;go_ret;exact⟨⟨_,rfl,by have:=hq.out;rw[List.take_of_length_le (by omega)]at this;rw[this];simp⟩,rfl⟩
theorem L2a(w:World)(b c:Nat)(ms:List (List UInt8))(t:List UInt8)(h:Strs w b ms)(hm:ms.length<=4000):
 Calls prog 138 #[.slice (some ⟨b,0,none⟩) ms.length c,.string ⟨t.toArray⟩] w λe w'=>e= .returned (.bool (M.has ms t))/\w'=w:=by
 have H:=C2c w b c ms t h hm;generalize M.has ms t=r at *;go_enter func138,ntmps138;go_wp2_with fail
 refine H.mono ?_;clear H;rintro e w1 ⟨⟨k,rfl,hk⟩,rfl⟩;go_wp2;all_goals go_ret
 all_goals exact⟨F1 (by simp_all),rfl⟩
theorem D0a(hL:LOk L)(h:Pst w B pb tv L ok d s)(b c:Nat)(ms:List (List UInt8))(hm:Strs w b ms)(hn:ms.length<=4000):
 Calls prog 103 #[.pointer (some ⟨pb,0,none⟩),.slice (some ⟨b,0,none⟩) ms.length c] w λe w'=>e= .returned (.bool (M.isM L s.i ms))/\Chg (λ_=>False) w w':=by
 have H:=R4 hL h;have hf0:=T9;have hf1:=X7;unfold M.isM;generalize M.tk L s.i=tk at *;obtain⟨kd,tx,pl⟩:=tk;simp only[tkv]at H⊢;have HC:∀w1:World,Chg (λ_=>False) w w1->Calls prog 138 #[.slice (some ⟨b,0,none⟩) ms.length c,.string ⟨tx.toArray⟩] w1 λe w'=>e= .returned (.bool (M.has ms tx))/\w'=w1:=λw1 h1=>L2a w1 b c ms tx (hm.still h1) hn;generalize M.has ms tx=r at *;clear h hL hm;go_enter func103,ntmps103;go_wp2_with fail
 refine H.mono ?_;clear H;rintro e w1 ⟨rfl,hc1⟩;have HC1:=A0 hc1;clear hc1;by_cases h5:kd=5
 · subst h5;go_wp2_with fail
   refine(HC _ (HC1.out.trans (Chg.alloc (λ_=>False) _ _) (λ_ _ x=>x))).mono ?_;clear HC;rintro e w2 ⟨rfl,rfl⟩;go_wp2;go_ret;exact⟨F1 (by simp),HC1.out.trans (Chg.alloc (λ_=>False) _ _) (λ_ _ x=>x)⟩
 · by_cases h2:kd=2
   · subst h2;go_wp2_with fail
     refine(HC _ (HC1.out.trans (Chg.alloc (λ_=>False) _ _) (λ_ _ x=>x))).mono ?_;clear HC;rintro e w2 ⟨rfl,rfl⟩;go_wp2;go_ret;exact⟨F1 (by simp),HC1.out.trans (Chg.alloc (λ_=>False) _ _) (λ_ _ x=>x)⟩
   · have h5':(kd==5)=false:=by simp[h5]
     have h2':(kd==2)=false:=by simp[h2]
     go_wp2_with fail
     go_ret;exact⟨F1 (by simp[h5,h2]),HC1.out.trans (Chg.alloc (λ_=>False) _ _) (λ_ _ x=>x)⟩
theorem LOk.mark(hL:LOk L){i:Nat}{ms:List (List UInt8)}(hi:i<L.length)(h:M.isM L i ms=true):i+1<L.length:=by
 have h1:=(hL.last i hi).2;by_cases h2:i+1=L.length
 · have:=h1 h2;simp[M.isM,this]at h
 · omega
theorem H8c(w:World)(m:List UInt8)(t:TypeId):Strs (w.alloc (.cells #[.string ⟨m.toArray⟩] t)) w.heap.size [m]:=by
 refine⟨by simp,λj hj=> ?_⟩;simp only[jQ,xQ,Nat.zero_add]at hj;have:j=0:=by omega
 subst this;simp[World.cell?_alloc_new]
theorem F6(hL:LOk L)(h:Pst w B pb tv L ok d s)(m:List UInt8):
 Calls prog 139 #[.pointer (some ⟨pb,0,none⟩),.string ⟨m.toArray⟩] w λe w'=>e= .returned (.bool (M.isM L s.i [m]))/\Kept B ok w w'/\Pst w' B pb tv L ok d (if M.isM L s.i [m] then s.nx else s):=by
 have H:Calls prog 103 #[.pointer (some ⟨pb,0,none⟩),.slice (some ⟨w.heap.size,0,none⟩) 1 1] (w.alloc (.cells #[.string ⟨m.toArray⟩] 9)) _:=D0a hL (h.alloc _) w.heap.size 1 [m] (H8c w m _) (by simp);have HM:=A0 (λhq:M.isM L s.i [m]=true=>hL.mark h.at' hq);have hi:=h.at';have hs:=hL.short;generalize M.isM L s.i [m]=r at *;go_enter func139,ntmps139;go_wp2_with fail
 refine H.mono ?_;clear H;rintro e w1 ⟨rfl,hc⟩;have HP:=A0 ((h.alloc _).still hc);have HK:=A0 (((Kept.refl B ok w).alloc _).trans (C8 hc));clear hc h;cases r
 · go_wp2;go_ret;exact⟨rfl,HK.out,HP.out⟩
 · obtain⟨g,c,nv,yv,-,-,-,-,hlt,-,c1,-,-,-,fz,-⟩:=HP.out.cell;go_wp2;go_ret;exact⟨rfl,HK.out.trans (HP.out.keptSet _ _),HP.out.next (HM.out trivial)⟩
theorem G9(hL:LOk L)(h:Pst w B pb tv L ok d s)(m:List UInt8):
 Calls prog 164 #[.pointer (some ⟨pb,0,none⟩),.string ⟨m.toArray⟩] w λe w'=>Kept B ok w w'/\
  (M.isM L s.i [m]=true/\e= .returned (.tuple #[])/\Pst w' B pb tv L ok d s.nx\/M.isM L s.i [m]=false/\e=gu 1 ((M.tk L s.i).at':Int)):=by
 have H:=F6 hL h m;have HF:=λw1 (h1:Pst w1 B pb tv L ok d s)=>Y1 hL h1 1;generalize M.isM L s.i [m]=r at *;generalize ((M.tk L s.i).at':Int)=p at *;go_enter func164,ntmps164;go_wp2_with fail
 refine H.mono ?_;clear H h;rintro e w1 ⟨rfl,hk,hp⟩;cases r
 · have HK:=A0 hk;have HP:=A0 hp;clear hk hp;go_wp2_with fail
   refine(HF _ (by simpa using HP.out)).mono ?_;rintro e w2 ⟨rfl,hc⟩;exact⟨rfl,HK.out.trans (C8 hc),.inr ⟨rfl,rfl⟩⟩
 · go_wp2;go_end0;exact⟨hk,rfl,by simpa using hp⟩
theorem E3a(hL:LOk L)(h:Pst w B pb tv L ok d s)(hk:(M.tk L s.i).kind≠6):
 Calls prog 177 #[.pointer (some ⟨pb,0,none⟩)] w λe w'=>e= .returned (tkv (M.tk L s.i))/\Kept B ok w w'/\Pst w' B pb tv L ok d s.nx:=by
 have hm:s.i+1<L.length:=by
  have h1:=hL.last s.i h.at';have h2:=h.at';omega
 have H:=λw1 (h1:Pst w1 B pb tv L ok d s)=>R4 hL h1;have hs:=hL.short;clear hk;generalize M.tk L s.i=tk at *;obtain⟨kd,tx,pl⟩:=tk;simp only[tkv]at H⊢;generalize (⟨tx.toArray⟩:ByteArray)=bx at *;go_enter func177,ntmps177;go_wp2_with fail
 refine(H _ (h.alloc _)).mono ?_;clear H;rintro e w1 ⟨rfl,hc⟩;have HP:=A0 ((h.alloc _).still hc);have HK:=A0 (((Kept.refl B ok w).alloc _).trans (C8 hc));obtain⟨qc,qf,hz⟩:=J9c hc (λx=>x);have q0:=qc 0 _ rfl;have q1:=qc 1 _ rfl;have q2:=qc 2 _ rfl;obtain⟨-,-,-,-,-,-,-,-,hpb,-⟩:=h.cell;have HQ:=A0 ((hc.block w.heap.size (by simp) (λx=>x)).trans (heap_alloc_new w _));have HT:=A0 (h.tokLt (vQ _));clear hc h qc;obtain⟨g,c,nv,yv,-,-,-,-,hlt,-,c1,-,-,-,fz,-⟩:=HP.out.cell;go_wp2_with fail
 have hq:=HQ.out;have hne:pb≠w.heap.size:=by omega
 have P1:=HP.out.next hm;have P2:=P1.setOwn (q:=w.heap.size) (o:=0) (.int .i64 kd) (by rw[heap_setCell_other _ _ _ _ (by show w.heap.size≠pb;omega)];exact hq) HT.out (by decide);have P3:=P2.setOwn (q:=w.heap.size) (o:=1) (.string bx) (heap_setCell_same _ _ _ _ _ _ (by rw[heap_setCell_other _ _ _ _ (by show w.heap.size≠pb;omega)];exact hq)) HT.out (by decide);have P4:=P3.setOwn (q:=w.heap.size) (o:=2) (.int .i64 pl) (heap_setCell_same _ _ _ _ _ _ (heap_setCell_same _ _ _ _ _ _ (by rw[heap_setCell_other _ _ _ _ (by show w.heap.size≠pb;omega)];exact hq))) HT.out (by decide);exact bodyPost_ret (v:= .agg #[.int .i64 kd,.string bx,.int .i64 pl]) (by simp[results,results177,go_sem,q0,q1,q2,hz]) rfl
  ⟨rfl,((((HK.out.trans (HP.out.keptSet _ _)).setOwn _ (vQ _)).setOwn _ (vQ _)).setOwn _ (vQ _)).alloc _,P4.alloc _⟩
end
theorem Tryz.infoTy:(prog.info? 66).map (λi=>(i.zero,i.size,i.bytes))=some (some (.agg #[iV 0,sN,sN,iV 0]),4,64):=by kernel_rfl
section
variable{w:World}{B pb:Nat}{tv:Value}{L:List M.Tk}{ok:Nat->Prop}{d:Nat}{s:M.St}
theorem F3a(w:World)(a b:Obj):((w.alloc a).alloc b).drew.heap[w.heap.size+1]? =some b:=by
 have:=heap_alloc_new (w.alloc a) b;simp only[World.size_alloc]at this;exact this
theorem F9{w:World}{o:Obj}{b j:Nat}{v:Value}(hb:b<w.heap.size)(h:w.cell? (aD b j)=some v):(w.alloc o).cell? (aD b j)=some v:=by
 rw[World.cell?_of_block (Below.heap_alloc w o b hb)];exact h
theorem S7{w:World}{o:Obj}{b j:Nat}(hb:b<w.heap.size)(h:w.frozen? (aD b j)=false):(w.alloc o).frozen? (aD b j)=false:=by
 rw[World.frozen?_of_block (Below.heap_alloc w o b hb)];exact h
theorem Pst.pushT{w w1 w2:World}{B pb:Nat}{tv:Value}{L:List M.Tk}{ok:Nat->Prop}{d:Nat}{s:M.St}{nv:Value}{nx yx:List Value}{ad:Option Addr}{c g cap:Nat}{t:M.Ty}{fv lv:Value}(hlow:B<=pb)(hat:s.i<L.length)(hfew:s.N.length<=s.i)(hf:s.T.length+1<=s.i)
 (htoks:w.ownsRow 0 115 3 tv L.length (B5a L)) (hb:w.heap[pb]? =some (.cells #[tv,iV (s.i:Int),iV (d:Int),nv,.slice ad s.T.length c] 92 (0,0)))
 (hn:w.ownsRow B 70 9 nv s.N.length nx) (hy:w.ownsRow B 66 4 (.slice ad s.T.length c) s.T.length yx) (hrn:Rws (NdV w ok) s.N nx) (hry:Rws (TyV w ok) s.T yx) (ht:TyV w ok t [iV t.kind,fv,lv,iV t.of']) (hok:ok pb/\(∀g,nv.ownBlock=some g->ok g)/\(∀g,Value.ownBlock (.slice ad s.T.length c)=some g->ok g)) (hgok:ok g)
 (h1:Chg No w w1) (hg:w1.grownBy w2 (Value.ownBlock (.slice ad s.T.length c))) (ho:w2.ownsRow B 66 4 (.slice (some (aD g 0)) (s.T.length+1) cap) (s.T.length+1) (yx++[iV t.kind,fv,lv,iV t.of'])):
 Kept B ok w (w2.setCell (aD pb 4) (.slice (some (aD g 0)) (s.T.length+1) cap))/\Pst (w2.setCell (aD pb 4) (.slice (some (aD g 0)) (s.T.length+1) cap)) B pb tv L ok d ⟨s.i,s.N,s.T++[t]⟩:=by
 have hlt:=(ltG hb);have hb1:w1.heap[pb]? =w.heap[pb]? :=h1.block pb hlt (λx=>x);have hy1:w1.ownsRow B 66 4 (.slice ad s.T.length c) s.T.length yx:=A3 hy h1 (λ_ _ x=>x);have hne:some pb≠Value.ownBlock (.slice ad s.T.length c):=by
  intro hx;obtain⟨_,cur,hh⟩:=A9 hy1 pb hx.symm;rw[hb1,hb]at hh;simp only[zQ,xW]at hh;exact absurd hh.2.1 (by decide)
 have hb2:w2.heap[pb]? =some (.cells #[tv,iV (s.i:Int),iV (d:Int),nv,.slice ad s.T.length c] 92 (0,0)):=by rw[hg.block pb (yQ hlt h1.size) hne,hb1,hb]
 have hc2:Chg (λk=>some k=Value.ownBlock (.slice ad s.T.length c)) w w2:=(h1.mono λ_ _ x=>x.elim).trans (Chg.grown hg) (λ_ _ x=>x);have hc3:Chg (λk=>some k=Value.ownBlock (.slice ad s.T.length c)\/k=pb) w (w2.setCell (aD pb 4) (.slice (some (aD g 0)) (s.T.length+1) cap)):=(hc2.mono λ_ _ x=> .inl x).trans (Chg.set _ _ _) (λ_ _ x=> .inr x);have hno:∀{base:Nat} {e:TypeId} {size:Nat} {v:Value} {n:Nat} {xs:List Value},w.ownsRow base e size v n xs->e≠92->e≠66->∀k,v.ownBlock=some k->¬(some k=Value.ownBlock (.slice ad s.T.length c)\/k=pb):=by
  intro base e size v n xs hw he he2 k hk hx;obtain⟨_,cur,hh⟩:=A9 hw k hk;rcases hx with hx|rfl
  · obtain⟨_,cur2,hh2⟩:=A9 hy k hx.symm;rw[hh]at hh2;simp only[zQ,xW]at hh2;exact he2 hh2.2.1
  · rw[hb]at hh;simp only[zQ,xW]at hh;exact he hh.2.1.symm
 have key:∀k,ok k->k<w.heap.size->(some k=Value.ownBlock (.slice ad s.T.length c)\/k=pb)->(∃cur e,w.heap[k]? =some (.cells cur e (0,0))/\(e=121\/e=3))->False:=by
  rintro k _ _ hx ⟨cur,e,hh,he⟩;rcases hx with hx|rfl
  · obtain⟨_,cur2,hh2⟩:=A9 hy k hx.symm;rw[hh]at hh2;simp only[zQ,xW]at hh2;rcases he with rfl|rfl<;>exact absurd hh2.2.1 (by decide)
  · rw[hb]at hh;simp only[zQ,xW]at hh;rcases he with rfl|rfl<;>exact absurd hh.2.1 (by decide)
 have hb3:(w2.setCell (aD pb 4) (.slice (some (aD g 0)) (s.T.length+1) cap)).heap[pb]? =some (.cells #[tv,iV (s.i:Int),iV (d:Int),nv,.slice (some (aD g 0)) (s.T.length+1) cap] 92 (0,0)):=by rw[heap_setCell_same w2 pb 4 _ _ _ hb2];rfl
 refine⟨hc3.mono λk hk hx=> ?_,hlow,hat,⟨hfew,by simp;omega⟩,A3 htoks hc3 (hno htoks (by decide) (by decide)),⟨hok.1,λu g' hu hg'=> ?_,λu g' hu hg'=> ?_⟩,nv,_,nx,_,hb3,A3 hn hc3 (hno hn (by decide) (by decide)), ?_,hrn.imp (NdV.chg hc3 key (λ_ x _=>x)),(hry.imp (TyV.chg hc3 key (λ_ x _=>x))).snoc (TyV.chg hc3 key (λ_ x _=>x) _ _ ht)⟩
 · rcases hx with hx|rfl
   · obtain⟨hk1,cur2,hh2⟩:=A9 hy k hx.symm;exact⟨hk1,⟨_,_,_,hh2,.inr (.inr rfl)⟩,hok.2.2 _ hx.symm⟩
   · exact⟨hlow,⟨_,_,_,hb,.inl rfl⟩,hok.1⟩
 · rw[cell_of_row _ pb 3 _ _ _ hb3]at hu;cases hu;exact hok.2.1 _ hg'
 · rw[cell_of_row _ pb 4 _ _ _ hb3]at hu;cases hu;have hg2:some g=some g':=hg';cases hg2;exact hgok
 · have:=A3 ho (Chg.set w2 (aD pb 4) (.slice (some (aD g 0)) (s.T.length+1) cap)) (λk hk hx=>by
    have hx':k=pb:=hx;subst hx';obtain⟨_,cur2,hh2⟩:=A9 ho k hk;rw[hb2]at hh2;simp only[zQ,xW]at hh2;exact absurd hh2.2.1 (by decide))
   simpa using this
theorem Y2(hL : LOk L)(h : Pst w B pb tv L ok d s)(t : M.Ty)(fa la : Option Addr)(fn fc ln lc : Nat)(ht : TyV w ok t [iV t.kind, .slice fa fn fc, .slice la ln lc, iV t.of'])(hf : s.T.length + 1 <= s.i)(hB : B <= w.heap.size)(hok : ∀ g, w.heap.size <= g -> ok g) :
    Calls prog 193 #[pV pb,.agg #[iV t.kind,.slice fa fn fc,.slice la ln lc,iV t.of']] w λe w'=>e= .returned (iV (s.T.length:Int))/\Kept B ok w w'/\Pst w' B pb tv L ok d ⟨s.i,s.N,s.T++[t]⟩:=by
  obtain⟨hlow,hat,hfew,htoks,hoks,nv,yv,nx,yx,hb,hn,hy,hrn,hry⟩:=h
  obtain⟨ad,c,rfl⟩:=B7 hy
  have hs:=hL.short
  have hlt:=(ltG hb)
  have c4:w.cell? (aD pb 4)=some (.slice ad s.T.length c):=cr hb rfl
  have fz:∀o,w.frozen? (aD pb o)=false:=λo=>frozen_of_row w pb o _ _ hb
  have hoks2:ok pb/\(∀g,nv.ownBlock=some g->ok g)/\(∀g,Value.ownBlock (.slice ad s.T.length c)=some g->ok g):=⟨hoks.1,λg hg=>hoks.2.1 _ g (cr hb rfl) hg,λg hg=>hoks.2.2 _ g c4 hg⟩
  have HP:=A0 (λ(w1 w2:World) (g cap:Nat)=>Pst.pushT (w1:=w1) (w2:=w2) (g:=g) (cap:=cap) hlow hat hfew.1 hf htoks hb hn hy hrn hry ht hoks2)
  have HG:=A0 (λ(g:Nat) (hg:Value.ownBlock (.slice ad s.T.length c)=some g\/g=w.heap.size+2)=>show ok g from by rcases hg with hg|hg;exact hoks2.2.2 g hg;exact hok g (by omega))
  clear hoks hoks2
  have hne:Value.ownBlock (.slice ad s.T.length c)≠some pb:=by
    intro hx
    obtain⟨_,cur,hh⟩:=A9 hy pb hx
    rw[hb]at hh
    simp only[zQ,xW]at hh
    exact absurd hh.2.1 (by decide)
  have hne2:Value.ownBlock (.slice ad s.T.length c)≠some w.heap.size:=by
    intro hx
    have:=(hy.lt _ hx).2
    omega
  have HY:=A0 hy
  obtain⟨i0,hi,hz0,hz1,hz2⟩:=info_parts Tryz.infoTy
  clear ht htoks hb hn hy hrn hry
  go_enter func193,ntmps193
  go_wp2_with fail
  go_region_law ((refine step_append_lies _ (by rfl) _ _ _ (by rfl) B 66 i0 _ 4 64 underlying39 hi hz0 hz1 hz2 rfl (by omega) (.slice ad s.T.length c) s.T.length yx (by rfl) (((HY.out.alloc _).alloc _).drew) (aD (w.heap.size + 1) 0) 1 1 [iV t.kind, .slice fa fn fc, .slice la ln lc, iV t.of'] (by rfl) (by rfl) (World.news_of_block (cs := #[iV t.kind, .slice fa fn fc, .slice la ln lc, iV t.of']) (t := 66) (fr := (0, 0)) (F3a w _ _)) (by simp [Value.oneCell']) (by omega) (by simp only [maxLen]; omega) (by omega) (by simp; omega) (w.heap.size + 2) (by simp) ?_
                  intro gg cap w1 hown1 hgrow hat1 hlt1
                  have z4:w1.cell? (aD pb 4)=some (.slice ad s.T.length c):=by rw[hgrow.cell_far _ (by simp;omega) (Ne.symm hne)];exact F9 (by simp;omega) (F9 hlt c4)
                  have y4:w1.frozen? (aD pb 4)=false:=by rw[hgrow.frozen_far _ (by simp;omega) (Ne.symm hne)];exact S7 (by simp;omega) (S7 hlt (fz 4))))
  all_goals
    have HQ:=A0 (HP.out _ _ gg cap (HG.out gg hat1) (((Chg.alloc No w _).trans (Chg.alloc No _ _) (λ_ _ x=>x)).trans (Chg.drewN No _ 1) (λ_ _ x=>x)) hgrow hown1)
    clear hgrow hown1 HP HY
    go_wp2
    go_ret
    exact⟨J3 (by omega),HQ.out.1,HQ.out.2⟩
end
def E7(s s':M.St):Prop:=s.i<s'.i/\s'.N.length+s.i<=s.N.length+s'.i/\s'.T.length+s.i<=s.T.length+s'.i/\s.N.length<=s'.N.length
def T0c(w:World)(B pb:Nat)(tv:Value)(L:List M.Tk)(ok:Nat->Prop)(d:Nat)(s:M.St)(φ:M.Sp->Option (M.Out Int))(e:Ending)(w':World):Prop:=
 Kept B ok w w'/\∃o,M.Ev L φ o/\match o with
  | .ok s' x=>e= .returned (iV x)/\Pst w' B pb tv L ok d s'/\E7 s s'
  | .fail er p=>e=gu er p/\er≠0
def Con(B pb:Nat)(tv:Value)(L:List M.Tk)(K:Nat)(φ:Nat->M.St->M.Sp->Option (M.Out Int))(m:Nat):Prop:=
 ∀(w:World) (ok:Nat->Prop) (d:Nat) (s:M.St),L.length - s.i<=m->(∀g,w.heap.size<=g->ok g)->B<=w.heap.size->Pst w B pb tv L ok d s->
  Calls prog K #[pV pb] w (T0c w B pb tv L ok d s (φ d s))
section
variable{w:World}{B pb:Nat}{tv:Value}{L:List M.Tk}{ok:Nat->Prop}{d:Nat}{s:M.St}
theorem M9a(hL:LOk L)(h:Pst w B pb tv L ok d s):
 Calls prog 162 #[pV pb] w λe w'=>Kept B ok w w'/\
  ((M.tk L s.i).kind=1/\e= .returned (.string ⟨(M.tk L s.i).text.toArray⟩)/\Pst w' B pb tv L ok d s.nx\/(M.tk L s.i).kind≠1/\e=gu 1 ((M.tk L s.i).at':Int)):=by
 have H:=R4 hL h;have HF:=λw1 (h1:Pst w1 B pb tv L ok d s)=>Y1 hL h1 1;have HT:=λw1 (h1:Pst w1 B pb tv L ok d s)=>E3a hL h1;have HS:=A0 (λw1 (hc:Chg No w w1)=>h.still hc);have hf0:=T9;have hf1:=X7;generalize M.tk L s.i=tk at *;obtain⟨kd,tx,pl⟩:=tk;simp only[tkv]at H HT HF⊢;generalize (⟨tx.toArray⟩:ByteArray)=bx at *;clear h;go_enter func162,ntmps162;go_wp2_with fail
 refine H.mono ?_;clear H;rintro e w1 ⟨rfl,hc⟩;have HP:=A0 (HS.out w1 hc);have HK:=A0 (C8 (B:=B) (ok:=ok) hc);clear hc HS;by_cases hk:kd=1
 · subst hk;go_wp2_with fail
   refine(HT _ HP.out (by decide)).mono ?_;clear HT;rintro e w2 ⟨rfl,hk2,hp2⟩;have H2:=A0 (HK.out.trans hk2);have H3:=A0 hp2;clear hk2 hp2;go_wp2;go_ret;exact⟨H2.out,rfl,H3.out⟩
 · have hk':(kd==1)=false:=by simp[hk]
   go_wp2_with fail
   refine(HF _ HP.out).mono ?_;rintro e w2 ⟨rfl,hc⟩;exact⟨rfl,HK.out.trans (C8 hc),.inr ⟨hk,rfl⟩⟩
theorem W6a(w:World)(t:List UInt8):
 Calls prog 212 #[.string ⟨t.toArray⟩] w λe w'=>e= .returned (iV (M.I1 t))/\w'=w:=by
 go_enter func212,ntmps212;go_wp2;all_goals go_ret
 all_goals exact⟨J3 (by simp_all [M.I1]),rfl⟩
theorem D7b{α:Type}{L:List M.Tk}{φ:M.Sp->Option (M.Out α)}{i:Nat}{e:Int}(h:∀r,φ r=M.flt L i e):M.Ev L φ (.fail e ((M.tk L i).at':Int)):=M.Ev.pure.eq h
theorem N2a(hL:LOk L)(m:Nat)(φ:Nat->M.St->M.Sp->Option (M.Out Int))(hU:Con B pb tv L 183 φ m)(b:Bool)(hm:L.length - s.i<=m)(hok:∀g,w.heap.size<=g->ok g)(hB:B<=w.heap.size)(h:Pst w B pb tv L ok d s):
 Calls prog 105 #[pV pb,.bool b,.func (.func 183) #[pV pb] #[]] w (T0c w B pb tv L ok d s (λr=>M.inside L b d s (λd s=>φ d s r))):=by
 obtain⟨g,c,nv,yv,-,-,-,-,hlt,-,c1,c2,-,-,fz,-⟩:=h.cell;have HF:=λer=>Y1 hL h er;have HP:=A0 h;clear h;cases b
 · go_enter func105,ntmps105;go_wp2_with fail
   refine(HF 1).mono ?_;rintro e w2 ⟨rfl,hc⟩;exact⟨rfl,C8 hc,_,D7b (e:=1) (i:=s.i) (λr=>by simp[M.inside]),rfl,by decide⟩
 · by_cases hd:20<=d
   · have hd':(20:Int)<=(d:Int):=by omega
     go_enter func105,ntmps105;go_wp2_with fail
     refine(HF 8).mono ?_;rintro e w2 ⟨rfl,hc⟩;exact⟨rfl,C8 hc,_,D7b (e:=8) (i:=s.i) (λr=>by simp[M.inside,hd]),rfl,by decide⟩
   · have hd':¬(20:Int)<=(d:Int):=by omega
     have HD:=A0 hd;clear hd;go_enter func105,ntmps105;go_wp2_with fail
     refine(hU _ ok (d+1) s hm (by simpa using hok) (by simpa using hB) (by simpa using HP.out.deeper (d+1))).mono ?_;rintro e w2 ⟨hk,o,hev,hpost⟩;have HK:=A0 ((HP.out.keptSet 2 _).trans hk);have HE:=A0 (hev.eq (ψ:=λr=>M.inside L true d s (λd s=>φ d s r)) (λr=>by simp[M.inside,HD.out]));cases o with
     |fail er p=>
      obtain⟨rfl,he⟩:=hpost;exact⟨rfl,HK.out,_,HE.out,rfl,he⟩
     |ok s' x=>
      obtain⟨rfl,hp,hg⟩:=hpost;have HP2:=A0 hp;have HG:=A0 hg;obtain⟨g',c',nv',yv',-,-,-,-,hlt',-,-,c2',-,-,fz',-⟩:=hp.cell;clear hp hg hev hk HF hU;go_wp2_with fail
      go_ret;exact⟨HK.out.trans (HP2.out.keptSet _ _),_,HE.out,rfl,HP2.out.deeper d,HG.out⟩
def M3a(ms:List (List UInt8)):Array Value:=(ms.map λm=>Value.string ⟨m.toArray⟩).toArray
theorem U9(w:World)(ms:List (List UInt8))(t:TypeId):Strs (w.alloc (.cells (M3a ms) t)) w.heap.size ms:=by
 refine⟨by simp,λj hj=> ?_⟩;rw[World.cell?_alloc_new];simp[M3a,hj]
theorem U1c(hL:LOk L)(m:Nat)(hU:Con B pb tv L 183 (λd s r=>r.union d s) m):Con B pb tv L 178 (λd s r=>r.typ d s) m:=by
 intro w ok d s hm hok hB h;have HI:=λw1 (hc:Chg No w w1) (b:Bool)=>N2a (w:=w1) (ok:=ok) hL m _ hU b hm (λg hg=>hok g (kQ hc.size hg)) (kQ hB hc.size) (h.still hc);have HS:=D0a hL (h.alloc (.cells (M3a M.Z4) 9)) w.heap.size 9 M.Z4 (U9 _ _ _) (by decide);clear hU;have HE:=A0 (λb (hb:b=M.isM L s.i M.Z4) o (ho:M.Ev L (λr=>M.inside L b d s (λd s=>r.union d s)) o)=>(M.Ev.step (φ:=λr=>r.typ d s) (ho.eq (λr=>by rw[hb];rfl))));generalize M.isM L s.i M.Z4=b at *;go_enter func178,ntmps178;go_wp2_with fail
 refine HS.mono ?_;clear HS;rintro e w1 ⟨rfl,hc⟩;have HC:=A0 ((Chg.alloc No w _).trans hc (λ_ _ x=>x));clear hc;go_wp2_with fail
 refine(HI w1 HC.out b).mono ?_;clear HI;rintro e w2 ⟨hk,o,hev,hpost⟩;have HK:=A0 ((C8 HC.out).trans hk);have HV:=A0 (HE.out b rfl o hev);clear hk hev HE;cases o with
 |fail er p=>
  obtain⟨rfl,he⟩:=hpost;exact⟨rfl,HK.out,_,HV.out,rfl,he⟩
 |ok s' x=>
  obtain⟨rfl,hp,hg⟩:=hpost;have HP2:=A0 hp;have HG:=A0 hg;clear hp hg;go_wp2_with fail
  go_ret;exact⟨HK.out,_,HV.out,rfl,HP2.out,HG.out⟩
theorem I0{φ:M.Sp->Option (M.Out Int)}{w':World}{er p:Int}(hk:Kept B ok w w')(hev:M.Ev L φ (.fail er p))(he:er≠0):T0c w B pb tv L ok d s φ (gu er p) w':=⟨hk,_,hev,rfl,he⟩
theorem W9{φ:M.Sp->Option (M.Out Int)}{w':World}{s':M.St}{x:Int}(hk:Kept B ok w w')(hev:M.Ev L φ (.ok s' x))(hp:Pst w' B pb tv L ok d s')(hg:E7 s s'):T0c w B pb tv L ok d s φ (.returned (iV x)) w':=⟨hk,_,hev,rfl,hp,hg⟩
theorem Y1a(w:World)(ok:Nat->Prop)(k o:Int):TyV w ok ⟨k,[],[],o⟩ [iV k,sN,sN,iV o]:=
 ⟨_,_,rfl,kW _ _ _ _,kW _ _ _ _,by simp[Value.ownBlock],by simp[Value.ownBlock]⟩
def K3a(L:List M.Tk)(s:M.St):Option (M.Out Int):=if (M.tk L s.i).kind=2/\M.I1 (M.tk L s.i).text≠0 then M.addT s.nx ⟨M.I1 (M.tk L s.i).text,[],[],0⟩ else M.flt L s.i 1
theorem W5a(hL:LOk L)(hB:B<=w.heap.size)(hok:∀g,w.heap.size<=g->ok g)(h:Pst w B pb tv L ok d s):
 Calls prog 205 #[pV pb] w (T0c w B pb tv L ok d s (λ_=>K3a L s)):=by
 have H:=λw1 (h1:Pst w1 B pb tv L ok d s)=>R4 hL h1;have HF:=λw1 (h1:Pst w1 B pb tv L ok d s)=>Y1 hL h1 1;have HA:=λw1 (h1:Pst w1 B pb tv L ok d s.nx) (hs:w.heap.size<=w1.heap.size) (k:Int)=>Y2 hL h1 ⟨k,[],[],0⟩ none none 0 0 0 0 (Y1a w1 ok k 0) (by show s.T.length+1<=s.i+1;have:=h.few;omega) (kQ hB hs) (λg hg=>hok g (kQ hs hg));have hf0:=T9;have hf1:=X7;have hs:=hL.short;have hi:=h.at';have HN:=A0 (λ(hk:(M.tk L s.i).kind=2)=>show s.i+1<L.length by
  have h1:=hL.last s.i hi;by_cases h2:s.i+1=L.length
  · have:=h1.2 h2;omega
  · omega)
 have HV:=A0 (show K3a L s=if (M.tk L s.i).kind=2/\M.I1 (M.tk L s.i).text≠0 then M.addT s.nx ⟨M.I1 (M.tk L s.i).text,[],[],0⟩ else some (.fail 1 ((M.tk L s.i).at':Int)) from rfl);have HP:=A0 h;clear h;generalize K3a L s=V at *;generalize M.tk L s.i=tk at *;obtain⟨kd,tx,pl⟩:=tk;simp only[tkv]at H HF HN HV;have HPK:=λw1=>W6a w1 tx;generalize M.I1 tx=pk at *;generalize (⟨tx.toArray⟩:ByteArray)=bx at *;go_enter func205,ntmps205;go_wp2_with fail
 refine(H _ HP.out).mono ?_;rintro e w1 ⟨rfl,hc⟩;have HP1:=A0 (HP.out.still hc);have HC1:=A0 hc;clear hc;by_cases hk:kd=2
 · subst hk;go_wp2_with fail
   refine(H _ HP1.out).mono ?_;clear H;rintro e w2 ⟨rfl,hc⟩;have HP2:=A0 (HP1.out.still hc);have HC2:=A0 (HC1.out.trans hc (λ_ _ x=>x));clear hc HP1 HC1;go_wp2_with fail
   refine(HPK _).mono ?_;clear HPK;rintro e w3 ⟨rfl,rfl⟩;by_cases hp:pk=0
   · subst hp;go_wp2_with fail
     refine(HF _ HP2.out).mono ?_;clear HF;rintro e w4 ⟨rfl,hc⟩;exact⟨rfl,I0 ((C8 HC2.out).trans (C8 hc)) (M.Ev.pure.eq (λ_=>by rw[HV.out];simp)) (by decide)⟩
   · have hp':(pk==0)=false:=by simp[hp]
     obtain⟨g',c',nv',yv',-,-,-,-,hlt',-,c1',-,-,-,fz',-⟩:=HP2.out.cell;have HN2:=A0 (HP2.out.next (HN.out trivial));have HK2:=A0 ((C8 HC2.out).trans (HP2.out.keptSet 1 (iV ((s.i:Int)+1))));go_wp2_with fail
     refine(HA _ HN2.out (by have:=HC2.out.size;simp;omega) pk).mono ?_;clear HA;rintro e w4 ⟨rfl,hk4,hp4⟩;have HK4:=A0 (HK2.out.trans hk4);have HP4:=A0 hp4;clear hk4 hp4 HN2 HK2;go_wp2_with fail
     go_ret;exact W9 HK4.out (M.Ev.pure.eq (λ_=>by rw[HV.out];simp[hp,M.addT])) HP4.out (by simp[E7,M.St.nx];omega)
 · have hk':(kd==2)=false:=by simp[hk]
   go_wp2_with fail
   refine(HF _ HP1.out).mono ?_;clear HF;rintro e w4 ⟨rfl,hc⟩;exact⟨rfl,I0 ((C8 HC1.out).trans (C8 hc)) (M.Ev.pure.eq (λ_=>by rw[HV.out];simp[hk])) (by decide)⟩
theorem Q7a{s s':M.St}(h:E7 s.nx s'):E7 s s':=by
 obtain⟨h1,h2,h3,h4⟩:=h;simp only[M.St.nx]at h1 h2 h3 h4;exact⟨by omega,by omega,by omega,by omega⟩
theorem Q4b(hL:LOk L)(m:Nat)(hTyp:∀m',m'<m->Con B pb tv L 178 (λd s r=>r.typ d s) m')
 (hObj:∀m',m'<m->Con B pb tv L 203 (λd s r=>r.objL d s []) m') (hFob:∀m',m'<m->Con B pb tv L 204 (λd s r=>r.fob d s) m'):
 Con B pb tv L 192 (λd s r=>r.member d s) m:=by
 intro w ok d s hm hok hB h;have hi:=h.at';have hs:=hL.short;have HT:=λw1 (h1:Pst w1 B pb tv L ok d s) mk=>F6 hL h1 mk;have HPl:=λw1 (h1:Pst w1 B pb tv L ok d s) (hb:w.heap.size<=w1.heap.size)=>W5a hL (kQ hB hb) (λg hg=>hok g (kQ hb hg)) h1;have HO:=λw1 (h1:Pst w1 B pb tv L ok d s.nx) (hb:w.heap.size<=w1.heap.size)=>hObj (L.length - (s.i+1)) (by omega) w1 ok d s.nx (vQ _) (λg hg=>hok g (kQ hb hg)) (kQ hB hb) h1;have HB:=λw1 (h1:Pst w1 B pb tv L ok d s.nx) (hb:w.heap.size<=w1.heap.size)=>hFob (L.length - (s.i+1)) (by omega) w1 ok d s.nx (vQ _) (λg hg=>hok g (kQ hb hg)) (kQ hB hb) h1;have HY:=λw1 (h1:Pst w1 B pb tv L ok d s.nx) (hb:w.heap.size<=w1.heap.size)=>hTyp (L.length - (s.i+1)) (by omega) w1 ok d s.nx (vQ _) (λg hg=>hok g (kQ hb hg)) (kQ hB hb) h1;have HN:=λw1 s1 (h1:Pst w1 B pb tv L ok d s1)=>G9 hL h1 [93];have HA:=λw1 (s1:M.St) (h1:Pst w1 B pb tv L ok d s1) (hs:w.heap.size<=w1.heap.size) (hq:s1.T.length+1<=s1.i) (k:Int)=>Y2 hL h1 ⟨8,[],[],k⟩ none none 0 0 0 0 (Y1a w1 ok 8 k) hq (kQ hB hs) (λg hg=>hok g (kQ hs hg));have HV:Hid (∀o,M.Ev L (λr=>if M.isM L s.i [[123]] then r.objL d s.nx [] else if M.isM L s.i [[91]] then M.A4 (r.typ d s.nx) λs x=>M.A4 (M.need L s [93]) λs _=>M.addT s ⟨8,[],[],x⟩
  else if M.isM L s.i [[40]] then r.fob d s.nx else K3a L s) o->M.Ev L (λr=>r.member d s) o):=λo ho=>M.Ev.step (ho.eq (λr=>rfl))
 have HF:=A0 h.few;have HP:=A0 h;clear h hTyp hObj hFob;have H1:=HT w HP.out [123];have H2:=λw1 (h1:Pst w1 B pb tv L ok d s)=>HT w1 h1 [91];have H3:=λw1 (h1:Pst w1 B pb tv L ok d s)=>HT w1 h1 [40];clear HT;generalize M.isM L s.i [[123]]=b1 at *;generalize M.isM L s.i [[91]]=b2 at *;generalize M.isM L s.i [[40]]=b3 at *;generalize K3a L s=V at *;go_enter func192,ntmps192;go_wp2_with fail
 refine H1.mono ?_;clear H1;rintro e w1 ⟨rfl,hk,hp⟩;have K1:=A0 hk;have P1:=A0 hp;clear hk hp;cases b1
 · go_wp2_with fail
   refine(H2 _ (by simpa using P1.out)).mono ?_;clear H2;rintro e w2 ⟨rfl,hk,hp⟩;have K2:=A0 (K1.out.trans hk);have P2:=A0 hp;clear hk hp P1 K1;cases b2
   · go_wp2_with fail
     refine(H3 _ (by simpa using P2.out)).mono ?_;clear H3;rintro e w3 ⟨rfl,hk,hp⟩;have K3:=A0 (K2.out.trans hk);have P3:=A0 hp;clear hk hp P2 K2;cases b3
     · go_wp2_with fail
       refine(HPl _ (by simpa using P3.out) K3.out.size).mono ?_;rintro e w4 ⟨hk,o,hev,hpost⟩;have K4:=A0 (K3.out.trans hk);have E4:=A0 (HV.out o (hev.eq (λr=>by simp)));clear hk hev;cases o with
       |fail er p=>
        obtain⟨rfl,he⟩:=hpost;exact⟨rfl,I0 K4.out E4.out he⟩
       |ok s' x=>
        obtain⟨rfl,hp,hg⟩:=hpost;have P4:=A0 hp;have G4:=A0 hg;clear hp hg;go_wp2_with fail
        go_ret;exact W9 K4.out E4.out P4.out G4.out
     · go_wp2_with fail
       refine(HB _ (by simpa using P3.out) K3.out.size).mono ?_;rintro e w4 ⟨hk,o,hev,hpost⟩;have K4:=A0 (K3.out.trans hk);have E4:=A0 (HV.out o (hev.eq (λr=>by simp)));clear hk hev;cases o with
       |fail er p=>
        obtain⟨rfl,he⟩:=hpost;exact⟨rfl,I0 K4.out E4.out he⟩
       |ok s' x=>
        obtain⟨rfl,hp,hg⟩:=hpost;have P4:=A0 hp;have G4:=A0 (Q7a hg);clear hp hg;go_wp2_with fail
        go_ret;exact W9 K4.out E4.out P4.out G4.out
   · go_wp2_with fail
     refine(HY _ (by simpa using P2.out) K2.out.size).mono ?_;rintro e w4 ⟨hk,o,hev,hpost⟩;have K4:=A0 (K2.out.trans hk);have E4:=A0 hev;clear hk hev;cases o with
     |fail er p=>
      obtain⟨rfl,he⟩:=hpost;exact⟨rfl,I0 K4.out (HV.out _ ((M.Ev.bad E4.out).eq (λr=>by simp;rfl))) he⟩
     |ok s' x=>
      obtain⟨rfl,hp,hg⟩:=hpost;have P4:=A0 hp;have G4:=A0 (Q7a hg);clear hp hg;go_wp2_with fail
      refine(HN _ _ P4.out).mono ?_;rintro e w5 ⟨hk,hr⟩;have K5:=A0 (K4.out.trans hk);clear hk;rcases hr with ⟨hb,rfl,hp⟩|⟨hb,rfl⟩
      · have P5:=A0 hp;have B5:=A0 hb;clear hp hb;go_wp2_with fail
        refine(HA _ _ P5.out K5.out.size (by have:=P4.out.few;simp[M.St.nx];omega) x).mono ?_;rintro e w6 ⟨rfl,hk,hp⟩;have K6:=A0 (K5.out.trans hk);have P6:=A0 hp;clear hk hp;go_wp2_with fail
        go_ret;refine W9 K6.out (HV.out _ (M.Ev.eq (M.Ev.bind E4.out (k:=λ_ s x=>M.A4 (M.need L s [93]) λs _=>M.addT s ⟨8,[],[],x⟩) (M.Ev.pure.eq (λr=> ?_))) (λr=>by simp))) P6.out ?_
        · simp[M.need,B5.out,M.A4,M.addT]
        · have:=G4.out;simp only[E7,M.St.nx,qQ,jQ,xQ]at this⊢;omega
      · refine⟨rfl,I0 K5.out (HV.out _ (M.Ev.eq (M.Ev.bind E4.out (k:=λ_ s x=>M.A4 (M.need L s [93]) λs _=>M.addT s ⟨8,[],[],x⟩) (M.Ev.pure.eq (λr=> ?_))) (λr=>by simp))) (by decide)⟩;simp[M.need,hb,M.A4,M.flt]
 · go_wp2_with fail
   refine(HO _ (by simpa using P1.out) K1.out.size).mono ?_;rintro e w4 ⟨hk,o,hev,hpost⟩;have K4:=A0 (K1.out.trans hk);have E4:=A0 (HV.out o (hev.eq (λr=>by simp)));clear hk hev;cases o with
   |fail er p=>
    obtain⟨rfl,he⟩:=hpost;exact⟨rfl,I0 K4.out E4.out he⟩
   |ok s' x=>
    obtain⟨rfl,hp,hg⟩:=hpost;have P4:=A0 hp;have G4:=A0 (Q7a hg);clear hp hg;go_wp2_with fail
    go_ret;exact W9 K4.out E4.out P4.out G4.out
theorem Tryz.infoInt:(prog.info? 3).map (λi=>(i.zero,i.size,i.bytes))=some (some (iV 0),1,8):=by kernel_rfl
theorem Pst.grown{w w':World}{base size n:Nat}{e:TypeId}{v v':Value}{xs:List Value}(h:Pst w B pb tv L (λg=>ok g/\some g≠v.ownBlock) d s)(ho:w.ownsRow base e size v n xs)(he:e=3\/e=121)(hg:w.grownBy w' v.ownBlock)
 (hat:v'.ownBlock=v.ownBlock\/v'.ownBlock=some w.heap.size):Pst w' B pb tv L (λg=>ok g/\some g≠v'.ownBlock) d s:=by
 refine h.chg (Chg.grown hg) (λk cur e' hk hx=> ?_) (λg hg hl=> ?_)
 · obtain⟨_,cur2,hh⟩:=A9 ho k hx.symm;rw[hk]at hh;simp only[zQ,xW]at hh;obtain⟨_,rfl,_⟩:=hh;refine⟨by rcases he with rfl|rfl<;>decide,by rcases he with rfl|rfl<;>decide,by rcases he with rfl|rfl<;>decide,λht=> ?_,λ_ hx2=>hx2.2 hx⟩;obtain⟨_,cur3,hh3⟩:=A9 h.toks k ht;rw[hk]at hh3;simp only[zQ,xW]at hh3;obtain⟨_,rfl,_⟩:=hh3;rcases he with he|he<;>exact absurd he (by decide)
 · refine⟨hg.1,λhx=> ?_⟩;rcases hat with h1|h1
   · exact hg.2 (by rw[<-h1];exact hx)
   · rw[h1]at hx;simp only[zQ]at hx;omega
theorem Kept.grown{ok:Nat->Prop}{w0 w w':World}{size n:Nat}{e:TypeId}{v:Value}{xs:List Value}(hk:Kept B ok w0 w)(ho:w.ownsRow w0.heap.size e size v n xs)(hg:w.grownBy w' v.ownBlock):Kept B ok w0 w':=
 hk.trans' (Chg.grown hg) (λi hi hx=>by have:=(A9 ho i hx.symm).1;omega)
theorem J7c(w:World)(base:Nat)(hb:base<=w.heap.size)(x:Int):(w.alloc (.cells #[iV x] 3)).ownsRow base 3 1 (.slice (some (aD w.heap.size 0)) 1 1) 1 (B8 [x]):=
 ⟨rfl,.inr ⟨w.heap.size,1,#[iV x],rfl,hb,heap_alloc_new w _,by omega,by simp[maxLen],rfl,rfl⟩⟩
def nxt(w:World)(pb:Nat):Nat:=(intOf ((w.cell? (aD pb 1)).getD (iV 0))).toNat
theorem Pst.nxt(h:Pst w B pb tv L ok d s):nxt w pb=s.i:=by
 obtain⟨g,c,nv,yv,-,-,-,-,-,-,c1,-⟩:=h.cell;simp[YtfhhipefecekkaaGreatDoor.nxt,c1,intOf]
theorem Z6b(hL:LOk L)(m:Nat)(hMem:∀m',m'<=m->Con B pb tv L 192 (λd s r=>r.member d s) m'):
 Con B pb tv L 183 (λd s r=>r.union d s) m:=by
 intro w ok d s hm hok hB h;have hi:=h.at';have hs:=hL.short;have H1:=hMem m (vQ _) w ok d s hm hok hB h;have HF:=A0 h.few.2;have HV:Hid (∀o,M.Ev L (λr=>M.A4 (r.member d s) λs x=>if M.isM L s.i [[124]] then M.A4 (r.unionL d s [x]) λs l=>M.addT s ⟨10,[],l,0⟩ else some (.ok s x)) o->M.Ev L (λr=>r.union d s) o):=λo ho=>M.Ev.step (ho.eq (λr=>rfl));clear h;go_enter func183,ntmps183;go_wp2_with fail
 refine H1.mono ?_;clear H1;rintro e w1 ⟨hk,o,hev,hpost⟩;have K1:=A0 hk;have E1:=A0 hev;clear hk hev;cases o with
 |fail er p=>
  obtain⟨rfl,he⟩:=hpost;exact⟨rfl,I0 K1.out (HV.out _ (M.Ev.bad E1.out)) he⟩
 |ok s1 x=>
  obtain⟨rfl,hp,hg⟩:=hpost;have P1:=A0 hp;have G1:=A0 hg;have HI:=D0a hL (hp.alloc (.cells (M3a [[124]]) 9)) w1.heap.size 1 [[124]] (U9 _ _ _) (by decide);clear hp hg;have HV2:=A0 (λo ho=>HV.out o (M.Ev.bind E1.out ho));clear HV E1;generalize hb:M.isM L s1.i [[124]]=b at *;have B1:=A0 hb;clear hb;go_wp2_with fail
  refine HI.mono ?_;clear HI;rintro e w2 ⟨rfl,hc⟩;have P2:=A0 ((P1.out.alloc _).still hc);have K2:=A0 (K1.out.trans (((Kept.refl B ok w1).alloc _).trans (C8 hc)));clear hc P1 K1;cases b
  · go_wp2_with fail
    go_ret;exact W9 K2.out (HV2.out _ (M.Ev.pure.eq (λr=>by simp))) P2.out G1.out
  · have HB:=A0 B1.out;go_wp2_with fail
    go_loopw [4] (λv wr=>∃(acc:List Int) (s':M.St) (ad:Option Addr) (c:Nat),v= .slice ad acc.length c/\acc.length<=s'.i/\Hid (M.isM L s'.i [[124]]=true\/s'.T.length+1+s.i<=s.T.length+s'.i)/\Hid (Kept B ok w wr)/\Hid (E7 s s')/\Hid (wr.ownsRow w.heap.size 3 1 (.slice ad acc.length c) acc.length (B8 acc))/\
     Hid (Pst wr B pb tv L (λg=>ok g/\some g≠Value.ownBlock (.slice ad acc.length c)) d s')/\Hid (∀o,M.Ev L (λr=>M.A4 (r.unionL d s' acc) λs l=>M.addT s ⟨10,[],l,0⟩) o->M.Ev L (λr=>r.union d s) o)) (λ_ wr=>L.length - nxt wr pb)
    case atStart=>
     refine⟨[x],s1,_,1,rfl,by have:=G1.out.1;simp;omega,.inl B1.out,K2.out.alloc _,G1.out,J7c w2 _ K2.out.size x,P2.out.chg (Chg.alloc No _ _) (λ_ _ _ _ x=>x.elim) (λg hg hl=>⟨hg,by simp[Value.ownBlock];omega⟩),λo ho=>HV2.out o (ho.eq (λr=>by simp))⟩
    case round=>
     clear HV2 P2 K2 G1;obtain⟨acc,s',ad,c,rfl,hacc,SR,KR,GR,OR,PR,VR⟩:=hrel;have HT:=F6 hL PR.out [124];have hi':=PR.out.at';have hnx:=PR.out.nxt;generalize hq:M.isM L s'.i [[124]]=q at *;have Q1:=A0 hq;clear hq;go_wp2_with fail
     refine HT.mono ?_;clear HT;rintro e w3 ⟨rfl,hk,hp⟩;have K3:=A0 (KR.out.trans (hk.mono λ_ h=>h.1));have P3:=A0 hp;have O3:=A0 (F4 OR.out hk (by decide));clear hk hp OR PR KR;cases q
     · have S2:s'.T.length+1+s.i<=s.T.length+s'.i:=by
        rcases SR.out with h1|h1
        · cases h1
        · exact h1
       have hT:=HF.out;have PY:Pst w3 B pb tv L (λg=>ok g/\some g≠Value.ownBlock (.slice ad acc.length c)) d s':=by simpa using P3.out
       have PX:Pst w3 B pb tv L ok d s':=PY.mono (λg hg _=>hg.1);have HA:=Y2 hL PX ⟨10,[],acc,0⟩ none ad 0 0 acc.length c ⟨_,_,rfl,kW _ _ _ _,C7 O3.out (wQ _),by simp[Value.ownBlock],λg hg=>hok g (A9 O3.out g hg).1⟩ (by omega) (kQ hB K3.out.size) (λg hg=>hok g (kQ K3.out.size hg));have EV:=A0 (VR.out _ (M.Ev.bind (s:=s') (x:=acc) (k:=λ_ s l=>M.addT s ⟨10,[],l,0⟩) (M.Ev.step (M.Ev.pure.eq (λr=>by show (if M.isM L s'.i [[124]] then _ else _)=_;rw[Q1.out];rfl))) M.Ev.pure));have GX:=A0 (show E7 s ⟨s'.i,s'.N,s'.T++[⟨10,[],acc,0⟩]⟩ by
        have h2:=GR.out;simp only[E7,qQ,jQ,xQ]at h2⊢
        omega)
       clear VR O3 P3 PX PY GR;go_wp2_with fail
       refine HA.mono ?_;clear HA;rintro e w4 ⟨rfl,hk,hp⟩;have K4:=A0 (K3.out.trans hk);have P4:=A0 hp;clear hk hp;go_wp2_with fail
       go_ret;exact W9 K4.out EV.out P4.out GX.out
     · have PX:Pst w3 B pb tv L (λg=>ok g/\some g≠Value.ownBlock (.slice ad acc.length c)) d s'.nx:=by simpa using P3.out
       have hi2:=PX.at';have hj:s.i<s'.i:=GR.out.1;have HM:=hMem (L.length - s'.nx.i) (by simp only[M.St.nx];omega) w3 _ d s'.nx (vQ _) (λg hg=>⟨hok g (kQ K3.out.size hg),λhx=>by have:=(O3.out.lt g hx.symm).2;omega⟩) (kQ hB K3.out.size) PX;clear P3 PX;go_wp2_with fail
       refine HM.mono ?_;clear HM;rintro e w4 ⟨hk,o,hev,hpost⟩;have K4:=A0 (K3.out.trans (hk.mono λ_ h=>h.1));have O4:=A0 (F4 O3.out hk (by decide));have E4:=A0 hev;clear hk hev K3 O3;cases o with
       |fail er p=>
        obtain⟨rfl,he⟩:=hpost;exact⟨rfl,I0 K4.out (VR.out _ (M.Ev.bad (M.Ev.step ((M.Ev.bad E4.out).eq (λr=>by show (if M.isM L s'.i [[124]] then _ else _)=_;rw[Q1.out];rfl))))) he⟩
       |ok s4 y=>
        obtain⟨rfl,hp,hg⟩:=hpost;have P4:=A0 hp;have G4:=A0 hg;have hi4:=hp.at';clear hp hg;have VN:=A0 (λo (ho:M.Ev L (λr=>M.A4 (r.unionL d s4 (acc++[y])) λs l=>M.addT s ⟨10,[],l,0⟩) o)=>VR.out o (by
         obtain⟨f1,h1⟩:=E4.out;obtain⟨f2,h2⟩:=ho;refine⟨f1+f2+1,λf hf=> ?_⟩;obtain⟨g,rfl⟩:∃g,f=g+1:=⟨f - 1,by omega⟩;have a1:(M.sp' L g).member d s'.nx=some (.ok s4 y):=h1 g (by omega);have a2:=h2 g (by omega);show M.A4 (if M.isM L s'.i [[124]] then M.A4 ((M.sp' L g).member d s'.nx) λs x=>(M.sp' L g).unionL d s (acc++[x]) else some (.ok s' acc)) _=some o;rw[Q1.out,if_pos rfl,a1];exact a2))
        clear VR;obtain⟨i0,hi0,hz0,hz1,hz2⟩:=info_parts Tryz.infoInt;have hw3:=A0 (O4.out.alloc (.cells #[iV y] 3));go_wp2_with (at_builtin;refine wpList_append_own_at _ rfl _ _ 43 rfl w.heap.size 3 i0 (iV 0) 1 8 underlying43 hi0 hz0 hz1 hz2 rfl (by decide) _ _ _ rfl hw3.out (aD w4.heap.size 0) 1 1 [iV y] rfl rfl ?c1 ?c2 ?c3 ?c4 ?c5 ?_)
        case c1=>exact cell_one_new _ _ _
        case c2=>intro u hu;simp at hu;rcases hu with rfl;rfl
        case c3=>simp only[maxLen];omega
        case c4=>omega
        case c5=>have:=K4.out.size;simp;omega
        · intro v' w5 hown2 hg2 _ hat;obtain⟨ad2,c2,hv2⟩:=B7 hown2;rw[hv2]at hown2 hat⊢;have PG:=A0 ((P4.out.alloc (.cells #[iV y] 3)).grown (v:= .slice ad acc.length c) (v':= .slice ad2 (acc.length+1) c2) (O4.out.alloc _) (.inl rfl) hg2 (by simpa using hat));have KG:=A0 ((K4.out.alloc (.cells #[iV y] 3)).grown (O4.out.alloc _) hg2);have OG:=A0 hown2;clear hown2 hg2 hat hw3 P4 O4 K4 hv2;go_wp2_with fail
          go_roundw
          case rel=>
           have h1:=GR.out;have h2:=G4.out;simp only[E7,M.St.nx]at h1 h2;refine⟨acc++[y],s4,ad2,c2,by simp,by simp;omega,.inr (by omega),KG.out,⟨by omega,by omega,by omega,by omega⟩, ?_, ?_,VN.out⟩
           · have:=OG.out;show World.ownsRow _ _ _ _ _ _ _;rw[M5];simpa using this
           · have:=PG.out;show Pst _ _ _ _ _ _ _ _;simpa using this
          case measure=>
           have h2:=G4.out;have h3:=PG.out.nxt;simp only[E7,M.St.nx]at h2;rw[h3,hnx];omega
end
theorem tA{P:Program}{md:Region.Mode}{ops:Array Oper}{Q:Exit->Act->World->Prop}{S:World->Prop}{i k:Nat}{op:Op}{ty:TypeId}{pos:String}{af:Array Edge}{gd:Option (Nat×Bool)}{v:Value}{fuel:Nat}{listed:Array Bool}{a:Act}{w:World}(hi:ops[i]? =some (Oper.mk (some k) op ty pos af gd))
 (h:wpAnyH P md ops Q S fuel (listed.setIfInBounds i true) (a.put (some k) v) w) (hs:Region.noSelect ops=true:=by kernel_rfl) (hf:Region.free md ops listed i=true:=by kernel_rfl) (hr:(Region.ready md ops listed).contains i=true:=by kernel_rfl) (hQ:∀c a w,Q (.panic c) (a.put (some k) v) w->Q (.panic c) a w:=by exact λ_ _ _ h=>h)
 (hy:YieldsIf P ops S (Oper.mk (some k) op ty pos af gd) v a:=by exact Or.inl ⟨by rfl,λw hSw=>by go_simp⟩) (hS:S w:=by assumption):wpAnyH P md ops Q S (fuel+1) listed a w:=wpAnyH_take hi hs hf hr hQ hy hS h
theorem tU{P:Program}{md:Region.Mode}{ops:Array Oper}{Q:Exit->Act->World->Prop}{S:World->Prop}{i k:Nat}{op:Op}{ty:TypeId}{pos:String}{af:Array Edge}{gd:Option (Nat×Bool)}{fuel:Nat}{listed:Array Bool}{a:Act}{w:World}(hi:ops[i]? =some (Oper.mk (some k) op ty pos af gd))
 (h:wpAnyH P md ops Q S fuel (listed.setIfInBounds i true) (a.put (some k) undef) w) (hs:Region.noSelect ops=true:=by kernel_rfl) (hf:Region.free md ops listed i=true:=by kernel_rfl) (hr:(Region.ready md ops listed).contains i=true:=by kernel_rfl) (hQ:∀c a w,Q (.panic c) (a.put (some k) undef) w->Q (.panic c) a w:=by exact λ_ _ _ h=>h)
 (hy:YieldsIf P ops S (Oper.mk (some k) op ty pos af gd) undef a:=by exact Or.inr ⟨by rfl,rfl⟩) (hS:S w:=by assumption):wpAnyH P md ops Q S (fuel+1) listed a w:=wpAnyH_take hi hs hf hr hQ hy hS h
theorem aT{α:Type}(l:List α)(i:Nat)(a:α):l.toArray.setIfInBounds i a=(l.set i a).toArray:=List.setIfInBounds_toArray ..
theorem a0{α:Type}(a b:α)(l:List α):(a::l).set 0 b=b::l:=rfl
theorem a1{α:Type}(a b:α)(l:List α)(n:Nat):(a::l).set (n+1) b=a::l.set n b:=rfl
section
variable{w:World}{B pb:Nat}{tv:Value}{L:List M.Tk}{ok:Nat->Prop}{d:Nat}{s:M.St}
theorem O9a{p:M.Q0a}{E:List UInt8}{nm:List (List UInt8)}{acc:List Int}(hq:M.isM L s.i [E]=true):M.Ev L (λr=>r.list p E d s nm acc) (.ok s.nx acc):=
 M.Ev.step (M.Ev.pure.eq λr=>by show (if M.isM L s.i [E] then _ else _)=_;rw[hq];rfl)
theorem U2{p:M.Q0a}{E:List UInt8}{nm:List (List UInt8)}{acc:List Int}{s1:M.St}{o:M.Out (List Int)}(hq:M.isM L s.i [E]=false)(hc:(if acc.length=0 then some (.ok s ()) else M.need L s [44])=some (.ok s1 ()))
 (h:M.Ev L (λr=>M.A4 (M.part L r d s1 nm p) λs x=>r.list p E d s x.2 (acc++[x.1])) o):M.Ev L (λr=>r.list p E d s nm acc) o:=
 M.Ev.step (h.eq λr=>by
  show (if M.isM L s.i [E] then _ else M.A4 (if acc.length=0 then some (.ok s ()) else M.need L s [44]) _)=_;rw[hq,hc];rfl)
theorem P0a{p:M.Q0a}{E:List UInt8}{nm:List (List UInt8)}{acc:List Int}{e q:Int}(hq:M.isM L s.i [E]=false)(hc:(if acc.length=0 then some (.ok s ()) else M.need L s [44])=some (.fail e q)):M.Ev L (λr=>r.list p E d s nm acc) (.fail e q):=
 M.Ev.step (M.Ev.pure.eq λr=>by
  show (if M.isM L s.i [E] then _ else M.A4 (if acc.length=0 then some (.ok s ()) else M.need L s [44]) _)=_;rw[hq,hc];rfl)
def I6(s s':M.St):Prop:=s.i<=s'.i/\s'.N.length+s.i<=s.N.length+s'.i/\s'.T.length+s.i<=s.T.length+s'.i/\s.N.length<=s'.N.length
def S9c(w:World)(B pb:Nat)(tv:Value)(L:List M.Tk)(ok:Nat->Prop)(d:Nat)(s:M.St)(φ:M.Sp->Option (M.Out (List Int)))(e:Ending)(w':World):Prop:=
 Kept B ok w w'/\∃o,M.Ev L φ o/\match o with
  | .ok s' l=>∃ad c,e= .returned (.slice ad l.length c)/\w'.ownsRow w.heap.size 3 1 (.slice ad l.length c) l.length (B8 l)/\l.length<=s'.i/\Pst w' B pb tv L ok d s'/\E7 s s'
  | .fail er p=>e=gu er p/\er≠0
theorem I1a{φ:M.Sp->Option (M.Out (List Int))}{w':World}{er p:Int}(hk:Kept B ok w w')(hev:M.Ev L φ (.fail er p))(he:er≠0):S9c w B pb tv L ok d s φ (gu er p) w':=⟨hk,_,hev,rfl,he⟩
theorem J1c{φ:M.Sp->Option (M.Out (List Int))}{w':World}{s':M.St}{l:List Int}{ad:Option Addr}{c:Nat}(hk:Kept B ok w w')(hev:M.Ev L φ (.ok s' l))(ho:w'.ownsRow w.heap.size 3 1 (.slice ad l.length c) l.length (B8 l))(hl:l.length<=s'.i)(hp:Pst w' B pb tv L ok d s')(hg:E7 s s'):
 S9c w B pb tv L ok d s φ (.returned (.slice ad l.length c)) w':=⟨hk,_,hev,_,_,rfl,ho,hl,hp,hg⟩
theorem ev_list_more'{pt:M.Q0a}{φ:Nat->M.St->M.Sp->Option (M.Out Int)}(hpt:∀r d s,M.part L r d s [] pt=M.A4 (φ d s r) λs x=>some (.ok s (x,[]))){E:List UInt8}{acc:List Int}{s1:M.St}{o:M.Out (List Int)}(hq:M.isM L s.i [E]=false)(hc:(if acc.length=0 then some (.ok s ()) else M.need L s [44])=some (.ok s1 ()))
 (h:M.Ev L (λr=>M.A4 (M.A4 (φ d s1 r) λs x=>some (.ok s (x,[]))) λs x=>r.list pt E d s x.2 (acc++[x.1])) o):M.Ev L (λr=>r.list pt E d s [] acc) o:=U2 hq hc (h.eq λr=>by rw[hpt])
theorem I5a(kf:Nat)(cf:∀(args:Array Value) (W:World),(callFunc kf args).run prog W= .ok (.enter kf args) W){pt:M.Q0a}{φ:Nat->M.St->M.Sp->Option (M.Out Int)}(hpt:∀r d s,M.part L r d s [] pt=M.A4 (φ d s r) λs x=>some (.ok s (x,[])))(hL:LOk L)(m:Nat)(hTyp:∀m',m'<=m->Con B pb tv L kf φ m')(E:List UInt8)(hm:L.length - s.i<=m)(hok:∀g,w.heap.size<=g->ok g)(hB:B<=w.heap.size)(h:Pst w B pb tv L ok d s):
 Calls prog 211 #[pV pb,.string ⟨E.toArray⟩,.func (.func kf) #[pV pb] #[]] w (S9c w B pb tv L ok d s (λr=>r.list pt E d s [] [])):=by
 have hs:=hL.short;have hi:=h.at';have HP:=A0 h;clear h;go_enter func211,ntmps211;go_wp2_with fail
 go_loopw [7] (λv wr=>∃(acc:List Int) (s':M.St) (ad:Option Addr) (c:Nat),v= .slice ad acc.length c/\acc.length<=s'.i/\Hid (Kept B ok w wr)/\Hid (I6 s s')/\Hid (wr.ownsRow w.heap.size 3 1 (.slice ad acc.length c) acc.length (B8 acc))/\
  Hid (Pst wr B pb tv L (λg=>ok g/\some g≠Value.ownBlock (.slice ad acc.length c)) d s')/\Hid (∀o,M.Ev L (λr=>r.list pt E d s' [] acc) o->M.Ev L (λr=>r.list pt E d s [] []) o)) (λ_ wr=>L.length - nxt wr pb)
 case atStart=>exact⟨[],s,none,0,rfl,by simp,Kept.refl _ _ _,⟨vQ _,by omega,by omega,by omega⟩,kW _ _ _ _,HP.out.mono (λg hg _=>⟨hg,by simp[Value.ownBlock]⟩),λ_ h=>h⟩
 case round=>
  obtain⟨acc,s',ad,c,rfl,hacc,KR,GR,OR,PR,VR⟩:=hrel;have HT:=F6 hL PR.out E;have hi':=PR.out.at';have hnx:=PR.out.nxt;generalize hq:M.isM L s'.i [E]=q at *;have Q1:=A0 hq;clear hq;go_wp2_with fail
  refine HT.mono ?_;clear HT;rintro e w3 ⟨rfl,hk,hp⟩;have K3:=A0 (KR.out.trans (hk.mono λ_ h=>h.1));have P3:=A0 hp;have O3:=A0 (F4 OR.out hk (by decide));clear hk hp OR PR KR;cases q
  · have PX:Pst w3 B pb tv L (λg=>ok g/\some g≠Value.ownBlock (.slice ad acc.length c)) d s':=by simpa using P3.out
    clear P3;by_cases hz:acc.length=0
    · have HC:Hid ((if acc.length=0 then some (.ok s' ()) else M.need L s' [44])=some (M.Out.ok s' ())):=by show _=_;rw[if_pos hz]
      have ha:acc=[]:=List.eq_nil_of_length_eq_zero hz;subst ha;simp only[xQ]at O3 PX hacc⊢;clear hz;have hj:s.i<=s'.i:=GR.out.1;have HM:=hTyp (L.length - s'.i) (by first|(simp only[M.St.nx];omega)|omega) w3 _ d s' (vQ _) (λg hg=>⟨hok g (kQ K3.out.size hg),λhx=>by have:=(O3.out.lt g hx.symm).2;omega⟩) (kQ hB K3.out.size) PX;clear PX;go_wp2_with fail
      refine HM.mono ?_;clear HM;rintro e w4 ⟨hk,o,hev,hpost⟩;have K4:=A0 (K3.out.trans (hk.mono λ_ h=>h.1));have O4:=A0 (F4 O3.out hk (by decide));have E4:=A0 hev;clear hk hev K3 O3;cases o with
      |fail er p=>
       obtain⟨rfl,he⟩:=hpost;exact⟨rfl,I1a K4.out (VR.out _ (ev_list_more' hpt Q1.out HC.out (M.Ev.bad (M.Ev.bad E4.out)))) he⟩
      |ok s4 y=>
       obtain⟨rfl,hp,hg⟩:=hpost;have P4:=A0 hp;have G4:=A0 hg;have hi4:=hp.at';clear hp hg;have VN:=A0 (λo (ho:M.Ev L (λr=>r.list pt E d s4 [] ([]++[y])) o)=>VR.out o (ev_list_more' hpt Q1.out HC.out (M.Ev.bind (M.Ev.bind E4.out (k:=λ_ s x=>some (.ok s (x,[]))) M.Ev.pure) ho)));clear VR;obtain⟨i0,hi0,hz0,hz1,hz2⟩:=info_parts Tryz.infoInt;have hw3:=A0 (O4.out.alloc (.cells #[iV y] 3));have hl4:0+1<=s4.i:=by
        have h2:=G4.out.1;first|(simp only[M.St.nx]at h2;omega)|omega
       go_wp2_with (at_builtin;refine wpList_append_own_at _ rfl _ _ 43 rfl w.heap.size 3 i0 (iV 0) 1 8 underlying43 hi0 hz0 hz1 hz2 rfl (by decide) _ _ _ rfl hw3.out (aD w4.heap.size 0) 1 1 [iV y] rfl rfl ?c1 ?c2 ?c3 ?c4 ?c5 ?_)
       case c1=>exact cell_one_new _ _ _
       case c2=>intro u hu;simp at hu;rcases hu with rfl;rfl
       case c3=>simp only[maxLen];omega
       case c4=>omega
       case c5=>have:=K4.out.size;simp;omega
       · intro v' w5 hown2 hg2 _ hat;obtain⟨ad2,c2,hv2⟩:=B7 hown2;rw[hv2]at hown2 hat⊢;have PG:=A0 ((P4.out.alloc (.cells #[iV y] 3)).grown (v:= .slice ad 0 c) (v':= .slice ad2 (0+1) c2) (O4.out.alloc _) (.inl rfl) hg2 (by simpa using hat));have KG:=A0 ((K4.out.alloc (.cells #[iV y] 3)).grown (O4.out.alloc _) hg2);have OG:=A0 hown2;clear hown2 hg2 hat hw3 P4 O4 K4 hv2;go_wp2_with fail
         go_roundw
         case rel=>
          have h1:=GR.out;have h2:=G4.out;simp only[E7,I6]at h1 h2;refine⟨[y],s4,ad2,c2,by simp,by simp;omega,KG.out,⟨by omega,by omega,by omega,by omega⟩, ?_, ?_,VN.out⟩
          · have:=OG.out;show World.ownsRow _ _ _ _ _ _ _;simpa[B8]using this
          · have:=PG.out;show Pst _ _ _ _ _ _ _ _;simpa using this
         case measure=>
          have h2:=G4.out;have h3:=PG.out.nxt;simp only[E7]at h2;rw[h3,hnx];omega
    · have hz':(0:Int)<(acc.length:Int):=by omega
      have HN:=G9 hL PX [44];go_wp2_with fail
      refine HN.mono ?_;clear HN;rintro e w6 ⟨hk,hr⟩;have K6:=A0 (K3.out.trans (hk.mono λ_ h=>h.1));have O6:=A0 (F4 O3.out hk (by decide));clear hk K3 O3 PX;rcases hr with ⟨hb,rfl,PX⟩|⟨hb,rfl⟩
      · have hi6:=PX.at';have HC:Hid ((if acc.length=0 then some (.ok s' ()) else M.need L s' [44])=some (M.Out.ok s'.nx ())):=by show _=_;rw[if_neg hz,M.need,hb];rfl
        clear hb;have hj:s.i<=s'.i:=GR.out.1;have HM:=hTyp (L.length - s'.nx.i) (by first|(simp only[M.St.nx];omega)|omega) w6 _ d s'.nx (vQ _) (λg hg=>⟨hok g (kQ K6.out.size hg),λhx=>by have:=(O6.out.lt g hx.symm).2;omega⟩) (kQ hB K6.out.size) PX;clear PX;go_wp2_with fail
        refine HM.mono ?_;clear HM;rintro e w4 ⟨hk,o,hev,hpost⟩;have K4:=A0 (K6.out.trans (hk.mono λ_ h=>h.1));have O4:=A0 (F4 O6.out hk (by decide));have E4:=A0 hev;clear hk hev K6 O6;cases o with
        |fail er p=>
         obtain⟨rfl,he⟩:=hpost;exact⟨rfl,I1a K4.out (VR.out _ (ev_list_more' hpt Q1.out HC.out (M.Ev.bad (M.Ev.bad E4.out)))) he⟩
        |ok s4 y=>
         obtain⟨rfl,hp,hg⟩:=hpost;have P4:=A0 hp;have G4:=A0 hg;have hi4:=hp.at';clear hp hg;have VN:=A0 (λo (ho:M.Ev L (λr=>r.list pt E d s4 [] (acc++[y])) o)=>VR.out o (ev_list_more' hpt Q1.out HC.out (M.Ev.bind (M.Ev.bind E4.out (k:=λ_ s x=>some (.ok s (x,[]))) M.Ev.pure) ho)));clear VR;obtain⟨i0,hi0,hz0,hz1,hz2⟩:=info_parts Tryz.infoInt;have hw3:=A0 (O4.out.alloc (.cells #[iV y] 3));have hl4:acc.length+1<=s4.i:=by
          have h2:=G4.out.1;first|(simp only[M.St.nx]at h2;omega)|omega
         go_wp2_with (at_builtin;refine wpList_append_own_at _ rfl _ _ 43 rfl w.heap.size 3 i0 (iV 0) 1 8 underlying43 hi0 hz0 hz1 hz2 rfl (by decide) _ _ _ rfl hw3.out (aD w4.heap.size 0) 1 1 [iV y] rfl rfl ?c1 ?c2 ?c3 ?c4 ?c5 ?_)
         case c1=>exact cell_one_new _ _ _
         case c2=>intro u hu;simp at hu;rcases hu with rfl;rfl
         case c3=>simp only[maxLen];omega
         case c4=>omega
         case c5=>have:=K4.out.size;simp;omega
         · intro v' w5 hown2 hg2 _ hat;obtain⟨ad2,c2,hv2⟩:=B7 hown2;rw[hv2]at hown2 hat⊢;have PG:=A0 ((P4.out.alloc (.cells #[iV y] 3)).grown (v:= .slice ad acc.length c) (v':= .slice ad2 (acc.length+1) c2) (O4.out.alloc _) (.inl rfl) hg2 (by simpa using hat));have KG:=A0 ((K4.out.alloc (.cells #[iV y] 3)).grown (O4.out.alloc _) hg2);have OG:=A0 hown2;clear hown2 hg2 hat hw3 P4 O4 K4 hv2;go_wp2_with fail
           go_roundw
           case rel=>
            have h1:=GR.out;have h2:=G4.out;simp only[E7,I6,M.St.nx]at h1 h2;refine⟨acc++[y],s4,ad2,c2,by simp,by simp;omega,KG.out,⟨by omega,by omega,by omega,by omega⟩, ?_, ?_,VN.out⟩
            · have:=OG.out;show World.ownsRow _ _ _ _ _ _ _;rw[M5];simpa using this
            · have:=PG.out;show Pst _ _ _ _ _ _ _ _;simpa using this
           case measure=>
            have h2:=G4.out;have h3:=PG.out.nxt;simp only[E7,M.St.nx]at h2;rw[h3,hnx];omega
      · exact⟨rfl,I1a K6.out (VR.out _ (P0a Q1.out (by rw[if_neg hz,M.need,hb];rfl))) (by decide)⟩
  · have PX:Pst w3 B pb tv L (λg=>ok g/\some g≠Value.ownBlock (.slice ad acc.length c)) d s'.nx:=by simpa using P3.out
    have PY:=A0 (PX.mono (ok':=ok) (λg hg _=>hg.1));have EV:=A0 (VR.out _ (O9a Q1.out));have GX:=A0 (show E7 s s'.nx by
     have h2:=GR.out;simp only[E7,I6,M.St.nx]at h2⊢
     omega)
    clear VR P3 PX;go_wp2_with fail
    go_ret;exact J1c K3.out EV.out O3.out (by simp only[M.St.nx];omega) PY.out GX.out
theorem Y5c(hL:LOk L)(m:Nat)(hTyp:∀m',m'<=m->Con B pb tv L 178 (λd s r=>r.typ d s) m'):Con B pb tv L 204 (λd s r=>r.fob d s) m:=by
 intro w ok d s hm hok hB h;have hs:=hL.short;have hi:=h.at';have HF:=A0 h.few;have H1:=I5a 178 (λ_ _=>by go_simp) (pt:= .typ) (φ:=λd s r=>r.typ d s) (λ_ _ _=>rfl) hL m hTyp [41] hm hok hB h;have HV:Hid (∀o,M.Ev L (λr=>M.A4 (r.list .typ [41] d s [] []) λs l=>if M.isM L s.i [[61,62]] then M.A4 (r.typ d s.nx) λs x=>M.addT s ⟨9,[],l,x⟩ else match l with|[x]=>some (.ok s x)|_=>M.flt L s.i 1) o->M.Ev L (λr=>r.fob d s) o):=λo ho=>M.Ev.step (ho.eq (λr=>rfl));clear h;go_enter func204,ntmps204;go_wp2_with fail
 refine H1.mono ?_;clear H1;rintro e w1 ⟨hk,o,hev,hpost⟩;have K1:=A0 hk;have E1:=A0 hev;clear hk hev;cases o with
 |fail er p=>
  obtain⟨rfl,he⟩:=hpost;exact⟨rfl,I0 K1.out (HV.out _ (M.Ev.bad E1.out)) he⟩
 |ok s1 l=>
  obtain⟨ad,c,rfl,ho,hl,hp,hg⟩:=hpost;have P1:=A0 hp;have G1:=A0 hg;have O1:=A0 ho;have hi1:=hp.at';have HT:=F6 hL hp [61,62];clear hp hg ho;have V1:=A0 (λo ho=>HV.out o (M.Ev.bind E1.out ho));clear HV E1;generalize hq:M.isM L s1.i [[61,62]]=q at *;have Q1:=A0 hq;clear hq;go_wp2_with fail
  refine HT.mono ?_;clear HT;rintro e w2 ⟨rfl,hk,hp⟩;have K2:=A0 (K1.out.trans hk);have O2:=A0 (F4 O1.out hk (by decide));have P2:=A0 hp;clear hk hp K1 O1 P1;cases q
  · have PX:Pst w2 B pb tv L ok d s1:=by simpa using P2.out
    have HX:=Y1 hL PX 1;have PY:=A0 PX;clear P2 PX;by_cases h1:l.length=1
    · obtain⟨x,rfl⟩:=List.length_eq_one_iff.1 h1;obtain⟨g,rfl,_,hg,hgc,hgm,hcell⟩:=D8 O2.out (by simp);have c0:w2.cell? (aD g 0)=some (iV x):=hcell 0 _ rfl;clear hcell HX;go_wp2_with fail
      go_ret;exact W9 K2.out (V1.out _ (M.Ev.pure.eq (λr=>by simp))) PY.out G1.out
    · have h1':((l.length:Int)==1)=false:=by simp;omega
      go_wp2_with fail
      refine HX.mono ?_;clear HX;rintro e w3 ⟨rfl,hc⟩;refine⟨rfl,I0 (K2.out.trans (C8 hc)) (V1.out _ (M.Ev.pure.eq (λr=> ?_))) (by decide)⟩;simp only[Bool.false_eq_true,if_false];match l,h1 with
      |[],_=>rfl
      |[x],h=>simp at h
      |_::_::_,_=>rfl
  · have PX:Pst w2 B pb tv L ok d s1.nx:=by simpa using P2.out
    have hi2:=PX.at';have HM:=hTyp (L.length - s1.nx.i) (by have:=G1.out.1;simp only[M.St.nx];omega) w2 ok d s1.nx (vQ _) (λg hg=>hok g (kQ K2.out.size hg)) (kQ hB K2.out.size) PX;clear P2 PX;go_wp2_with fail
    refine HM.mono ?_;clear HM;rintro e w4 ⟨hk,o,hev,hpost⟩;have K4:=A0 (K2.out.trans hk);have O4:=A0 (F4 O2.out hk (by decide));have E4:=A0 hev;clear hk hev K2 O2;cases o with
    |fail er p=>
     obtain⟨rfl,he⟩:=hpost;exact⟨rfl,I0 K4.out (V1.out _ (M.Ev.eq (M.Ev.bad E4.out) (λr=>by simp;rfl))) he⟩
    |ok s4 y=>
     obtain⟨rfl,hp,hg⟩:=hpost;have P4:=A0 hp;have GX:=A0 (show E7 s ⟨s4.i,s4.N,s4.T++[⟨9,[],l,y⟩]⟩/\s4.T.length+1<=s4.i by
      have h2:=G1.out;have h3:=hg;have h4:=HF.out;simp only[E7,M.St.nx,qQ,jQ,xQ]at h2 h3⊢
      omega)
     have HA:=Y2 hL hp ⟨9,[],l,y⟩ none ad 0 0 l.length c ⟨_,_,rfl,kW _ _ _ _,C7 O4.out (wQ _),by simp[Value.ownBlock],λg hg=>hok g (A9 O4.out g hg).1⟩ GX.out.2 (kQ hB K4.out.size) (λg hg=>hok g (kQ K4.out.size hg));have EV:=A0 (V1.out _ (M.Ev.eq (M.Ev.bind E4.out (k:=λ_ s x=>M.addT s ⟨9,[],l,x⟩) M.Ev.pure) (λr=>by simp)));clear hp hg;go_wp2_with fail
     refine HA.mono ?_;clear HA;rintro e w5 ⟨rfl,hk,hp⟩;have K5:=A0 (K4.out.trans hk);have P5:=A0 hp;clear hk hp;go_wp2_with fail
     go_ret;exact W9 K5.out EV.out P5.out GX.out.1
end
set_option linter.unusedSimpArgs false
section
variable{w:World}{B pb:Nat}{tv:Value}{L:List M.Tk}{ok:Nat->Prop}{d:Nat}{s:M.St}
theorem Tryz.infoStr:(prog.info? 9).map (λi=>(i.zero,i.size,i.bytes))=some (some (.string ⟨#[]⟩),1,16):=by kernel_rfl
def O3a(ms:List (List UInt8)):List Value:=ms.map λm=> .string ⟨m.toArray⟩
theorem N7b(ms:List (List UInt8))(m:List UInt8):O3a (ms++[m])=O3a ms++[.string ⟨m.toArray⟩]:=by simp[O3a]
def Nms(w:World)(lo nb:Nat)(names:List (List UInt8)):Prop:=
 lo<=nb/\∃ad c,w.heap[nb]? =some (.cells #[.slice ad names.length c] 158 (0,0))/\w.ownsRow lo 9 1 (.slice ad names.length c) names.length (O3a names)
def tagS(w:World)(k:Nat):Prop:=∃cs e fz,w.heap[k]? =some (.cells cs e fz)/\(e=158\/e=9)
def KeptS(B:Nat)(ok:Nat->Prop)(lo:Nat)(w w':World):Prop:=Chg (λk=>(B<=k/\tag w k/\ok k)\/(lo<=k/\tagS w k)) w w'
theorem Nms.kept{ok:Nat->Prop}{w w':World}{lo nb:Nat}{names:List (List UInt8)}(h:Nms w lo nb names)(hk:Kept B ok w w'):Nms w' lo nb names:=by
 obtain⟨h1,ad,c,h2,h3⟩:=h;refine⟨h1,ad,c, ?_,F4 h3 hk (by decide)⟩;rw[hk.block nb (ltG h2) (λx=> ?_)]
 · exact h2
 · obtain⟨cs,e,fz,hh,r⟩:=x.2.1;rw[h2]at hh;simp only[zQ,xW]at hh;obtain⟨_,rfl,_⟩:=hh;rcases r with r|r|r<;>exact absurd r (by decide)
theorem B7d{w a b:World}{nb:Nat}{v:Value}(h1:a.cell? (aD nb 0)=some v)(h2:Hid (Chg No w a))(hc:Chg No a b):b.cell? (aD nb 0)=some v/\Hid (Chg No w b):=by
 refine⟨?_,h2.out.trans hc (λ_ _ x=>x)⟩;rw[World.cell?_of_block (hc.block nb (World.block_lt_of_cell? a _ h1) (λx=>x))];exact h1
theorem H7c{w:World}{g:Nat}{ms:List (List UInt8)}(hg:g<w.heap.size)(hc:∀j u,(O3a ms)[j]? =some u->w.cell? (aD g j)=some u):Strs w g ms:=
 ⟨hg,λj hj=>hc j _ (by simp[O3a,hj])⟩
theorem R1b(w:World)(ad:Option Addr)(c:Nat)(t:List UInt8):
 Calls prog 161 #[.slice ad 0 c,.string ⟨t.toArray⟩] w λe w'=>e= .returned (iV (-1))/\w'=w:=by
 go_enter func161,ntmps161;go_wp2;go_loop [8] (λi=>i=iV 0) (λ_=>0)
 case atStart=>rfl
 case round=>
  subst hrel;go_wp2;go_ret;exact⟨rfl,rfl⟩
theorem X4a(w:World)(ad:Option Addr)(c:Nat)(t:List UInt8):
 Calls prog 138 #[.slice ad 0 c,.string ⟨t.toArray⟩] w λe w'=>e= .returned (.bool false)/\w'=w:=by
 have H:=R1b w ad c t;go_enter func138,ntmps138;go_wp2_with fail
 refine H.mono ?_;clear H;rintro e w1 ⟨rfl,rfl⟩;go_wp2;go_ret;exact⟨rfl,rfl⟩
theorem E6b(w:World)(lo:Nat)(ad:Option Addr)(c:Nat)(ms:List (List UInt8))(t:List UInt8)(h:w.ownsRow lo 9 1 (.slice ad ms.length c) ms.length (O3a ms))(hm:ms.length<=4000):
 Calls prog 138 #[.slice ad ms.length c,.string ⟨t.toArray⟩] w λe w'=>e= .returned (.bool (M.has ms t))/\w'=w:=by
 by_cases hz:0<ms.length
 · obtain⟨g,rfl,_,hg,_,_,hcell⟩:=D8 h hz;exact L2a w g c ms t (H7c hg hcell) hm
 · have:ms=[]:=List.eq_nil_of_length_eq_zero (by omega);subst this;exact X4a w ad c t
theorem Nms.push{w w1 w2:World}{lo nb n c g cap:Nat}{ad:Option Addr}{xs:List Value}{x:Value}(h:Pst w B pb tv L ok d s)(hnb:lo<=nb)(hb:w.heap[nb]? =some (.cells #[.slice ad n c] 158 (0,0)))(ho:w.ownsRow lo 9 1 (.slice ad n c) n xs)(h1:Chg No w w1)
 (hg:w1.grownBy w2 (Value.ownBlock (.slice ad n c))) (ho2:w2.ownsRow lo 9 1 (.slice (some (aD g 0)) (n+1) cap) (n+1) (xs++[x])):
 KeptS B ok lo w (w2.setCell (aD nb 0) (.slice (some (aD g 0)) (n+1) cap))/\Pst (w2.setCell (aD nb 0) (.slice (some (aD g 0)) (n+1) cap)) B pb tv L ok d s/\
  (w2.setCell (aD nb 0) (.slice (some (aD g 0)) (n+1) cap)).heap[nb]? =some (.cells #[.slice (some (aD g 0)) (n+1) cap] 158 (0,0))/\
  (w2.setCell (aD nb 0) (.slice (some (aD g 0)) (n+1) cap)).ownsRow lo 9 1 (.slice (some (aD g 0)) (n+1) cap) (n+1) (xs++[x]):=by
 have hlt:=(ltG hb);have hb1:w1.heap[nb]? =w.heap[nb]? :=h1.block nb hlt (λx=>x);have ho1:w1.ownsRow lo 9 1 (.slice ad n c) n xs:=A3 ho h1 (λ_ _ x=>x);have hne:some nb≠Value.ownBlock (.slice ad n c):=by
  intro hx;obtain⟨_,cur,hh⟩:=A9 ho1 nb hx.symm;rw[hb1,hb]at hh;simp only[zQ,xW]at hh;exact absurd hh.2.1 (by decide)
 have hb2:w2.heap[nb]? =some (.cells #[.slice ad n c] 158 (0,0)):=by rw[hg.block nb (yQ hlt h1.size) hne,hb1,hb]
 have hc3:Chg (λk=>some k=Value.ownBlock (.slice ad n c)\/k=nb) w (w2.setCell (aD nb 0) (.slice (some (aD g 0)) (n+1) cap)):=
  (((h1.mono λ_ _ x=>x.elim).trans (Chg.grown hg) (λ_ _ x=>x)).mono λ_ _ x=> .inl x).trans (Chg.set _ _ _) (λ_ _ x=> .inr x)
 have htag:∀k,(some k=Value.ownBlock (.slice ad n c)\/k=nb)->lo<=k/\∃cs e,w.heap[k]? =some (.cells cs e (0,0))/\(e=158\/e=9):=by
  rintro k (hx|rfl)
  · obtain⟨h2,cur,hh⟩:=A9 ho k hx.symm;exact⟨h2,cur,_,hh,.inr rfl⟩
  · exact⟨hnb,_,_,hb,.inl rfl⟩
 refine⟨hc3.mono λk _ hx=> ?_,h.chg hc3 (λk cur e hk hx=> ?_) (λ_ x _=>x),by rw[heap_setCell_same w2 nb 0 _ _ _ hb2];rfl,A3 ho2 (Chg.set w2 (aD nb 0) _) (λk hk hx=> ?_)⟩
 · obtain⟨h2,cs,e,hh,r⟩:=htag k hx;exact .inr ⟨h2,cs,e,_,hh,r⟩
 · obtain⟨h2,cs,e',hh,r⟩:=htag k hx;rw[hk]at hh;simp only[zQ,xW]at hh;obtain⟨_,rfl,_⟩:=hh;refine⟨by rcases r with rfl|rfl<;>decide,by rcases r with rfl|rfl<;>decide,by rcases r with rfl|rfl<;>decide,λht=> ?_,λhx2=> ?_⟩
   · obtain⟨_,cur3,hh3⟩:=A9 h.toks k ht;rw[hk]at hh3;simp only[zQ,xW]at hh3;obtain⟨_,rfl,_⟩:=hh3;rcases r with r|r<;>exact absurd r (by decide)
   · rcases r with rfl|rfl<;>rcases hx2 with hx2|hx2<;>exact absurd hx2 (by decide)
 · have hx':k=nb:=hx;subst hx';obtain⟨_,cur2,hh2⟩:=A9 ho2 k hk;rw[hb2]at hh2;simp only[zQ,xW]at hh2;exact absurd hh2.2.1 (by decide)
theorem Kept.toS{lo:Nat}{w w':World}(h:Kept B ok w w'):KeptS B ok lo w w':=Chg.mono h λ_ _ x=> .inl x
theorem KeptS.after{lo:Nat}{a b c:World}(h:Kept B ok a b)(k:KeptS B ok lo b c):KeptS B ok lo a c:=by
 refine⟨k.os.trans h.os,k.tape.trans h.tape,k.output.trans h.output,kQ h.size k.size,λi hi hn=> ?_⟩;have h1:=h.block i hi (λx=>hn (.inl x));refine(k.block i (yQ hi h.size) (λx=>hn ?_)).trans h1;rcases x with ⟨x1,⟨cs,e,fz,hh,r⟩,x3⟩|⟨x1,cs,e,fz,hh,r⟩
 · exact .inl ⟨x1,⟨cs,e,fz,by rw[<-h1];exact hh,r⟩,x3⟩
 · exact .inr ⟨x1,cs,e,fz,by rw[<-h1];exact hh,r⟩
theorem E9a(hL:LOk L)(h:Pst w B pb tv L ok d s)(lo nb:Nat)(names:List (List UInt8))(hn:Nms w lo nb names)(hl:names.length<=1001)(hlo:lo<=w.heap.size):
 Calls prog 210 #[pV pb,pV nb] w λe w'=>KeptS B ok lo w w'/\
  match M.newName L s names with
  |some (.ok s' nm)=>e= .returned (.string ⟨nm.toArray⟩)/\Nms w' lo nb (names++[nm])/\Pst w' B pb tv L ok d s'
  |some (.fail er p)=>e=gu er p
  |none=>False:=by
 have H:=λw1 (h1:Pst w1 B pb tv L ok d s)=>R4 hL h1;have HF:=λw1 (h1:Pst w1 B pb tv L ok d s)=>Y1 hL h1 6;have HN:=λw1 (h1:Pst w1 B pb tv L ok d s)=>M9a hL h1;have HP:=A0 h;have HM:=A0 hn;obtain⟨hnb,ad,c,hb,ho⟩:=hn;have hlt:=(ltG hb);have k0:w.cell? (aD nb 0)=some (.slice ad names.length c):=cr hb rfl;have k1:Hid (Chg No w w.drew):=Chg.drewN No w 1;have hf0:=T9;have hf1:=X7;unfold M.newName M.flt;clear h;generalize M.tk L s.i=tk at *;obtain⟨kd,tx,pl⟩:=tk;simp only[tkv]at H HF HN⊢;by_cases hk:kd=1
 · subst hk;have HC:Hid (∀w1:World,Chg No w w1->Calls prog 138 #[.slice ad names.length c,.string ⟨tx.toArray⟩] w1 λe w'=>e= .returned (.bool (M.has names tx))/\w'=w1):=
    λw1 h1=>E6b w1 lo ad c names tx (A3 ho h1 (λ_ _ x=>x)) (by omega)
   generalize M.has names tx=r at *;go_enter func210,ntmps210;go_wp2_with fail
   go_region_held3 (λw'=>w'.cell? (aD nb 0)=some (.slice ad names.length c)/\Hid (Chg No w w'))
    (first
     |exact⟨k0,k1⟩
     |exact B7d (by assumption) (by assumption) hc
     |(go_split_ands;exact B7d (by assumption) (by assumption) hc)
     |(go_split_ands;exact⟨by assumption,by assumption⟩))
    (first
     |((go_at_call 101;go_split_ands;refine(H _ (HP.out.still (Hid.out (by assumption)))).mono ?_;rintro e w' ⟨rfl,hc⟩))
     |((go_at_call 138;go_split_ands;refine(HC.out _ (Hid.out (by assumption))).mono ?_;rintro e w' ⟨rfl,rfl⟩)))
   have C1:Hid (Chg No w w'):=by assumption
   have P1:=A0 (HP.out.still C1.out);cases r
   · go_wp2_with fail
     refine(HN _ P1.out).mono ?_;rintro e w2 ⟨hk2,hr⟩;rcases hr with ⟨_,rfl,hp2⟩|⟨hx,_⟩
     · have K2:=A0 ((C8 (B:=B) (ok:=ok) C1.out).trans hk2);have N2:=A0 (HM.out.kept K2.out);have P2:=A0 hp2;obtain⟨_,ad2,c2,hb2,ho2⟩:=N2.out;have hlt2:=(ltG hb2);have q0:w2.cell? (aD nb 0)=some (.slice ad2 names.length c2):=cr hb2 rfl;have fz:w2.frozen? (aD nb 0)=false:=frozen_of_row w2 nb 0 _ _ hb2;have hne:Value.ownBlock (.slice ad2 names.length c2)≠some nb:=by
        intro hx;obtain⟨_,cur,hh⟩:=A9 ho2 nb hx;rw[hb2]at hh;simp only[zQ,xW]at hh;exact absurd hh.2.1 (by decide)
       have HX:=A0 (λ(w3 w4:World) (g cap:Nat)=>Nms.push (w1:=w3) (w2:=w4) (g:=g) (cap:=cap) (x:= .string ⟨tx.toArray⟩) hp2 hnb hb2 ho2);have O2:=A0 ho2;have hlo2:lo<=w2.heap.size:=kQ hlo K2.out.size;obtain⟨i0,hi,hz0,hz1,hz2⟩:=info_parts Tryz.infoStr;clear hk2 hp2 hb2 ho2 HN HF H HC hb ho k0 k1;have hw3:=A0 (O2.out.alloc (.cells #[.string ⟨tx.toArray⟩] 9));go_wp2_with (at_builtin;refine wpList_append_lies _ rfl _ _ _ rfl lo 9 i0 _ 1 16 underlying158 hi hz0 hz1 hz2 rfl (by decide) (.slice ad2 names.length c2) names.length (O3a names) rfl hw3.out (aD w2.heap.size 0) 1 1 [.string ⟨tx.toArray⟩] rfl rfl ?c1 ?c2 ?c0 ?c3 ?c4 ?c5 (w2.heap.size+1) (by simp) ?_)
       case c1=>exact cell_one_new _ _ _
       case c2=>intro u hu;simp at hu;rcases hu with rfl;rfl
       case c0=>omega
       case c3=>simp only[maxLen];omega
       case c4=>omega
       case c5=>simp;omega
       · intro gg cap w3 hown hgrow hat hlt3;have z4:w3.cell? (aD nb 0)=some (.slice ad2 names.length c2):=by rw[hgrow.cell_far _ (by simp;omega) (Ne.symm hne)];exact F9 hlt2 q0
         have y4:w3.frozen? (aD nb 0)=false:=by rw[hgrow.frozen_far _ (by simp;omega) (Ne.symm hne)];exact S7 hlt2 fz
         have HQ:=A0 (HX.out _ _ gg cap (Chg.alloc No _ _) hgrow hown);clear hgrow hown HX hw3 O2 hne;go_wp2_with fail
         go_ret;refine⟨KeptS.after K2.out HQ.out.1,rfl,⟨hnb,some (aD gg 0),cap, ?_, ?_⟩,HQ.out.2.1⟩
         · have:=HQ.out.2.2.1;simpa using this
         · have:=HQ.out.2.2.2;rw[N7b];simpa using this
     · exact absurd rfl hx
   · go_wp2_with fail
     refine(HF _ P1.out).mono ?_;rintro e w2 ⟨rfl,hc2⟩;exact⟨rfl,(C8 (B:=B) (ok:=ok) (C1.out.trans hc2 (λ_ _ x=>x))).toS,rfl⟩
 · have hk':(kd==1)=false:=by simp[hk]
   clear hb ho;go_enter func210,ntmps210;go_wp2_with fail
   refine wp_region_held_drew (S:=λw'=>Hid (Chg No w w')) (by kernel_rfl) k1 (λhHeld=> ?_);refine tA (i:=0) (k:=6) (v:=pV pb) rfl ?_;simp only[Act.put,aT,a0,a1];refine wpAnyH_ready (rs:=[1]) (by kernel_rfl) (by simp) ?_;refine AllReadyH.cons (o:=Oper.mk (some 7) _ _ _ _ _) rfl (λK hK=> ?_) AllReadyH.nil;go_simp
   refine(H _ (HP.out.still k1.out)).mono ?_;rintro e w' ⟨rfl,hc⟩;have C1:=A0 (k1.out.trans hc (λ_ _ x=>x));refine hK _ _ C1 (λ_=> ?_);clear hK K hHeld;refine tA (i:=2) (k:=8) (v:=iV kd) rfl ?_;simp only[Act.put,aT,a0,a1];refine tA (i:=3) (k:=9) (v:= .bool false) rfl ?_;simp only[Act.put,aT,a0,a1];refine tA (i:=4) (k:=10) (v:= .bool false) rfl ?_;simp only[Act.put,aT,a0,a1];refine tU (i:=5) (k:=11) rfl ?_;simp only[Act.put,aT,a0,a1];refine tU (i:=6) (k:=12) rfl ?_;simp only[Act.put,aT,a0,a1];refine tU (i:=7) (k:=13) rfl ?_;simp only[Act.put,aT,a0,a1];refine tU (i:=8) (k:=14) rfl ?_;simp only[Act.put,aT,a0,a1];refine tU (i:=9) (k:=15) rfl ?_;simp only[Act.put,aT,a0,a1];refine tU (i:=10) (k:=16) rfl ?_;simp only[Act.put,aT,a0,a1];refine tU (i:=11) (k:=17) rfl ?_;simp only[Act.put,aT,a0,a1];refine tA (i:=12) (k:=18) (v:= .bool false) rfl ?_;simp only[Act.put,aT,a0,a1];refine wpAnyH_done (by kernel_rfl) ?_ _;have P1:=A0 (HP.out.still C1.out);go_wp2_with fail
   refine(HN _ P1.out).mono ?_;rintro e w2 ⟨hk2,hr⟩;rcases hr with ⟨hx,_⟩|⟨_,rfl⟩
   · exact absurd hx hk
   · have K2:=(C8 (B:=B) (ok:=ok) C1.out).trans hk2;exact⟨rfl,K2.toS,by simp[hk];rfl⟩
theorem Tryz.infoField:(prog.info? 121).map (λi=>(i.zero,i.size,i.bytes))=some (some (.agg #[.string ⟨#[]⟩,iV 0]),2,24):=by kernel_rfl
theorem Kept.transS{a b c:World}(h:Kept B ok a b)(k:KeptS B ok a.heap.size b c):Kept B ok a c:=by
 refine⟨k.os.trans h.os,k.tape.trans h.tape,k.output.trans h.output,kQ h.size k.size,λi hi hn=> ?_⟩;have h1:=h.block i hi hn;refine(k.block i (yQ hi h.size) (λx=> ?_)).trans h1;rcases x with ⟨x1,⟨cs,e,fz,hh,r⟩,x3⟩|⟨x1,_⟩
 · exact hn ⟨x1,⟨cs,e,fz,by rw[<-h1];exact hh,r⟩,x3⟩
 · omega
theorem I3a{w w':World}{lo base:Nat}{e:TypeId}{size:Nat}{v:Value}{n:Nat}{xs:List Value}(h:w.ownsRow base e size v n xs)(hc:KeptS B ok lo w w')
 (he:e≠92/\e≠70/\e≠66/\e≠158/\e≠9):w'.ownsRow base e size v n xs:=by
 refine A3 h hc λg hg hx=> ?_;obtain⟨_,cur,hh⟩:=A9 h g hg;have key:∀cs e' fz,w.heap[g]? =some (.cells cs e' fz)->e'=e:=by
  intro cs e' fz hh';rw[hh]at hh';simp only[zQ,xW]at hh';exact hh'.2.1.symm
 rcases hx with ⟨_,⟨cs,e',fz,hh',r⟩,_⟩|⟨_,cs,e',fz,hh',r⟩
 · have:=key _ _ _ hh';subst this;rcases r with r|r|r
   · exact he.1 r
   · exact he.2.1 r
   · exact he.2.2.1 r
 · have:=key _ _ _ hh';subst this;rcases r with r|r
   · exact he.2.2.2.1 r
   · exact he.2.2.2.2 r
theorem Nms.chg{S:Nat->Prop}{w w':World}{lo nb:Nat}{names:List (List UInt8)}(h:Nms w lo nb names)(hc:Chg S w w')(hs:∀k cs e,w.heap[k]? =some (.cells cs e (0,0))->S k->e≠158/\e≠9):Nms w' lo nb names:=by
 obtain⟨h1,ad,c,h2,h3⟩:=h;refine⟨h1,ad,c, ?_,A3 h3 hc (λg hg hx=> ?_)⟩
 · rw[hc.block nb (ltG h2) (λx=>(hs nb _ _ h2 x).1 rfl)];exact h2
 · obtain⟨_,cur,hh⟩:=A9 h3 g hg;exact(hs g cur _ hh hx).2 rfl
theorem E8b(w:World)(x y:Value)(t:TypeId):∀j u,[x,y][j]? =some u->(w.alloc (.cells #[x,y] t)).cell? (((aD w.heap.size 0):Addr).add j)=some u:=by
 intro j u hj;have hadd:((aD w.heap.size 0):Addr).add j=(aD w.heap.size j):=by unfold Addr.add;split<;>simp_all
 rw[hadd,World.cell?_alloc_new];rw[<-hj];simp
theorem newName_ok{names:List (List UInt8)}{s1:M.St}{nm:List UInt8}(h:M.newName L s names=some (.ok s1 nm)):s1=s.nx:=by
 unfold M.newName M.flt at h;split at h
 · split at h
   · cases h
   · simp only[zQ,M.Out.ok.injEq]at h;exact h.1.symm
 · cases h
theorem C5b{names:List (List UInt8)}{er p:Int}(h:M.newName L s names=some (.fail er p)):er≠0:=by
 unfold M.newName M.flt at h;split at h
 · split at h
   · simp only[zQ,M.Out.fail.injEq]at h;omega
   · cases h
 · simp only[zQ,M.Out.fail.injEq]at h;omega
theorem S8b{Q9:List (List UInt8×Int)}(hq:M.isM L s.i [[125]]=true):M.Ev L (λr=>r.objL d s Q9) (.ok ⟨s.nx.i,s.nx.N,s.nx.T++[⟨7,Q9,[],0⟩]⟩ s.nx.T.length):=
 M.Ev.step (M.Ev.pure.eq λr=>by show (if M.isM L s.i [[125]] then _ else _)=_;rw[hq];rfl)
theorem D8c{Q9:List (List UInt8×Int)}{o:M.Out Int}(hq:M.isM L s.i [[125]]=false)
 (h:M.Ev L (λr=>M.A4 (M.newName L s (Q9.map (·.1))) λs nm=>M.A4 (M.need L s [58]) λs _=>M.A4 (r.typ d s) λs x=>M.A4 (M.need L s [59]) λs _=>r.objL d s (Q9++[(nm,x)])) o):M.Ev L (λr=>r.objL d s Q9) o:=
 M.Ev.step (h.eq λr=>by show (if M.isM L s.i [[125]] then _ else _)=_;rw[hq];rfl)
theorem J8{mk:List UInt8}(h:M.isM L s.i [mk]=true):M.Ev L (λ_=>M.need L s mk) (.ok s.nx ()):=M.Ev.pure.eq λr=>by rw[M.need,h];rfl
theorem O9{mk:List UInt8}(h:M.isM L s.i [mk]=false):M.Ev L (λ_=>M.need L s mk) (.fail 1 ((M.tk L s.i).at':Int)):=M.Ev.pure.eq λr=>by rw[M.need,h];rfl
theorem T0a(hL:LOk L)(m:Nat)(hTyp:∀m',m'<=m->Con B pb tv L 178 (λd s r=>r.typ d s) m'):Con B pb tv L 203 (λd s r=>r.objL d s []) m:=by
 intro w ok d s hm hok hB h;have hs:=hL.short;have hi:=h.at';have HP:=A0 h;clear h;go_enter func203,ntmps203;go_wp2_with fail
 go_loopw [4] (λv wr=>∃(Q9:List (List UInt8×Int)) (s':M.St) (ad:Option Addr) (c:Nat),v= .slice ad Q9.length c/\Q9.length<=s'.i/\Hid (Nms wr w.heap.size w.heap.size (Q9.map (·.1)))/\Hid (Kept B ok w wr)/\Hid (I6 s s')/\Hid (wr.ownsRow w.heap.size 121 2 (.slice ad Q9.length c) Q9.length (F5 Q9))/\
  Hid (Pst wr B pb tv L (λg=>ok g/\some g≠Value.ownBlock (.slice ad Q9.length c)) d s')/\Hid (∀o,M.Ev L (λr=>r.objL d s' Q9) o->M.Ev L (λr=>r.objL d s []) o)) (λ_ wr=>L.length - nxt wr pb)
 case atStart=>
  refine⟨[],s,none,0,rfl,by simp,⟨vQ _,none,0,heap_alloc_new w _,kW _ _ _ _⟩,(Kept.refl B ok w).alloc _,⟨vQ _,by omega,by omega,by omega⟩,kW _ _ _ _,(HP.out.alloc _).mono (λg hg _=>⟨hg,by simp[Value.ownBlock]⟩),λ_ h=>h⟩
 case round=>
  obtain⟨Q9,s',ad,c,rfl,hacc,NR,KR,GR,OR,PR,VR⟩:=hrel;have HT:=F6 hL PR.out [125];have hi':=PR.out.at';have hnx:=PR.out.nxt;have hj:s.i<=s'.i:=GR.out.1;have hfw:=PR.out.few;generalize hq:M.isM L s'.i [[125]]=q at *;have Q1:=A0 hq;clear hq;go_wp2_with fail
  refine HT.mono ?_;clear HT;rintro e w3 ⟨rfl,hk,hp⟩;have K3:=A0 (KR.out.trans (hk.mono λ_ h=>h.1));have P3:=A0 hp;have O3:=A0 (F4 OR.out hk (by decide));have N3:=A0 (NR.out.kept hk);clear hk hp OR PR KR NR;cases q
  · have PX:Pst w3 B pb tv L (λg=>ok g/\some g≠Value.ownBlock (.slice ad Q9.length c)) d s':=by simpa using P3.out
    have HN:=E9a hL PX w.heap.size w.heap.size (Q9.map (·.1)) N3.out (by simp;omega) K3.out.size;clear P3 PX N3;have VG:=A0 (λo ho=>VR.out o (D8c Q1.out ho));clear VR;generalize hnn:M.newName L s' (Q9.map (·.1))=NN at *;have N0:=A0 hnn;clear hnn;go_wp2_with fail
    refine HN.mono ?_;clear HN;rintro e w4 ⟨hk,hr⟩;have K4:=A0 (K3.out.transS (Chg.mono hk λ_ _ x=>x.imp (λy=>⟨y.1,y.2.1,y.2.2.1⟩) id));have O4:=A0 (I3a O3.out hk (by decide));clear hk K3 O3;rcases NN with _|⟨s1,nm⟩|⟨er,p⟩
    · exact hr.elim
    · obtain⟨rfl,hnm,hp⟩:=hr;have hs1:s1=s'.nx:=newName_ok N0.out;subst hs1;have HN5:=G9 hL hp [58];have N4:=A0 hnm;clear hp hnm;have V4:=A0 (λo ho=>VG.out o (M.Ev.bind (s:=s'.nx) (x:=nm) M.Ev.pure ho));clear VG;go_wp2_with fail
      refine HN5.mono ?_;clear HN5;rintro e w5 ⟨hk,hr⟩;have K5:=A0 (K4.out.trans (hk.mono λ_ h=>h.1));have O5:=A0 (F4 O4.out hk (by decide));have N5:=A0 (N4.out.kept hk);clear hk K4 O4 N4;rcases hr with ⟨hb,rfl,hp⟩|⟨hb,rfl⟩
      · have hi5:=hp.at';have HM:=hTyp (L.length - s'.nx.nx.i) (by simp only[M.St.nx];omega) w5 _ d s'.nx.nx (vQ _) (λg hg=>⟨hok g (kQ K5.out.size hg),λhx=>by have:=(O5.out.lt g hx.symm).2;omega⟩) (kQ hB K5.out.size) hp;have V5:=A0 (λo ho=>V4.out o (M.Ev.bind (J8 hb) ho));clear hp hb V4;go_wp2_with fail
        refine HM.mono ?_;clear HM;rintro e w6 ⟨hk,o,hev,hpost⟩;have K6:=A0 (K5.out.trans (hk.mono λ_ h=>h.1));have O6:=A0 (F4 O5.out hk (by decide));have N6:=A0 (N5.out.kept hk);have E6:=A0 hev;clear hk hev K5 O5 N5;cases o with
        |fail er p=>
         obtain⟨rfl,he⟩:=hpost;exact⟨rfl,I0 K6.out (V5.out _ (M.Ev.bad E6.out)) he⟩
        |ok s6 y=>
         obtain⟨rfl,hp,hg⟩:=hpost;have HN7:=G9 hL hp [59];have G6:=A0 hg;have V6:=A0 (λo ho=>V5.out o (M.Ev.bind E6.out ho));clear hp hg V5 E6;go_wp2_with fail
         refine HN7.mono ?_;clear HN7;rintro e w7 ⟨hk,hr⟩;have K7:=A0 (K6.out.trans (hk.mono λ_ h=>h.1));have O7:=A0 (F4 O6.out hk (by decide));have N7:=A0 (N6.out.kept hk);clear hk K6 O6 N6;rcases hr with ⟨hb,rfl,hp⟩|⟨hb,rfl⟩
         · have P7:=A0 hp;have hi7:=hp.at';have V7:=A0 (λo ho=>V6.out o (M.Ev.bind (J8 hb) ho));clear hp hb V6;have G7:=A0 (show s'.i+4<=s6.nx.i/\s6.nx.N.length+s'.i<=s'.N.length+s6.nx.i/\s6.nx.T.length+s'.i<=s'.T.length+s6.nx.i/\s'.N.length<=s6.nx.N.length by
            have h2:=G6.out;simp only[E7,M.St.nx]at h2⊢
            omega)
           clear G6;generalize s6.nx=s7 at *;obtain⟨i0,hi0,hz0,hz1,hz2⟩:=info_parts Tryz.infoField;have hw3:=A0 (O7.out.alloc (.cells #[.string ⟨nm.toArray⟩,iV y] 121));go_wp2_with (at_builtin;refine wpList_append_own_at _ rfl _ _ 64 rfl w.heap.size 121 i0 _ 2 24 underlying64 hi0 hz0 hz1 hz2 rfl (by decide) _ _ _ rfl hw3.out (aD w7.heap.size 0) 1 1 [.string ⟨nm.toArray⟩,iV y] rfl rfl ?c1 ?c2 ?c3 ?c4 ?c5 ?_)
           case c1=>exact E8b _ _ _ _
           case c2=>intro u hu;simp at hu;rcases hu with rfl|rfl<;>rfl
           case c3=>simp only[maxLen];omega
           case c4=>omega
           case c5=>have:=K7.out.size;simp;omega
           · intro v' w8 hown2 hg2 _ hat;obtain⟨ad2,c2,hv2⟩:=B7 hown2;rw[hv2]at hown2 hat⊢;have PG:=A0 ((P7.out.alloc (.cells #[.string ⟨nm.toArray⟩,iV y] 121)).grown (v:= .slice ad Q9.length c) (v':= .slice ad2 (Q9.length+1) c2) (O7.out.alloc _) (.inr rfl) hg2 (by simpa using hat));have KG:=A0 ((K7.out.alloc (.cells #[.string ⟨nm.toArray⟩,iV y] 121)).grown (O7.out.alloc _) hg2);have NG:Hid (Nms w8 w.heap.size w.heap.size ((Q9.map (·.1))++[nm])):=by
              refine(N7.out.chg (Chg.alloc No _ (.cells #[.string ⟨nm.toArray⟩,iV y] 121)) (λ_ _ _ _ x=>x.elim)).chg (Chg.grown hg2) (λk cs e hh hx=> ?_);obtain⟨_,cur,hh2⟩:=A9 (O7.out.alloc (.cells #[.string ⟨nm.toArray⟩,iV y] 121)) k hx.symm;rw[hh]at hh2;simp only[zQ,xW]at hh2;obtain⟨_,rfl,_⟩:=hh2;exact⟨by decide,by decide⟩
             have OG:=A0 hown2;clear hown2 hg2 hat hw3 P7 O7 K7 hv2 N7;go_wp2_with fail
             go_roundw
             case rel=>
              have h1:=GR.out;have h2:=G7.out;simp only[I6]at h1;refine⟨Q9++[(nm,y)],s7,ad2,c2,by simp,by simp;omega,by have:=NG.out;show Nms _ _ _ _;simpa using this,KG.out,⟨by omega,by omega,by omega,by omega⟩, ?_, ?_,V7.out⟩
              · have:=OG.out;show World.ownsRow _ _ _ _ _ _ _;rw[I7a];simpa[J1]using this
              · have:=PG.out;show Pst _ _ _ _ _ _ _ _;simpa using this
             case measure=>
              have h2:=G7.out;have h3:=PG.out.nxt;rw[h3,hnx];omega
         · exact⟨rfl,I0 K7.out (V6.out _ (M.Ev.bad (O9 hb))) (by decide)⟩
      · exact⟨rfl,I0 K5.out (V4.out _ (M.Ev.bad (O9 hb))) (by decide)⟩
    · have he:er≠0:=C5b N0.out;obtain rfl:=hr;exact⟨rfl,I0 K4.out (VG.out _ (M.Ev.bad M.Ev.pure)) he⟩
  · have PX:Pst w3 B pb tv L (λg=>ok g/\some g≠Value.ownBlock (.slice ad Q9.length c)) d s'.nx:=by simpa using P3.out
    have PY:=PX.mono (ok':=ok) (λg hg _=>hg.1);have HA:=Y2 hL PY ⟨7,Q9,[],0⟩ ad none Q9.length c 0 0 ⟨_,_,rfl,C7 O3.out (wQ _),kW _ _ _ _,λg hg=>hok g (A9 O3.out g hg).1,by simp[Value.ownBlock]⟩ (by simp only[M.St.nx];omega) (kQ hB K3.out.size) (λg hg=>hok g (kQ K3.out.size hg));have EV:=A0 (VR.out _ (S8b Q1.out));have GX:=A0 (show E7 s ⟨s'.nx.i,s'.nx.N,s'.nx.T++[⟨7,Q9,[],0⟩]⟩ by
     have h2:=GR.out;simp only[E7,I6,M.St.nx,qQ,jQ,xQ]at h2⊢
     omega)
    clear VR P3 PX PY O3 N3;go_wp2_with fail
    refine HA.mono ?_;clear HA;rintro e w4 ⟨rfl,hk,hp⟩;have K4:=A0 (K3.out.trans hk);have P4:=A0 hp;clear hk hp;go_wp2_with fail
    go_ret;exact W9 K4.out EV.out P4.out GX.out
theorem V1b(hL:LOk L):∀m,Con B pb tv L 178 (λd s r=>r.typ d s) m:=by
 intro m;induction m using Nat.strongRecOn with
 |_ m ih=>
  have hO:∀m',m'<m->Con B pb tv L 203 (λd s r=>r.objL d s []) m':=λm' h=>T0a hL m' (λk hk=>ih k (by omega));have hF:∀m',m'<m->Con B pb tv L 204 (λd s r=>r.fob d s) m':=λm' h=>Y5c hL m' (λk hk=>ih k (by omega));have hM:∀m',m'<=m->Con B pb tv L 192 (λd s r=>r.member d s) m':=λm' h=>Q4b hL m' (λk hk=>ih k (by omega)) (λk hk=>hO k (by omega)) (λk hk=>hF k (by omega));exact U1c hL m (Z6b hL m hM)
end
end Go.Proofs.YtfhhipefecekkaaGreatDoor
