/-
  A part of the proof.
-/
import Derived.Test.YtjhlphgdgpebfaaGreatDoorParseA
import Derived.Defers
import Derived.Recover
import Derived.Test.YtjhlphgdgpebfaaGreatDoorShelf
set_option maxHeartbeats 0
set_option linter.all false
set_option maxRecDepth 100000
namespace Go.Proofs.YtjhlphgdgpebfaaGreatDoor
open _root_.Array renaming size->V
open Bool renaming false->κ,true->τ
open Go renaming undef->Ξ,Value->χ,results->â,cell_of_row->á,Calls->μ,bodyPost_ret->ä,maxLen->Γ,wpList_append_own->Ê
open Ending renaming returned->π
open IntKind renaming i64->ω
open Obj renaming cells->γ
open RowKit renaming Below->Ω
open RowKit.Below renaming heap_alloc->õ,refl->ë
open Value renaming nilIface->Î,string->ζ,slice->Y,ownBlock->Δ,int->Û
open World renaming cell?->δ,alloc->σ,setCell->ρ,ownsRow->ξ
open List renaming length->Q,toArray->ν
open Option renaming some->C
open Go.Proofs.Tryz
open Go.RowKit
def FQ(q)(a p x y)(f)(w:E)(c:δ w (J q 0)=C (U x))(i:δ w (J q 1)=C (U y))(u:∀o,w.frozen? (J q o)=κ):
 CallsD prog 53 #[pV q] (.panicking<|{v:=.iface 126<|.agg #[U a,U p],recovered:=κ}::f) w λe l b=>
  e=rT/\l=.panicking ({v:=.iface 126<|.agg #[U a,U p],recovered:=τ}::f)/\I (λk=>k=q\/V w.heap<=k) w b/\δ b (J q 0)=C (U a)/\δ b (J q 1)=C (U p):=by
 refine callsD_of_wpS func53 K λs r j=>?_;apply wpS_seq;apply wpS_region;simp[wpOpsS,go_sem,recoverD,j,ntmps53,Exit.thenS];refine wpS_of_wp ?_;have t:∀w:E,(Instr.typeAssert (.iface 126<|.agg #[U a,U p]) 20 126 τ).run prog w=.ok (.tuple #[.agg #[U a,U p],.bool τ]) w:=λ_=>Ψ;have h:(#[pV q]++((Array.replicate 15 Ξ).setIfInBounds 3<|.iface 126<|.agg #[U a,U p]).setIfInBounds 0 (.iface 126<|.agg #[U a,U p]):Array χ)=#[pV q,.iface 126<|.agg #[U a,U p],Ξ,Ξ,.iface 126<|.agg #[U a,U p],Ξ,Ξ,Ξ,Ξ,Ξ,Ξ,Ξ,Ξ,Ξ,Ξ,Ξ]:=K;rw[h];have d:=World.block_lt_of_cell? w _ c;go_wp2;have g:I (λk=>k=q\/V w.heap<=k) w (σ (ρ (ρ w (J q 0)<|U a) (J q 1)<|U p)<|γ #[U a,U p] 126):=
  (((I.set w (J q 0) _).mono λ_ _ x=>.inl x).trans (I.set _ (J q 1) _) λ_ _ x=>.inl x).trans (I.alloc No _ _) λ_ _ x=>x.elim;have m:δ (σ (ρ (ρ w (J q 0)<|U a) (J q 1)<|U p)<|γ #[U a,U p] 126) (J q 0)=C (U a):=by simp[go_sem,c,d]
 have n:δ (σ (ρ (ρ w (J q 0)<|U a) (J q 1)<|U p)<|γ #[U a,U p] 126) (J q 1)=C (U p):=by simp[go_sem,i,d]
 exact⟨K,_,K,_,by simp[â,results53],K,K,g,m,n⟩
def OP(q)(w:E):
 CallsD prog 53 #[pV q] .returning w λe d f=>
  e=rT/\d=.returning/\I No w f:=by
 refine callsD_of_wpS func53 K λb g a=>?_;apply wpS_seq;apply wpS_region;simp[wpOpsS,go_sem,recoverD,a,ntmps53,Exit.thenS];refine wpS_of_wp ?_;have h:∀w:E,(Instr.typeAssert Î 20 126 τ).run prog w=.ok (.tuple #[.agg #[U 0,U 0],.bool κ]) w:=λ_=>Ψ;have c:(#[pV q]++((Array.replicate 15 Ξ).setIfInBounds 3 Î).setIfInBounds 0 Î:Array χ)=#[pV q,Î,Ξ,Ξ,Î,Ξ,Ξ,Ξ,Ξ,Ξ,Ξ,Ξ,Ξ,Ξ,Ξ,Ξ]:=K;rw[c];go_wp2;cases b;simp only at a;subst a;exact⟨K,_,K,_,by simp[â,results53],K,K,I.alloc _ _ _⟩
section
variable{w:E}{B b:Nat}{c:χ}{L:List Tk}{a:Nat->Prop}{d:Nat}{s:St}
def xD{w g}{q o}{f}{e}{v}(h:Kept B a w g)(i:w.heap[q]?=C (γ f e (0,0)))(n:e≠115/\e≠93/\e≠88)(t:f[o]?=C v):
 g.heap[q]?=C (γ f e (0,0))/\δ g (J q o)=C v:=by
 have m:g.heap[q]?=C (γ f e (0,0)):=by
  rw[h.block q (aG i) λx=>?_]
  .omega
  .obtain⟨j,k,l,p,r⟩:=x.2.1;grind
 grind[á]
def PH(w:E)(e f g):(((w.alloc e).alloc f).alloc g).heap[V w.heap]?=C e/\(((w.alloc e).alloc f).alloc g).heap[V w.heap+1]?=C f/\(((w.alloc e).alloc f).alloc g).heap[V w.heap+2]?=C g:=by
 refine⟨?_,?_,?_⟩
 .grind[õ,rY]
 .rw[õ _ _ _ ι];have:=rY (w.alloc e) f;simp_all
 .have:=rY ((w.alloc e).alloc f) g;simp_all
end
def qM{a c:E}(d:Ω (V a.heap) a c):(∀b o,b<V a.heap->δ c (J b o)=δ a (J b o))/\(∀b o,b<V a.heap->c.frozen? (J b o)=a.frozen? (J b o)):=
 ⟨λb o h=>d.cell h,λb o h=>d.frozen h⟩
def sX{w a:E}{o}(b:Ω (V (w.alloc o).heap) (w.alloc o) a)(c d e):
 Ω (V w.heap) w (ρ (ρ (ρ a (J (V w.heap) 0) c) (J (V w.heap) 1) d) (J (V w.heap) 2) e):=
 (((((ë _ _).alloc (vQ _) o).trans<|b.mono ι).setCell ι _).setCell ι _).setCell ι _
theorem JQ(s:ByteArray)(a):(s.extract a s.size).data.toList=s.data.toList.drop a:=by
 grind[ByteArray.data_extract,Array.toList_extract,List.extract_eq_take_drop,bl,List.take_of_length_le,List.length_drop]
def C3d(s)(w:E)(c:s.size<=4000):μ prog 209 #[ζ s] w λe a=>e=π (.string s)/\Ω (V w.heap) w a:=by
 go_in;go_wp2_with (go_at_call 232;refine(Tryz.stringslite_Clone _ _ W).mono ?_;rintro e a ⟨rfl,b⟩);go_ret;exact⟨K,b⟩
def GH(k)(s)(w:E)(c:s.size<=4000):μ prog 178 #[U k,ζ s] w λe d=>e=π (.agg #[U k,ζ s,U 0])/\Ω (V w.heap) w d:=by
 go_in;go_wp2_with fail;refine(C3d _ _ c).mono ?_;rintro e f ⟨rfl,a⟩;obtain⟨b,g⟩:=qM a;have h:V w.heap<V f.heap:=by have:=a.size;simp at this;omega
 go_wp2;exact ä (by simp[â,results178,go_sem,b]) K ⟨K,sX a _ _ _⟩
def WI(s)(a:Nat)(w:E)(f:s.size<=4000)(d:a<=s.size):μ prog 89 #[ζ s,U a] w λe b=>e=π (U (a+sp blank (s.data.toList.drop a):Nat))/\b=w:=by
 go_in;go_wp2_with fail;refine(Ń _ _ ?_).mono ?_
 .simp[Γ];omega
 .rintro e b ⟨rfl,rfl⟩;have c:=oX blank<|s.data.toList.drop a;rw[List.length_drop,bl]at c;rw[JQ s a];go_wp2;go_ret;exact⟨M9 W,K⟩
def xq(s)(w:E):μ prog 180 #[ζ s] w λe a=>e=π (.bool<|tX s.data.toList)/\a=w:=by
 go_in;go_wp2;all_goals first|(exfalso;simp_all;done)|skip
 all_goals go_ret
 all_goals refine⟨F9 ?_,K⟩
 all_goals simp[tX,has,Aq,<-ByteArray.toList_eq]
 all_goals simp_all
def Xo(l)(a:List bZ)(k)(h):K8 l (a.take<|k+1)=if a[k].isPrefixOf l then max (K8 l<|a.take k) (Q a[k]) else K8 l (a.take k):=by
 grind[nQ,K8]
def yw(l:bZ):∀(a:List bZ) (m),(∀g∈a,Q g<=2)->m<=2->a.foldl (λm g=>if g.isPrefixOf l then max m (Q g) else m) m<=2
 |[],m,_,b=>b
 |g::r,m,h,b=>by
  simp only[List.foldl_cons];refine yw l r _ (λx c=>h x<|List.mem_cons_of_mem _ c) ?_;grind
def Mk(s)(g c)(a)(w:E)(p:Q a<=100)(l:∀x∈a,Q x<=2)
 (f:∀i (h),δ w (J g i)=C (ζ ⟨ν a[i]⟩)):
 μ prog 183 #[ζ s,Y (C<|J g 0) (Q a) c] w λe b=>e=π (U<|K8 s.data.toList a)/\b=w:=by
 go_in;go_wp2;go_loop [5,10] (λz i=>∃k:Nat,k<=Q a/\i=U k/\z=U (K8 s.data.toList<|a.take k)) (λ_ i=>Q a-(intOf i).toNat);case atStart=>exact⟨0,wQ _,K,K⟩
 case round=>
  obtain⟨k,o,rfl,rfl⟩:=hrel;by_cases j:k<Q a
  .have n:=f k j;have d:Hid (K8 s.data.toList (a.take<|k+1)=if a[k].isPrefixOf s.data.toList then max (K8 s.data.toList<|a.take k) (Q a[k]) else K8 s.data.toList<|a.take k):=Xo _ _ _ j;clear f l;generalize K8 s.data.toList (a.take k)=m at*;generalize a[k]=x at*;cases q:Lib.hasPrefix s.data.toList x
   .go_wp2_with (go_at_call 182;refine(Tryz.strings_HasPrefix _ _ _).mono ?_;rintro e b ⟨rfl,rfl⟩);go_round;case rel=>exact⟨k+1,W,ç,by rw[d.u,wY<|by grind[Lib.hasPrefix]]⟩
    grind[intOf]
   .go_wp2_with (go_at_call 182;refine(Tryz.strings_HasPrefix _ _ _).mono ?_;rintro e b ⟨rfl,rfl⟩);go_round;case rel=>exact⟨k+1,W,ç,by rw[d.u,yY<|by grind[Lib.hasPrefix]];grind⟩
    grind[intOf]
  .go_wp2;go_ret;exact⟨M9 θ,K⟩
def res(r:Int×bZ×Nat):χ:=.tuple #[.agg #[U r.1,ζ ⟨ν r.2.1⟩,U 0],U r.2.2]
theorem Ka(s:ByteArray)(h):s.data.toList.head?=C s[0]:=by
 rw[List.head?_eq_getElem?,gQ ð];rfl
def CJ{r}{k}{t}{n:Nat}{x}(h:r=(k,t,n))(a:x=⟨ν t⟩):
 π (.tuple #[.agg #[U k,ζ x,U 0],U n])=π (res r):=by subst h;subst a;rfl
def xY{r:Int×bZ×Nat}(h:r=(0,[],0)):
 π (.tuple #[.agg #[U 0,ζ ⟨#[]⟩,U 0],U 0])=π (res r):=by subst h;rfl
theorem DE(s:ByteArray)(n):s.extract 0 n=⟨ν (s.data.toList.take n)⟩:=by grind[Lib.extract_eq]
def ě(s:ByteArray)(n):s.extract 1 (1+n)=⟨ν (s.data.toList.tail.take n)⟩:=by grind[Lib.extract_eq,List.drop_one]
theorem zG(s:ByteArray)(a b):(s.extract a b).size<=s.size:=by grind[ByteArray.size_extract]
theorem zh(c)(n:Nat)(h:n<256):c=UInt8.ofNat n↔c.toNat=n:=by
 constructor
 .simp_all
 .intro e;apply UInt8.toNat_inj.1;simp;omega
def ā(s)(w:E)(h:s.size<=4000)(d:0<s.size):μ prog 130 #[ζ s] w λe i=>e=π (res<|qD s.data.toList)/\Ω (V w.heap) w i:=by
 have g:=oX fP s.data.toList;rw[bl]at g;have b:Hid (qD s.data.toList=if 9<sp fP s.data.toList\/s[0].toNat=48/\1<sp fP s.data.toList then (0,[],0) else (3,s.data.toList.take<|sp fP s.data.toList,sp fP s.data.toList)):=by
  show _=_;rw[qD,Ka s d];simp;simp only[show (s[0]=48↔s[0].toNat=48) from zh _ 48 W]
 generalize qD s.data.toList=r at*;go_in;go_wp2_with fail;refine(Ň _ _ Ä).mono ?_;rintro e c ⟨rfl,rfl⟩;generalize sp fP s.data.toList=n at*;go_wp2_with fail
 .exact ä (by simp[â,results130,go_sem]) K ⟨xY<|by rw[b.u,yY W],(ë _ _).alloc (vQ _) _⟩
 all_goals first|exact ä (by simp[â,results130,go_sem]) K ⟨xY<|by rw[b.u,yY W],(ë _ _).alloc (vQ _) _⟩|skip
 all_goals
  refine(GH _ _ _<|kQ (zG _ _ _) h).mono ?_;rintro e c ⟨rfl,a⟩;obtain⟨f,j⟩:=qM a;have k:V w.heap<V c.heap:=by have:=a.size;simp at this;omega
  go_wp2;exact ä (v:=.tuple #[.agg #[U 3,ζ<|s.extract 0 n,U 0],U n]) (by simp[â,results130,go_sem,f]) K ⟨CJ (by rw[b.u,wY W])<|DE _ _,sX a _ _ _⟩
def Zv(s)(w:E)(i:s.size<=4000):μ prog 132 #[ζ s] w λe j=>e=π (res<|name s.data.toList)/\Ω (V w.heap) w j:=by
 have h:=oX iA s.data.toList;rw[bl]at h;have b:Hid (name s.data.toList=if 20<sp iA s.data.toList then (0,[],0) else (if tX (s.data.toList.take<|sp iA s.data.toList) then 2 else 1,s.data.toList.take<|sp iA s.data.toList,sp iA s.data.toList)):=K;generalize name s.data.toList=r at*;go_in;go_wp2_with fail;refine(Ō _ _ Ä).mono ?_;rintro e c ⟨rfl,rfl⟩;generalize sp iA s.data.toList=n at*;by_cases l:20<n
 .go_wp2;exact ä (by simp[â,results132,go_sem]) K ⟨xY<|by rw[b.u,yY W],(ë _ _).alloc (vQ _) _⟩
 .go_wp2_with fail;refine(xq _ _).mono ?_;rintro e c ⟨rfl,rfl⟩;have g:Hid (tX (s.extract 0 n).data.toList=tX (s.data.toList.take n)):=by show _=_;rw[DE]
  cases f:tX (s.extract 0 n).data.toList;all_goals
   go_wp2_with fail;refine(GH _ _ _<|kQ (zG _ _ _) i).mono ?_;rintro e c ⟨rfl,a⟩;obtain⟨d,k⟩:=qM a;have m:V w.heap<V c.heap:=by have:=a.size;simp at this;omega
   go_wp2
  .exact ä (v:=.tuple #[.agg #[U 1,ζ<|s.extract 0 n,U 0],U n]) (by simp[â,results132,go_sem,d]) K ⟨CJ (by rw[b.u,wY W,<-g.u,f];rfl)<|DE _ _,sX a _ _ _⟩
  .exact ä (v:=.tuple #[.agg #[U 2,ζ<|s.extract 0 n,U 0],U n]) (by simp[â,results132,go_sem,d]) K ⟨CJ (by rw[b.u,wY W,<-g.u,f];rfl)<|DE _ _,sX a _ _ _⟩
def D1e(l:bZ):Lib.hasPrefix l [34]=τ↔l.head?=C 34:=by
 cases l<;>grind[Lib.hasPrefix,List.isPrefixOf]
def ŏ(s)(w:E)(k:s.size<=4000)(m:0<s.size):μ prog 133 #[ζ s] w λe l=>e=π (res<|text s.data.toList)/\Ω (V w.heap) w l:=by
 have i:=oX iF s.data.toList.tail;rw[List.length_tail,bl]at i;have b:Hid (text s.data.toList=if 30<sp iF s.data.toList.tail\/(s.data.toList.tail.drop<|sp iF s.data.toList.tail).head?≠C 34 then (0,[],0) else (4,s.data.toList.tail.take<|sp iF s.data.toList.tail,sp iF s.data.toList.tail+2)):=K;have g:Hid ((s.extract 1 s.size).data.toList=s.data.toList.tail):=by show _=_;rw[JQ,List.drop_one]
 generalize text s.data.toList=r at*;go_in;go_wp2_with fail;refine(Ő _ _<|by grind[Γ,zG]).mono ?_;rintro e c ⟨rfl,rfl⟩;rw[g.u];generalize q:sp iF s.data.toList.tail=n at*;by_cases p:30<n
 .go_wp2;exact ä (by simp[â,results133,go_sem]) K ⟨xY<|by rw[b.u,yY W],(ë _ _).alloc (vQ _) _⟩
 .go_wp2_with fail;refine(Tryz.strings_HasPrefix _ _ _).mono ?_;rintro e c ⟨rfl,rfl⟩;have d:Hid (Lib.hasPrefix (s.extract (1+n) s.size).data.toList (ByteArray.mk #[34]).data.toList=τ↔(s.data.toList.tail.drop n).head?=C 34):=by
   rw[JQ,<-List.drop_one,List.drop_drop];exact D1e _
  cases j:Lib.hasPrefix (s.extract (1+n) s.size).data.toList (ByteArray.mk #[34]).data.toList
  .go_wp2;exact ä (by simp[â,results133,go_sem]) K ⟨xY<|by rw[b.u,yY<|Or.inr λh=>by have:=d.u.2 h;grind],(ë _ _).alloc (vQ _) _⟩
  .go_wp2_with fail;refine(GH _ _ _<|kQ (zG _ _ _) k).mono ?_;rintro e c ⟨rfl,a⟩;obtain⟨f,o⟩:=qM a;have t:V w.heap<V c.heap:=by have:=a.size;simp at this;omega
   go_wp2;exact ä (v:=.tuple #[.agg #[U 4,ζ<|s.extract 1<|1+n,U 0],U ((n+2:Nat):Int)]) (by simp[â,results133,go_sem,f]) K ⟨CJ (by rw[b.u,wY λh=>h.elim (λh=>W) λh=>h<|d.u.1 j])<|ě _ _,sX a _ _ _⟩
def iH(l:bZ):∀(b:List bZ) (m),m<=Q l->b.foldl (λm g=>if g.isPrefixOf l then max m (Q g) else m) m<=Q l
 |[],m,a=>a
 |g::r,m,a=>by
  simp only[List.foldl_cons];refine iH l r _ ?_;grind
def Jd{w:E}(a b):Ω (V w.heap) w ((w.alloc a).alloc b):=((ë _ _).alloc (vQ _) a).alloc ι b
def yd{w b:E}{o a}(c:Ω (V ((w.alloc o).alloc a).heap) ((w.alloc o).alloc a) b)(d e f):
 Ω (V w.heap) w (ρ (ρ (ρ b (J (V w.heap) 0) d) (J (V w.heap) 1) e) (J (V w.heap) 2) f):=
 ((((Jd o a).trans<|c.mono à).setCell ι _).setCell ι _).setCell ι _
theorem Ĺ(w:E)(i)(h):δ (σ w<|γ #[ζ ⟨#[61,61]⟩,ζ ⟨#[61,62]⟩,ζ ⟨#[40]⟩,ζ ⟨#[41]⟩,ζ ⟨#[123]⟩,ζ ⟨#[125]⟩,ζ ⟨#[91]⟩,ζ ⟨#[93]⟩,ζ ⟨#[44]⟩,ζ ⟨#[59]⟩,ζ ⟨#[58]⟩,ζ ⟨#[46]⟩,ζ ⟨#[61]⟩,ζ ⟨#[60]⟩,ζ ⟨#[43]⟩,ζ ⟨#[45]⟩,ζ ⟨#[42]⟩,ζ ⟨#[33]⟩,ζ ⟨#[124]⟩] 9) (J (V w.heap) i)=C (ζ ⟨ν oJ[i]⟩):=by
 rw[á _ _ _ _ _ _<|rY w _];have a:i<19:=h;have:i=0\/i=1\/i=2\/i=3\/i=4\/i=5\/i=6\/i=7\/i=8\/i=9\/i=10\/i=11\/i=12\/i=13\/i=14\/i=15\/i=16\/i=17\/i=18:=W;obtain rfl|rfl|rfl|rfl|rfl|rfl|rfl|rfl|rfl|rfl|rfl|rfl|rfl|rfl|rfl|rfl|rfl|rfl|rfl:=this<;>rfl
def Ĝ(s)(w:E)(j:s.size<=4000):μ prog 134 #[ζ s] w λe k=>e=π (res<|rK s.data.toList)/\Ω (V w.heap) w k:=by
 have m:K8 s.data.toList oJ<=s.size:=by have:=iH s.data.toList oJ 0 W;rw[bl]at this;exact this
 have c:Hid (rK s.data.toList=if K8 s.data.toList oJ=0 then (0,[],0) else (5,s.data.toList.take<|K8 s.data.toList oJ,K8 s.data.toList oJ)):=K;generalize rK s.data.toList=r at*;go_in;go_wp2_with fail;refine(Mk s (V w.heap+1) 19 oJ _ ε ε λi h=>by grind[Ĺ,World.size_alloc]).mono ?_;rintro e d ⟨rfl,rfl⟩;generalize K8 s.data.toList oJ=n at*;by_cases b:n=0
 .subst b;go_wp2;exact ä (by simp[â,results134,go_sem]) K ⟨xY<|by rw[c.u];simp,Jd _ _⟩
 .have p:((n:Int)==0)=κ:=à;go_wp2_with fail;refine(GH _ _ _<|kQ (zG _ _ _) j).mono ?_;rintro e d ⟨rfl,a⟩;obtain⟨f,l⟩:=qM a;have q:V w.heap+1<V d.heap:=by have:=a.size;simp at this;omega
  go_wp2;have g:=λo=>f (V w.heap) o à;exact ä (v:=.tuple #[.agg #[U 5,ζ<|s.extract 0 n,U 0],U n]) (by simp[â,results134,go_sem,g]) K ⟨CJ (by rw[c.u,wY b])<|DE _ _,yd a _ _ _⟩
def B6d(s)(w:E)(h:s.size<=4000)(i:0<s.size):μ prog 90 #[ζ s] w λe c=>e=π (res<|aY s.data.toList)/\Ω (V w.heap) w c:=by
 have b:Hid (aY s.data.toList=if fP s[0].toNat then qD s.data.toList else if iP s[0].toNat then name s.data.toList else if s[0].toNat=34 then text s.data.toList else rK s.data.toList):=by
  show _=_;rw[aY,Ka s i]
 generalize aY s.data.toList=r at*;cases g:fP s[0].toNat
 .cases m:iP s[0].toNat
  .by_cases j:s[0].toNat=34
   .rw[g,m,wY ι,wY ι,yY j]at b;have p:(((s[0].toNat:Nat):Int)==34)=τ:=by rw[j];rfl
    go_in;go_wp2_with (first|(go_at_call 129;refine(Y6 _ _).mono ?_;rintro e c ⟨rfl,rfl⟩)|(go_at_call 131;refine(JK _ _).mono ?_;rintro e c ⟨rfl,rfl⟩));refine(ŏ _ _ h i).mono ?_;rintro e f ⟨rfl,a⟩;rw[<-b.u];unfold res;obtain⟨k,t,n⟩:=r;obtain⟨d,l⟩:=qM a;have o:V w.heap<V f.heap:=by have:=a.size;simp at this;omega
    go_wp2;exact ä (by simp[â,results90,go_sem,d,res]) K ⟨K,sX a _ _ _⟩
   .rw[g,m,wY ι,wY ι,wY j]at b;have p:(((s[0].toNat:Nat):Int)==34)=κ:=à;go_in;go_wp2_with (first|(go_at_call 129;refine(Y6 _ _).mono ?_;rintro e c ⟨rfl,rfl⟩)|(go_at_call 131;refine(JK _ _).mono ?_;rintro e c ⟨rfl,rfl⟩));refine(Ĝ _ _ h).mono ?_;rintro e f ⟨rfl,a⟩;rw[<-b.u];unfold res;obtain⟨k,t,n⟩:=r;obtain⟨d,l⟩:=qM a;have o:V w.heap<V f.heap:=by have:=a.size;simp at this;omega
    go_wp2;exact ä (by simp[â,results90,go_sem,d,res]) K ⟨K,sX a _ _ _⟩
  .rw[g,m,wY ι,yY K]at b;go_in;go_wp2_with (first|(go_at_call 129;refine(Y6 _ _).mono ?_;rintro e c ⟨rfl,rfl⟩)|(go_at_call 131;refine(JK _ _).mono ?_;rintro e c ⟨rfl,rfl⟩));refine(Zv _ _ h).mono ?_;rintro e f ⟨rfl,a⟩;rw[<-b.u];unfold res;obtain⟨k,t,n⟩:=r;obtain⟨d,l⟩:=qM a;have o:V w.heap<V f.heap:=by have:=a.size;simp at this;omega
   go_wp2;exact ä (by simp[â,results90,go_sem,d,res]) K ⟨K,sX a _ _ _⟩
 .rw[g,yY K]at b;go_in;go_wp2_with (go_at_call 129;refine(Y6 _ _).mono ?_;rintro e c ⟨rfl,rfl⟩);refine(ā _ _ h i).mono ?_;rintro e f ⟨rfl,a⟩;rw[<-b.u];unfold res;obtain⟨k,t,n⟩:=r;obtain⟨d,l⟩:=qM a;have o:V w.heap<V f.heap:=by have:=a.size;simp at this;omega
  go_wp2;exact ä (by simp[â,results90,go_sem,d,res]) K ⟨K,sX a _ _ _⟩
def Tryz.m7:(prog.info? 150).map (λi=>(i.zero,i.size,i.bytes))=C (C<|.agg #[U 0,ζ ⟨#[]⟩,U 0],3,32):=Ψ
def UD(R:List Tk×Int×Nat)(w:E)(e:Ending)(b:E):Prop:=
 ∃a c,e=π (.tuple #[Y a (Q R.1) c,.agg #[U R.2.1,U R.2.2]])/\ξ b (V w.heap) 150 3 (Y a (Q R.1) c) (Q R.1) (rows R.1)/\Ω (V w.heap) w b
def Yk{w:E}{a b}{e}{d}{v}{n}{f}(h:ξ w a e d v n f)(j:b<=a):ξ w b e d v n f:=by
 obtain⟨i,c⟩:=h;refine⟨i,?_⟩;obtain c|⟨g,cap,cur,hv,hg,r⟩:=c
 .grind
 .exact .inr ⟨g,cap,cur,hv,kQ j hg,r⟩
def YP{w:E}{b}{e}{d}{v}{n}{f}(h:ξ w b e d v n f):∃a c,v=Y a n c:=by
 obtain⟨rfl,rfl⟩|⟨g,i,j,k,_⟩:=h.2<;>grind
def LZ{w b:E}(e)(a)(c:Ω (V w.heap) w b):UD ([],e,a) w (π<|.tuple #[sN,.agg #[U e,U a]]) b:=
 ⟨none,0,K,kW _ _ _ _,c⟩
def VK{w wr:E}{a}{t}(h:Ω (V w.heap+1) (σ w<|γ a t) wr):
 (∀o v,a[o]?=C v->wr.cell? (J (V w.heap) o)=C v)/\(∀o,wr.frozen? (J (V w.heap) o)=κ)/\V w.heap<wr.heap.size:=by
 refine⟨λo v b=>?_,λo=>?_,?_⟩
 .rw[h.cell ι,World.cell?_alloc_new,b]
 .rw[h.frozen ι];simp
 .have:=h.size;simp at this;omega
def UZ{w wr e:E}{o h}(g:Ω (V w.heap+1) (w.alloc o) wr)(f:Ω wr.heap.size wr e)(c d):
 Ω (V w.heap) w ((ρ (ρ e (J (V w.heap) 0) c) (J (V w.heap) 1) d).alloc h):=by
 have a:=((ë _ _).alloc (vQ _) o).trans (g.mono W);have b:=((a.trans<|f.mono a.size).setCell (p:=(J (V w.heap) 0)) ι c).setCell (p:=(J (V w.heap) 1)) ι d;exact b.alloc b.size _
def zk{w d:E}{b}{e}{c}{v}{n}{f}(h:ξ w b e c v n f)(a:Ω (V w.heap) w d):ξ d b e c v n f:=
 h.kept (row:=none) ⟨a.os,a.tape,a.output,a.size,λk g _=>a.block k g⟩ θ
theorem Đ(w:E)(o)(x y z)(t):∀j u,[x,y,z][j]?=C u->δ (σ (w.alloc o)<|γ #[x,y,z] t) (((J (V w.heap+1) 0)).add j)=C u:=by
 intro j u b;have a:((J (V w.heap+1) 0):Addr).add j=(J (V w.heap+1) j):=by unfold Addr.add;split<;>simp_all
 simp_all
theorem ē(w:E)(x y z)(t):∀j u,[x,y,z][j]?=C u->δ (σ w<|γ #[x,y,z] t) (((J (V w.heap) 0)).add j)=C u:=by
 intro j u b;have a:((J (V w.heap) 0):Addr).add j=(J (V w.heap) j):=by unfold Addr.add;split<;>simp_all
 simp_all
def VY{e:E}{d n}{b}{c}{a}{t}(h:ξ e d 150 3 (Y b n c) n<|rows a++[U t.x,ζ ⟨ν t.text⟩,U t.at']):
 ξ e d 150 3 (Y b n c) n (rows<|a++[t]):=by rw[Qm];exact h
def mG{w wr c:E}{o b}{v}{n}{h}(a:Ω (V w.heap+1) (w.alloc o) wr)(f:wr.ownsRow (V w.heap+1) 150 3 v n h)
 (d:(wr.alloc b).grownBy c (Δ v)):Ω (V w.heap+1) (w.alloc o) c:=by
 have g:V w.heap+1<=wr.heap.size:=by have:=a.size;simpa using this
 exact(a.alloc g b).grown d à λk e=>(f.lt k e).1
def Qj{w wr f g:E}{o d e}{v}{n}{p}(b:Ω (V w.heap+1) (w.alloc o) wr)(a:Ω wr.heap.size wr f)(l:wr.ownsRow (V w.heap+1) 150 3 v n p)
 (i:((f.alloc d).alloc e).grownBy g (Δ v)):Ω (V w.heap+1) (w.alloc o) g:=by
 have c:V w.heap+1<=wr.heap.size:=by have:=b.size;simpa using this
 have h:=b.trans<|a.mono c;have m:=kQ c a.size;exact((h.alloc m d).alloc à e).grown i à λk j=>(l.lt k j).1
def A7f{w d:E}{o}{b}{c n}{a}{L}(h:ξ d (V w.heap+1) 150 3 (Y b (Q a+1) c) (Q a+1)<|rows<|a++[⟨6,[],L⟩])
 (g:Ω (V w.heap+1) (w.alloc o) d) (e f):UD (a++[⟨6,[],L⟩],0,n) w (π<|.tuple #[Y b (Q a+1) c,.agg #[U 0,U n]]) (ρ (ρ d (J (V w.heap) 0) e) (J (V w.heap) 1) f):=by
 refine⟨b,c,ι,?_,((((ë _ _).alloc (vQ _) o).trans<|g.mono W).setCell ι _).setCell ι _⟩;have:=Yk (ownsRow_setCell_below (ownsRow_setCell_below h (a:=(J (V w.heap) 0)) ι e) (a:=(J (V w.heap) 1)) ι f)<|Nat.le_succ _;grind
def ė(s)(w:E)(ae:s.size<=Γ):μ prog 48 #[ζ s] w (UD (O8 s.data.toList) w):=by
 have l:Hid (O8 s.data.toList=if 4000<s.size then ([],2,0) else J3 (s.size+1) s.data.toList 0 []):=by show _=_;unfold O8;rw[bl]
 generalize O8 s.data.toList=a9 at*;unfold Γ at ae;by_cases al:4000<s.size
 .go_in;go_wp2;rw[l.u,yY W];exact ä (by simp[â,results48,go_sem]) K<|LZ 2 0<|(ë _ _).alloc (vQ _) _
 .rw[wY W]at l;go_in;go_wp2_with fail;refine(WI s 0 _ W W).mono ?_;rintro a3 a8 ⟨rfl,rfl⟩;have ab:=oX blank<|s.data.toList.drop 0;rw[List.length_drop,bl]at ab;have an:0+sp blank (s.data.toList.drop 0)<=s.size:=W;rw[R9]at l;have h0:Hid (sp blank (s.data.toList.drop<|0+sp blank (s.data.toList.drop 0))=0):=by
   have a4:=KJ blank<|s.data.toList.drop 0;rw[List.drop_drop]at a4;exact a4
  generalize 0+sp blank (s.data.toList.drop 0)=a at*;go_wp2;go_loopw [4,5] (λaj i wr=>∃(a f:Nat) (b:List Tk) (G:Option Addr) (c:Nat),a<=s.size/\i=U a/\Hid (sp blank (s.data.toList.drop a)=0)/\s.size-a<f+1/\Hid (a9=J3 (f+1) s.data.toList a b)/\Q b<=1000/\aj=Y G (Q b) c/\
   Hid (wr.ownsRow (V w.heap+1) 150 3 (Y G (Q b) c) (Q b)<|rows b)/\Hid (Ω (V w.heap+1) (w.alloc<|γ #[Û ω 0,Û ω 0] 29) wr)) (λ_ i _=>s.size-(intOf i).toNat);case atStart=>exact⟨a,s.size,[],none,0,W,K,h0,W,l,ι,K,kW _ _ _ _,ë _ _⟩
  case round=>
   obtain⟨a,f,b,G,c,ha,rfl,x,hf,l,ak,rfl,m,h⟩:=hrel;have e:=l.u;rw[YT _ _ _ _ x.u,bl]at e;obtain⟨j,a7,o⟩:=VK h.u;by_cases ao:a<s.size
   .rw[wY W]at e;go_wp2_with fail;refine(B6d _ _ (kQ (zG _ _ _) W)<|by rw[ByteArray.size_extract];omega).mono ?_;rintro a3 a8 ⟨rfl,M⟩;rw[JQ];have a5:=Jt<|s.data.toList.drop a;rw[List.length_drop,bl]at a5;generalize aY (s.data.toList.drop a)=ah at*;obtain⟨k,t,n⟩:=ah;simp only at e a5;unfold res;have D:=O e;obtain⟨hc,am⟩:=qM M;have A:=(hc _ _ o).trans<|j 0 _ K;have B:=(hc _ _ o).trans<|j 1 _ K;have P:=yQ o M.size;have p:=O M;by_cases hn:n=0
    .subst hn;go_wp2_with fail;rw[D.u,yY ι];exact ä (v:=.tuple #[sN,.agg #[U 1,U (a:Int)]]) (by simp[â,results48,go_sem,A,B,P]) K<|LZ 1 a<|UZ h.u p.u _ _
    .have aq:((n:Int)==0)=κ:=à;have F:=D.u;rw[wY hn]at F;have g:=O F;clear F D;by_cases y:Q b=1000
     .have ac:((Q b:Int)==1000)=τ:=à;rw[yY y]at g;clear y;go_wp2_with fail;rw[g.u];exact ä (v:=.tuple #[sN,.agg #[U 2,U (a:Int)]]) (by simp[â,results48,go_sem,A,B,P]) K<|LZ 2 a<|UZ h.u p.u _ _
     .have ac:((Q b:Int)==1000)=κ:=à;rw[wY y]at g;have ap:Q b<1000:=W;clear y;obtain⟨Z,N,R,S,T⟩:=info_parts Tryz.m7;have a6:=(zk m.u p.u).alloc<|γ #[Û ω k,ζ {data:=ν t},Û ω (a:Int)] 150;have u:=O<|a6.alloc<|γ #[Û ω k,ζ {data:=ν t},Û ω (a:Int)] 150;clear a6;go_wp2_with (at_builtin;refine Ê _ K _ _ 110 K (V w.heap+1) 150 Z (.agg #[U 0,ζ ⟨#[]⟩,U 0]) 3 32 underlying110 N R S T K ε _ _ _ K u.u (J (V a8.heap+1) 0) 1 1 [U k,ζ ⟨ν t⟩,U (a:Int)] K K ?c1 ?c2 ?c3 ?c4 ?c5 ?_);case c1=>simp_all[Đ]
      case c2=>intro ai r;simp at r;obtain rfl|rfl|rfl:=r<;>rfl
      case c3=>simp only[Γ];omega
      case c4=>omega
      case c5=>simp;omega
      .intro v' a2 d q _;obtain⟨H,c2,z⟩:=YP d;rw[z]at d⊢;obtain⟨L,rfl⟩:∃L,f=L+1:=⟨f-1,W⟩;rw[R9]at g;have af:=oX blank<|s.data.toList.drop<|a+n;rw[List.length_drop,bl]at af;have x:=O<|KJ blank<|s.data.toList.drop<|a+n;rw[List.drop_drop]at x;have HO:=O<|VY (t:=⟨k,t,a⟩) d;have v:=O<|Qj h.u p.u m.u q;clear d q m h p u;go_wp2_with fail;rw[show ((a:Int)+(n:Int))=((a+n:Nat):Int) from W];refine(WI s (a+n) _ W W).mono ?_;rintro a3 ar ⟨rfl,rfl⟩;generalize ag:sp blank (s.data.toList.drop<|a+n)=aa at*;clear ag;go_wp2_with fail;go_roundw;case rel=>exact⟨a+n+aa,L,_,H,c2,W,K,x,W,g,θ,ι,θ,v⟩
       grind[intOf]
   .rw[yY W]at e;have g:=O e;clear e;have P:=o;obtain⟨Z,N,R,S,T⟩:=info_parts Tryz.m7;have u:=O<|m.u.alloc<|γ #[Û ω 6,ζ {data:=#[]},Û ω (s.size:Int)] 150;go_wp2_with (at_builtin;refine Ê _ K _ _ 110 K (V w.heap+1) 150 Z (.agg #[U 0,ζ ⟨#[]⟩,U 0]) 3 32 underlying110 N R S T K ε _ _ _ K u.u (J wr.heap.size 0) 1 1 [U 6,ζ ⟨#[]⟩,U (s.size:Int)] K K ?c1 ?c2 ?c3 ?c4 ?c5 ?_);case c1=>simp_all[ē]
    case c2=>intro ai r;simp at r;obtain rfl|rfl|rfl:=r<;>rfl
    case c3=>simp only[Γ];omega
    case c4=>omega
    case c5=>simp;omega
    .intro v' a2 d q _;obtain⟨H,c2,z⟩:=YP d;rw[z]at d⊢;have HO:=O<|VY (t:=⟨6,[],s.size⟩) d;have v:=O<|mG h.u m.u q;clear d q m h u j a7 o z;obtain⟨j,a7,o⟩:=VK v.u;have A:δ a2 (J (V w.heap) 0)=C (U 0):=j 0 _ K;have B:δ a2 (J (V w.heap) 1)=C (U 0):=j 1 _ K;clear j;go_wp2_with fail;rw[g.u];exact ä (v:=.tuple #[Y H (Q b+1) c2,.agg #[U 0,U ((0:Nat):Int)]]) (by simp[â,results48,go_sem,A,B]) K<|A7f HO.u v.u _ _
def pL(w:E)(a:Nat)(v:χ)(T:List Ty):Prop:=∃b,ξ w a 88 4 v (Q T) b/\eN (eI w λg=>a<=g) T b
def C9e{w:E}{B c e}(l:e=V w.heap){b}{L}{d}(f:B<=V w.heap)(k:∀g,V w.heap<=g->d g)(h:0<Q L)(j:ξ w B 150 3 (Y b (Q L) c) (Q L)<|rows L):
 aH (σ w<|γ #[Y b (Q L) c,U 0,U 0,sN,sN] 115) B e (Y b (Q L) c) L d 0 ⟨0,[],[]⟩:=by
 subst l;exact⟨f,h,⟨ι,ι⟩,C7 (j.alloc _)<|wQ _,⟨k _<|vQ _,λv g a i=>by rw[World.cell?_alloc_new]at a;grind[Δ],λv g a i=>by rw[World.cell?_alloc_new]at a;cases a;simp_all[Δ]⟩,_,_,[],[],rY w _,kW _ _ _ _,kW _ _ _ _,K,K⟩
