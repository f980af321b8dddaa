/-
  A part of the proof.
-/
import Derived.Test.YtllclkcjdhoohaaGreatDoorParseA
import Derived.Defers
import Derived.Recover
import Derived.Maps.Views
import Derived.Maps.OwnOps
import Derived.DeepKeys4
import Derived.BigRegion
set_option maxHeartbeats 0
set_option linter.all false
set_option maxRecDepth 100000
namespace Go.Proofs.YtllclkcjdhoohaaGreatDoor
open _root_.Array renaming size->V
open Bool renaming false->κ,true->τ
open Go renaming undef->Φ,Value->υ,results->ã,cell_of_row->ä,Calls->μ,bodyPost_ret->ç,maxLen->Δ,wpList_append_own->Ù
open Ending renaming returned->π
open IntKind renaming i64->χ
open Obj renaming cells->γ
open Go.Proofs.Tryz renaming prog->ε
open RowKit renaming Below->á
open RowKit.Below renaming heap_alloc->ÿ,refl->ñ
open Value renaming string->ι,slice->Y,ownBlock->Θ
open World renaming cell?->δ,block_lt_of_cell?->Ü,alloc->ω,setCell->σ,ownsRow->ρ,cell?_of_block->Ë
open I renaming alloc->ν
open List renaming length->Q,toArray->ξ
open Option renaming some->C
open Go.Proofs.Tryz
open Go.RowKit
def FQ(q)(a p x y)(f)(w:E)(c:δ w (J q 0)=C (U x))(i:δ w (J q 1)=C (U y))(u:∀o,w.frozen? (J q o)=κ):
 CallsD ε 80 #[pV q] (.panicking<|{v:=.iface 147<|.agg #[U a,U p],recovered:=κ}::f) w λe l b=>
  e=rT/\l=.panicking ({v:=.iface 147<|.agg #[U a,U p],recovered:=τ}::f)/\I (λk=>k=q\/V w.heap<=k) w b/\δ b (J q 0)=C (U a)/\δ b (J q 1)=C (U p):=by
 refine callsD_of_wpS func80 K λs r j=>?_;apply wpS_seq;apply wpS_region;simp[wpOpsS,go_sem,recoverD,j,ntmps80,Exit.thenS];refine wpS_of_wp ?_;have t:∀w:E,(Instr.typeAssert (.iface 147<|.agg #[U a,U p]) 20 147 τ).run ε w=.ok (.tuple #[.agg #[U a,U p],.bool τ]) w:=λ_=>î;have h:(#[pV q]++((Array.replicate 15 Φ).setIfInBounds 3<|.iface 147<|.agg #[U a,U p]).setIfInBounds 0 (.iface 147<|.agg #[U a,U p]):Array υ)=#[pV q,.iface 147<|.agg #[U a,U p],Φ,Φ,.iface 147<|.agg #[U a,U p],Φ,Φ,Φ,Φ,Φ,Φ,Φ,Φ,Φ,Φ,Φ]:=K;rw[h];have d:=Ü w _ c;go_wp2;have g:I (λk=>k=q\/V w.heap<=k) w (ω (σ (σ w (J q 0)<|U a) (J q 1)<|U p)<|γ #[U a,U p] 147):=
  (((I.set w (J q 0) _).mono λ_ _ x=>.inl x).trans (I.set _ (J q 1) _) λ_ _ x=>.inl x).trans (ν No _ _) å;have m:δ (ω (σ (σ w (J q 0)<|U a) (J q 1)<|U p)<|γ #[U a,U p] 147) (J q 0)=C (U a):=by simp[go_sem,c,d]
 have n:δ (ω (σ (σ w (J q 0)<|U a) (J q 1)<|U p)<|γ #[U a,U p] 147) (J q 1)=C (U p):=by simp[go_sem,i,d]
 exact⟨K,_,K,_,by simp[ã,results80],K,K,g,m,n⟩
def OP(q)(w:E):
 CallsD ε 80 #[pV q] .returning w λe d f=>
  e=rT/\d=.returning/\I No w f:=by
 refine callsD_of_wpS func80 K λb g a=>?_;apply wpS_seq;apply wpS_region;simp[wpOpsS,go_sem,recoverD,a,ntmps80,Exit.thenS];refine wpS_of_wp ?_;have h:∀w:E,(Instr.typeAssert .nilIface 20 147 τ).run ε w=.ok (.tuple #[.agg #[U 0,U 0],.bool κ]) w:=λ_=>î;have c:(#[pV q]++((Array.replicate 15 Φ).setIfInBounds 3 .nilIface).setIfInBounds 0 .nilIface:Array υ)=#[pV q,.nilIface,Φ,Φ,.nilIface,Φ,Φ,Φ,Φ,Φ,Φ,Φ,Φ,Φ,Φ,Φ]:=K;rw[c];go_wp2;cases b;simp only at a;subst a;exact⟨K,_,K,_,by simp[ã,results80],K,K,ν _ _ _⟩
section
variable{w:E}{B b:Nat}{c:υ}{L:List Tk}{a:Nat->Prop}{d:Nat}{s:St}
def xD{w g}{q o}{f}{e}{v}(h:Kept B a w g)(i:w.heap[q]?=C (γ f e (0,0)))(n:e≠78/\e≠82/\e≠99)(t:f[o]?=C v):
 g.heap[q]?=C (γ f e (0,0))/\δ g (J q o)=C v:=by
 have m:g.heap[q]?=C (γ f e (0,0)):=by
  rw[h.block q (aG i) λx=>?_]
  .omega
  .obtain⟨j,k,l,p,r⟩:=x.2.1;grind
 grind[ä]
def PH(w:E)(e f g):(((w.alloc e).alloc f).alloc g).heap[V w.heap]?=C e/\(((w.alloc e).alloc f).alloc g).heap[V w.heap+1]?=C f/\(((w.alloc e).alloc f).alloc g).heap[V w.heap+2]?=C g:=by
 refine⟨?_,?_,?_⟩
 .grind[ÿ,rY]
 .rw[ÿ _ _ _ θ];have:=rY (w.alloc e) f;simp_all
 .have:=rY ((w.alloc e).alloc f) g;simp_all
end
def qM{a c:E}(d:á (V a.heap) a c):(∀b o,b<V a.heap->δ c (J b o)=δ a (J b o))/\(∀b o,b<V a.heap->c.frozen? (J b o)=a.frozen? (J b o)):=
 ⟨λb o h=>d.cell h,λb o h=>d.frozen h⟩
def sX{w a:E}{o}(b:á (V (w.alloc o).heap) (w.alloc o) a)(c d e):
 á (V w.heap) w (σ (σ (σ a (J (V w.heap) 0) c) (J (V w.heap) 1) d) (J (V w.heap) 2) e):=
 (((((ñ _ _).alloc (vQ _) o).trans<|b.mono θ).setCell θ _).setCell θ _).setCell θ _
theorem JQ(s:ByteArray)(a):(s.extract a s.size).data.toList=s.data.toList.drop a:=by
 grind[ByteArray.data_extract,Array.toList_extract,List.extract_eq_take_drop,bl,List.take_of_length_le,List.length_drop]
def C3d(s)(w:E)(c:s.size<=4000):μ ε 203 #[ι s] w λe a=>e=π (.string s)/\á (V w.heap) w a:=by
 go_in;go_wp2_with (go_at_call 249;refine(Tryz.stringslite_Clone _ _ W).mono ?_;rintro e a ⟨rfl,b⟩);go_ret;exact⟨K,b⟩
def GH(k)(s)(w:E)(c:s.size<=4000):μ ε 129 #[U k,ι s] w λe d=>e=π (.agg #[U k,ι s,U 0])/\á (V w.heap) w d:=by
 go_in;go_wp2_with fail;refine(C3d _ _ c).mono ?_;rintro e f ⟨rfl,a⟩;obtain⟨b,g⟩:=qM a;have h:V w.heap<V f.heap:=by have:=a.size;simp at this;omega
 go_wp2;exact ç (by simp[ã,results129,go_sem,b]) K ⟨K,sX a _ _ _⟩
def WI(s)(a:Nat)(w:E)(f:s.size<=4000)(d:a<=s.size):μ ε 38 #[ι s,U a] w λe b=>e=π (U (a+sp blank (s.data.toList.drop a):Nat))/\b=w:=by
 go_in;go_wp2_with fail;refine(Ń _ _ ?_).mono ?_
 .simp[Δ];omega
 .rintro e b ⟨rfl,rfl⟩;have c:=oX blank<|s.data.toList.drop a;rw[List.length_drop,bl]at c;rw[JQ s a];go_wp2;go_ret;exact⟨M9 W,K⟩
def xq(s)(w:E):μ ε 131 #[ι s] w λe a=>e=π (.bool<|tX s.data.toList)/\a=w:=by
 go_in;go_wp2;all_goals first|(exfalso;simp_all;done)|skip
 all_goals go_ret
 all_goals refine⟨F9 ?_,K⟩
 all_goals simp[tX,has,Aq,<-ByteArray.toList_eq]
 all_goals simp_all
def Xo(l)(a:List bZ)(k)(h):K8 l (a.take<|k+1)=if a[k].isPrefixOf l then max (K8 l<|a.take k) (Q a[k]) else K8 l (a.take k):=by
 grind[nQ,K8]
def Mk(s)(g c)(a)(w:E)(p:Q a<=100)(l:∀x∈a,Q x<=2)
 (f:∀i (h),δ w (J g i)=C (ι ⟨ξ a[i]⟩)):
 μ ε 134 #[ι s,Y (C<|J g 0) (Q a) c] w λe b=>e=π (U<|K8 s.data.toList a)/\b=w:=by
 go_in;go_wp2;go_loop [5,10] (λz i=>∃k:Nat,k<=Q a/\i=U k/\z=U (K8 s.data.toList<|a.take k)) (λ_ i=>Q a-(intOf i).toNat);case atStart=>exact⟨0,wQ _,K,K⟩
 case round=>
  obtain⟨k,o,rfl,rfl⟩:=hrel;by_cases j:k<Q a
  .have n:=f k j;have d:Hid (K8 s.data.toList (a.take<|k+1)=if a[k].isPrefixOf s.data.toList then max (K8 s.data.toList<|a.take k) (Q a[k]) else K8 s.data.toList<|a.take k):=Xo _ _ _ j;clear f l;generalize K8 s.data.toList (a.take k)=m at*;generalize a[k]=x at*;cases q:Lib.hasPrefix s.data.toList x
   .go_wp2_with (go_at_call 133;refine(Tryz.strings_HasPrefix _ _ _).mono ?_;rintro e b ⟨rfl,rfl⟩);go_round;case rel=>exact⟨k+1,W,ï,by rw[d.u,wY<|by grind[Lib.hasPrefix]]⟩
    grind[intOf]
   .go_wp2_with (go_at_call 133;refine(Tryz.strings_HasPrefix _ _ _).mono ?_;rintro e b ⟨rfl,rfl⟩);go_round;case rel=>exact⟨k+1,W,ï,by rw[d.u,yY<|by grind[Lib.hasPrefix]];grind⟩
    grind[intOf]
  .go_wp2;go_ret;exact⟨M9 η,K⟩
def res(r:Int×bZ×Nat):υ:=.tuple #[.agg #[U r.1,ι ⟨ξ r.2.1⟩,U 0],U r.2.2]
theorem Ka(s:ByteArray)(h):s.data.toList.head?=C s[0]:=by
 rw[List.head?_eq_getElem?,gQ ù];rfl
def CJ{r}{k}{t}{n:Nat}{x}(h:r=(k,t,n))(a:x=⟨ξ t⟩):
 π (.tuple #[.agg #[U k,ι x,U 0],U n])=π (res r):=by subst h;subst a;rfl
def xY{r:Int×bZ×Nat}(h:r=(0,[],0)):
 π (.tuple #[.agg #[U 0,ι ⟨#[]⟩,U 0],U 0])=π (res r):=by subst h;rfl
theorem DE(s:ByteArray)(n):s.extract 0 n=⟨ξ (s.data.toList.take n)⟩:=by grind[Lib.extract_eq]
def ě(s:ByteArray)(n):s.extract 1 (1+n)=⟨ξ (s.data.toList.tail.take n)⟩:=by grind[Lib.extract_eq,List.drop_one]
theorem zG(s:ByteArray)(a b):(s.extract a b).size<=s.size:=by grind[ByteArray.size_extract]
theorem zh(c)(n:Nat)(h:n<256):c=UInt8.ofNat n↔c.toNat=n:=by
 constructor
 .simp_all
 .intro e;apply UInt8.toNat_inj.1;simp;omega
def ā(s)(w:E)(h:s.size<=4000)(d:0<s.size):μ ε 75 #[ι s] w λe i=>e=π (res<|qD s.data.toList)/\á (V w.heap) w i:=by
 have g:=oX fP s.data.toList;rw[bl]at g;have b:Hid (qD s.data.toList=if 9<sp fP s.data.toList\/s[0].toNat=48/\1<sp fP s.data.toList then (0,[],0) else (3,s.data.toList.take<|sp fP s.data.toList,sp fP s.data.toList)):=by
  show _=_;rw[qD,Ka s d];simp;simp only[show (s[0]=48↔s[0].toNat=48) from zh _ 48 W]
 generalize qD s.data.toList=r at*;go_in;go_wp2_with fail;refine(Ň _ _ Ñ).mono ?_;rintro e c ⟨rfl,rfl⟩;generalize sp fP s.data.toList=n at*;go_wp2_with fail
 .exact ç (by simp[ã,results75,go_sem]) K ⟨xY<|by rw[b.u,yY W],(ñ _ _).alloc (vQ _) _⟩
 all_goals first|exact ç (by simp[ã,results75,go_sem]) K ⟨xY<|by rw[b.u,yY W],(ñ _ _).alloc (vQ _) _⟩|skip
 all_goals
  refine(GH _ _ _<|kQ (zG _ _ _) h).mono ?_;rintro e c ⟨rfl,a⟩;obtain⟨f,j⟩:=qM a;have k:V w.heap<V c.heap:=by have:=a.size;simp at this;omega
  go_wp2;exact ç (v:=.tuple #[.agg #[U 3,ι<|s.extract 0 n,U 0],U n]) (by simp[ã,results75,go_sem,f]) K ⟨CJ (by rw[b.u,wY W])<|DE _ _,sX a _ _ _⟩
def Zv(s)(w:E)(i:s.size<=4000):μ ε 77 #[ι s] w λe j=>e=π (res<|name s.data.toList)/\á (V w.heap) w j:=by
 have h:=oX iA s.data.toList;rw[bl]at h;have b:Hid (name s.data.toList=if 20<sp iA s.data.toList then (0,[],0) else (if tX (s.data.toList.take<|sp iA s.data.toList) then 2 else 1,s.data.toList.take<|sp iA s.data.toList,sp iA s.data.toList)):=K;generalize name s.data.toList=r at*;go_in;go_wp2_with fail;refine(Ō _ _ Ñ).mono ?_;rintro e c ⟨rfl,rfl⟩;generalize sp iA s.data.toList=n at*;by_cases l:20<n
 .go_wp2;exact ç (by simp[ã,results77,go_sem]) K ⟨xY<|by rw[b.u,yY W],(ñ _ _).alloc (vQ _) _⟩
 .go_wp2_with fail;refine(xq _ _).mono ?_;rintro e c ⟨rfl,rfl⟩;have g:Hid (tX (s.extract 0 n).data.toList=tX (s.data.toList.take n)):=by show _=_;rw[DE]
  cases f:tX (s.extract 0 n).data.toList;all_goals
   go_wp2_with fail;refine(GH _ _ _<|kQ (zG _ _ _) i).mono ?_;rintro e c ⟨rfl,a⟩;obtain⟨d,k⟩:=qM a;have m:V w.heap<V c.heap:=by have:=a.size;simp at this;omega
   go_wp2
  .exact ç (v:=.tuple #[.agg #[U 1,ι<|s.extract 0 n,U 0],U n]) (by simp[ã,results77,go_sem,d]) K ⟨CJ (by rw[b.u,wY W,<-g.u,f];rfl)<|DE _ _,sX a _ _ _⟩
  .exact ç (v:=.tuple #[.agg #[U 2,ι<|s.extract 0 n,U 0],U n]) (by simp[ã,results77,go_sem,d]) K ⟨CJ (by rw[b.u,wY W,<-g.u,f];rfl)<|DE _ _,sX a _ _ _⟩
def D1e(l:bZ):Lib.hasPrefix l [34]=τ↔l.head?=C 34:=by
 cases l<;>grind[Lib.hasPrefix,List.isPrefixOf]
def ŏ(s)(w:E)(k:s.size<=4000)(m:0<s.size):μ ε 78 #[ι s] w λe l=>e=π (res<|text s.data.toList)/\á (V w.heap) w l:=by
 have i:=oX iF s.data.toList.tail;rw[List.length_tail,bl]at i;have b:Hid (text s.data.toList=if 30<sp iF s.data.toList.tail\/(s.data.toList.tail.drop<|sp iF s.data.toList.tail).head?≠C 34 then (0,[],0) else (4,s.data.toList.tail.take<|sp iF s.data.toList.tail,sp iF s.data.toList.tail+2)):=K;have g:Hid ((s.extract 1 s.size).data.toList=s.data.toList.tail):=by show _=_;rw[JQ,List.drop_one]
 generalize text s.data.toList=r at*;go_in;go_wp2_with fail;refine(Ő _ _<|by grind[Δ,zG]).mono ?_;rintro e c ⟨rfl,rfl⟩;rw[g.u];generalize q:sp iF s.data.toList.tail=n at*;by_cases p:30<n
 .go_wp2;exact ç (by simp[ã,results78,go_sem]) K ⟨xY<|by rw[b.u,yY W],(ñ _ _).alloc (vQ _) _⟩
 .go_wp2_with fail;refine(Tryz.strings_HasPrefix _ _ _).mono ?_;rintro e c ⟨rfl,rfl⟩;have d:Hid (Lib.hasPrefix (s.extract (1+n) s.size).data.toList (ByteArray.mk #[34]).data.toList=τ↔(s.data.toList.tail.drop n).head?=C 34):=by
   rw[JQ,<-List.drop_one,List.drop_drop];exact D1e _
  cases j:Lib.hasPrefix (s.extract (1+n) s.size).data.toList (ByteArray.mk #[34]).data.toList
  .go_wp2;exact ç (by simp[ã,results78,go_sem]) K ⟨xY<|by rw[b.u,yY<|Or.inr λh=>by have:=d.u.2 h;grind],(ñ _ _).alloc (vQ _) _⟩
  .go_wp2_with fail;refine(GH _ _ _<|kQ (zG _ _ _) k).mono ?_;rintro e c ⟨rfl,a⟩;obtain⟨f,o⟩:=qM a;have t:V w.heap<V c.heap:=by have:=a.size;simp at this;omega
   go_wp2;exact ç (v:=.tuple #[.agg #[U 4,ι<|s.extract 1<|1+n,U 0],U ((n+2:Nat):Int)]) (by simp[ã,results78,go_sem,f]) K ⟨CJ (by rw[b.u,wY λh=>h.elim (λh=>W) λh=>h<|d.u.1 j])<|ě _ _,sX a _ _ _⟩
def iH(l:bZ):∀(b:List bZ) (m),m<=Q l->b.foldl (λm g=>if g.isPrefixOf l then max m (Q g) else m) m<=Q l
 |[],m,a=>a
 |g::r,m,a=>by
  simp only[List.foldl_cons];refine iH l r _ ?_;grind
def Jd{w:E}(a b):á (V w.heap) w ((w.alloc a).alloc b):=((ñ _ _).alloc (vQ _) a).alloc θ b
def yd{w b:E}{o a}(c:á (V ((w.alloc o).alloc a).heap) ((w.alloc o).alloc a) b)(d e f):
 á (V w.heap) w (σ (σ (σ b (J (V w.heap) 0) d) (J (V w.heap) 1) e) (J (V w.heap) 2) f):=
 ((((Jd o a).trans<|c.mono â).setCell θ _).setCell θ _).setCell θ _
theorem Ĺ(w:E)(i)(h):δ (ω w<|γ #[ι ⟨#[61,61]⟩,ι ⟨#[61,62]⟩,ι ⟨#[40]⟩,ι ⟨#[41]⟩,ι ⟨#[123]⟩,ι ⟨#[125]⟩,ι ⟨#[91]⟩,ι ⟨#[93]⟩,ι ⟨#[44]⟩,ι ⟨#[59]⟩,ι ⟨#[58]⟩,ι ⟨#[46]⟩,ι ⟨#[61]⟩,ι ⟨#[60]⟩,ι ⟨#[43]⟩,ι ⟨#[45]⟩,ι ⟨#[42]⟩,ι ⟨#[33]⟩,ι ⟨#[124]⟩] 9) (J (V w.heap) i)=C (ι ⟨ξ oJ[i]⟩):=by
 rw[ä _ _ _ _ _ _<|rY w _];have a:i<19:=h;have:i=0\/i=1\/i=2\/i=3\/i=4\/i=5\/i=6\/i=7\/i=8\/i=9\/i=10\/i=11\/i=12\/i=13\/i=14\/i=15\/i=16\/i=17\/i=18:=W;obtain rfl|rfl|rfl|rfl|rfl|rfl|rfl|rfl|rfl|rfl|rfl|rfl|rfl|rfl|rfl|rfl|rfl|rfl|rfl:=this<;>rfl
def Ĝ(s)(w:E)(j:s.size<=4000):μ ε 79 #[ι s] w λe k=>e=π (res<|rK s.data.toList)/\á (V w.heap) w k:=by
 have m:K8 s.data.toList oJ<=s.size:=by have:=iH s.data.toList oJ 0 W;rw[bl]at this;exact this
 have c:Hid (rK s.data.toList=if K8 s.data.toList oJ=0 then (0,[],0) else (5,s.data.toList.take<|K8 s.data.toList oJ,K8 s.data.toList oJ)):=K;generalize rK s.data.toList=r at*;go_in;go_wp2_with fail;refine(Mk s (V w.heap+1) 19 oJ _ ζ ζ λi h=>by grind[Ĺ,World.size_alloc]).mono ?_;rintro e d ⟨rfl,rfl⟩;generalize K8 s.data.toList oJ=n at*;by_cases b:n=0
 .subst b;go_wp2;exact ç (by simp[ã,results79,go_sem]) K ⟨xY<|by rw[c.u];simp,Jd _ _⟩
 .have p:((n:Int)==0)=κ:=â;go_wp2_with fail;refine(GH _ _ _<|kQ (zG _ _ _) j).mono ?_;rintro e d ⟨rfl,a⟩;obtain⟨f,l⟩:=qM a;have q:V w.heap+1<V d.heap:=by have:=a.size;simp at this;omega
  go_wp2;have g:=λo=>f (V w.heap) o â;exact ç (v:=.tuple #[.agg #[U 5,ι<|s.extract 0 n,U 0],U n]) (by simp[ã,results79,go_sem,g]) K ⟨CJ (by rw[c.u,wY b])<|DE _ _,yd a _ _ _⟩
def B6d(s)(w:E)(h:s.size<=4000)(i:0<s.size):μ ε 39 #[ι s] w λe c=>e=π (res<|aY s.data.toList)/\á (V w.heap) w c:=by
 have b:Hid (aY s.data.toList=if fP s[0].toNat then qD s.data.toList else if iP s[0].toNat then name s.data.toList else if s[0].toNat=34 then text s.data.toList else rK s.data.toList):=by
  show _=_;rw[aY,Ka s i]
 generalize aY s.data.toList=r at*;cases g:fP s[0].toNat
 .cases m:iP s[0].toNat
  .by_cases j:s[0].toNat=34
   .rw[g,m,wY θ,wY θ,yY j]at b;have p:(((s[0].toNat:Nat):Int)==34)=τ:=by rw[j];rfl
    go_in;go_wp2_with (first|(go_at_call 74;refine(Y6 _ _).mono ?_;rintro e c ⟨rfl,rfl⟩)|(go_at_call 76;refine(JK _ _).mono ?_;rintro e c ⟨rfl,rfl⟩));refine(ŏ _ _ h i).mono ?_;rintro e f ⟨rfl,a⟩;rw[<-b.u];unfold res;obtain⟨k,t,n⟩:=r;obtain⟨d,l⟩:=qM a;have o:V w.heap<V f.heap:=by have:=a.size;simp at this;omega
    go_wp2;exact ç (by simp[ã,results39,go_sem,d,res]) K ⟨K,sX a _ _ _⟩
   .rw[g,m,wY θ,wY θ,wY j]at b;have p:(((s[0].toNat:Nat):Int)==34)=κ:=â;go_in;go_wp2_with (first|(go_at_call 74;refine(Y6 _ _).mono ?_;rintro e c ⟨rfl,rfl⟩)|(go_at_call 76;refine(JK _ _).mono ?_;rintro e c ⟨rfl,rfl⟩));refine(Ĝ _ _ h).mono ?_;rintro e f ⟨rfl,a⟩;rw[<-b.u];unfold res;obtain⟨k,t,n⟩:=r;obtain⟨d,l⟩:=qM a;have o:V w.heap<V f.heap:=by have:=a.size;simp at this;omega
    go_wp2;exact ç (by simp[ã,results39,go_sem,d,res]) K ⟨K,sX a _ _ _⟩
  .rw[g,m,wY θ,yY K]at b;go_in;go_wp2_with (first|(go_at_call 74;refine(Y6 _ _).mono ?_;rintro e c ⟨rfl,rfl⟩)|(go_at_call 76;refine(JK _ _).mono ?_;rintro e c ⟨rfl,rfl⟩));refine(Zv _ _ h).mono ?_;rintro e f ⟨rfl,a⟩;rw[<-b.u];unfold res;obtain⟨k,t,n⟩:=r;obtain⟨d,l⟩:=qM a;have o:V w.heap<V f.heap:=by have:=a.size;simp at this;omega
   go_wp2;exact ç (by simp[ã,results39,go_sem,d,res]) K ⟨K,sX a _ _ _⟩
 .rw[g,yY K]at b;go_in;go_wp2_with (go_at_call 74;refine(Y6 _ _).mono ?_;rintro e c ⟨rfl,rfl⟩);refine(ā _ _ h i).mono ?_;rintro e f ⟨rfl,a⟩;rw[<-b.u];unfold res;obtain⟨k,t,n⟩:=r;obtain⟨d,l⟩:=qM a;have o:V w.heap<V f.heap:=by have:=a.size;simp at this;omega
  go_wp2;exact ç (by simp[ã,results39,go_sem,d,res]) K ⟨K,sX a _ _ _⟩
def UD(R:List Tk×Int×Nat)(w:E)(e:Ending)(b:E):Prop:=
 ∃a c,e=π (.tuple #[Y a (Q R.1) c,.agg #[U R.2.1,U R.2.2]])/\ρ b (V w.heap) 106 3 (Y a (Q R.1) c) (Q R.1) (rows R.1)/\á (V w.heap) w b
def Yk{w:E}{a b}{e}{d}{v}{n}{f}(h:ρ w a e d v n f)(j:b<=a):ρ w b e d v n f:=by
 obtain⟨i,c⟩:=h;refine⟨i,?_⟩;obtain c|⟨g,cap,cur,hv,hg,r⟩:=c
 .grind
 .exact .inr ⟨g,cap,cur,hv,kQ j hg,r⟩
def YP{w:E}{b}{e}{d}{v}{n}{f}(h:ρ w b e d v n f):∃a c,v=Y a n c:=by
 obtain⟨rfl,rfl⟩|⟨g,i,j,k,_⟩:=h.2<;>grind
def LZ{w b:E}(e)(a)(c:á (V w.heap) w b):UD ([],e,a) w (π<|.tuple #[sN,.agg #[U e,U a]]) b:=
 ⟨none,0,K,kW _ _ _ _,c⟩
def VK{w wr:E}{a}{t}(h:á (V w.heap+1) (ω w<|γ a t) wr):
 (∀o v,a[o]?=C v->wr.cell? (J (V w.heap) o)=C v)/\(∀o,wr.frozen? (J (V w.heap) o)=κ)/\V w.heap<wr.heap.size:=by
 refine⟨λo v b=>?_,λo=>?_,?_⟩
 .rw[h.cell θ,World.cell?_alloc_new,b]
 .rw[h.frozen θ];simp
 .have:=h.size;simp at this;omega
def UZ{w wr e:E}{o h}(g:á (V w.heap+1) (w.alloc o) wr)(f:á wr.heap.size wr e)(c d):
 á (V w.heap) w ((σ (σ e (J (V w.heap) 0) c) (J (V w.heap) 1) d).alloc h):=by
 have a:=((ñ _ _).alloc (vQ _) o).trans (g.mono W);have b:=((a.trans<|f.mono a.size).setCell (p:=(J (V w.heap) 0)) θ c).setCell (p:=(J (V w.heap) 1)) θ d;exact b.alloc b.size _
def zk{w d:E}{b}{e}{c}{v}{n}{f}(h:ρ w b e c v n f)(a:á (V w.heap) w d):ρ d b e c v n f:=
 h.kept (row:=none) ⟨a.os,a.tape,a.output,a.size,λk g _=>a.block k g⟩ η
theorem Đ(w:E)(o)(x y z)(t):∀j u,[x,y,z][j]?=C u->δ (ω (w.alloc o)<|γ #[x,y,z] t) (((J (V w.heap+1) 0)).add j)=C u:=by
 intro j u b;have a:((J (V w.heap+1) 0):Addr).add j=(J (V w.heap+1) j):=by unfold Addr.add;split<;>simp_all
 simp_all
theorem ē(w:E)(x y z)(t):∀j u,[x,y,z][j]?=C u->δ (ω w<|γ #[x,y,z] t) (((J (V w.heap) 0)).add j)=C u:=by
 intro j u b;have a:((J (V w.heap) 0):Addr).add j=(J (V w.heap) j):=by unfold Addr.add;split<;>simp_all
 simp_all
def VY{e:E}{d n}{b}{c}{a}{t}(h:ρ e d 106 3 (Y b n c) n<|rows a++[U t.x,ι ⟨ξ t.text⟩,U t.at']):
 ρ e d 106 3 (Y b n c) n (rows<|a++[t]):=by rw[Qm];exact h
def mG{w wr c:E}{o b}{v}{n}{h}(a:á (V w.heap+1) (w.alloc o) wr)(f:wr.ownsRow (V w.heap+1) 106 3 v n h)
 (d:(wr.alloc b).grownBy c (Θ v)):á (V w.heap+1) (w.alloc o) c:=by
 have g:V w.heap+1<=wr.heap.size:=by have:=a.size;simpa using this
 exact(a.alloc g b).grown d â λk e=>(f.lt k e).1
def Qj{w wr f g:E}{o d e}{v}{n}{p}(b:á (V w.heap+1) (w.alloc o) wr)(a:á wr.heap.size wr f)(l:wr.ownsRow (V w.heap+1) 106 3 v n p)
 (i:((f.alloc d).alloc e).grownBy g (Θ v)):á (V w.heap+1) (w.alloc o) g:=by
 have c:V w.heap+1<=wr.heap.size:=by have:=b.size;simpa using this
 have h:=b.trans<|a.mono c;have m:=kQ c a.size;exact((h.alloc m d).alloc â e).grown i â λk j=>(l.lt k j).1
def A7f{w d:E}{o}{b}{c n}{a}{L}(h:ρ d (V w.heap+1) 106 3 (Y b (Q a+1) c) (Q a+1)<|rows<|a++[⟨6,[],L⟩])
 (g:á (V w.heap+1) (w.alloc o) d) (e f):UD (a++[⟨6,[],L⟩],0,n) w (π<|.tuple #[Y b (Q a+1) c,.agg #[U 0,U n]]) (σ (σ d (J (V w.heap) 0) e) (J (V w.heap) 1) f):=by
 refine⟨b,c,θ,?_,((((ñ _ _).alloc (vQ _) o).trans<|g.mono W).setCell θ _).setCell θ _⟩;have:=Yk (ownsRow_setCell_below (ownsRow_setCell_below h (a:=(J (V w.heap) 0)) θ e) (a:=(J (V w.heap) 1)) θ f)<|Nat.le_succ _;grind
def Tryz.m7:(prog.info? 106).map (λi=>(i.zero,i.size,i.bytes))=C (C<|.agg #[U 0,ι ⟨#[]⟩,U 0],3,32):=î
def ė(s)(w:E)(ae:s.size<=Δ):μ ε 21 #[ι s] w (UD (O8 s.data.toList) w):=by
 have l:Hid (O8 s.data.toList=if 4000<s.size then ([],2,0) else J3 (s.size+1) s.data.toList 0 []):=by show _=_;unfold O8;rw[bl]
 generalize O8 s.data.toList=a9 at*;unfold Δ at ae;by_cases al:4000<s.size
 .go_in;go_wp2;rw[l.u,yY W];exact ç (by simp[ã,results21,go_sem]) K<|LZ 2 0<|(ñ _ _).alloc (vQ _) _
 .rw[wY W]at l;go_in;go_wp2_with fail;refine(WI s 0 _ W W).mono ?_;rintro a3 a8 ⟨rfl,rfl⟩;have ab:=oX blank<|s.data.toList.drop 0;rw[List.length_drop,bl]at ab;have an:0+sp blank (s.data.toList.drop 0)<=s.size:=W;rw[R9]at l;have h0:Hid (sp blank (s.data.toList.drop<|0+sp blank (s.data.toList.drop 0))=0):=by
   have a4:=KJ blank<|s.data.toList.drop 0;rw[List.drop_drop]at a4;exact a4
  generalize 0+sp blank (s.data.toList.drop 0)=a at*;go_wp2;go_loopw [4,5] (λaj i wr=>∃(a f:Nat) (b:List Tk) (G:Option Addr) (c:Nat),a<=s.size/\i=U a/\Hid (sp blank (s.data.toList.drop a)=0)/\s.size-a<f+1/\Hid (a9=J3 (f+1) s.data.toList a b)/\Q b<=1000/\aj=Y G (Q b) c/\
   Hid (wr.ownsRow (V w.heap+1) 106 3 (Y G (Q b) c) (Q b)<|rows b)/\Hid (á (V w.heap+1) (w.alloc<|γ #[Value.int χ 0,Value.int χ 0] 25) wr)) (λ_ i _=>s.size-(intOf i).toNat);case atStart=>exact⟨a,s.size,[],none,0,W,K,h0,W,l,θ,K,kW _ _ _ _,ñ _ _⟩
  case round=>
   obtain⟨a,f,b,G,c,ha,rfl,x,hf,l,ak,rfl,m,h⟩:=hrel;have e:=l.u;rw[YT _ _ _ _ x.u,bl]at e;obtain⟨j,a7,o⟩:=VK h.u;by_cases ao:a<s.size
   .rw[wY W]at e;go_wp2_with fail;refine(B6d _ _ (kQ (zG _ _ _) W)<|by rw[ByteArray.size_extract];omega).mono ?_;rintro a3 a8 ⟨rfl,M⟩;rw[JQ];have a5:=Jt<|s.data.toList.drop a;rw[List.length_drop,bl]at a5;generalize aY (s.data.toList.drop a)=ah at*;obtain⟨k,t,n⟩:=ah;simp only at e a5;unfold res;have D:=O e;obtain⟨hc,am⟩:=qM M;have A:=(hc _ _ o).trans<|j 0 _ K;have B:=(hc _ _ o).trans<|j 1 _ K;have P:=yQ o M.size;have p:=O M;by_cases hn:n=0
    .subst hn;go_wp2_with fail;rw[D.u,yY θ];exact ç (v:=.tuple #[sN,.agg #[U 1,U (a:Int)]]) (by simp[ã,results21,go_sem,A,B,P]) K<|LZ 1 a<|UZ h.u p.u _ _
    .have aq:((n:Int)==0)=κ:=â;have F:=D.u;rw[wY hn]at F;have g:=O F;clear F D;by_cases y:Q b=1000
     .have ac:((Q b:Int)==1000)=τ:=â;rw[yY y]at g;clear y;go_wp2_with fail;rw[g.u];exact ç (v:=.tuple #[sN,.agg #[U 2,U (a:Int)]]) (by simp[ã,results21,go_sem,A,B,P]) K<|LZ 2 a<|UZ h.u p.u _ _
     .have ac:((Q b:Int)==1000)=κ:=â;rw[wY y]at g;have ap:Q b<1000:=W;clear y;obtain⟨Z,N,R,S,T⟩:=info_parts Tryz.m7;have a6:=(zk m.u p.u).alloc<|γ #[Value.int χ k,ι {data:=ξ t},Value.int χ (a:Int)] 106;have u:=O<|a6.alloc<|γ #[Value.int χ k,ι {data:=ξ t},Value.int χ (a:Int)] 106;clear a6;go_wp2_with (at_builtin;refine Ù _ K _ _ 73 K (V w.heap+1) 106 Z (.agg #[U 0,ι ⟨#[]⟩,U 0]) 3 32 underlying73 N R S T K ζ _ _ _ K u.u (J (V a8.heap+1) 0) 1 1 [U k,ι ⟨ξ t⟩,U (a:Int)] K K ?c1 ?c2 ?c3 ?c4 ?c5 ?_);case c1=>simp_all[Đ]
      case c2=>intro ai r;simp at r;obtain rfl|rfl|rfl:=r<;>rfl
      case c3=>simp only[Δ];omega
      case c4=>omega
      case c5=>simp;omega
      .intro v' a2 d q _;obtain⟨H,c2,z⟩:=YP d;rw[z]at d⊢;obtain⟨L,rfl⟩:∃L,f=L+1:=⟨f-1,W⟩;rw[R9]at g;have af:=oX blank<|s.data.toList.drop<|a+n;rw[List.length_drop,bl]at af;have x:=O<|KJ blank<|s.data.toList.drop<|a+n;rw[List.drop_drop]at x;have HO:=O<|VY (t:=⟨k,t,a⟩) d;have v:=O<|Qj h.u p.u m.u q;clear d q m h p u;go_wp2_with fail;rw[show ((a:Int)+(n:Int))=((a+n:Nat):Int) from W];refine(WI s (a+n) _ W W).mono ?_;rintro a3 ar ⟨rfl,rfl⟩;generalize ag:sp blank (s.data.toList.drop<|a+n)=aa at*;clear ag;go_wp2_with fail;go_roundw;case rel=>exact⟨a+n+aa,L,_,H,c2,W,K,x,W,g,η,θ,η,v⟩
       grind[intOf]
   .rw[yY W]at e;have g:=O e;clear e;have P:=o;obtain⟨Z,N,R,S,T⟩:=info_parts Tryz.m7;have u:=O<|m.u.alloc<|γ #[Value.int χ 6,ι {data:=#[]},Value.int χ (s.size:Int)] 106;go_wp2_with (at_builtin;refine Ù _ K _ _ 73 K (V w.heap+1) 106 Z (.agg #[U 0,ι ⟨#[]⟩,U 0]) 3 32 underlying73 N R S T K ζ _ _ _ K u.u (J wr.heap.size 0) 1 1 [U 6,ι ⟨#[]⟩,U (s.size:Int)] K K ?c1 ?c2 ?c3 ?c4 ?c5 ?_);case c1=>simp_all[ē]
    case c2=>intro ai r;simp at r;obtain rfl|rfl|rfl:=r<;>rfl
    case c3=>simp only[Δ];omega
    case c4=>omega
    case c5=>simp;omega
    .intro v' a2 d q _;obtain⟨H,c2,z⟩:=YP d;rw[z]at d⊢;have HO:=O<|VY (t:=⟨6,[],s.size⟩) d;have v:=O<|mG h.u m.u q;clear d q m h u j a7 o z;obtain⟨j,a7,o⟩:=VK v.u;have A:δ a2 (J (V w.heap) 0)=C (U 0):=j 0 _ K;have B:δ a2 (J (V w.heap) 1)=C (U 0):=j 1 _ K;clear j;go_wp2_with fail;rw[g.u];exact ç (v:=.tuple #[Y H (Q b+1) c2,.agg #[U 0,U ((0:Nat):Int)]]) (by simp[ã,results21,go_sem,A,B]) K<|A7f HO.u v.u _ _
def pL(w:E)(a:Nat)(v:υ)(T:List Ty):Prop:=∃b,ρ w a 99 4 v (Q T) b/\eN (eI w λg=>a<=g) T b
def C9e{w:E}{B c e}(l:e=V w.heap){b}{L}{d}(f:B<=V w.heap)(k:∀g,V w.heap<=g->d g)(h:0<Q L)(j:ρ w B 106 3 (Y b (Q L) c) (Q L)<|rows L):
 aH (ω w<|γ #[Y b (Q L) c,U 0,U 0,sN,sN] 78) B e (Y b (Q L) c) L d 0 ⟨0,[],[]⟩:=by
 subst l;exact⟨f,h,⟨θ,θ⟩,C7 (j.alloc _)<|wQ _,⟨k _<|vQ _,λv g a i=>by rw[World.cell?_alloc_new]at a;grind[Θ],λv g a i=>by rw[World.cell?_alloc_new]at a;cases a;simp_all[Θ]⟩,_,_,[],[],rY w _,kW _ _ _ _,kW _ _ _ _,K,K⟩
open Go.RowKit Go.Maps
def Tryz.laidOut:laidOutB ε=τ:=î
def Tryz.oo:(292:TypeId)<prog.types.size:=of_decide_eq_true î
def Tryz.nu:(match prog.underlying 292 with|C (.array _ _)|C (.struct _)=>τ|_=>κ)=τ:=î
theorem Tryz.ou:prog.keyType 292=τ:=î
def JV:Keyed ε 292:=Keyed.of_law<|deep_law_laid Tryz.laidOut (m:=2) W Tryz.oo î Tryz.nu
theorem Tryz.lr:prog.cellsOf 292=2:=î
theorem Tryz.oe:prog.cellsOf 3=1:=î
def kp(a b:Int):Lit:=.string<|keyBytes [.int χ a,.int χ b]
def DT(a b)(f:(Lit.int χ a).wf=τ)(g:(Lit.int χ b).wf=τ):keyOf ε 292 (.agg #[.int χ a,.int χ b])=C (kp a b):=by
 have c:2<=prog.types.size+1:=of_decide_eq_true î;obtain⟨m,e⟩:=Nat.exists_eq_add_of_le c;have d:(Value.agg #[.int χ a,.int χ b]).formed ε 292=τ:=by simp[Value.formed,underlying292,Tryz.lr]
 unfold keyOf;simp only[underlying292,Tryz.ou,d,Bool.and_self,if_true];rw[e,show 2+m=m+1+1 by omega];simp_all[Program.keyLits,underlying278,underlying3,Tryz.lr,Tryz.oe,Value.cells,kp]
def Tv{a b c d}(g:(Lit.int χ a).wf=τ)(i:(Lit.int χ b).wf=τ)(j:(Lit.int χ c).wf=τ)(k:(Lit.int χ d).wf=τ)(h:kp a b=kp c d):a=c/\b=d:=by
 have e:=DT a b g i;have f:=DT c d j k;rw[h]at e;have:=JV.inj e f;grind
def U7(a:Nat)(h:a<1000000000000):(Lit.int χ a).wf=τ:=by
 grind[Lit.wf,IntKind.min,IntKind.max,IntKind.bits,IntKind.signed]
abbrev Dt:=DataW Unit
def zi:Dt:=.lit<|.int χ 0
def gX(D:Dt)(a b:Nat):Dt:=D.atKey (kp a b) zi
def wA:Dt->Bool
 |.lit (.int _ c)=>c==0
 |_=>τ
def wJ(N:Nat):List (Nat×Nat):=(List.range N).flatMap λp=>(List.range N).map λq=>(p,q)
theorem Fy(N):∀l:List Nat,(l.map λ_=>N).sum=Q l*N
 |[]=>θ
 |a::l=>by rw[bY,List.sum_cons,Fy N l,jQ,Nat.add_mul];omega
theorem Xf(N):Q (wJ N)=N*N:=by
 have:=Fy N<|List.range N;simp_all[wJ]
def Zk{N a b}(c:a<N)(d:b<N):(a,b)∈wJ N:=by
 grind[wJ]
def free(N:Nat)(D:Dt):Nat:=(wJ N).countP λx=>wA<|gX D x.1 x.2
def VE{c:Type}{p q}:∀{l:List c} {x},(∀y∈l,q y=τ->p y=τ)->x∈l->p x=τ->q x=κ->l.countP q+1<=l.countP p
 |a::l,x,h,b,d,e=>by
  have g:l.countP q<=l.countP p:=List.countP_mono_left λy f=>h y η;obtain rfl|b:=jW.1 b
  .grind
  .have:=VE (λy f=>h y η) b d e;grind
theorem Iy{D:Dt}(c:IsMap D){a b:Nat}(d:Dt):gX (D.put (kp a b) d) a b=d:=atKey_put_same c (show WideAt.IsKeyLit (kp a b) from trivial) d zi
theorem MA{D}{a b p q}(c:a<1000000000000)(f:b<1000000000000)(g:p<1000000000000)(i:q<1000000000000)(d:Dt)(h:¬(p=a/\q=b)):gX (D.put (kp a b) d) p q=gX D p q:=by
 refine atKey_put_other (λe=>h ?_) d zi;have:=Tv (U7 p g) (U7 q i) (U7 a c) (U7 b f) e;omega
def Wy{N}(j:N<=4000){D:Dt}(i:IsMap D){a b}(c:a<N)(e:b<N)(g:wA (gX D a b)=τ)(d)(k:wA d=κ):free N (D.put (kp a b) d)+1<=free N D:=by
 refine VE (λy f l=>?_) (Zk c e) g (by grind[wA,gX,Iy]);obtain⟨p,q⟩:=y;by_cases h:p=a/\q=b
 .grind
 .simp only[wJ,List.mem_flatMap,kZ,List.mem_range,Prod.mk.injEq]at f;grind[MA]
def QS(N:Nat)(T:List Ty)(D:Dt):Prop:=∀p q c,p<N->q<N->gX D p q=.lit (.int χ c)->c=0\/(p<Q T/\q<Q T/\((c=1/\F7 (tr T p) (tr T q)=τ)\/(c=2/\F7 (tr T p) (tr T q)=κ)))
structure gT(w:E)(mb N:Nat)(T:List Ty)(D:Dt):Prop where
 fq:N<=4000
 len:Q T<=N
 jg:QS N T D
 isMap:IsMap D
 own:∃n,w.ownsMap ε 292 (plainElem ε 3) mb n D/\n+free N D<=N*N
theorem gT.P{S}{w w'}{e N}{T}{D}(h:gT w e N T D)(k:I S w w')(l:¬S e):gT w' e N T D:=by
 obtain⟨a,b,c,d,n,⟨g,f,i,j⟩,r⟩:=h;exact⟨a,b,c,d,n,⟨g,f,by rw[k.block e (aG i) l];omega,j⟩,r⟩
theorem gT.lt{w}{a N}{T}{D}(h:gT w a N T D):a<V w.heap:=by
 obtain⟨n,h,_⟩:=h.own;exact h.lt
theorem gT.tag{w}{a N}{T}{D}(h:gT w a N T D):∀b e c,w.heap[a]?≠C (γ b e c):=by
 obtain⟨n,⟨f,d,g,i⟩,r⟩:=h.own;grind
def Ų(w:E)(N)(a:N<=4000):gT (ω w<|.map #[] 0) (V w.heap) N [] (.map []):=by
 refine⟨a,wQ _,λp q c _ _ h=>?_,isMap_empty,0,World.ownsMap_made w _ _ _,?_⟩
 .left;have:gX (.map []) p q=zi:=K;grind[zi]
 grind[List.countP_le_length,wA,gX,wJ,Xf,free]
def gT.more{w}{b N}{T}{D}(h:gT w b N T D)(j:aX T)(a)(f:Q (T++a)<=N):gT w b N (T++a) D:=by
 refine⟨h.fq,f,λp q c g i e=>?_,h.isMap,h.own⟩;obtain d|⟨d,h2,h3⟩:=h.jg p q c g i e<;>grind[vA]
theorem Tu{D}{a b}{c}(h:gX D a b=.lit (.int χ c)):wA (gX D a b)=(c==0):=by rw[h];rfl
def gT.put{w i}{e N n}{T}{D}{a b}(h:gT w e N T D)(s:a<Q T)(t:b<Q T)(o:wA (gX D a b)=τ)(r)(v:F7 (tr T a) (tr T b)=r)(u:n+free N D<=N*N)
 (k:i.ownsMap ε 292 (plainElem ε 3) e (n+1)<|D.put (kp a b)<|.lit<|.int χ<|if r then 1 else 2):gT i e N T (D.put (kp a b)<|.lit<|.int χ<|if r then 1 else 2):=by
 have f:=h.fq;have j:=h.len;refine⟨f,j,λp q c l m d=>?_,h.isMap.put _ _,n+1,k,?_⟩
 .by_cases g:p=a/\q=b
  .obtain⟨rfl,rfl⟩:=g;rw[Iy h.isMap]at d;grind
  .rw[MA W W W W _ g]at d;exact h.jg p q c l m d
 .have:=Wy f h.isMap W W o (.lit<|.int χ<|if r then 1 else 2) (by cases r<;>rfl);omega
structure dY(w:E)(lb mb N:Nat)(T:List Ty)(D:Dt):Prop where
 ok:aX T
 gm:gT w mb N T D
 blk:∃yv yx,w.heap[lb]?=C (γ #[yv,.map<|C mb] 169 (0,0))/\ρ w lb 99 4 yv (Q T) yx/\eN (eI w λ_=>True) T yx
theorem dY.P{S}{w w'}{a c N}{T}{D d}(h:dY w a c N T D)(b:I S w w')(o:gT w' c N T d)
 (q:∀k f e,w.heap[k]?=C (γ f e (0,0))->(e=169\/e=99\/e=139\/e=3)->¬S k):dY w' a c N T d:=by
 obtain⟨l,_,r,s,i,j,p⟩:=h;refine⟨l,o,r,s,?_,A3 j b λg m x=>?_,p.imp<|eI.P b (λg _ _ t n=>?_) λ_ _ _=>trivial⟩
 .rw[b.block a (aG i)<|q a _ _ i<|.inl K];omega
 .obtain⟨_,f,n⟩:=A9 j g m;grind
 grind
theorem dY.y{w c}{b mb N}{T}{D}(h:dY w b mb N T D)(a:I No w c):dY c b mb N T D:=h.P a (h.gm.P a λx=>x) λ_ _ _ _ _ x=>x
theorem dY.alloc{w}{a b N}{T}{D}(h:dY w a b N T D)(o):dY (w.alloc o) a b N T D:=h.y<|ν _ _ _
def dY.jg{w b}{d a N}{T}{D c}(h:dY w d a N T D)(f:I (λk=>k=a) w b)(i:gT b a N T c):dY b d a N T c:=
 h.P f i (λk l e g _ x=>by have j:=x;subst j;exact h.gm.tag _ _ _ g)
def dY.fq{w}{a b N}{T}{D}(h:dY w a b N T D):Q T<=4000:=kQ h.gm.len h.gm.fq
theorem dY.cell{w}{a r N}{T}{D}(h:dY w a r N T D):∃b c,δ w (J a 0)=C (Y b (Q T) c)/\δ w (J a 1)=C (.map<|C r)/\a<V w.heap/\(∀o,w.frozen? (J a o)=κ)/\
 ∀i (m),∃g d e k l,b=C (J g 0)/\g<V w.heap/\Q T<=c/\c<=Δ/\δ w (J g<|i*4)=C (.int χ T[i].x)/\δ w (J g<|i*4+1)=C (Y d (Q T[i].eo) e)/\δ w (J g<|i*4+2)=C (Y k (Q T[i].M) l)/\
  δ w (J g<|i*4+3)=C (.int χ T[i].fh)/\ρ w 0 139 2 (Y d (Q T[i].eo) e) (Q T[i].eo) (I0 T[i].eo)/\ρ w 0 3 1 (Y k (Q T[i].M) l) (Q T[i].M) (C8 T[i].M):=by
 obtain⟨B,_,H,L,f,q,x⟩:=h;obtain⟨b,c,rfl⟩:=B8 q;have v:=(aG f);refine⟨b,c,cr f K,cr f K,v,λo=>frozen_of_row w a o _ _ f,λi m=>?_⟩;obtain⟨g,rfl,_,u,s,t,j⟩:=D5 q W;obtain⟨G,y,z⟩:=eN.at (λ_ _ h=>h.len) i m x;obtain⟨A,F,rfl,n,p,_⟩:=y;obtain⟨d,e,rfl⟩:=B8 n;obtain⟨k,l,rfl⟩:=B8 p;refine⟨g,d,e,k,l,K,u,s,t,j _ _ ?_,j _ _ ?_,j _ _ ?_,j _ _ ?_,n,p⟩
 .have:=z 0 W;grind
 .grind
 .grind
 grind
def lV(w:E)(b N:Nat)(T:List Ty)(D:Dt)(m:Nat)(r:Bool)(e:Ending)(c:E):Prop:=
 e=π (.bool r)/\I (λk=>k=b) w c/\∃a,gT c b N T a/\∀p q,p<N->q<N->m<p+q->gX a p q=gX D p q
def ŝ{T}{i}(a:aX T)(b)(h:T[i].x≠10):jJ (tr T i)=uO T[i].x:=by
 simp_all[X7,jJ,wY]
def ŋ{T}{i}(b:aX T)(c)(h:T[i].x=10):jJ (tr T i)=lN (T[i].M.map λx=>tr T x.toNat):=by
 have a:=b i c;have d:T[i].eo=[]:=by
  obtain a|a|a|a|a:=a
  .omega
  .omega
  .omega
  .omega
  .grind
 simp_all[X7,jJ,yY,wY]
theorem Ja:∀(l) (t),lN (l++[t])=lN l|||jJ t
 |[],t=>by simp[lN]
 |a::l,t=>by rw[jZ,lN,lN,Ja l t,Nat.or_assoc]
theorem yo(a b:Nat)(c:a<128)(d:b<128):bits BinOp.or χ a b=((a|||b:Nat)):=by
 have h:=Nat.or_lt_two_pow (n:=7) c d;have e:(BitVec.ofNat IntKind.i64.bits a|||BitVec.ofNat IntKind.i64.bits b).toNat=a|||b:=by
  rw[BitVec.toNat_or,BitVec.toNat_ofNat,BitVec.toNat_ofNat,Nat.mod_eq_of_lt<|by grind[IntKind.bits],Nat.mod_eq_of_lt<|by grind[IntKind.bits]]
 grind[bits,IntKind.wrap,IntKind.bits,IntKind.signed]
def ŀ{s mb N}{T}{D}:∀(i:Nat) (w),i<Q T->dY w s mb N T D->
 μ ε 146 #[pV s,U i] w λe w'=>e=π (U<|jJ<|tr T i)/\I No w w':=by
 intro i;induction i using Nat.strongRecOn with
 |ind i ih=>
  intro w d h;have f:=h.ok;obtain⟨ad,a9,aa,ab,ah,fz,Z⟩:=h.cell;obtain⟨ac,fa,fc,la,t,rfl,hg,ae,S,x0,x1,x2,x3,aj,a7⟩:=Z i d;have m:=O<|ŝ f d;have n:=O<|ŋ f d;have k:=O (f i d).lg;have B:=O h;have l:=O a7;unfold Δ at S;generalize T[i].x=a6 at*;generalize T[i].fh=ai at*;generalize ag:T[i].M=a at*;by_cases o:a6=10
  .subst o;have hu:=n.u K;rw[hu];have a5:Hid (∀j (p:j<Q a),∃b,la=C (J b 0)/\b<V w.heap/\Q a<=t/\t<=Δ/\δ w (J b j)=C (U a[j])):=by
    intro j p;obtain⟨b,G,_,H,L,M,P⟩:=D5 l.u W;exact⟨b,G,H,L,M,P j _<|by grind[C8]⟩
   go_in;go_wp2;go_loopw [37,6] (λv a8 wr=>∃j:Nat,j<=Q a/\v=U j/\a8=U (lN ((a.take j).map λx=>tr T x.toNat):Int)/\Hid (I No w wr)) (λv _ _=>Q a-(intOf v).toNat);case atStart=>exact⟨0,wQ _,K,Ω,ν _ _ _⟩
   case round=>
    obtain⟨j,p,rfl,rfl,c⟩:=hrel;by_cases g:j<Q a
    .obtain⟨b,rfl,a2,af,a4,y0⟩:=a5.u j g;have y1:wr.cell? (J b j)=C (U a[j]):=by rw[Ë<|c.u.block b a2 λx=>x];exact y0
     have hx:=k.u a[j]<|mQ g;obtain⟨z,r⟩:∃z:Nat,a[j]=(z:Int):=⟨a[j].toNat,W⟩;have F:Hid (lN ((a.take<|j+1).map λx=>tr T x.toNat)=lN ((a.take j).map λx=>tr T x.toNat)|||jJ (tr T z)):=by
      show _=_;rw[nQ g,zY,List.map_singleton,Ja,r];simp
     rw[r]at y1 hx;have A:=ih z W wr W<|B.u.y c.u;unfold Δ at a4;have u:=O<|TU<|(a.take j).map λx=>tr T x.toNat;have y:=O<|KK<|tr T z;generalize lN ((a.take j).map λx=>tr T x.toNat)=t1 at*;generalize jJ (tr T z)=t2 at*;go_wp2_with fail;refine A.mono ?_;rintro e ak ⟨rfl,R⟩;go_wp2;go_roundw;case rel=>exact⟨j+1,W,ï,by rw[F.u,yo _ _ u.u y.u],c.u.trans R Ξ⟩
     grind[intOf]
    .have a3:j=Q a:=W;subst a3;rw[vZ]at*;go_wp2;go_ret;exact⟨K,c.u⟩
  .have q:=m.u o;rw[q];clear q m n k l;go_in;go_wp2;all_goals go_ret
   all_goals exact⟨M9<|by simp_all [uO],ν _ _ _⟩
def mI(c d N:Nat)(T:List Ty)(m:Nat):Prop:=∀(a b) (w) (D),a+b+1<=m->a<Q T->b<Q T->dY w c d N T D->
 μ ε 255 #[pV c,U a,U b] w (lV w d N T D (a+b)<|F7 (tr T a)<|tr T b)
structure fU(w:E)(q:Nat)(v:υ)(e:TypeId):Prop where
 at':w.heap[q]?=C (γ #[v] e (0,0))
theorem fU.cell{w}{q}{v}{e}(h:fU w q v e):δ w (J q 0)=C v:=cr h.at' K
theorem fU.lt{w}{q}{v}{e}(h:fU w q v e):q<V w.heap:=(aG h.at')
def fU.jg{w b}{q a N}{T}{D}{v}{e}(h:fU w q v e)(d:gT w a N T D)(c:I (λk=>k=a) w b):fU b q v e:=
 ⟨by rw[c.block q h.lt λx=>by have f:=x;subst f;exact d.tag _ _ _ h.at'];exact h.at'⟩
theorem fU.y{w a}{q}{v}{e}(h:fU w q v e)(b:I No w a):fU a q v e:=⟨by rw[b.block q h.lt λx=>x];exact h.at'⟩
def WW(w:E)(v)(e):fU (ω w<|γ #[v] e) (V w.heap) v e:=⟨rY w _⟩
theorem fU.alloc{w}{q}{v}{e}(h:fU w q v e)(o):fU (w.alloc o) q v e:=h.y<|ν _ _ _
def D6{w:E}{b}{a}{ls}(h:ρ w 0 3 1 (Y b (Q ls) a) (Q ls)<|C8 ls){j}(c):∃g,b=C (J g 0)/\g<V w.heap/\Q ls<=a/\a<=Δ/\δ w (J g j)=C (U ls[j]):=by
 grind[D5,C8]
def Y5{w d}{a c n b N}{T}{D}{e}{v}{f}(h:ρ w a e c v n f)(m:gT w b N T D)(i:I (λk=>k=b) w d):ρ d a e c v n f:=
 A3 h i λg j x=>by
  have o:=x;subst o;obtain⟨_,p,l⟩:=A9 h g j;exact m.tag _ _ _ l
section
variable{a b N:Nat}{T:List Ty}
def B4d(m)(g:mI a b N T m)(w)(D)(h:dY w a b N T D)(k c f d)(n:k<Q T)(i:c<Q T)(p:k+c+1<=m)(o:fU w f (pV a) 93)(q:fU w d (U c) 3):
 μ ε 282 #[U k,pV f,pV d] w (lV w b N T D (k+c)<|!F7 (tr T k) (tr T c)):=by
 have H:=g k c w D p n i h;have s:=o.cell;have t:=q.cell;generalize F7 (tr T k) (tr T c)=r at*;go_in;go_wp2_with fail;refine H.mono ?_;rintro e u ⟨rfl,j,l⟩;go_wp2;go_ret;exact⟨K,j,l⟩
def B3d(m)(g:mI a b N T m)(w)(D)(h:dY w a b N T D)(k c f d)(n:k<Q T)(i:c<Q T)(p:c+k+1<=m)(o:fU w f (pV a) 93)(q:fU w d (U c) 3):
 μ ε 283 #[U k,pV f,pV d] w (lV w b N T D (c+k)<|F7 (tr T c)<|tr T k):=by
 have H:=g c k w D p i n h;have s:=o.cell;have t:=q.cell;generalize F7 (tr T c) (tr T k)=r at*;go_in;go_wp2_with fail;refine H.mono ?_;rintro e u ⟨rfl,j,l⟩;go_wp2;go_ret;exact⟨K,j,l⟩
end
structure cH(w:E)(mb N:Nat)(T:List Ty)(D:Dt)(m:Nat)(w':E):Prop where
 P:I (λk=>k=mb) w w'
 jg:∃D',gT w' mb N T D'/\∀p q,p<N->q<N->m<=p+q->gX D' p q=gX D p q
theorem cH.refl{w}{b a N}{T}{D}(h:dY w b a N T D)(m):cH w a N T D m w:=⟨I.refl _ _,D,h.gm,λ_ _ _ _ _=>K⟩
def cH.lx{w d}{c b N}{T}{D}{m}(h:cH w b N T D m d)(g:dY w c b N T D):∃a,dY d c b N T a/\∀p q,p<N->q<N->m<=p+q->gX a p q=gX D p q:=by
 obtain⟨a,e,f⟩:=h.jg;exact⟨a,g.jg h.P e,f⟩
def cH.after{w f g}{a N}{T}{D b}{m m1}{r}{e}(h:cH w a N T D m f)(o:∀p q,p<N->q<N->m<=p+q->gX b p q=gX D p q)(t:m1+1<=m)(k:lV f a N T b m1 r e g):cH w a N T D m g:=by
 obtain⟨_,j,i,l,n⟩:=k;exact⟨h.P.trans j Ξ,i,l,λp q c d s=>(n p q c d W).trans<|o p q c d s⟩
theorem cH.alloc{w b}{a N}{T}{D}{m}(h:cH w a N T D m b)(o):cH w a N T D m (b.alloc o):=by
 obtain⟨c,d,e⟩:=h.jg;exact⟨h.P.trans (ν No _ _) å,c,d.P (ν No _ _) λx=>x,e⟩
def SE{a:Type}{p}{l:List a}{j}(b):(l.take<|j+1).any p=((l.take j).any p||p l[j]):=by
 grind[nQ]
section
variable{b a N:Nat}{T:List Ty}
def wj(m)(IH:mI b a N T m)(w)(D)(h:dY w b a N T D)(Z)(lc)(c)(M:ρ w 0 3 1 (Y Z (Q c) lc) (Q c)<|C8 c)(d s q)(hb:d<Q T)(H:∀x∈c,0<=x/\x<Q T/\x+d+1<=m)
 (L:fU w s (pV b) 93) (P:fU w q (U d) 3):
 μ ε 300 #[Y Z (Q c) lc,.func (.func 282) #[] #[pV s,pV q]] w λe w'=>
  (∃r,e=π (U r)/\decide (0<=r)=c.any λx=>!F7 (tr T x.toNat) (tr T d))/\cH w a N T D m w':=by
 have i:=O h;have HO:=O M;have a2:=O L;have a3:=O P;have HI:=O H;clear h M L P H;go_in;go_wp2;go_loopw [8] (λv wr=>∃j:Nat,j<=Q c/\v=U (j:Int)/\Hid ((c.take j).any (λx=>!F7 (tr T x.toNat) (tr T d))=κ)/\Hid (cH w a N T D m wr)) (λv _=>Q c-(intOf v).toNat);case atStart=>exact⟨0,wQ _,K,Ω,cH.refl i.u m⟩
 case round=>
  obtain⟨j,hj,rfl,t,f⟩:=hrel;by_cases l:j<Q c
  .obtain⟨a8,rfl,hg,a9,a6,y0⟩:=D6 (Y5 HO.u i.u.gm f.u.P) l;have S:=HI.u c[j]<|mQ l;obtain⟨z,p⟩:∃z:Nat,c[j]=(z:Int):=⟨c[j].toNat,W⟩;have B:=O<|SE (p:=λx:Int=>!F7 (tr T x.toNat) (tr T d)) l;have y:=O<|mQ l;simp only[p,tQ]at B y;rw[p]at y0 S;obtain⟨D1,R,G⟩:=f.u.lx i.u;have g:=B4d m IH wr D1 R z d s q W hb W (a2.u.jg i.u.gm f.u.P)<|a3.u.jg i.u.gm f.u.P;have u:=O G;unfold Δ at a6;have F:=O (show z+d+1<=m by omega);clear p S R G;have A:Hid (∀r,r=(!F7 (tr T z) (tr T d))->(∃x∈c,(!F7 (tr T x.toNat) (tr T d))=τ)\/r=κ):=by
    intro r o;cases r
    .simp
    .exact .inl ⟨_,y.u,η⟩
   generalize o:(!F7 (tr T z) (tr T d))=r at B g;have a4:=O<|A.u r o.symm;clear o A;cases r
   .go_wp2_with fail;refine g.mono ?_;clear g;rintro e a7 k;have n:=O<|f.u.after u.u (by have:=F.u;omega) k;obtain⟨rfl,-,-⟩:=k;go_wp2;go_roundw;case rel=>exact⟨j+1,W,ï,η,n.u⟩
    grind[intOf]
   .go_wp2_with fail;refine g.mono ?_;clear g;rintro e a7 k;have n:=O<|f.u.after u.u (by have:=F.u;omega) k;obtain⟨rfl,-,-⟩:=k;go_wp2;go_ret;refine⟨⟨_,K,?_⟩,n.u⟩;obtain⟨x,aa,ab⟩|h0:=a4.u<;>grind
  .have a5:j=Q c:=W;subst a5;rw[vZ]at t;go_wp2;go_ret;exact⟨⟨_,K,by rw[t.u];simp⟩,f.u⟩
def xm(m)(q:mI b a N T m)(w)(D)(h:dY w b a N T D)(f)(g)(c)(o:ρ w 0 3 1 (Y f (Q c) g) (Q c)<|C8 c)(d j i)(s:d<Q T)(l:∀x∈c,0<=x/\x<Q T/\x+d+1<=m)
 (n:fU w j (pV b) 93) (p:fU w i (U d) 3):
 μ ε 281 #[Y f (Q c) g,.func (.func 282) #[] #[pV j,pV i]] w λe u=>
  e=π (.bool<|c.any λx=>!F7 (tr T x.toNat) (tr T d))/\cH w a N T D m u:=by
 have H:=wj m q w D h f g c o d j i s l n p;clear h o n p l;generalize (c.any λx=>!F7 (tr T x.toNat) (tr T d))=r at*;go_in;go_wp2_with fail;refine H.mono ?_;clear H;rintro e y ⟨⟨k,rfl,v⟩,t⟩;go_wp2;all_goals go_ret
 all_goals exact⟨F9 Ω,t⟩
def wo(m)(IH:mI b a N T m)(w)(D)(h:dY w b a N T D)(Z)(lc)(c)(M:ρ w 0 3 1 (Y Z (Q c) lc) (Q c)<|C8 c)(d s q)(hb:d<Q T)(H:∀x∈c,0<=x/\x<Q T/\x+d+1<=m)
 (L:fU w s (pV b) 93) (P:fU w q (U d) 3):
 μ ε 300 #[Y Z (Q c) lc,.func (.func 283) #[] #[pV s,pV q]] w λe w'=>
  (∃r,e=π (U r)/\decide (0<=r)=c.any λx=>F7 (tr T d)<|tr T x.toNat)/\cH w a N T D m w':=by
 have i:=O h;have HO:=O M;have a2:=O L;have a3:=O P;have HI:=O H;clear h M L P H;go_in;go_wp2;go_loopw [8] (λv wr=>∃j:Nat,j<=Q c/\v=U (j:Int)/\Hid ((c.take j).any (λx=>F7 (tr T d)<|tr T x.toNat)=κ)/\Hid (cH w a N T D m wr)) (λv _=>Q c-(intOf v).toNat);case atStart=>exact⟨0,wQ _,K,Ω,cH.refl i.u m⟩
 case round=>
  obtain⟨j,hj,rfl,t,f⟩:=hrel;by_cases l:j<Q c
  .obtain⟨a8,rfl,hg,a9,a6,y0⟩:=D6 (Y5 HO.u i.u.gm f.u.P) l;have S:=HI.u c[j]<|mQ l;obtain⟨z,p⟩:∃z:Nat,c[j]=(z:Int):=⟨c[j].toNat,W⟩;have B:=O<|SE (p:=λx:Int=>F7 (tr T d)<|tr T x.toNat) l;have y:=O<|mQ l;simp only[p,tQ]at B y;rw[p]at y0 S;obtain⟨D1,R,G⟩:=f.u.lx i.u;have g:=B3d m IH wr D1 R z d s q W hb W (a2.u.jg i.u.gm f.u.P)<|a3.u.jg i.u.gm f.u.P;have u:=O G;unfold Δ at a6;have F:=O (show z+d+1<=m by omega);clear p S R G;have A:Hid (∀r,r=(F7 (tr T d)<|tr T z)->(∃x∈c,(F7 (tr T d)<|tr T x.toNat)=τ)\/r=κ):=by
    intro r o;cases r
    .simp
    .exact .inl ⟨_,y.u,η⟩
   generalize o:(F7 (tr T d)<|tr T z)=r at B g;have a4:=O<|A.u r o.symm;clear o A;cases r
   .go_wp2_with fail;refine g.mono ?_;clear g;rintro e a7 k;have n:=O<|f.u.after u.u (by have:=F.u;omega) k;obtain⟨rfl,-,-⟩:=k;go_wp2;go_roundw;case rel=>exact⟨j+1,W,ï,η,n.u⟩
    grind[intOf]
   .go_wp2_with fail;refine g.mono ?_;clear g;rintro e a7 k;have n:=O<|f.u.after u.u (by have:=F.u;omega) k;obtain⟨rfl,-,-⟩:=k;go_wp2;go_ret;refine⟨⟨_,K,?_⟩,n.u⟩;obtain⟨x,aa,ab⟩|h0:=a4.u<;>grind
  .have a5:j=Q c:=W;subst a5;rw[vZ]at t;go_wp2;go_ret;exact⟨⟨_,K,by rw[t.u];simp⟩,f.u⟩
def xr(m)(q:mI b a N T m)(w)(D)(h:dY w b a N T D)(f)(g)(c)(o:ρ w 0 3 1 (Y f (Q c) g) (Q c)<|C8 c)(d j i)(s:d<Q T)(l:∀x∈c,0<=x/\x<Q T/\x+d+1<=m)
 (n:fU w j (pV b) 93) (p:fU w i (U d) 3):
 μ ε 281 #[Y f (Q c) g,.func (.func 283) #[] #[pV j,pV i]] w λe u=>
  e=π (.bool<|c.any λx=>F7 (tr T d)<|tr T x.toNat)/\cH w a N T D m u:=by
 have H:=wo m q w D h f g c o d j i s l n p;clear h o n p l;generalize (c.any λx=>F7 (tr T d)<|tr T x.toNat)=r at*;go_in;go_wp2_with fail;refine H.mono ?_;clear H;rintro e y ⟨⟨k,rfl,v⟩,t⟩;go_wp2;all_goals go_ret
 all_goals exact⟨F9 Ω,t⟩
end
def SP:∀(L) (k) (h) (j),j<2->(I0 L)[2*k+j]?=(O0 L[k])[j]?
 |[],k,h,_,_=>η
 |t::r,0,_,j,a=>by
  grind[I0,O0]
 |t::r,k+1,h,j,a=>by
  simp only[I0,List.flatMap_cons,List.getElem_cons_succ];rw[List.getElem?_append_right<|by grind[O0]];have:=SP r k η j a;rw[<-this];grind[O0,I0]
def Y8{w:E}{c}{b}{a}(h:ρ w 0 139 2 (Y c (Q a) b) (Q a)<|I0 a){j}(e):∃g,c=C (J g 0)/\g<V w.heap/\Q a<=b/\b<=Δ/\
 δ w (J g<|j*2)=C (ι ⟨ξ a[j].1⟩)/\δ w (J g<|j*2+1)=C (U a[j].2):=by
 obtain⟨f,i,_,k,l,m,d⟩:=D5 h W;refine⟨f,i,k,l,m,?_,?_⟩
 .have:=SP a j e 0 W;rw[Nat.mul_comm];exact d _ _ this
 .have:=SP a j e 1 W;rw[Nat.mul_comm];exact d _ _ this
section
variable{d c N:Nat}{T:List Ty}
def Qq(w:E)(a b:bZ)(x)(f)(g:δ w (J f 0)=C (ι ⟨ξ a⟩)):
 μ ε 303 #[.agg #[ι ⟨ξ b⟩,U x],pV f] w λe i=>e=π (.bool<|b==a)/\I No w i:=by
 have j:=Ü w _ g;by_cases h:b=a
 .subst h;go_in;go_wp2;go_ret;exact⟨F9 θ,ν _ _ _⟩
 .go_in;go_wp2;go_ret;exact⟨F9 θ,ν _ _ _⟩
def RL(a:List<|bZ×Int)(b:bZ)(r:Int):Prop:=(∃k,∃f:k<Q a,r=k/\a[k].1=b/\∀i (e),i<k->a[i].1≠b)\/(r=-1/\∀p∈a,p.1≠b)
theorem RI{b}{f:bZ×Int->Tr}:∀{a:List (bZ×Int)},(∀p∈a,p.1≠b)->I8 b (a.map (·.1)) (a.map f)=none
 |[],_=>K
 |p::a,h=>by
  rw[bY,bY,I8,wY<|h p θ];exact RI λq e=>h q η
theorem OT{b}{f:bZ×Int->Tr}:∀{a:List (bZ×Int)} {k} (h:k<Q a),a[k].1=b->(∀i (l:i<Q a),i<k->a[i].1≠b)->I8 b (a.map (·.1)) (a.map f)=C (f a[k])
 |[],_,h,_,_=>η
 |p::a,0,_,e,_=>by
  simp_all[bY,I8,yY]
 |p::a,k+1,h,e,g=>by
  have j:p.1≠b:=g 0 θ W;rw[bY,bY,I8,wY j];exact OT η e (λi l m=>g (i+1) W W)
def Js(k:Nat)(cf:∀(t) (s:E),(callFunc k t).run ε s=.ok (.enter k t) s)(w)(y)(z)(a)(R:ρ w 0 139 2 (Y y (Q a) z) (Q a)<|I0 a)(b)(D)(Z:∀u,I No w u->∀B x,μ ε k #[.agg #[ι ⟨B.toArray⟩,U x],pV D] u λe p=>e=π (.bool<|B==b)/\I No u p):
 μ ε 216 #[Y y (Q a) z,.func (.func k) #[] #[pV D]] w λe p=>
  (∃r,e=π (U r)/\RL a b r)/\I No w p:=by
 have G:=O R;have H:=O Z;go_in;go_wp2;go_loopw [8] (λv wr=>∃j:Nat,j<=Q a/\v=U j/\Hid (∀i (g:i<Q a),i<j->a[i].1≠b)/\Hid (I No w wr)) (λv _=>Q a-(intOf v).toNat);case atStart=>exact⟨0,wQ _,K,λ_ _ h=>W,I.refl _ _⟩
 case round=>
  obtain⟨j,hj,rfl,l,f⟩:=hrel;by_cases A:j<Q a
  .obtain⟨a3,rfl,hg,a5,P,y0,y1⟩:=Y8 (A3 G.u f.u Ξ) A;have m:=H.u wr f.u a[j].1 a[j].2;have F:Hid (∀r,r=(a[j].1==b)->(r=τ->a[j].1=b)/\(r=κ->a[j].1≠b)):=by
    rintro r rfl;exact⟨λh=>η,λh=>η⟩
   unfold Δ at P;generalize hr:(a[j].1==b)=r at m;have q:=O<|F.u r hr.symm;generalize a[j].2=fv at*;generalize hx:(⟨ξ a[j].1⟩:ByteArray)=bx at*;cases r
   .go_wp2;refine m.mono ?_;rintro e a2 ⟨rfl,o⟩;have n:=O<|f.u.trans o Ξ;go_wp2;go_roundw;case rel=>
     refine⟨j+1,W,ï,λi g a4=>?_,n.u⟩;by_cases L:i=j
     .subst L;exact q.u.2 trivial
     .exact l.u i g W
    grind[intOf]
   .go_wp2;refine m.mono ?_;rintro e a2 ⟨rfl,o⟩;have n:=O<|f.u.trans o Ξ;go_wp2;go_ret;exact⟨⟨_,K,.inl ⟨j,A,K,q.u.1 trivial,l.u⟩⟩,n.u⟩
  .have M:j=Q a:=W;subst M;go_wp2;go_ret;refine⟨⟨_,K,.inr ⟨K,λa6 S=>?_⟩⟩,f.u⟩;obtain⟨i,g,rfl⟩:=List.mem_iff_getElem.1 S;exact l.u i g g
def S8(T:List Ty)(a:List<|bZ×Int)(p:bZ×Int):Bool:=match I8 p.1 (a.map (·.1)) (a.map λq=>tr T q.2.toNat) with
 |none=>κ
 |C x=>F7 x<|tr T p.2.toNat
def I4{w a b}{D}{m q o}{v}(i:cH w c N T D m a)(g:I (λk=>k=c) a b)(h:δ a (J q o)=C v):δ b (J q o)=C v:=by
 obtain⟨p,e,_⟩:=i.jg;have j:q≠c:=by
  intro l;subst l;obtain⟨n,⟨s,r,f,_⟩,_⟩:=e.own;simp[δ,f]at h
 rw[Ë<|g.block q (Ü a _ h) j];omega
def cH.drewN{w a}{D}{m}(h:cH w c N T D m a)(n):cH w c N T D m (a.drewN n):=by
 obtain⟨b,e,f⟩:=h.jg;exact⟨h.P.trans (I.drewN No _ n) å,b,e.P (I.drewN No _ n) λx=>x,f⟩
def DF{m}(n:mI d c N T m){w}{D}(s:dY w d c N T D){a b}(i:a+b+1<=m)(q:a<Q T)(r:b<Q T)(f)(h:cH w c N T D m f):
 μ ε 255 #[pV d,U a,U b] f λe j=>e=π (.bool<|F7 (tr T a)<|tr T b)/\I (λk=>k=c) f j/\cH w c N T D m j:=by
 obtain⟨l,o,p⟩:=h.lx s;refine(n a b f l i q r o).mono ?_;rintro e t g;exact⟨g.1,g.2.1,h.after p i g⟩
def Ļ{w a b}{D}{m}{p1 p2 p3 p4:Nat×Nat}{f g i j}(e:I (λk=>k=c) a b)(l:cH w c N T D m b)(h:δ a (J p1.1 p1.2)=C f/\δ a (J p2.1 p2.2)=C g/\δ a (J p3.1 p3.2)=C i/\δ a (J p4.1 p4.2)=C j/\Hid (cH w c N T D m a)):δ b (J p1.1 p1.2)=C f/\δ b (J p2.1 p2.2)=C g/\δ b (J p3.1 p3.2)=C i/\δ b (J p4.1 p4.2)=C j/\Hid (cH w c N T D m b):=
 ⟨I4 h.2.2.2.2.u e h.1,I4 h.2.2.2.2.u e h.2.1,I4 h.2.2.2.2.u e h.2.2.1,I4 h.2.2.2.2.u e h.2.2.2.1,l⟩
def vr(m)(IH:mI d c N T m)(w)(D)(h:dY w d c N T D)(s)(n)(b)(H:ρ w 0 139 2 (Y s (Q b) n) (Q b)<|I0 b)(a)(y)(o q)(hy:y<Q T)
 (a9:∀p∈b,0<=p.2/\p.2<Q T/\p.2+y+1<=m) (hl:fU w q (pV d) 93) (u:fU w o (Y s (Q b) n) 97):
 μ ε 302 #[.agg #[ι ⟨ξ a⟩,U y],pV o,pV q] w λe f=>e=π (.bool<|!S8 T b (a,y))/\cH w c N T D m f:=by
 have j:=h.alloc<|γ #[ι ⟨ξ a⟩,U y] 139;have HF:=Js 303 (λ_ _=>ũ) (ω w<|γ #[ι ⟨ξ a⟩,U y] 139) s n b (H.alloc _) a (V w.heap) (λaf hu ae x=>Qq af a ae x _<|by rw[Ë<|hu.block _ θ λx=>x,World.cell?_alloc_new];rfl);have A:Hid (∀r,RL b a r->(r=-1/\(!S8 T b (a,y))=τ)\/∃(k:Nat) (x:Nat) (l:k<Q b),r=k/\b[k].2=x/\x<Q T/\x+y+1<=m/\(!S8 T b (a,y))=!F7 (tr T x) (tr T y)):=by
  intro r hr;obtain⟨k,l,rfl,j,F⟩|⟨rfl,j⟩:=hr
  .have hp:=a9 _<|mQ l;refine .inr ⟨k,b[k].2.toNat,l,K,W,W,W,?_⟩;grind[S8,OT]
  .refine .inl ⟨K,?_⟩;grind[S8,RI]
 have HS:=O j;have HO:=O<|H.alloc<|γ #[ι ⟨ξ a⟩,U y] 139;have a2:=O<|hl.alloc<|γ #[ι ⟨ξ a⟩,U y] 139;have a3:=O<|u.alloc<|γ #[ι ⟨ξ a⟩,U y] 139;have z:=O<|cH.refl h m;have S:=O h;have Z:=O<|rY w<|γ #[ι ⟨ξ a⟩,U y] 139;have aj:=u.lt;have cq:=u.cell;generalize (!S8 T b (a,y))=ag at*;go_in;go_wp2_with fail;refine HF.mono ?_;rintro e v ⟨⟨r,rfl,G⟩,i⟩;have S1:=O<|HS.u.y i;have O1:=O<|A3 HO.u i Ξ;have Q1:=O<|a2.u.y i;have Q2:=O<|a3.u.y i;have a6:=Q1.u.cell;have a7:=Q2.u.cell;have M:Hid (v.heap[V w.heap]?=C (γ #[ι ⟨ξ a⟩,U (y:Int)] 139 (0,0))):=(i.block (V w.heap) θ λx=>x).trans Z.u;have c3:δ v (J (V w.heap) 1)=C (U y):=cr M.u K;have B:Hid (cH w c N T D m v):=by
  obtain⟨P,j,F⟩:=(z.u.alloc<|γ #[ι ⟨ξ a⟩,U y] 139).jg;exact⟨((z.u.alloc _).P).trans i å,P,j.P i λx=>x,F⟩
 obtain⟨rfl,t⟩|⟨k,x,l,rfl,hx,ac,ad,t⟩:=A.u r G
 .clear G A;subst t;go_wp2;go_quiet (fail);go_wp2;go_ret;exact⟨F9 θ,B.u.drewN _⟩
 .obtain⟨g,rfl,hg,ai,aa,-,L⟩:=Y8 O1.u l;rw[hx]at L;have R:=λa5 ha=>DF IH S.u ad ac hy a5 ha;unfold Δ at aa;have ah:decide ((k:Int)<0)=κ:=θ;generalize F7 (tr T x) (tr T y)=r at*;have a4:=O t;go_wp2;go_region_held3 (λf=>δ f (J o 0)=C (Y (C<|J g 0) (Q b) n)/\δ f (J q 0)=C (pV d)/\δ f (J g<|k*2+1)=C (U x)/\δ f (J (V w.heap) 1)=C (U (y:Int))/\Hid (cH w c N T D m f))
   (first
    |exact⟨a7,a6,L,c3,B.u.drewN 1⟩
    |exact Ļ (p1:=(o,0)) (p2:=(q,0)) (p3:=(g,k*2+1)) (p4:=(V w.heap,1)) a8 ab ⟨W,W,W,W,W⟩
    |(go_split_ands;exact⟨À,À,À,À,À⟩))
   (first
    |((go_at_call 255;go_split_ands;refine(R _<|Hid.u W).mono ?_;rintro e f ⟨rfl,a8,ab⟩)));have M2:Hid (cH w c N T D m f):=À;go_wp2;go_ret;exact⟨F9<|by rw[a4.u],M2.u⟩
end
