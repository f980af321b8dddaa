/-
  A part of the proof.
-/
import Derived.Shelf.Strings.Builder1
import Derived.Test.YtjhlphgdgpebfaaGreatDoorSrt
import Derived.Shelf.SlSortCmp.NoneTotal
import Derived.Lib.SliceRun
import Derived.Test.YtjhlphgdgpebfaaGreatDoorCheckA
import Derived.Test.YtjhlphgdgpebfaaGreatDoorBindC
set_option maxHeartbeats 0
set_option linter.all false
set_option maxRecDepth 100000
namespace Go.Proofs.YtjhlphgdgpebfaaGreatDoor
open _root_.Array renaming size->V
open Bool renaming true->τ,false->κ
open Decidable renaming decide->ê
open Go renaming Value->υ,Calls->μ,frozen_of_row->æ,heap_setCell_same->ð,info_parts->ý,maxLen->Δ,cell_of_row->ä,Ending->ò,Addr->í,wpList_append_own->Ù
open Ending renaming returned->π
open Lib renaming compareBytes->É
open Obj renaming cells->γ
open Go.Proofs.Tryz renaming prog->ε,underlying63->Ê
open Value renaming ownBlock->Θ,pointer->Γ,string->ι,slice->Y
open World renaming setCell->σ,ownsRow->ρ,cell?->δ,alloc->ω
open I renaming refl->ì,set->é,grown->ü,drewN->Ψ,alloc->ν
open List renaming length->Q,toArray->ξ,length_singleton->Û
open Option renaming some->C
open Go.Proofs.Tryz
open Go.RowKit Go.Maps
def cG(B d:Nat)(w c:E):Prop:=I (λk=>B<=k/\(k=d\/∃a b,w.heap[k]?=C (γ a 5 b))) w c
theorem cG.refl(B a)(w):cG B a w w:=ì _ _
theorem cG.trans{B d}{a b c}(h:cG B d a b)(k:cG B d b c):cG B d a c:=by
 refine⟨k.os.trans h.os,k.tape.trans h.tape,k.output.trans h.output,kQ h.size k.size,λi e f=>?_⟩;have g:=h.block i e f;refine(k.block i (yQ e h.size) λx=>f ⟨x.1,?_⟩).trans g;grind
theorem cG.y{B b}{w a}(h:I No w a):cG B b w a:=h.mono λ_ _ x=>x.elim
def cG.below{B c}{w a}(h:cG B c w a)(b:B<=V w.heap):Below B w a:=I.ep h (λ_ _ x=>x.1) b
theorem cG.set{B a}(b:B<=a)(w)(o)(v):cG B a w (σ w (J a o) v):=(é w _ v).mono λk _ x=>η
def cG.row{B d}{w c}(i:cG B d w c){a}{e}{b}{v}{n}{f}(h:ρ w a e b v n f)(m:e≠5)(p:Θ v≠C d):ρ c a e b v n f:=by
 refine A3 h i λg j k=>?_;obtain rfl|⟨cs,fz,hh⟩:=k.2
 .grind
 .obtain⟨_,l,o⟩:=A9 h g j;grind
structure gC(w:E)(B wb:Nat)(tv:υ)(bn:Bool)(bs:bZ):Prop where
 low:B<=wb
 blk:∃p v,w.heap[wb]?=C (γ #[p,v,tv,.bool bn] 242 (0,0))/\(p=Γ none\/p=pV wb)/\ρ w B 5 1 v (Q bs) (Lib.byteCells bs)
theorem gC.y{w e}{B a}{tv}{b}{c}(h:gC w B a tv b c)(d:I No w e):gC e B a tv b c:=by
 obtain⟨f,p,v,g,j,i⟩:=h;exact⟨f,p,v,by rw[d.block a (aG g) λx=>x];omega,j,A3 i d Ξ⟩
def gC.o9{w}{B a}{d}{c}{e}(h:gC w B a d c e):δ w (J a 2)=C d/\δ w (J a 3)=C (.bool c)/\a<V w.heap:=by
 obtain⟨f,p,v,b,i,g⟩:=h;exact⟨cr b K,cr b K,(aG b)⟩
def Tryz.mr:(prog.info? 240).map (·.size)=C 2:=î
theorem Tryz.ot:liesAt ε prog.depth 242 (4/prog.cellsOf 242) 0 240 1=τ:=î
def Tryz.nz:(prog.info? 5).map (λi=>(i.zero,i.size,i.bytes))=C (C<|.int .u8 0,1,1):=î
def Tryz.nj:prog.cellsOf 5=1:=î
def ĝ(b)(w:E)(d:δ w (J b 0)=C (pV b)):
 μ ε 271 #[pV b] w λe c=>e=rT/\c=w:=by
 obtain⟨j,a,_⟩:=Option.map_eq_some_iff.1 Tryz.mr;go_in;go_wp2;rw[Lib.run_neq_ptr_same w _ underlying237 a];go_wp2;go_end0;simp
def A4b(b)(w:E)(f:δ w (J b 0)=C (Γ none))(c:w.shape? b=C (242,4))(g:w.frozen? (J b 0)=κ):
 μ ε 271 #[pV b] w λe d=>e=rT/\d=σ w (J b 0) (pV b):=by
 obtain⟨j,a,h⟩:=Option.map_eq_some_iff.1 Tryz.mr;go_in;go_wp2;rw[Lib.run_to_unsafe w (J b 0) underlying237 underlying286 a W c<|Nat.zero_lt_succ 3];simp;rw[Oper.upon_value];go_wp2;rw[run_callFunc_extern func286 Ω î î Ω];rw[Lib.run_noEscape];simp;rw[Oper.upon_value];go_wp2;rw[Lib.run_from_unsafe w (J b 0) underlying286 underlying237 a c Tryz.ot];simp;rw[Oper.upon_value];go_wp2;go_end0;simp
def yj{w}{B a}{g}{f}{d}(h:gC w B a g f d):
 μ ε 271 #[pV a] w λe b=>e=rT/\cG B a w b/\V b.heap=V w.heap/\
  ∃v,b.heap[a]?=C (γ #[pV a,v,g,.bool f] 242 (0,0))/\ρ b B 5 1 v (Q d) (Lib.byteCells d):=by
 obtain⟨i,p,v,c,l,j⟩:=h;obtain rfl|rfl:=l
 .refine(A4b a w (cr c K) (by grind[World.shape?])<|æ w a 0 _ _ c).mono ?_;rintro e b ⟨rfl,rfl⟩;refine⟨K,cG.set i w 0 _,θ,v,by rw[ð w a 0 _ _ _ c];rfl,A3 j (é w (J a 0) _) λk n m=>?_⟩;have o:=m;grind[A9]
 .refine(ĝ a w<|cr c K).mono ?_;grind[cG.refl]
def Gs{w}{B a}{q}{l}{m}(h:gC w B a q l m)(s)(a9:Q m+s.size<=100000000000000)(a8:B<=V w.heap):
 μ ε 262 #[pV a,ι s] w λe D=>e=π (.tuple #[U s.size,.nilIface])/\cG B a w D/\gC D B a q l (m++s.data.toList):=by
 obtain⟨i0,L,Z,a2,a3⟩:=ý Tryz.nz;have x:=h.low;have F:=O<|yj h;go_in;go_wp2_with fail;refine F.u.mono ?_;rintro e a4 ⟨rfl,M,ab,v,p,R⟩;have N:=(aG p);have a5:δ a4 (J a 1)=C v:=cr p K;have H:=O M;have t:=O p;have j:=O R;go_wp2_with (at_builtin;refine Lib.wpList_append_own_string _ K _ _ 238 9 K B 5 i0 underlying238 underlying9 L Z a2 a3 _ _ _ K j.u s K ?c3 ?c4 ?c5 ?_);case c3=>grind[Δ]
 case c4=>omega
 case c5=>omega
 intro v' c A y _;have P:Θ v≠C a:=by
  intro f;obtain⟨_,n,b⟩:=A9 j.u a f;rw[t.u]at b;simp only[zQ,xW]at b;exact absurd b.2.1 ζ
 have o:c.heap[a]?=C (γ #[pV a,v,q,.bool l] 242 (0,0)):=by
  rw[y.block a N λe=>P e.symm];exact t.u
 have d1:δ c (J a 1)=C v:=cr o K;have a6:=æ c a 1 _ _ o;obtain⟨g,i,d,rfl⟩:∃g i d,v'=Y g i d:=by
  obtain⟨S,_⟩|⟨a7,d,n,S,_⟩:=A.2<;>grind
 have r:=O o;have u:=O A;have G:=O y;go_wp2;go_ret2;refine⟨K,?_,x,_,Y g i d,by rw[ð c a 1 _ _ _ r.u];rfl,.inr K,?_⟩
 .refine(H.u.trans ?_).trans<|cG.set x c 1 _;refine(ü G.u).mono λk z f=>?_;obtain⟨aa,n,b⟩:=A9 j.u k f.symm;grind
 .have:=A3 u.u (é c (J a 1)<|Y g i d) λk z f=>by
   have T:=f;subst T;obtain⟨_,n,b⟩:=A9 u.u k z;rw[r.u]at b;grind
  grind[Lib.byteCells_append,Lib.strCells_eq,bl]
def lW(a:List ByteArray):bZ:=a.flatMap λs=>s.data.toList
def Fh(a:List ByteArray){j}(b):lW (a.take<|j+1)=lW (a.take j)++a[j].data.toList:=by
 unfold lW;grind[nQ]
def B8e(a){j}(b):Q (lW<|a.take j)+a[j].size<=Q (lW a):=by
 have c:=Fh a b;grind[lW,List.take_append_drop,size,bl,qQ]
def QE{w}{B b}{m}{f}{d}(h:gC w B b m f d)(a)(g)(n)(k:w.heap[g]?=C (γ (ξ (a.map ι)) 9 n))(T:Q a<=1000)(R:Q d+Q (lW a)<=100000000000000)(z:B<=V w.heap):
 μ ε 247 #[pV b,Y (C<|J g 0) (Q a) (Q a)] w λe r=>e=rT/\cG B b w r/\gC r B b m f (d++lW a):=by
 have p:=(aG k);have M:g≠b:=by
  intro F;subst F;obtain⟨a2,v,i,_⟩:=h.blk;rw[k]at i;simp only[zQ,xW]at i;exact absurd i.2.1 ζ
 have t:Hid (∀wr,cG B b w wr->wr.heap[g]?=C (γ (ξ (a.map ι)) 9 n)):=by
  intro wr A;rw[A.block g p λa4=>?_]
  .omega
  .grind
 have G:=O h;clear h k;go_in;go_wp2_with fail;go_loopw [8] (λv wr=>∃(j:Nat),j<=Q a/\v=U (j:Int)/\Hid (gC wr B b m f<|d++lW (a.take j))/\Hid (cG B b w wr)) (λv _=>Q a-(intOf v).toNat);case atStart=>exact⟨0,wQ _,K,by grind[lW],cG.refl _ _ _⟩
 case round=>
  obtain⟨j,N,rfl,c,CR⟩:=hrel;by_cases l:j<Q a
  .have L:wr.cell? (J g j)=C (.string a[j]):=by
    rw[ä wr g j _ _ _<|t.u wr CR.u];simp[l]
   have S:=yQ p CR.u.size;have P:=B8e a l;have Z:=c.u.o9.2.2;have x:=O<|Fh a l;have y:=O (Gs c.u a[j] η<|kQ z CR.u.size);have s:=O CR.u;clear CR c;go_wp2_with fail;refine y.u.mono ?_;rintro e a3 ⟨rfl,o,q⟩;have u:=O o;have H:=O q;clear o q;go_wp2;go_roundw;case rel=>exact⟨j+1,W,ï,by rw[x.u,<-List.append_assoc];omega,s.u.trans u.u⟩
   grind[intOf]
  .have D:j=Q a:=W;subst D;rw[vZ]at*;go_wp2_with fail;go_end0;exact⟨K,CR.u,c.u⟩
structure lU(w:E)(B wb:Nat)(tv:υ)(bn:Bool)(T:List Ty)(bs:bZ):Prop where
 jy:gC w B wb tv bn bs
 ok:aX T
 row:∃yx,ρ w 0 88 4 tv (Q T) yx/\eN (eI w λ_=>True) T yx
def lU.kept{w f}{B a}{d}{b}{T}{q i}(h:lU w B a d b T q)(m:cG B a w f)(r:gC f B a d b i):lU f B a d b T i:=by
 obtain⟨z,s,A,n,y⟩:=h;obtain⟨p,v,D,_⟩:=z.blk;have H:∀k c e,w.heap[k]?=C (γ c e (0,0))->(e=88\/e=156\/e=3)->¬(B<=k/\(k=a\/∃j l,w.heap[k]?=C (γ j 5 l))):=by
  rintro k c e G F ⟨_,o|⟨j,l,o⟩⟩
  .grind
  .grind
 refine⟨r,s,A,A3 n m λg t x=>?_,y.imp<|eI.P m (λg _ _ o u=>?_) λ_ _ _=>trivial⟩
 .obtain⟨_,c,u⟩:=A9 n g t;grind
 grind
theorem lU.y{w d}{B e}{tv}{a}{T}{b}(h:lU w B e tv a T b)(c:I No w d):lU d B e tv a T b:=h.kept (cG.y c)<|h.jy.y c
theorem lU.cell{w}{B b}{l}{d}{T}{m}(h:lU w B b l d T m):∃a c,l=Y a (Q T) c/\δ w (J b 2)=C (Y a (Q T) c)/\δ w (J b 3)=C (.bool d)/\b<V w.heap/\
 ∀i (t),∃g e f j k,a=C (J g 0)/\g<V w.heap/\Q T<=c/\c<=Δ/\δ w (J g<|i*4)=C (U T[i].x)/\δ w (J g<|i*4+1)=C (Y e (Q T[i].eo) f)/\δ w (J g<|i*4+2)=C (Y j (Q T[i].M) k)/\
  δ w (J g<|i*4+3)=C (U T[i].fh)/\ρ w 0 156 2 (Y e (Q T[i].eo) f) (Q T[i].eo) (I0 T[i].eo)/\ρ w 0 3 1 (Y j (Q T[i].M) k) (Q T[i].M) (C8 T[i].M):=by
 obtain⟨o,s,v,n,u⟩:=h;obtain⟨a,c,rfl⟩:=B8 n;obtain⟨p,q,r⟩:=o.o9;grind[Gg]
def E3d(k)(c:1<=k)(d:k<=6)(w:E):μ ε 251 #[U k] w λe b=>e=π (ι ⟨ξ (Z6 k)⟩)/\b=w:=by
 have a:k=1\/k=2\/k=3\/k=4\/k=5\/k=6:=W;obtain rfl|rfl|rfl|rfl|rfl|rfl:=a<;>
 .go_in;go_wp2;go_ret;exact⟨K,K⟩
def uJ(k:Int)(a:Bool):Bool:=ê (k=10)||(ê (k=9)&&!a)
def Nz{w}{B f}{p}{j}{T}{l}(h:lU w B f p j T l)(i)(o:i<Q T)(a):
 μ ε 264 #[pV f,U i,.bool a] w λe q=>e=π (.bool<|uJ T[i].x a)/\q=w:=by
 obtain⟨r,c,rfl,s,t,z,n⟩:=h.cell;obtain⟨g,u,v,A,D,rfl,y,x,m,F,G,H,L,-,-⟩:=n i o;unfold Δ at m;generalize T[i].x=k at*;by_cases b:k=10
 .subst b;go_in;go_wp2;go_ret;exact⟨K,K⟩
 .by_cases d:k=9
  .subst d;cases a<;>
   .go_in;go_wp2;go_ret;exact⟨K,K⟩
  .have e:uJ k a=κ:=by simp[uJ,b,d]
   rw[e];go_in;go_wp2;go_ret;refine⟨?_,K⟩;show π (Value.bool<|k==10)=_;grind
def mF(a:Bool)(t:Tr):Tr:=if a then iO t else t
def dV(a:Bool)(T:List Ty)(i:Nat):bZ:=bU<|mF a<|tr T i
def X8(w:E)(B b:Nat)(f:υ)(c:Bool)(d:bZ)(e:ò)(a:E):Prop:=e=rT/\cG B b w a/\gC a B b f c d
def zK(B c:Nat)(d:υ)(a:Bool)(T:List Ty)(m:Nat):Prop:=∀(i) (w) (b),i+1<=m->i<Q T->lU w B c d a T b->B<=V w.heap->Q b+Q (dV a T i)<=100000000000000->
 μ ε 237 #[pV c,U i] w (X8 w B c d a<|b++dV a T i)
def cG.other{w d}{B f}{l}{g}{i}(j:cG B f w d)(k:gC w B f l g i){q:Nat}{a}{e}{b}(h:w.heap[q]?=C (γ a e b))(n:e≠5)(o:e≠242):d.heap[q]?=C (γ a e b):=by
 rw[j.block q (aG h) λx=>?_]
 .omega
 .obtain c|⟨cs2,f2,c⟩:=x.2
  .subst c;obtain⟨p,v,m,_⟩:=k.blk;grind
  grind
theorem cG.own{w d}{B a}{o}{g}{i}(j:cG B a w d)(l:gC w B a o g i){b c n}{e}{v}{f}(h:ρ w b e c v n f)(k:e≠5)(s:e≠242):ρ d b e c v n f:=by
 refine j.row h k λm=>?_;obtain⟨_,q,t⟩:=A9 h a m;obtain⟨p,v,r,_⟩:=l.blk;grind
section
variable{B b:Nat}{c:υ}{a:Bool}{T:List Ty}{m:Nat}
def Sg(u:zK B b c a T m)(w)(f)(h:lU w B b c a T f)(x:B<=V w.heap)(k s r)(P v o)(p)(q)(d:uZ)(y:k<Q d)(z:Nat)(L:d[k]=z)(N:z+1<=m)(M:z<Q T)(D:Q f+Q (dV a T z)<=100000000000000)
 (H:w.heap[s]?=C (γ #[pV b] 236 (0,0))) (G:w.heap[r]?=C (γ #[P,v,Y p (Q d) q,o] 88 (0,0))) (F:ρ w 0 3 1 (Y p (Q d) q) (Q d)<|C8 d):
 μ ε 249 #[U k,pV s,pV r] w (X8 w B b c a<|f++dV a T z):=by
 have t:Hid (∀i,I No w i->μ ε 237 #[pV b,U z] i (X8 w B b c a<|f++dV a T z)):=by
  intro i n;refine(u z i f N M (h.y n) (kQ x n.size) D).mono ?_;rintro e w' ⟨rfl,j,l⟩;exact⟨K,(cG.y n).trans j,l⟩
 have S:δ w (J s 0)=C (pV b):=cr H K;have Z:δ w (J r 2)=C (Y p (Q d) q):=cr G K;obtain⟨g,rfl,hg,a2,A,R⟩:=D6 F y;rw[L]at R;unfold Δ at A;generalize dV a T z=tx at*;go_in;go_wp2;go_region_with ((go_at_call 237;refine(t.u _<|Ψ _ _ 1).mono ?_;rintro e a3 ⟨rfl,j,l⟩));all_goals
  go_wp2;go_end0;exact⟨K,j,l⟩
def vV(a:Bool)(T:List Ty)(z:Nat)(d:Bool):bZ:=if d then [40]++dV a T z++[41] else dV a T z
def ŧ(IH:zK B b c a T m)(w)(q)(h:lU w B b c a T q)(ae:B<=V w.heap)(k A y)(x)(P)(f:uZ)(H)(z:Nat)(hz:f[k]=(z:Int))(ag:z+1<=m)(aa)(o)(a5:o=uJ T[z].x (ê<|k+1=Q f))(a6:Q q+Q (vV a T z o)<=100000000000000)
 (hx:w.heap[A]?=C (γ #[pV b] 236 (0,0))) (ht:w.heap[y]?=C (γ #[Y x (Q f) P] 63 (0,0))) (v:ρ w 0 3 1 (Y x (Q f) P) (Q f)<|C8 f):
 μ ε 263 #[U k,pV A,pV y] w (X8 w B b c a<|q++vV a T z o):=by
 have ah:(k==IntKind.i64.wrap (Q f-1))=ê (k+1=Q f):=by
  obtain⟨_,_,_,af,L,_⟩:=D6 v H;unfold Δ at L;have e:IntKind.i64.wrap (Q f-1)=Q f-1:=by
   simp[IntKind.wrap,IntKind.bits,IntKind.signed];omega
  rw[e,Bool.eq_iff_iff];simp;omega
 have FN:Hid (∀n R,R=ê (k+1=Q f)->μ ε 264 #[pV b,U z,.bool R] (w.drewN n) λe S=>e=π (.bool o)/\S=w.drewN n):=by
  intro n R u;rw[a5,u];exact Nz (h.y<|Ψ _ _ _) z aa _
 have FW:Hid (∀d i,cG B b w d->gC d B b c a i->Q i+Q (dV a T z)<=100000000000000->μ ε 237 #[pV b,U z] d (X8 w B b c a<|i++dV a T z)):=by
  intro d i j M u;refine(IH z d i ag aa (h.kept j M) (kQ ae j.size) u).mono ?_;rintro e S ⟨rfl,l,p⟩;exact⟨K,j.trans l,p⟩
 have Z:Hid (∀d i (t:UInt8),cG B b w d->gC d B b c a i->Q i+1<=100000000000000->μ ε 247 #[pV b,Y (C<|J (V d.heap) 0) 1 1] (d.alloc<|γ #[ι ⟨#[t]⟩] 9) (X8 w B b c a<|i++[t])):=by
  intro d i t j M u;refine(QE (M.y<|ν _ _ _) [⟨#[t]⟩] (V d.heap) (0,0) (rY d _) θ (by grind[lW])<|by simp;have:=j.size;omega).mono ?_;rintro e S ⟨rfl,l,p⟩;exact⟨K,(j.trans<|cG.y<|ν _ _ _).trans l,by grind[lW]⟩
 have s:Hid (∀d,cG B b w d->δ d (J A 0)=C (pV b)/\δ d (J y 0)=C (Y x (Q f) P)/\A<V d.heap/\y<V d.heap/\∀g,x=C (J g 0)->g<V d.heap/\δ d (J g k)=C (U z)):=by
  intro d j;have a9:=j.other h.jy hx ζ ζ;have a7:=j.other h.jy ht ζ ζ;refine⟨cr a9 K,cr a7 K,(aG a9),(aG a7),λg hg=>?_⟩;obtain⟨g',e,G,_,_,ac⟩:=D6 (j.own h.jy v ζ ζ) H;rw[hg]at e;cases e;rw[hz]at ac;exact⟨G,ac⟩
 obtain⟨g,rfl,hg,af,L,y0⟩:=D6 v H;have HW:=O h.jy;unfold Δ at L;have ai:(k:Int)<(Q f:Int):=W;obtain⟨a3,a4,-,-,r⟩:=s.u w<|cG.refl _ _ _;have y1:=(r g K).2;clear h hx ht v hz y0 r a5;have a8:Hid (vV a T z o=if o then [40]++dV a T z++[41] else dV a T z):=K;generalize vV a T z o=tx at*;generalize dV a T z=tz at*;go_in;go_wp2_with fail;go_quiet ((go_at_call 264;refine Calls.quiet_of_same<|FN.u _ _ ?_;rfl));cases o
 .have e:=a8.u;simp only[yZ,if_false]at e;subst e;obtain⟨a3,a4,l1,l2,r⟩:=s.u _<|cG.y<|Ψ No w nq;obtain⟨G,y1⟩:=r g K;go_wp2_with fail;go_region_with ((go_at_call 237;refine(FW.u _ q ?_ ?_ a6).mono ?_;exact cG.y<|Ψ No w _;exact HW.u.y<|Ψ No w _;rintro e D ⟨rfl,l,p⟩));all_goals
   go_wp2;go_end0;exact⟨K,l,p⟩
 .have e:=a8.u;simp only[if_true]at e;subst e;simp only[qQ,jQ,xQ]at a6;have N:cG B b w (w.drewN nq):=cG.y<|Ψ No w nq;obtain⟨a3,a4,l1,l2,r⟩:=s.u _ N;have a2:=O (Z.u (w.drewN nq) q 40 N (HW.u.y<|Ψ No w nq) W);clear r N;go_wp2_with fail;refine a2.u.mono ?_;rintro e D ⟨rfl,l,p⟩;obtain⟨d1,d2,m1,m2,d3⟩:=s.u D l;obtain⟨G,y2⟩:=d3 g K;have H1:=O l;have H2:=O p;clear l p d3 a2;go_wp2_with fail;go_region_with ((go_at_call 237;refine(FW.u _ (q++[40]) (H1.u.trans<|cG.y<|Ψ No D 1) (H2.u.y<|Ψ No D 1) η).mono ?_;rintro e ab ⟨rfl,F,h4⟩));all_goals
   obtain⟨d4,-,m4,-,-⟩:=s.u ab F;have ad:=O (Z.u ab _ 41 F h4 η);clear F h4;go_wp2_with fail;refine ad.u.mono ?_;rintro e aj ⟨rfl,h5,h6⟩;go_wp2;go_end0;exact⟨K,h5,η⟩
end
def Z4(a:bZ)(f:Nat->bZ):Nat->bZ
 |0=>[]
 |n+1=>Z4 a f n++((if n=0 then [] else a)++f n)
def C1e(a)(f){j n}(h:j<=n):Q (Z4 a f j)<=Q (Z4 a f n):=by
 induction n<;>grind[Z4]
theorem Ez(a)(f)(j):Z4 a f (j+1)=Z4 a f j++((if j=0 then [] else a)++f j):=rfl
section
variable{B a:Nat}{c:υ}{b:Bool}
def ZN(p:Nat)(cf:∀(G) (F:E),(callFunc p G).run ε F=.ok (.enter p G) F)(w)(o)(h:gC w B a c b o)(S:B<=V w.heap)(n)(hn:n<=1000000000)(d)(H L)(f)(a2:Q o+Q (Z4 d.data.toList f n)<=100000000000000)
 (z:∀(s) (j) (t),cG B a w s->gC s B a c b t->j<n->Q t+Q (f j)<=100000000000000->μ ε p #[U j,H,L] s (X8 w B a c b<|t++f j)):
 μ ε 248 #[pV a,U n,ι d,.func (.func p) #[] #[H,L]] w (X8 w B a c b<|o++Z4 d.data.toList f n):=by
 have Z:=O h;have A:=O z;have P:Hid (Q d.data.toList=d.size):=bl d;clear h z;go_in;go_wp2_with fail;go_loopw [10] (λv wr=>∃(j:Nat),j<=n/\v=U (j:Int)/\Hid (gC wr B a c b<|o++Z4 d.data.toList f j)/\Hid (cG B a w wr)) (λv _=>n-(intOf v).toNat);case atStart=>exact⟨0,wQ _,K,by grind[Z4],cG.refl _ _ _⟩
 case round=>
  obtain⟨j,hj,rfl,k,CR⟩:=hrel;by_cases x:j<n
  .have l:=C1e d.data.toList f (show j+1<=n from x);have m:=O<|Ez d.data.toList f j;rw[Ez]at l;simp only[qQ]at l;have a4:=k.u.o9.2.2;by_cases u:j=0
   .have q:=O (A.u wr j _ CR.u k.u x η);simp only[u,if_true,uY]at m;subst u;have y:=O CR.u;clear CR k l;go_wp2_with fail;refine q.u.mono ?_;rintro e M ⟨rfl,g,i⟩;have r:=O g;have R:=O i;clear g i;go_wp2;go_roundw;case rel=>exact⟨0+1,W,ï,by rw[m.u,<-List.append_assoc];omega,r.u⟩
    grind[intOf]
   .simp only[u,if_false]at m l;have a3:(0:Int)<(j:Int):=W;have D:=O (Gs k.u d (by have:=P.u;grind)<|kQ S CR.u.size);have y:=O CR.u;have N:=O l;clear CR k l;go_wp2_with fail;refine D.u.mono ?_;rintro e M ⟨rfl,g,i⟩;have q:=O (A.u M j _ (y.u.trans g) i x<|by have:=N.u;grind);clear g i D;go_wp2_with fail;refine q.u.mono ?_;rintro e a5 ⟨rfl,g,i⟩;have r:=O g;have R:=O i;clear g i;go_wp2;go_roundw;case rel=>exact⟨j+1,W,ï,by rw[m.u];grind,r.u⟩
    grind[intOf]
  .have T:j=n:=W;subst T;go_wp2_with fail;go_end0;exact⟨K,CR.u,k.u⟩
end
section
variable{B b:Nat}{c:υ}{a:Bool}{T:List Ty}{m:Nat}
def qH(a:Bool)(T:List Ty)(d:uZ)(j:Nat):bZ:=vV a T (d.getD j 0).toNat<|uJ (T.getD (d.getD j 0).toNat ty0).x<|ê<|j+1=Q d
def Ŭ(A:zK B b c a T m)(w)(l)(h:lU w B b c a T l)(s:B<=V w.heap)(i)(k)(d:uZ)(hn:Q d<=100000000)(G:∀x∈d,0<=x/\x<Q T/\x+1<=m)(L:ρ w 0 3 1 (Y i (Q d) k) (Q d)<|C8 d)(H:Q l+Q (Z4 [32,124,32] (qH a T d) (Q d))<=100000000000000):
 μ ε 250 #[pV b,Y i (Q d) k] w (X8 w B b c a<|l++Z4 [32,124,32] (qH a T d) (Q d)):=by
 have y:Hid (∀f,f=ω (ω w<|γ #[pV b] 236) (γ #[Y i (Q d) k] 63)->μ ε 248 #[pV b,U (Q d),ι ⟨#[32,124,32]⟩,.func (.func 263) #[] #[pV (V w.heap),pV<|V w.heap+1]] f (X8 w B b c a<|l++Z4 [32,124,32] (qH a T d) (Q d))):=by
  intro f r;have p:I No w f:=by subst r;exact(ν No _ _).trans (ν No _ _) Ξ
  have q:=h.y p;have R:f.heap[V w.heap]?=C (γ #[pV b] 236 (0,0)):=by
   subst r;rw[Below.heap_alloc _ _ _ θ];exact rY w _
  have N:f.heap[V w.heap+1]?=C (γ #[Y i (Q d) k] 63 (0,0)):=by
   subst r;have:=rY (ω w<|γ #[pV b] 236)<|γ #[Y i (Q d) k] 63;simpa using this
  have M:=A3 L p Ξ;refine(ZN 263 (λ_ _=>by go_simp) f l q.jy (kQ s p.size) (Q d) W ⟨#[32,124,32]⟩ _ _ (qH a T d) H ?_).mono ?_
  .intro D j F g P t u;have a3:=G d[j]<|mQ t;obtain⟨z,S⟩:∃z:Nat,d[j]=z:=⟨d[j].toNat,W⟩;have v:z<Q T:=W;have e:qH a T d j=vV a T z (uJ T[z].x<|ê<|j+1=Q d):=by
    unfold qH;rw[show d.getD j 0=z from η,tQ,fX v]
   rw[e]at u⊢;refine(ŧ A D F (q.kept g P) (kQ s<|kQ p.size g.size) j (V w.heap) (V w.heap+1) i k d t z S W v _ K u (g.other q.jy R ζ ζ) (g.other q.jy N ζ ζ)<|g.own q.jy M ζ ζ).mono ?_;rintro e Z ⟨rfl,n,o⟩;exact⟨K,g.trans n,o⟩
  .rintro e Z ⟨rfl,n,o⟩;exact⟨K,(cG.y p).trans n,o⟩
 generalize Z4 [32,124,32] (qH a T d) (Q d)=tx at*;go_in;go_wp2_with fail;refine(y.u _ K).mono ?_;rintro e a4 ⟨rfl,n,o⟩;go_wp2;go_end0;exact⟨K,n,o⟩
end
def mL(a:bZ)(f:Nat->bZ):Nat->bZ
 |0=>[]
 |n+1=>mL a f n++(a++f n)
theorem MM(a)(f):∀n,mL a f (n+1)=a++f 0++mL a (λj=>f<|j+1) n
 |0=>by simp[mL]
 |n+1=>by
  rw[mL,MM a f n,mL];simp
theorem MK(a)(f):∀n,Z4 a f (n+1)=f 0++mL a (λj=>f<|j+1) n
 |0=>by grind[Z4,mL]
 |n+1=>by
  rw[Z4,MK a f n,mL];simp
theorem QD(a){f g}:∀n,(∀j,j<n->f j=g j)->Z4 a f n=Z4 a g n
 |0,_=>K
 |n+1,h=>by rw[Z4,Z4,QD a n λj b=>h j W,h n W]
def ES:Tr:=.nd 0 [] []
theorem Jb:∀r,qV κ r=mL [44,32] (λj=>bU<|r.getD j ES) (Q r)
 |[]=>Ω
 |t::r=>by
  rw[qV,Jb r,jQ,MM];simp
theorem Rq:∀r,qV τ r=Z4 [44,32] (λj=>bU<|r.getD j ES) (Q r)
 |[]=>Ω
 |t::r=>by
  grind[qV,Jb,jQ,MK]
def zR(t:Tr)(a:Bool):bZ:=if uJ t.k a then [40]++bU t++[41] else bU t
theorem Hx(t)(r):(if t.k=10\/t.k=9/\Q r≠0 then [40]++bU t++[41] else bU t)=zR t (ê<|0+1=Q (t::r)):=by
 grind[zR,uJ,ê]
theorem Jg:∀r,pP κ r=mL [32,124,32] (λj=>zR (r.getD j ES)<|ê<|j+1=Q r) (Q r)
 |[]=>Ω
 |t::r=>by
  rw[pP,Jg r,Hx,jQ,MM];simp
theorem Rz:∀r,pP τ r=Z4 [32,124,32] (λj=>zR (r.getD j ES)<|ê<|j+1=Q r) (Q r)
 |[]=>Ω
 |t::r=>by
  rw[pP,Jg r,Hx,jQ,MK];simp
theorem C1f(a)(t):(mF a t).k=t.k:=by
 grind[mF,D5f]
theorem IP(a){k}{c}{b}(h:k≠7):mF a (.nd k c b)=.nd k c (b.map<|mF a):=by
 cases a
 .have e:mF κ=id:=by funext t;simp[mF]
  simp_all
 .have e:mF τ=iO:=by funext t;simp[mF]
  simp_all[yC]
section
variable{bn:Bool}{T:List Ty}{i:Nat}
def Ss(a:aX T)(b)(c:1<=T[i].x)(d:T[i].x<=6):dV bn T i=Z6 T[i].x:=by
 unfold dV;rw[X7 a b,IP bn W,bU,wY W,wY W,wY W,wY W]
def Mm(a:aX T)(b)(h:T[i].x=8):dV bn T i=[91]++dV bn T T[i].fh.toNat++[93]:=by
 simp_all[dV,X7,IP,bU,wY,yY,UF]
theorem IX(b:aX T)(c)(h:T[i].x=9\/T[i].x=10):T[i].eo=[]:=by
 obtain a|a|a|a|a:=b i c<;>grind
def Ys(b:aX T)(c)(h:T[i].x=9):dV bn T i=[40]++Z4 [44,32] (λj=>dV bn T (T[i].M.getD j 0).toNat) (Q T[i].M)++[41,32,61,62,32]++dV bn T T[i].fh.toNat:=by
 have e:Z4 [44,32] (λj=>dV bn T (T[i].M.getD j 0).toNat) (Q T[i].M)=qV τ ((T[i].M.map λx=>tr T x.toNat).map<|mF bn):=by
  rw[Rq,lZ,lZ];refine QD _ _ λj a=>?_;unfold dV;simp[a]
 simp_all[dV,X7,IP,bU,wY,yY,IX,JH]
def Mx(a:aX T)(f)(h:T[i].x=10):dV bn T i=Z4 [32,124,32] (qH bn T T[i].M) (Q T[i].M):=by
 have e:Z4 [32,124,32] (qH bn T T[i].M) (Q T[i].M)=pP τ ((T[i].M.map λx=>tr T x.toNat).map<|mF bn):=by
  rw[Rz,lZ,lZ];refine QD _ _ λj b=>?_;have g:=(a i f).lg T[i].M[j]<|mQ b;have c:T[i].M[j].toNat<Q T:=W;unfold qH vV zR dV;have d:(tr T T[i].M[j].toNat).k=T[T[i].M[j].toNat].x:=by rw[X7 a c];rfl
  simp[b,C1f,d,c]
 simp_all[dV,X7,IP,bU,wY,yY,IX]
end
section
variable{B wb:Nat}{tv:υ}{bn:Bool}{T:List Ty}{m:Nat}
def BN(B wb:Nat)(tv:υ)(bn:Bool)(T:List Ty)(i:Nat):Prop:=∀(d) (w) (a) (b) (c),T[i].x=7->lU w B wb tv bn T a->B<=V w.heap->ρ w 0 156 2 (Y b (Q T[i].eo) c) (Q T[i].eo) (I0 T[i].eo)->Q a+Q (dV bn T i)<=100000000000000->
 μ ε 246 #[pV wb,Y b (Q T[i].eo) c] w (X8 w B wb tv bn<|a++dV bn T i)
def Jc{a0}(i:B<=a0.heap.size)(a)(q)(b)(s)(f:q=V a.heap)(c:cG B wb a0 a)(g:gC a B wb tv bn b)(j:Q b+s.size<=100000000000000):
 μ ε 247 #[pV wb,Y (C<|J q 0) 1 1] (a.alloc<|γ #[ι s] 9) (X8 a0 B wb tv bn<|b++s.data.toList):=by
 subst f;have e:=bl s;refine(QE (g.y<|ν _ _ _) [s] (V a.heap) (0,0) (rY a _) θ (by grind[lW])<|by simp;have:=c.size;omega).mono ?_;rintro e k ⟨rfl,d,h⟩;exact⟨K,(c.trans<|cG.y<|ν _ _ _).trans d,by grind[lW]⟩
def Sy(IH:zK B wb tv bn T m)(i)(bh:i<=m)(aq:BN B wb tv bn T i)(M)(w)(A)(h:lU w B wb tv bn T A)(b0:B<=V w.heap)(ah:Q A+Q (dV bn T i)<=100000000000000)(b3:Q T[i].M<=100000000):
 μ ε 237 #[pV wb,U i] w (X8 w B wb tv bn<|A++dV bn T i):=by
 have hT:=h.ok;obtain⟨ad,bb,be,bc,c3,bi,ar⟩:=h.cell;obtain⟨bf,n,p,d,f,rfl,hg,bg,b1,x0,x1,x2,x3,a8,a9⟩:=ar i M;unfold Δ at b1;clear ar;have a3:=O λe=>Mm (bn:=bn) hT M e;have a4:=O λe=>Ys (bn:=bn) hT M e;have Z:=O λe=>Mx (bn:=bn) hT M e;have a5:=O λe1 e2=>Ss (bn:=bn) hT M e1 e2;have S:=O λe x g=>aq M x g n p e;have aj:=hT i M;have b4:=aj.lg;have a6:=aj.of;have b2:T[i].x=7\/T[i].x=8\/T[i].x=9\/T[i].x=10\/(1<=T[i].x/\T[i].x<=6):=by
  obtain t|t|t|t|t:=aj
  .omega
  .omega
  .omega
  .omega
  .omega
 clear aj aq;generalize dV bn T i=tx at*;generalize T[i].x=k at*;generalize T[i].fh=o at*;generalize T[i].eo=q at*;generalize T[i].M=b at*;have v:I No w (ω (ω w<|γ #[pV wb] 236)<|γ #[U k,Y n (Q q) p,Y d (Q b) f,U o] 88):=(ν No _ _).trans (ν No _ _) λ_ _ ab=>ab;have r:=h.y v;have u:=kQ b0 v.size;have ac:Hid (∀e x g,X8 (ω (ω w<|γ #[pV wb] 236)<|γ #[U k,Y n (Q q) p,Y d (Q b) f,U o] 88) B wb tv bn g e x->X8 w B wb tv bn g e x):=by
  rintro e x g ⟨rfl,c,l⟩;exact⟨K,(cG.y v).trans c,l⟩
 have P:(ω (ω w<|γ #[pV wb] 236)<|γ #[U k,Y n (Q q) p,Y d (Q b) f,U o] 88).heap[V w.heap]?=C (γ #[pV wb] 236 (0,0)):=by
  rw[Below.heap_alloc _ _ _ θ];exact rY w _
 have t:(ω (ω w<|γ #[pV wb] 236)<|γ #[U k,Y n (Q q) p,Y d (Q b) f,U o] 88).heap[V w.heap+1]?=C (γ #[U k,Y n (Q q) p,Y d (Q b) f,U o] 88 (0,0)):=by
  have:=rY (ω w<|γ #[pV wb] 236)<|γ #[U k,Y n (Q q) p,Y d (Q b) f,U o] 88;simpa using this
 have N:=A3 a9 v λ_ _ ab=>ab;have a7:=A3 a8 v λ_ _ ab=>ab;have y:Hid (∀a,cG B wb (ω (ω w<|γ #[pV wb] 236)<|γ #[U k,Y n (Q q) p,Y d (Q b) f,U o] 88) a->δ a (J (V w.heap) 0)=C (pV wb)/\δ a (J (V w.heap+1) 2)=C (Y d (Q b) f)/\δ a (J (V w.heap+1) 3)=C (U o)/\V w.heap<V a.heap/\V w.heap+1<V a.heap):=by
  intro a s;have av:=s.other r.jy P ζ ζ;have an:=s.other r.jy t ζ ζ;exact⟨cr av K,cr an K,cr an K,(aG av),(aG an)⟩
 have G:=O λa aa g ba=>Jc (wb:=wb) (tv:=tv) (bn:=bn) (a0:=(ω (ω w<|γ #[pV wb] 236)<|γ #[U k,Y n (Q q) p,Y d (Q b) f,U o] 88)) u a aa g ba;have FW:Hid (∀a z g,cG B wb (ω (ω w<|γ #[pV wb] 236)<|γ #[U k,Y n (Q q) p,Y d (Q b) f,U o] 88) a->gC a B wb tv bn g->z<i->Q g+Q (dV bn T z)<=100000000000000->μ ε 237 #[pV wb,U (z:Int)] a (X8 (ω (ω w<|γ #[pV wb] 236)<|γ #[U k,Y n (Q q) p,Y d (Q b) f,U o] 88) B wb tv bn<|g++dV bn T z)):=by
  intro a z g s hw hz hl;refine(IH z a g W W (r.kept s hw) (kQ u s.size) hl).mono ?_;rintro e x ⟨rfl,c,l⟩;exact⟨K,s.trans c,l⟩
 have FR:Hid (∀a g,cG B wb (ω (ω w<|γ #[pV wb] 236)<|γ #[U k,Y n (Q q) p,Y d (Q b) f,U o] 88) a->gC a B wb tv bn g->Q g+Q (Z4 [44,32] (λj=>dV bn T (b.getD j 0).toNat) (Q b))<=100000000000000->μ ε 248 #[pV wb,U (Q b:Int),ι ⟨#[44,32]⟩,.func (.func 249) #[] #[pV (V w.heap),pV<|V w.heap+1]] a (X8 (ω (ω w<|γ #[pV wb] 236)<|γ #[U k,Y n (Q q) p,Y d (Q b) f,U o] 88) B wb tv bn<|g++Z4 [44,32] (λj=>dV bn T (b.getD j 0).toNat) (Q b))):=by
  intro a g s hw hl;have ai:=r.kept s hw;have b9:=s.other r.jy P ζ ζ;have b7:=s.other r.jy t ζ ζ;have b5:=s.own r.jy N ζ ζ;refine(ZN 249 (λ_ _=>Ω) a g hw (kQ u s.size) (Q b) W ⟨#[44,32]⟩ _ _ (λj=>dV bn T (b.getD j 0).toNat) hl ?_).mono ?_
  .intro a2 j az D b8 hj au;have bo:=b4 b[j]<|mQ hj;obtain⟨z,hz⟩:∃z:Nat,b[j]=(z:Int):=⟨b[j].toNat,W⟩;have e:dV bn T (b.getD j 0).toNat=dV bn T z:=by
    rw[show b.getD j 0=(z:Int) from η,tQ]
   rw[e]at au⊢;refine(Sg IH a2 az (ai.kept D b8) (kQ u<|kQ s.size D.size) j (V w.heap) (V w.heap+1) _ _ _ d f b hj z hz W W au (D.other ai.jy b9 ζ ζ) (D.other ai.jy b7 ζ ζ)<|D.own ai.jy b5 ζ ζ).mono ?_;rintro e x ⟨rfl,c,l⟩;exact⟨K,D.trans c,l⟩
  .rintro e x ⟨rfl,c,l⟩;exact⟨K,s.trans c,l⟩
 have al:=O r;have am:=O<|cG.refl B wb<|ω (ω w<|γ #[pV wb] 236)<|γ #[U k,Y n (Q q) p,Y d (Q b) f,U o] 88;obtain rfl|rfl|rfl|rfl|⟨hk1,D⟩:=b2
 .have HC:=O<|S.u K _ A r u a7 ah;clear h r P t N a7 a8 a9 FW G y a3 a4 Z a5 S v u;go_in;go_wp2_with fail;refine HC.u.mono ?_;rintro e H F;have b6:=ac.u _ _ _ F;obtain⟨rfl,c,l⟩:=b6;go_wp2;go_end0;exact⟨K,c,l⟩
 .have e:=a3.u K;obtain⟨z,rfl⟩:∃z:Nat,o=(z:Int):=⟨o.toNat,W⟩;have ao:z<i:=by have:=a6<|.inl K;omega
  rw[tQ]at e;subst e;simp only[qQ,jQ,xQ]at ah;have ae:=O (G.u _ (V w.heap+1+1) A ⟨#[91]⟩ θ am.u al.u.jy<|by grind[ByteArray.size]);clear h r P t N a7 a8 a9 a3 a4 Z a5 S v u a6;go_in;go_wp2_with fail;refine ae.u.mono ?_;rintro e H ⟨rfl,c,l⟩;obtain⟨d1,d2,d3,l1,l2⟩:=y.u H c;have af:=O (FW.u H z _ c l ao η);clear c l ae;go_wp2_with fail;refine af.u.mono ?_;rintro e R ⟨rfl,L,h4⟩;obtain⟨d4,-,-,l4,-⟩:=y.u R L;have ag:=O (G.u R (V R.heap) _ ⟨#[93]⟩ K L h4<|by grind[ByteArray.size]);clear L h4 af;go_wp2_with fail;refine ag.u.mono ?_;rintro e ap F;obtain⟨rfl,h5,h6⟩:=ac.u _ _ _ F;go_wp2;go_end0;exact⟨K,h5,η⟩
 .have e:=a4.u K;obtain⟨z,rfl⟩:∃z:Nat,o=(z:Int):=⟨o.toNat,W⟩;have ao:z<i:=by have:=a6<|.inr K;omega
  rw[tQ]at e;subst e;generalize Z4 [44,32] (λj=>dV bn T (b.getD j 0).toNat) (Q b)=rb at*;simp only[qQ,jQ,xQ]at ah;have ae:=O (G.u _ (V w.heap+1+1) A ⟨#[40]⟩ θ am.u al.u.jy<|by grind[ByteArray.size]);clear h r P t N a7 a8 a9 a3 a4 Z a5 S v u a6;go_in;go_wp2_with fail;refine ae.u.mono ?_;rintro e H ⟨rfl,c,l⟩;obtain⟨d1,d2,d3,l1,l2⟩:=y.u H c;have af:=O (FR.u H _ c l η);clear c l ae;go_wp2_with fail;refine af.u.mono ?_;rintro e R ⟨rfl,L,h4⟩;obtain⟨d4,d5,d6,l4,l5⟩:=y.u R L;have ag:=O (G.u R (V R.heap) _ ⟨#[41,32,61,62,32]⟩ K L h4<|by grind[ByteArray.size]);clear L h4 af;go_wp2_with fail;refine ag.u.mono ?_;rintro e ap ⟨rfl,h5,h6⟩;obtain⟨d7,-,d8,l7,l8⟩:=y.u ap h5;have aw:=O (FW.u ap z _ h5 h6 ao η);clear h5 h6 ag;go_wp2_with fail;refine aw.u.mono ?_;rintro e bp F;obtain⟨rfl,h7,h8⟩:=ac.u _ _ _ F;go_wp2;go_end0;exact⟨K,h7,η⟩
 .have e:=Z.u K;subst e;have HC:=O<|Ŭ IH _ A r u d f b b3 (λab bm=>η) N ah;clear h r P t N a7 a8 a9 FW G y FR a3 a4 Z a5 S v u a6;go_in;go_wp2_with fail;refine HC.u.mono ?_;rintro e H F;obtain⟨rfl,c,l⟩:=ac.u _ _ _ F;go_wp2;go_end0;exact⟨K,c,l⟩
 .have e:=a5.u hk1 D;subst e;obtain⟨d1,-,-,l1,l2⟩:=y.u _ am.u;have d0:δ ((ω (ω w<|γ #[pV wb] 236)<|γ #[U k,Y n (Q q) p,Y d (Q b) f,U o] 88)) (J (V w.heap+1) 0)=C (U k):=cr t K;have ay:=O al.u.jy;have bj:Q (Z6 k)<=7:=by
   have hk:k=1\/k=2\/k=3\/k=4\/k=5\/k=6:=W;obtain rfl|rfl|rfl|rfl|rfl|rfl:=hk<;>decide
  have FP:Hid (∀ak aa,aa=V w.heap+1+1->μ ε 247 #[pV wb,Y (C<|J aa 0) 1 1] (ω (((ω (ω w<|γ #[pV wb] 236)<|γ #[U k,Y n (Q q) p,Y d (Q b) f,U o] 88)).drewN ak)<|γ #[ι ⟨ξ (Z6 k)⟩] 9) (X8 w B wb tv bn<|A++Z6 k)):=by
   intro ak aa hq;have hd:=Ψ No (ω (ω w<|γ #[pV wb] 236)<|γ #[U k,Y n (Q q) p,Y d (Q b) f,U o] 88) ak;refine(G.u (World.drewN (ω (ω w<|γ #[pV wb] 236)<|γ #[U k,Y n (Q q) p,Y d (Q b) f,U o] 88) ak) aa A ⟨ξ (Z6 k)⟩ ù (cG.y hd) (ay.u.y hd)<|by grind[ByteArray.size]).mono ?_;intro e x F;exact ac.u _ _ _ F
  clear h r P t N a7 a8 a9 FW G y FR a3 a4 Z a5 S v u a6;have e7:(k==7)=κ:=â;have e8:(k==8)=κ:=â;have e9:(k==9)=κ:=â;have bd:(k==10)=κ:=â;have ax:=O λa=>E3d k hk1 D a;generalize Z6 k=wk at*;go_in;go_wp2_with fail;go_region_with (first
   |(go_at_call 251;refine(ax.u _).mono ?_;rintro e x ⟨rfl,rfl⟩)
   |(go_at_call 247;refine(FP.u 1 _ θ).mono ?_;rintro e H ⟨rfl,c,l⟩));all_goals
   go_wp2;go_end0;exact⟨K,c,l⟩
end
section
variable{a:Type}
theorem DG(b:a->List υ)(f:∀x,Q (b x)=2):∀(l:List a) (i c) (e),c<2->(l.flatMap b)[i*2+c]?=(b l[i])[c]?
 |[],_,_,e,_=>η
 |x::r,0,c,_,d=>η
 |x::r,i+1,c,e,d=>by
  rw[List.flatMap_cons,List.getElem?_append_right η,f,show (i+1)*2+c-2=i*2+c by omega,DG b f r i c η d];rfl
theorem SI(b:a->List υ)(c:∀x,Q (b x)=2):∀l:List a,Q (l.flatMap b)=Q l*2
 |[]=>K
 |x::r=>by
  rw[List.flatMap_cons,qQ,c,SI b c r,jQ];omega
end
theorem A5d[Inhabited (bZ×Int)](d)(a)(h:d.size*2<=a.size):(Sort.putCells id 0 (Sort.flatK O0 2 d) a).toList.take (d.size*2)=I0 d.toList:=by
 have g:Q (I0 d.toList)=d.size*2:=by
  unfold I0;rw[SI O0 λ_=>K];simp
 refine List.ext_getElem? λt=>?_;by_cases b:t<d.size*2
 .have e:=DG O0 (λ_=>K) d.toList (t/2) (t % 2) η W;rw[show t/2*2+t % 2=t by omega]at e;unfold I0;rw[e,List.getElem?_take_of_lt b];have f:t<a.size:=W;have c:(Sort.putCells id 0 (Sort.flatK O0 2 d) a).toList[t]?=C ((O0 d[t/2]!)[t % 2]!):=by
   unfold Sort.putCells;rw[Array.getElem?_toList,Array.getElem?_mapIdx];simp only[f,Array.getElem?_eq_getElem,Option.map_some];rw[yY ù];simp only[Nat.sub_zero,id];rw[Sort.get_flatK _ _ _ _ b]
  rw[c];grind[O0]
 grind
def vy(x y:bZ×Int)(a:E):μ ε 260 #[.agg #[ι ⟨ξ x.1⟩,U x.2],.agg #[ι ⟨ξ y.1⟩,U y.2]] a λe c=>e=π (U<|É x.1 y.1)/\∃q f,c=Sort.grow (a.drewN q) f:=by
 have b:=λd=>Tryz.strings_Compare ⟨ξ x.1⟩ ⟨ξ y.1⟩ d;generalize g:É x.1 y.1=r;simp at b;go_in;go_wp2_with (go_at_call 261;refine(b _).mono ?_;rintro e c ⟨rfl,rfl⟩);go_ret;exact⟨K,0,_,by rw[Sort.alloc_eq_grow,Sort.alloc_eq_grow,Sort.grow_grow];rfl⟩
def wI(x y:bZ×Int):Int:=É x.1 y.1
def KU:Sort.SWO (ltOf wI) where
 irrefl x:=by grind[ltOf,wI,Cf]
 trans x y z h1 h2:=by
  have a1:=of_decide_eq_true h1;have a:=of_decide_eq_true h2;unfold wI at a1 a;exact decide_eq_true ((JC x.1 y.1 z.1 W W).2<|.inl a1)
 ntrans x y z h1 h2:=by
  have a1:=of_decide_eq_false h1;have a:=of_decide_eq_false h2;unfold wI at a1 a;have b:=xE x.1 y.1;have c:=xE y.1 z.1;have d:=xE x.1 z.1;have:=(JC z.1 y.1 x.1 W W).1;refine decide_eq_false ?_;grind[wI]
def Ģ(w:E)(u)(a:List<|bZ×Int)(L:(a.map (·.1)).Nodup)(v)(P:ρ w u 156 2 v (Q a)<|I0 a)(a5:Q a<=100000000):
 μ ε 259 #[v,.func (.func 260) #[] #[]] w λe f=>e=rT/\I (λk=>C k=Θ v) w f/\ρ f u 156 2 v (Q a) (I0<|nA a):=by
 obtain⟨rfl,A⟩|⟨g,n,o,rfl,D,l,M,H,a4,T⟩:=P.2
 .have d:=AnyF.slices_SortFunc_none Tryz.sortF none 0 (.func (.func 260) #[] #[]) w;refine Calls.mono (show μ ε 259 _ _ _ from d) ?_;rintro e f ⟨rfl,rfl⟩;have:=List.length_eq_zero_iff.1 A;subst this;have e:nA ([]:List<|bZ×Int)=[]:=List.length_eq_zero_iff.1<|JG _;grind[ì]
 .have G:=(aG l);have z:=enters_of func260 Ω K;have B:Sort.HoldsK O0 2 w g 0 (ξ a):=by
   intro j c;rw[Sort.size_flatK]at c;simp at c;refine⟨?_,by grind[æ]⟩;rw[Nat.zero_add,ä w g j _ _ _ l,Sort.get_flatK _ _ _ _ W];have e:=DG O0 (λ_=>K) a (j/2) (j % 2) W W;rw[show j/2*2+j % 2=j by omega]at e;have h:o[j]?=(I0 a)[j]?:=by
    rw[<-T,List.getElem?_take_of_lt c,Array.getElem?_toList]
   have q:j/2<Q a:=W;have p:j % 2<Q (O0 a[j/2]):=by
    show j % 2<2;omega
   rw[h];unfold I0;rw[e,gQ p];simp[q,p]
  have d:=AnyQ.slices_SortFunc Tryz.sortF 2 Tryz.isAgg156 Tryz.sizeOf156 O0 (λ_=>K) (λx v t=>by simp[O0]at t;obtain rfl|rfl:=t<;>rfl) wI KU 260 #[] g 0 n (ξ a) w z (λ_ _ _ _ x a3=>vy x a3 _) B G η;simp only[List.size_toArray]at d;refine Calls.mono (show μ ε 259 _ _ _ from d) ?_;rintro e f ⟨rfl,b,a2,os,s,R,rfl⟩;have S:b.size=Q a:=by have:=s.1;simpa using this
  have q:b.toList=nA a:=by
   have m:=s.2.2;have y:(b.extract 0 (Q a)).toList=b.toList:=by rw[<-S];simp
   have h:(a.toArray.extract 0 (Q a)).toList=a:=θ;rw[y,h]at m;refine QH _ _ (m.trans (Y3 a).symm) ((m.map _).nodup_iff.2 L) ?_<|QZ a;rw[List.pairwise_iff_getElem];intro i j r c F;have:=R i j (wQ _) F η;simp at r c;have this:=of_decide_eq_false this;unfold wI at this;rw[getElem!_pos b i r,getElem!_pos b j c]at this;simp only[mR,EW,Bool.not_eq_true',decide_eq_false_iff_not,Array.getElem_toList];exact this
  have Z:(sortWorldK O0 2 w g 0 a2 b os).heap[g]?=C (γ (Sort.putCells id 0 (Sort.flatK O0 2 b) o) 156 (0,0)):=by
   unfold sortWorldK Sort.grow Sort.putRowK Sort.putRow Sort.mapBlock Sort.ahead;rw[Array.getElem?_append_left η,Array.getElem?_modify,yY K,l];rfl
  refine⟨K,?_,?_⟩
  .refine⟨K,K,K,by grind[sortWorldK,Sort.grow,Sort.putRowK,Sort.putRow,Sort.mapBlock,Sort.ahead],λk hk N=>?_⟩;have a6:¬g=k:=λe=>N (by subst e;rfl);unfold sortWorldK Sort.grow Sort.putRowK Sort.putRow Sort.mapBlock Sort.ahead;grind
  .refine⟨?_,.inr ⟨g,n,_,K,D,Z,M,H,?_,?_⟩⟩
   .unfold I0;rw[SI O0 λ_=>K,JG]
   .grind[Sort.putCells]
   grind[A5d]
def uv(w:E)(b)(i)(f)(h:ρ w 0 156 2 (Y i (Q b) f) (Q b)<|I0 b)(hn:Q b<=100000000):
 μ ε 258 #[Y i (Q b) f] w λe q=>∃l m,e=π (Y l (Q b) m)/\I No w q/\ρ q (V w.heap) 156 2 (Y l (Q b) m) (Q b) (I0 b):=by
 obtain⟨i0,M,S,T,Z⟩:=ý Tryz.j7;have a9:=λw a a2 c n' B=>Lib.run_eql_slice_nil w _ _ a a2 c n' B underlying86;obtain⟨d,F⟩|⟨g,a4,a5,d,hb,H,a7,hm,a6,a8⟩:=h.2
 .have:=List.length_eq_zero_iff.1 F;subst this;simp at d;obtain⟨rfl,-,rfl⟩:=d;go_in;go_wp2;go_ret;exact⟨none,0,K,ì _ _,K,.inl ⟨K,K⟩⟩
 .simp at d;obtain⟨rfl,-,rfl⟩:=d;have R:=(aG H);have y:Hid (ρ (ω w<|γ #[] 156) (V w.heap) 156 2 (Y (C<|J (V w.heap) 0) 0 0) 0 []):=
   ⟨K,.inr ⟨V w.heap,0,#[],K,vQ _,rY w _,vQ _,wQ _,K,K⟩⟩;have t:=O<|VS h;have v:Hid (∀j u,(I0 b)[j]?=C u->δ (ω w<|γ #[] 156) (((J g 0):í).add j)=C u):=by
   intro j u N;have e:=h.cells K j u N;have G:((J g 0):í).add j=(J g j):=by unfold Addr.add;split<;>simp_all
   rw[G]at e⊢;exact I9 R e
  have r:Hid (∀u∈I0 b,u.oneCell'=τ):=by
   intro u o;unfold I0 at o;obtain⟨x,-,p⟩:=List.mem_flatMap.1 o;simp[O0]at p;obtain rfl|rfl:=p<;>rfl
  go_in;go_wp2_with (at_builtin;refine Ù _ K _ _ 86 K (V w.heap) 156 i0 (.agg #[ι ⟨#[]⟩,U 0]) 2 24 underlying86 M S T Z K ζ _ 0 [] K y.u (J g 0) (Q b) f (I0 b) K t.u v.u r.u ?c3 ?c4 ?c5 ?_);case c3=>omega
  case c4=>omega
  case c5=>simp
  intro v' a3 n L _;obtain⟨A,D,rfl⟩:=B8 n;have z:=O n;have s:Hid (I No w a3):=by
   refine((ν (λk=>V w.heap<=k) w _).trans (ü L) λk P x=>?_).mono (λk P x=>W);have x':C k=C (V w.heap):=x;simp at x';omega
  go_wp2;go_ret;exact⟨A,D,K,s.u,z.u⟩
def CG(a:Bool)(T:List Ty)(p:bZ×Int):bZ:=[32]++p.1++[58,32]++dV a T p.2.toNat++[59]
def oG(a:Bool)(T:List Ty)(l:List<|bZ×Int):bZ:=l.flatMap<|CG a T
def sZ(a:Bool)(l:List<|bZ×Int):List (bZ×Int):=if a then nA l else l
def OZ{bn}{T}(l:List<|bZ×Int){j}(a):oG bn T (l.take<|j+1)=oG bn T (l.take j)++CG bn T l[j]:=by
 unfold oG;grind[nQ]
def Jx{bn}{T}(l){j}(a):Q (oG bn T<|l.take j)+Q (CG bn T l[j])<=Q (oG bn T l):=by
 have b:=OZ (bn:=bn) (T:=T) l a;grind[oG,List.take_append_drop,qQ]
def ĉ(a)(l):Q (sZ a l)=Q l:=by
 grind[sZ,JG]
def Č{a}{l}{p}(h:p∈sZ a l):p∈l:=by
 grind[sZ,Y3]
section
variable{bn:Bool}{T:List Ty}{i:Nat}
def Dy(b:aX T)(c:i<Q T)(h:T[i].x=7):T[i].M=[]/\(T[i].eo.map (·.1)).Nodup:=by
 obtain a|a|a|a|a:=b i c<;>grind
def Mu(b:aX T)(c)(h:T[i].x=7):dV bn T i=[123]++oG bn T (sZ bn T[i].eo)++(if Q T[i].eo=0 then [] else [32])++[125]:=by
 obtain⟨d,f⟩:=Dy b c h;have e:tr T i=.nd 7 (T[i].eo.map (·.1)) (T[i].eo.map λp=>(λz:Int=>tr T z.toNat) p.2):=by
  rw[X7 b c,wY W,d,h];simp
 unfold dV;rw[e];cases bn with
 |false=>
  have a:∀t,mF κ t=t:=λt=>Ω;rw[a,ZR T[i].eo λz:Int=>tr T z.toNat];rfl
 |true=>
  have a:∀t,mF τ t=iO t:=λt=>Ω;rw[a,B3e _ (λz:Int=>tr T z.toNat) f,ZR _ λz:Int=>iO<|tr T z.toNat,JG];rfl
end
section
variable{B wb:Nat}{tv:υ}{bn:Bool}{T:List Ty}{m:Nat}
def OK{a0}(p:B<=a0.heap.size)(a)(q)(f)(b c d)(i:q=V a.heap)(g:cG B wb a0 a)(j:gC a B wb tv bn f)(r:Q f+b.size+c.size+d.size<=100000000000000):
 μ ε 247 #[pV wb,Y (C<|J q 0) 3 3] (a.alloc<|γ #[ι b,ι c,ι d] 9) (X8 a0 B wb tv bn<|f++(b.data.toList++c.data.toList++d.data.toList)):=by
 subst i;have k:=bl b;have l:=bl c;have n:=bl d;refine(QE (j.y<|ν _ _ _) [b,c,d] (V a.heap) (0,0) (rY a _) θ (by grind[lW])<|by simp;have:=g.size;omega).mono ?_;rintro e s ⟨rfl,h,o⟩;exact⟨K,(g.trans<|cG.y<|ν _ _ _).trans h,by grind[lW]⟩
def Ec{w:E}{f}{c}{b}{a}(l:ρ w f 156 2 (Y c (Q a) b) (Q a)<|I0 a){j}(e):
 ∃g,c=C (J g 0)/\g<V w.heap/\Q a<=b/\b<=Δ/\δ w (J g<|j*2)=C (ι ⟨ξ a[j].1⟩)/\δ w (J g<|j*2+1)=C (U a[j].2):=by
 obtain⟨g,rfl,-,k,h,i,d⟩:=D5 l W;have a0:=DG O0 (λ_=>K) a j 0 e W;have a1:=DG O0 (λ_=>K) a j 1 e W;exact⟨g,K,k,h,i,d _ _ a0,d _ _ a1⟩
def Ą(IH:zK B wb tv bn T m)(i)(bf:i<=m)(hi)(be:Q T[i].eo<=2001):BN B wb tv bn T i:=by
 intro _ w G fa fc al h a5 ho a7;have hT:=h.ok;have hE:=Mu (bn:=bn) hT hi al;have aw:=(Dy hT hi al).2;have ar:=(hT i hi).nh;have ay:=ĉ bn T[i].eo;have av:∀p∈sZ bn T[i].eo,0<=p.2/\p.2<i:=λp hp=>ar p<|Č hp;have bg:Q G+Q (oG bn T<|sZ bn T[i].eo)+2<=100000000000000:=by
  rw[hE]at a7;simp at a7;omega
 have au:Q T[i].eo≠0->Q G+Q (oG bn T<|sZ bn T[i].eo)+3<=100000000000000:=by
  intro h0;rw[hE,wY h0]at a7;simp at a7;omega
 have y:=O hE;clear hE ar al a7;generalize dV bn T i=tx at*;obtain⟨bc,c3,bh⟩:=h.jy.o9;generalize bd:T[i].eo=R at*;generalize ad:sZ bn R=b at*;
 have n:Hid (∀a0:E,I No w a0->∀a q f aa,q=V a.heap->cG B wb a0 a->gC a B wb tv bn f->Q f+aa.size<=100000000000000->μ ε 247 #[pV wb,Y (C<|J q 0) 1 1] (a.alloc<|γ #[ι aa] 9) (X8 a0 B wb tv bn<|f++aa.data.toList)):=
  λa0 o a q f aa=>Jc (kQ a5 o.size) a q f aa;have bb:Hid (∀a0:E,I No w a0->∀a q f s1 s2 s3,q=V a.heap->cG B wb a0 a->gC a B wb tv bn f->Q f+s1.size+s2.size+s3.size<=100000000000000->μ ε 247 #[pV wb,Y (C<|J q 0) 3 3] (a.alloc<|γ #[ι s1,ι s2,ι s3] 9) (X8 a0 B wb tv bn<|f++(s1.data.toList++s2.data.toList++s3.data.toList))):=
  λa0 o a q f s1 s2 s3=>OK (kQ a5 o.size) a q f s1 s2 s3;have FW:Hid (∀a0:E,I No w a0->∀a z f,cG B wb a0 a->gC a B wb tv bn f->z<i->Q f+Q (dV bn T z)<=100000000000000->μ ε 237 #[pV wb,U (z:Int)] a (X8 a0 B wb tv bn<|f++dV bn T z)):=by
  intro a0 o a z f ha hw A N;refine(IH z a f W W ((h.y o).kept ha hw) (kQ a5<|kQ o.size ha.size) N).mono ?_;rintro e w' ⟨rfl,H,M⟩;exact⟨K,ha.trans H,M⟩
 have ap:Hid (∀a0:E,I No w a0->gC a0 B wb tv bn G):=λa0 o=>h.jy.y o;have FR:Hid (∀a0:E,I No w a0->∀ga gc,a0.ownsRow 0 156 2 (Y ga (Q b) gc) (Q b) (I0 b)->∀a,cG B wb a0 a->ρ a 0 156 2 (Y ga (Q b) gc) (Q b) (I0 b)):=
  λa0 o ga gc hr a ha=>ha.own (h.jy.y o) hr ζ ζ;have ax:=O aw;clear aw;cases bn with
 |false=>
  have ae:b=R:=by rw[<-ad];rfl
  subst ae;clear ad ay;have c:I No w w:=ì _ _;have am:=O ho;clear h ho;go_in;go_wp2_with fail;have Z:=O (n.u w c w (V w.heap) G ⟨#[123]⟩ K (cG.refl _ _ _) (ap.u w c)<|by grind[ByteArray.size]);refine Z.u.mono ?_;rintro e u1 ⟨rfl,H,M⟩;have K1:=O H;have R1:=O M;clear H M Z;go_wp2_with fail;go_loopw [19] (λv wr=>∃j:Nat,j<=Q b/\v=U (j:Int)/\Hid (gC wr B wb tv κ<|G++[123]++oG κ T (b.take j))/\Hid (cG B wb w wr)) (λv _=>Q b-(intOf v).toNat);case atStart=>grind[oG]
  case round=>
   obtain⟨j,hj,rfl,d,CR⟩:=hrel;have ah:=kQ a5<|kQ c.size CR.u.size;by_cases u:j<Q b
   .have N:=Jx (bn:=κ) (T:=T) b u;have F:=O<|OZ (bn:=κ) (T:=T) b u;obtain⟨b1,aj,hg,b3,ai,x0,x1⟩:=Ec (FR.u w c _ _ am.u wr CR.u) u;subst aj;unfold Δ at ai;have a9:=av b[j]<|mQ u;unfold CG at N F;generalize b[j]=p at*;obtain⟨x,zz⟩:=p;obtain⟨z,rfl⟩:∃z:Nat,zz=(z:Int):=⟨zz.toNat,W⟩;have ao:z<i:=by have:=a9.2;simp only at this;omega
    simp only[tQ,qQ,jQ,xQ]at N F x0 x1;clear a9;have l:I No wr (wr.alloc<|γ #[ι ⟨ξ x⟩,U (z:Int)] 156):=ν _ _ _;have a3:=O (OK (B:=B) (wb:=wb) (tv:=tv) (bn:=κ) (a0:=wr.alloc<|γ #[ι ⟨ξ x⟩,U (z:Int)] 156) (kQ ah l.size) _ (wr.heap.size+1) _ ⟨#[32]⟩ ⟨ξ x⟩ ⟨#[58,32]⟩ θ (cG.refl _ _ _) (d.u.y l)<|by grind[ByteArray.size]);have WA:=O<|d.u.y l;have S:=O<|CR.u.trans<|cG.y l;have a8:wr.heap.size<V (wr.alloc<|γ #[ι ⟨ξ x⟩,U (z:Int)] 156).heap:=θ;clear CR d l;go_wp2_with fail;refine a3.u.mono ?_;rintro e ab ⟨rfl,s,h4⟩;have hq:=s.other WA.u (rY wr _) ζ ζ;have d1:δ ab (J wr.heap.size 1)=C (U (z:Int)):=cr hq K;have d2:=yQ a8 s.size;have a4:=O (FW.u w c ab z _ (S.u.trans s) h4 ao<|by simp only[qQ,jQ,xQ];omega);clear s h4 hq WA S a3 a8;go_wp2_with fail;refine a4.u.mono ?_;rintro e ac ⟨rfl,h5,h6⟩;have a2:=O (n.u w c ac (V ac.heap) _ ⟨#[59]⟩ K h5 h6<|by simp[ByteArray.size];omega);clear h5 h6 a4;go_wp2_with fail;refine a2.u.mono ?_;rintro e b8 ⟨rfl,h7,h8⟩;have K7:=O h7;have R8:=O h8;clear h7 h8 a2;go_wp2;go_roundw;case rel=>exact⟨j+1,W,ï,by rw[F.u];grind,K7.u⟩
    case measure=>simp[intOf];omega
   .have ak:j=Q b:=W;subst ak;rw[vZ]at d;have a6:cG B wb w w:=cG.y c;by_cases A:Q b=0
    .have r:=O (n.u w c wr wr.heap.size _ ⟨#[125]⟩ K CR.u d.u<|by grind[ByteArray.size]);have g:=y.u;rw[yY A]at g;have D:=O g;clear g y;clear CR d;have an:(Q b:Int)=0:=W;simp only[an]at*;go_wp2_with fail;refine r.u.mono ?_;rintro e P ⟨rfl,t,L⟩;go_wp2;go_end0;exact⟨K,a6.trans t,by rw[D.u];grind⟩
    .have b5:(0:Int)<(Q b:Int):=W;have b4:=au A;have g:=y.u;rw[wY A]at g;have D:=O g;clear g y;have r:=O (n.u w c wr wr.heap.size _ ⟨#[32]⟩ K CR.u d.u<|by grind[ByteArray.size]);clear CR d;go_wp2_with fail;refine r.u.mono ?_;rintro e P ⟨rfl,t,L⟩;have af:=O (n.u w c P (V P.heap) _ ⟨#[125]⟩ K t L<|by grind[ByteArray.size]);clear t L r;go_wp2_with fail;refine af.u.mono ?_;rintro e b9 ⟨rfl,ag,b2⟩;go_wp2;go_end0;exact⟨K,a6.trans ag,by rw[D.u];grind⟩
 |true=>
  have ae:b=nA R:=by rw[<-ad];rfl
  have HC:=O (uv w R fa fc ho W);clear h ho;go_in;go_wp2_with fail;refine HC.u.mono ?_;rintro e b7 ⟨ga,gc,rfl,az,o1⟩;have aq:=O (Ģ b7 (V w.heap) R ax.u _ o1 W);have K1:=O az;have O1:=O o1;clear az o1 HC;go_wp2_with fail;refine aq.u.mono ?_;rintro e k ⟨rfl,b0,o2⟩;have c:=K1.u.trans b0 (λb6 hk ba=>by have:=(A9 O1.u b6 ba.symm).1;omega);rw[<-ae]at o2;have am:=O<|C7 o2<|wQ _;clear K1 O1 aq b0 o2 ae ax ad;generalize Q R=bi at*;subst ay;go_wp2_with fail;have Z:=O (n.u k c k (V k.heap) G ⟨#[123]⟩ K (cG.refl _ _ _) (ap.u k c)<|by grind[ByteArray.size]);refine Z.u.mono ?_;rintro e u1 ⟨rfl,H,M⟩;have K1:=O H;have R1:=O M;clear H M Z;go_wp2_with fail;go_loopw [19] (λv wr=>∃j:Nat,j<=Q b/\v=U (j:Int)/\Hid (gC wr B wb tv τ<|G++[123]++oG τ T (b.take j))/\Hid (cG B wb k wr)) (λv _=>Q b-(intOf v).toNat);case atStart=>grind[oG]
  case round=>
   obtain⟨j,hj,rfl,d,CR⟩:=hrel;have ah:=kQ a5<|kQ c.size CR.u.size;by_cases u:j<Q b
   .have N:=Jx (bn:=τ) (T:=T) b u;have F:=O<|OZ (bn:=τ) (T:=T) b u;obtain⟨b1,aj,hg,b3,ai,x0,x1⟩:=Ec (FR.u k c _ _ am.u wr CR.u) u;subst aj;unfold Δ at ai;have a9:=av b[j]<|mQ u;unfold CG at N F;generalize b[j]=p at*;obtain⟨x,zz⟩:=p;obtain⟨z,rfl⟩:∃z:Nat,zz=(z:Int):=⟨zz.toNat,W⟩;have ao:z<i:=by have:=a9.2;simp only at this;omega
    simp only[tQ,qQ,jQ,xQ]at N F x0 x1;clear a9;have l:I No wr (wr.alloc<|γ #[ι ⟨ξ x⟩,U (z:Int)] 156):=ν _ _ _;have a3:=O (OK (B:=B) (wb:=wb) (tv:=tv) (bn:=τ) (a0:=wr.alloc<|γ #[ι ⟨ξ x⟩,U (z:Int)] 156) (kQ ah l.size) _ (wr.heap.size+1) _ ⟨#[32]⟩ ⟨ξ x⟩ ⟨#[58,32]⟩ θ (cG.refl _ _ _) (d.u.y l)<|by grind[ByteArray.size]);have WA:=O<|d.u.y l;have S:=O<|CR.u.trans<|cG.y l;have a8:wr.heap.size<V (wr.alloc<|γ #[ι ⟨ξ x⟩,U (z:Int)] 156).heap:=θ;clear CR d l;go_wp2_with fail;refine a3.u.mono ?_;rintro e ab ⟨rfl,s,h4⟩;have hq:=s.other WA.u (rY wr _) ζ ζ;have d1:δ ab (J wr.heap.size 1)=C (U (z:Int)):=cr hq K;have d2:=yQ a8 s.size;have a4:=O (FW.u k c ab z _ (S.u.trans s) h4 ao<|by simp only[qQ,jQ,xQ];omega);clear s h4 hq WA S a3 a8;go_wp2_with fail;refine a4.u.mono ?_;rintro e ac ⟨rfl,h5,h6⟩;have a2:=O (n.u k c ac (V ac.heap) _ ⟨#[59]⟩ K h5 h6<|by simp[ByteArray.size];omega);clear h5 h6 a4;go_wp2_with fail;refine a2.u.mono ?_;rintro e b8 ⟨rfl,h7,h8⟩;have K7:=O h7;have R8:=O h8;clear h7 h8 a2;go_wp2;go_roundw;case rel=>exact⟨j+1,W,ï,by rw[F.u];grind,K7.u⟩
    case measure=>simp[intOf];omega
   .have ak:j=Q b:=W;subst ak;rw[vZ]at d;have a6:cG B wb w k:=cG.y c;by_cases A:Q b=0
    .have r:=O (n.u k c wr wr.heap.size _ ⟨#[125]⟩ K CR.u d.u<|by grind[ByteArray.size]);have g:=y.u;rw[yY A]at g;have D:=O g;clear g y;clear CR d;have an:(Q b:Int)=0:=W;simp only[an]at*;go_wp2_with fail;refine r.u.mono ?_;rintro e P ⟨rfl,t,L⟩;go_wp2;go_end0;exact⟨K,a6.trans t,by rw[D.u];grind⟩
    .have b5:(0:Int)<(Q b:Int):=W;have b4:=au A;have g:=y.u;rw[wY A]at g;have D:=O g;clear g y;have r:=O (n.u k c wr wr.heap.size _ ⟨#[32]⟩ K CR.u d.u<|by grind[ByteArray.size]);clear CR d;go_wp2_with fail;refine r.u.mono ?_;rintro e P ⟨rfl,t,L⟩;have af:=O (n.u k c P (V P.heap) _ ⟨#[125]⟩ K t L<|by grind[ByteArray.size]);clear t L r;go_wp2_with fail;refine af.u.mono ?_;rintro e b9 ⟨rfl,ag,b2⟩;go_wp2;go_end0;exact⟨K,a6.trans ag,by rw[D.u];grind⟩
def TV(b:∀i (a:i<Q T),Q T[i].M<=100000000/\Q T[i].eo<=2001):∀m,zK B wb tv bn T m
 |0=>λi w c g=>W
 |m+1=>λi w c f a h d e=>Sy (TV b m) i W (Ą (TV b m) i W a (b i a).2) a w c h d e (b i a).1
end
def D6c{w}{B c}{q}{i}{l}(h:gC w B c q i l)(d:l≠[]):
 μ ε 238 #[pV c] w λe s=>e=π (ι ⟨ξ l⟩)/\Below B w s:=by
 obtain⟨u,p,v,m,_,f⟩:=h;have G:Q l≠0:=by simpa using d
 obtain⟨g,a,b,rfl,k,n,H,A,D,L⟩:∃g a b,v=Y (C<|J g 0) (Q l) a/\B<=g/\w.heap[g]?=C (γ b 5 (0,0))/\Q l<=a/\a<=Δ/\b.size=a*1/\b.toList.take (Q l*1)=Lib.byteCells l:=by
  obtain⟨_,N⟩|⟨g,a,b,o,r⟩:=f.2
  .omega
  .exact⟨g,a,b,o,r⟩
 have t:δ w.drew (J c 1)=C (Y (C<|J g 0) (Q l) a):=by
  have:=m;rw[ä w.drew c 1 _ _ _ this];rfl
 have y:(Builtin.unsafeSliceData_ #[238] 260 #[Y (C<|J g 0) (Q l) a]).run ε w.drew=.ok (pV g) w.drew:=
  Lib.run_unsafeSliceData_row _ _ _ _ _ _ W;have z:(Builtin.unsafeString_ #[260,3] 9 #[pV g,U (Q l)]).run ε w.drew=.ok (ι ⟨ξ l⟩) (w.drew.freeze (J g 0) (Q l)):=by
  refine Lib.run_unsafeString_row w.drew 260 3 9 5 underlying260 Tryz.nj g b.size (by have F:w.drew.heap[g]?=C (γ b 5 (0,0)):=n;grind[World.shape?]) l d W Ñ ?_;intro j x M;have:=f.cells K j (.int .u8 x.toNat) (by grind[Lib.byteCells]);exact this
 go_in;go_wp2;go_region;all_goals (go_wp2;go_ret;exact⟨K,Lib.below_freeze (Below.drew<|Below.refl B w) k _⟩)
def tG(T:List Ty):Prop:=∀i (a:i<Q T),Q T[i].M<=100000000/\Q T[i].eo<=2001
def Yu{bn}{T}{i}(a:aX T)(b:i<Q T):dV bn T i≠[]:=by
 grind[dV,mF,Yl,Yn,BR]
def Ay{bn}{T}{i}:Q (dV bn T i)<=wg (tr T i):=by
 grind[dV,mF,kQ,Ye,Yo]
section
variable{a b N:Nat}{T:List Ty}{D:Dt}
def Ū(w)(h:dY w a b N T D)(H:tG T)(j)(d)(l:w.heap[d]?=C (γ #[Γ none,sN,sN,.bool j] 242 (0,0)))(i)(r:i<Q T)(hl:wg (tr T i)<=1000000000):
 μ ε 219 #[pV a,pV d,U i] w λe S=>e=π (ι ⟨ξ (dV j T i)⟩)/\Below d w S:=by
 have q:=h.ok;obtain⟨_,_,yv,Z,F,o,M⟩:=h;obtain⟨f,c,rfl⟩:=B8 o;have a6:=(aG l);have a2:δ w (J a 0)=C (Y f (Q T) c):=cr F K;have a3:δ w (J d 2)=C (sN):=cr l K;have a4:=æ w d 2 _ _ l;have n:=é w (J d 2)<|Y f (Q T) c;have ne:∀g m e,w.heap[g]?=C (γ m e (0,0))->e≠242->¬g=d:=by
  rintro g m e k G rfl;rw[l]at k;simp only[zQ,xW]at k;exact G k.2.1.symm
 have R:gC (σ w (J d 2)<|Y f (Q T) c) d d (Y f (Q T) c) j []:=⟨vQ _,Γ none,sN,by rw[ð w d 2 _ _ _ l];rfl,.inl K,kW _ _ _ _⟩;have P:lU (σ w (J d 2)<|Y f (Q T) c) d d (Y f (Q T) c) j T []:=by
  refine⟨R,q,Z,A3 (C7 o<|wQ _) n λg k x=>?_,M.imp<|eI.P n (λg _ _ hx L=>?_) λ_ _ _=>trivial⟩
  .obtain⟨_,m,L⟩:=A9 o g k;grind
  .grind
 have a5:=Ay (bn:=j) (T:=T) (i:=i);have z:=O (TV H (i+1) i _ [] (vQ _) r P â η);have v:=O<|Yu (bn:=j) q r;have s:=O (n.ep (B:=d) (λa7 _ x=>η) W);go_in;go_wp2_with fail;refine z.u.mono ?_;rintro e a8 ⟨rfl,A,p⟩;rw[uY]at p;have y:=O<|D6c p v.u;have t:=O (s.u.trans<|A.below â);go_wp2_with fail;refine y.u.mono ?_;rintro e a9 ⟨rfl,B⟩;have u:=O<|t.u.trans B;go_wp2;go_ret;exact⟨K,u.u⟩
def Ņ(w)(h:dY w a b N T D)(g:tG T)(i)(j:i<Q T)(l:wg (tr T i)<=1000000000):
 μ ε 192 #[pV a,U i] w λe m=>e=π (ι ⟨ξ (dV τ T i)⟩)/\I No w m:=by
 have d:=O<|Ū _ (h.alloc<|γ #[Γ none,sN,sN,.bool τ] 242) g τ (V w.heap) (rY w _) i j l;go_in;go_wp2_with fail;refine d.u.mono ?_;rintro e o ⟨rfl,f⟩;have c:=O (((ν (λk=>V w.heap<=k) w _).trans (I.below f) Ξ).mono (S':=λ_=>False) λk n x=>W);go_wp2;go_ret;exact⟨K,c.u⟩
end
def cI(T:List Ty)(x:Int):Tr:=tr T x.toNat
theorem Cw:∀l a,J8 (l++a)=J8 l++J8 a
 |[],_=>Ω
 |t::r,a=>by rw[jZ,J8,J8,Cw r a,qZ]
theorem A6d(t):J8 [t]=flat t:=by simp[J8]
def vl(T)(a:uZ){j}(b):J8 ((a.take<|j+1).map<|cI T)=J8 ((a.take j).map<|cI T)++flat (cI T a[j]):=by
 grind[nQ,zY,Cw,A6d]
def Wd{T}{z}(a:aX T)(c)(b:T[z].x=10):flat (tr T z)=J8 (T[z].M.map<|cI T):=by
 rw[X7 a c,flat,yY b,wY W,IX a c<|.inr b];rfl
def vj{T}{z}(a:aX T)(c)(b:T[z].x≠10):flat (tr T z)=[tr T z]:=by
 simp_all[X7,flat,wY]
def Af:∀l,Q l*5<=dW l
 |[]=>θ
 |t::r=>by have:=Af r;grind[jQ,dW]
theorem E4d(T)(a:uZ)(j):dW ((a.take j).map<|cI T)<=dW (a.map<|cI T):=by
 grind[cI,zY,List.take_append_drop,Aa]
def PC{T}{ls a:uZ}{j}(h:a.map (cI T)=J8 ((ls.take j).map<|cI T)):Q a*5<=dW (ls.map<|cI T):=by
 have b:=Af<|J8<|(ls.take j).map<|cI T;have c:=GQ ((ls.take j).map<|cI T) λx _=>Am x;grind[E4d]
def A0e{T}{z}(a:aX T)(b)(c:T[z].x=10):dW (T[z].M.map<|cI T)<=wg (tr T z):=by
 have e:(T[z].M.map λx=>tr T x.toNat)=T[z].M.map (cI T):=K;rw[X7 a b,wg,wY W,IX a b<|.inr c,e];simp
def SH{l}(a:l≠[])(h:∀t∈l,flat t≠[]):J8 l≠[]:=by
 cases l with
 |nil=>grind
 |cons t r=>
  rw[J8];simp_all
def XQ(t)(h:Wf t):flat t≠[]:=by
 induction h with
 |plain k i e=>grind[flat]
 |obj j g a b c d _=>simp_all[flat,wY]
 |arr t a _=>simp_all[flat,wY]
 |fn t l a b _ _=>simp_all[flat,wY]
 |uni g e h f=>
  rw[flat,yY K];exact SH η f
def ApP(T:List Ty)(f:uZ)(w:E)(e:ò)(d:E):Prop:=∃(b:Option í) (c:Nat) (a:uZ),e=π (Y b (Q a) c)/\I No w d/\ρ d (V w.heap) 3 1 (Y b (Q a) c) (Q a) (C8 a)/\(∀x∈a,0<=x/\x<Q T)/\a.map (cI T)=J8 (f.map<|cI T)
section
variable{a b N:Nat}{T:List Ty}{D:Dt}
def UB(a b N:Nat)(T:List Ty)(D:Dt)(m:Nat):Prop:=∀(c) (w) (d) (e),(∀x∈c,0<=x/\x<(m:Int)/\x<Q T)->dY w a b N T D->ρ w 0 3 1 (Y d (Q c) e) (Q c) (C8 c)->Q c<=100000000->dW (c.map<|cI T)<=1000000000->
 μ ε 191 #[pV a,Y d (Q c) e] w (ApP T c w)
theorem Zo(hf:tG T){an}(IH:∀z,z<an->UB a b N T D z):UB a b N T D an:=by
 intro f w la lc ay ag b0 hn bh;have p:=ag.ok;obtain⟨i0,hi,ak,al,am⟩:=ý Tryz.fy;have ab:Hid (∀m,I No w m->dY m a b N T D):=λm ha=>ag.y ha;have FO:Hid (∀m,I No w m->ρ m 0 3 1 (Y la (Q f) lc) (Q f) (C8 f)):=λm ha=>A3 b0 ha Ξ;go_in;go_wp2;go_loopw [11,5] (λa9 u wr=>∃(j:Nat) (c:uZ) (G:Option í) (F:Nat),j<=Q f/\a9=U j/\u=Y G (Q c) F/\Hid (I No w wr)/\Hid (wr.ownsRow (V w.heap) 3 1 (Y G (Q c) F) (Q c)<|C8 c)/\Hid (∀x∈c,0<=x/\x<Q T)/\Hid (c.map (cI T)=J8 ((f.take j).map<|cI T))) (λa9 _ _=>Q f-(intOf a9).toNat);case atStart=>exact⟨0,[],none,0,wQ _,K,K,ì _ _,kW _ _ _ _,(show∀x∈([]:uZ),_ from θ),(show _=_ from Ω)⟩
 case round=>
  obtain⟨j,c,G,F,hj,rfl,rfl,CR,y,IR,t⟩:=hrel;by_cases L:j<Q f
  .have bj:=ay f[j]<|mQ L;have a3:=O<|vl T f L;have be:=PC t.u;have az:=QL (kZ.2 ⟨f[j],mQ L,K⟩:cI T f[j]∈f.map (cI T));obtain⟨b8,ax,hg,ba,av,y0⟩:=D6 (FO.u wr CR.u) L;subst ax;unfold Δ at av;generalize f[j]=xx at*;obtain⟨z,rfl⟩:∃z:Nat,xx=z:=⟨xx.toNat,W⟩;have n:z<Q T:=W;have b2:cI T z=tr T z:=by simp[cI]
   rw[b2]at az a3;obtain⟨b5,c3,b6,-,bd,-,ar⟩:=(ab.u wr CR.u).cell;obtain⟨g3,fa,fc,M,P,rfl,r,b9,aq,x0,x1,x2,x3,-,a8⟩:=ar z n;unfold Δ at aq;have au:=hf z n;have ah:=(p z n).lg;have HU:=O λd=>Wd p n d;have Z:=O λd=>vj p n d;have a6:=λd=>A0e p n d;have ai:T[z].x=10->T[z].M≠[]:=by
    intro d;obtain s|s|s|s|s:=p z n
    .omega
    .omega
    .omega
    .omega
    .grind
   have a5:=λx (e:x∈T[z].M)=>BR p x.toNat η;generalize T[z].x=k at*;generalize T[z].eo=fs at*;generalize T[z].M=o at*;generalize T[z].fh=a7 at*;have A:I No w (wr.alloc<|γ #[U k,Y fa (Q fs) fc,Y M (Q o) P,U a7] 88):=CR.u.trans (ν _ _ _) Ξ;have SZ:=CR.u.size;by_cases d:k=10
   .subst d;have HA:=O (IH z W o _ M P (λx e=>η) (ab.u _ A) (a8.alloc _) au.1 W);have v:=O<|y.u.alloc<|γ #[U 10,Y fa (Q fs) fc,Y M (Q o) P,U a7] 88;have ao:Hid (J8 (o.map<|cI T)≠[]):=SH ù (λbm s=>by
     obtain⟨x,e,rfl⟩:=kZ.1 s;exact XQ _<|a5 x e);have bi:=a6 K;have S:=O<|HU.u K;have B:=O A;clear A y CR a8 a6 ai a5 ah HU Z;go_wp2_with fail;refine HA.u.mono ?_;rintro b7 b3 ⟨b4,c2,g,rfl,h2,h3,h4,H⟩;have bc:=PC (ls:=o) (j:=Q o) (by rw[vZ];exact H);have b1:0<Q g:=by
     obtain h0|h0:=Nat.eq_zero_or_pos (Q g)
     .have:=congrArg Q H;rw[lZ,h0]at this;exact absurd (List.length_eq_zero_iff.1 this.symm) ao.u
     .omega
    obtain⟨q,rfl,bf,bg,-,-,aj⟩:=D5 h3 b1;have af:=O<|A3 v.u h2 Ξ;have HN:Hid (∀i u,(C8 g)[i]?=C u->δ b3 (((J q 0):í).add i)=C u):=by
     intro i u h;have ap:((J q 0):í).add i=(J q i):=by unfold Addr.add;split<;>simp_all
     rw[ap];exact aj i u h
    have H1:Hid (∀u∈C8 g,u.oneCell'=τ):=by
     intro u h;unfold C8 at h;obtain⟨x,-,rfl⟩:=kZ.1 h;rfl
    have HL:Hid (Q (C8 g)=Q g*1):=(show _=_ from by simp[C8]);have ae:=O<|B.u.trans h2 Ξ;have H4:=O h4;have H5:=O H;clear HA v h2 h3 h4 H aj B;go_wp2_with (at_builtin;refine Ù _ K _ _ 63 K (V w.heap) 3 i0 (U 0) 1 8 Ê hi ak al am K ζ _ _ _ K af.u (J q 0) (Q g) c2 (C8 g) K HL.u HN.u H1.u ?c3 ?c4 ?c5 ?_);case c3=>simp only[Δ];omega
    case c4=>omega
    case c5=>have:=ae.u.size;omega
    intro v' aa l r _;have e3:Q c+Q g=Q (c++g):=θ;rw[e3,show C8 c++C8 g=C8 (c++g) from by simp[C8]]at l;obtain⟨a4,c4,rfl⟩:=B8 l;have a2:=O l;have R:Hid (I No w aa):=(((I.mono ae.u (S':=λk=>V w.heap<=k) å).trans (ü r) λk d x=>(A9 af.u k x.symm).1)).mono (λk d x=>W);clear l r;go_wp2;go_roundw;case rel=>
     refine⟨j+1,c++g,a4,c4,W,ï,K,R.u,a2.u,λx e=>?_,?_⟩
     .obtain e|e:=qW.1 e
      .exact IR.u x e
      .exact H4.u x e
     .show _=_;rw[a3.u,zY,t.u,H5.u,S.u]
    grind[intOf]
   .have bb:(k==10)=κ:=by simp[d]
    have S:=O<|Z.u d;have v:=O<|(y.u.alloc<|γ #[U k,Y fa (Q fs) fc,Y M (Q o) P,U a7] 88).alloc<|γ #[U (z:Int)] 3;have B:=O<|A.trans (ν No _<|γ #[U (z:Int)] 3) Ξ;clear A y CR a8 a6 ai a5 ah HU Z;go_wp2_with (at_builtin;refine Ù _ K _ _ 63 K (V w.heap) 3 i0 (U 0) 1 8 Ê hi ak al am K ζ _ _ _ K v.u (J (wr.heap.size+1) 0) 1 1 [U (z:Int)] K K ?c1 ?c2 ?c3 ?c4 ?c5 ?_);case c1=>
     intro i u h;match i,h with
     |0,h=>simp_all[Addr.add]
    case c2=>intro u h;simp at h;subst h;rfl
    case c3=>simp only[Δ];omega
    case c4=>omega
    case c5=>simp;omega
    intro v' aa l r _;have e3:Q c+1=Q (c++[(z:Int)]):=θ;rw[e3,show C8 c++[U (z:Int)]=C8 (c++[(z:Int)]) from by simp[C8]]at l;obtain⟨a4,c4,rfl⟩:=B8 l;have a2:=O l;have R:Hid (I No w aa):=(((I.mono B.u (S':=λk=>V w.heap<=k) å).trans (ü r) λk d x=>(A9 v.u k x.symm).1)).mono (λk d x=>W);clear l r;go_wp2;go_roundw;case rel=>
     refine⟨j+1,c++[(z:Int)],a4,c4,W,ï,K,R.u,a2.u,λx e=>?_,?_⟩
     .obtain e|e:=qW.1 e
      .exact IR.u x e
      grind
     .show _=_;rw[a3.u,zY,t.u,S.u];rfl
    grind[intOf]
  .have aw:j=Q f:=W;subst aw;rw[vZ]at t;go_wp2_with fail;go_ret;exact⟨G,F,c,K,CR.u,y.u,IR.u,t.u⟩
def Cc(c:tG T)(m):UB a b N T D m:=by
 induction m using Nat.strongRecOn<;>grind[Nat.strongRecOn,Zo]
end
theorem XH:∀(l a) (t),dd a (l++[t])=if (dd a l).any (λu=>key u==key t) then dd a l else dd a l++[t]
 |[],a,t=>Ω
 |u::r,a,t=>by
  rw[jZ,dd,dd];split<;>exact XH r _ t
def Qb(l)(k):(dd [] l).any (λu=>key u==k)=ê ((l.map key).count k≠0):=by
 rw[Bool.eq_iff_iff,List.any_eq_true,decide_eq_true_iff];constructor
 .rintro⟨u,a,e⟩;have:u∈l:=by
   obtain h|h:=GA _ _ u a
   .grind
   .omega
  grind[key,kZ,List.count_pos_iff]
 .intro h;have b:k∈l.map key:=List.count_pos_iff.1 W;obtain⟨x,c,e⟩:=kZ.1 b;obtain⟨u,a,d⟩:=FY l [] x c;grind
def ZM:Keyed ε 9:=string_keyed underlying9
def Df(l:bZ)(h:Q l<=1000000000):keyOf ε 9 (ι ⟨ξ l⟩)=C (.string l):=by
 have a:(⟨ξ l⟩:ByteArray).size<=Δ:=by simp[ByteArray.size];unfold Δ;omega
 unfold keyOf;simp_all[mapKey]
structure Seen(w:E)(q:Nat)(m:Nat)(ks:List bZ):Prop where
 own:∃n D,w.ownsMap ε 9 (plainElem (H:=Unit) ε 3) q n D/\n<=m/\IsMap D/\∀s:bZ,D.atKey (.string s) (.lit<|.int .i64 0)=.lit (.int .i64 ((ks.count s:Nat):Int))
def Seen.new(w:E):Seen (ω w<|.map #[] 0) (V w.heap) 0 []:=⟨0,.map [],World.ownsMap_made w _ _ _,vQ _,isMap_empty,λ_=>K⟩
theorem Seen.P{S}{w w'}{q m}{a}(h:Seen w q m a)(f:I S w w')(g:¬S q):Seen w' q m a:=by
 obtain⟨n,D,⟨c,b,d,e⟩,r⟩:=h.own;exact⟨n,D,⟨c,b,by rw[f.block q (aG d) g];omega,e⟩,r⟩
def Seen.look{w}{q m}{b}(h:Seen w q m b)(s)(g:Q s<=1000000000):
 (Instr.lookup 210 (.map<|C q) (ι ⟨ξ s⟩) κ).run ε w=.ok (.int .i64<|(b.count s:Nat)) w:=by
 obtain⟨n,D,e,j,i,d⟩:=h.own;obtain⟨c,f,a,_⟩:=e.lookup_int ZM underlying210 underlying3 (Tryz.lj _)<|Df s g;rw[d s]at a;simp at a;rw[a];exact f
def Seen.put{w}{q m}{a}(h:Seen w q m a)(s)(i:Q s<=1000000000)(t:m<=1000000000)(r:Q a<=200000000):
 ∃b,(Instr.mapUpdate 210 (.map<|C q) (ι ⟨ξ s⟩)<|.int .i64<|((a.count s:Nat))+1).run ε w=.ok () b/\Seen b q (m+1) (a++[s])/\I (λk=>k=q) w b:=by
 obtain⟨n,D,e,v,c,o⟩:=h.own;have p:a.count s<=Q a:=List.count_le_length;have l:(Lit.int .i64<|((a.count s:Nat):Int)+1).wf=τ:=by
  have:=U7 (a.count s+1) W;simpa using this
 obtain⟨b,g,f,d⟩:=e.update ZM underlying210 Ñ (Df s i)<|plainElem_int underlying3 l;refine⟨b,g,⟨n+1,_,f,W,c.put _ _,λu=>?_⟩,(ü d).mono λk _ x=>η⟩;by_cases j:u=s
 .subst j;rw[atKey_put_same c<|show WideAt.IsKeyLit (.string u) from trivial];simp
 grind[atKey_put_other,List.count,List.count_singleton]
def XN(b f N:Nat)(T:List Ty)(D:Dt)(g:Nat->Prop)(d:uZ)(w:E)(e:ò)(c:E):Prop:=
 ∃(r:Nat) (a:List Ty),e=π (.int .i64 r)/\Q a<=1/\r<Q (T++a)/\iK c b f N (T++a) D g/\tG (T++a)/\tr (T++a) r=mE (d.map<|cI T)/\∃v,δ w (J b 0)=C v/\I (mH b v) w c
def A6f{T}{z}(b:aX T)(c)(d:T[z].x=5):tr T z=.nd 5 [] []:=by
 obtain a|a|a|a|a:=b z c<;>simp_all[X7,wY]
section
variable{a b N:Nat}{T:List Ty}{D:Dt}
def zd{ok}(w)(hO:iK w a b N T D ok)(ch:∀g,V w.heap<=g->ok g)(hf:tG T)(e:uZ)(d8:∀x∈e,0<=x/\x<Q T)(dc:e≠[])(la)(lc)(ci:ρ w 0 3 1 (Y la (Q e) lc) (Q e)<|C8 e)(hn:Q e<=2001)(di:dW (e.map<|cI T)<=200000000)(hN:Q T+1<=N):
 μ ε 143 #[pV a,Y la (Q e) lc] w (XN a b N T D ok e w):=by
 have h:=hO.lx;have a9:=O hO;have bt:=O ch;have hT:=h.ok;have db:=@run_makeMap ε;obtain⟨i0,hi,cq,cs,ct⟩:=ý Tryz.fy;have da:=h.gm.lt;have G:I No w (ω w<|.map #[] 0):=ν _ _ _;have HA:=O (Cc hf (Q T) e (ω w<|.map #[] 0) la lc (λx d=>η) (h.y G) (ci.alloc _) W W);have SN:=O<|Seen.new w;have HS:=O<|h.y G;have bs:Hid (J8 (e.map<|cI T)≠[]):=SH ù (λt ht=>by
  obtain⟨x,d,rfl⟩:=kZ.1 ht;exact XQ _<|BR hT x.toNat η);obtain⟨S,yx,b3,dl,-⟩:=h.blk;have V0:Hid (δ w (J a 0)=C S):=(show _=_ from cr b3 K);have bi:=O G;have cg:=(aG b3);go_in;go_wp2_with fail;refine HA.u.mono ?_;rintro a3 n ⟨pa,cu,c,rfl,L,h2,h3,h4⟩;have de:=PC (ls:=e) (j:=Q e) (by rw[vZ];exact h4);simp only[World.size_alloc]at h2;have S1:=O<|SN.u.P L λx=>x;have az:=O<|HS.u.y L;have bj:=O<|bi.u.trans L Ξ;have df:V w.heap+1<=V n.heap:=by have:=L.size;simpa using this
 have FP:Hid (∀i,I (λk=>k=V w.heap) n i->ρ i 0 3 1 (Y pa (Q c) cu) (Q c) (C8 c)):=λi F=>C7 (A3 h2 F λg q x=>by have:=(A9 h2 g q).1;omega)<|wQ _;have ap:Hid (∀i,I (λk=>k=V w.heap) n i->dY i a b N T D):=by
  intro i F;refine az.u.P F (az.u.gm.P F W) λk cy a3 s _ x=>?_;obtain⟨dq,cv,⟨es,cl,hh,_⟩,_⟩:=S1.u.own;have x':=x;rw[x',hh]at s;cases s
 have FC:Hid (∀i,I (λk=>k=V w.heap) n i->I No w i):=λi F=>((bj.u.mono (S':=λk=>k=V w.heap) å).trans F Ξ).mono (λk s x=>W);have HI:=O h3;have HP:=O h4;clear L h2 h3 h4 HA SN HS;go_wp2_with fail;go_loopw [15,5] (λan u wr=>∃(j:Nat) (f:uZ) (B:Option í) (A:Nat),j<=Q c/\an=.int .i64 (j:Int)/\u=Y B (Q f) A/\Hid (I (λk=>k=V w.heap) n wr)/\Hid (wr.ownsRow (V n.heap) 3 1 (Y B (Q f) A) (Q f)<|C8 f)/\Hid (∀x∈f,0<=x/\x<(Q T:Int))/\
  Hid (Seen wr (V w.heap) j<|(c.take j).map λx=>key<|cI T x)/\Hid (f.map (cI T)=dd [] ((c.take j).map<|cI T))/\Hid (∀x∈c.take j,(cI T x).k≠5)) (λan _ _=>Q c-(intOf an).toNat);case atStart=>exact⟨0,[],none,0,wQ _,K,K,ì _ _,kW _ _ _ _,(show∀x∈([]:uZ),_ from θ),S1.u,(show _=_ from K),(show∀x∈c.take 0,_ from θ)⟩
 case round=>
  obtain⟨j,f,B,A,hj,rfl,rfl,CR,H,IR,SR,v,NR⟩:=hrel;have dj:=CR.u.size;have cz:Q f<=Q c:=by
   have p:=congrArg Q v.u;have e2:∀(a8 i:List Tr),Q (dd i a8)<=Q i+Q a8:=by
    intro a8;induction a8 with
    |nil=>grind[dd]
    |cons t r ih=>
     grind[dd]
   have e3:=e2 ((c.take j).map<|cI T) [];simp at p e3;omega
  by_cases M:j<Q c
  .have dk:=HI.u c[j]<|mQ M;have ak:cI T c[j]∈J8 (e.map<|cI T):=by rw[<-HP.u];exact kZ.2 ⟨_,mQ M,K⟩
   have cp:wg (cI T c[j])<=200000000:=by
    have p:=QL ak;have e2:=GQ (e.map<|cI T) λx _=>Am x;omega
   have d9:=mQ M;have aa:=O<|nQ M;obtain⟨g,cj,q,cd,ah,y0⟩:=D6 (FP.u wr CR.u) M;subst cj;unfold Δ at ah;generalize c[j]=xx at*;obtain⟨z,rfl⟩:∃z:Nat,xx=(z:Int):=⟨xx.toNat,W⟩;have hz:z<Q T:=W;have P:cI T (z:Int)=tr T z:=by simp[cI]
   rw[P]at cp ak;have ae:=O<|ap.u wr CR.u;obtain⟨cw,c3,cx,-,d6,-,b6⟩:=ae.u.cell;obtain⟨g3,fa,fc,dm,dp,rfl,d4,d1,a4,x0,-,-,-,-,-⟩:=b6 z hz;unfold Δ at a4;clear b6;have bh:=O λs=>A6f hT hz s;have au:Hid ((tr T z).k=T[z].x):=(show _=_ from by rw[X7 hT hz];rfl);have Z:=O (Ņ wr ae.u hf z hz W);have p:dV τ T z=key (tr T z):=K;have aj:Q (key<|tr T z)<=1000000000:=by
    have:=Ay (bn:=τ) (T:=T) (i:=z);rw[p]at this;omega
   rw[p]at Z;by_cases ai:T[z].x=5
   .generalize T[z].x=k at*;subst ai;have a2:Hid (mE (e.map<|cI T)=tr T z):=by
     show _=_;unfold mE;rw[yY<|List.any_eq_true.2 ⟨tr T z,ak,by rw[au.u];rfl⟩];exact(bh.u K).symm
    have o:=O<|FC.u wr CR.u;clear CR H SR Z;go_wp2_with fail;go_ret;exact⟨z,[],K,θ,ù,by rw[iY];exact a9.u.y o.u,ù,by rw[iY];exact a2.u.symm,S,V0.u,o.u.mono λ_ _ x=>x.elim⟩
   .have d5:(T[z].x==5)=κ:=by simp[ai]
    have ba:(tr T z).k≠5:=by rw[au.u];exact ai
    have br:=O ba;generalize T[z].x=k at*;generalize b2:key (tr T z)=l at*;have av:=O b2;clear b2;have c8:=O SR.u;have bg:=O CR.u;have b1:=O H.u;clear SR CR H ba;go_wp2_with fail;refine Z.u.mono ?_;rintro a3 dr ⟨rfl,R⟩;have a4:=bg.u.trans R å;have al:=c8.u.P R λx=>x;have dg:=R.size;have d7:=al.look l aj;obtain⟨ao,cm,am,a7⟩:=al.put l aj W â;have bb:=am.look l aj;have b7:((((c.take j).map λx=>key<|cI T x)++[l]).count l:Int)=(((c.take j).map λx=>key<|cI T x).count l:Int)+1:=θ;rw[b7]at bb;have d2:((c.take j).map λx=>key<|cI T x).count l<=200000000:=by
     have:=List.count_le_length (a:=l) (l:=(c.take j).map λx=>key<|cI T x);rw[lZ,List.length_take]at this;omega
    have bo:Hid ((dd []<|(c.take j).map<|cI T).any (λu=>key u==l)=ê (((c.take j).map λx=>key<|cI T x).count l≠0)):=by
     have:=Qb ((c.take j).map<|cI T) l;rw[List.map_map]at this;exact this
    have c6:Hid ((c.take<|j+1).map (λx=>key<|cI T x)=((c.take j).map λx=>key<|cI T x)++[l]):=by
     show _=_;rw[aa.u,zY];simp[P,av.u]
    generalize ((c.take j).map λx=>key<|cI T x).count l=af at*;have aq:=O<|a4.trans a7 Ξ;have bw:=O am;have bq:=O<|R.mono (S':=λk=>k=V w.heap) å|>.trans a7 Ξ;have dh:=a7.size;have ax:=O (A3 b1.u bq.u λg q x=>by have:=(A9 b1.u g q).1;omega);clear al am R a7 a4 b7 Z;have aw:Hid (∀x∈c.take (j+1),(cI T x).k≠5):=by
     intro x d;rw[aa.u]at d;obtain d|d:=qW.1 d
     .exact NR.u x d
     .simp at d;subst d;rw[P];exact br.u
    have b0:Hid (Seen ao (V w.heap) (j+1)<|(c.take<|j+1).map λx=>key<|cI T x):=by
     have:=bw.u;rw[<-c6.u]at this;exact this
    have ar:Hid (dd [] ((c.take<|j+1).map<|cI T)=if af≠0 then dd [] ((c.take j).map<|cI T) else dd [] ((c.take j).map<|cI T)++[tr T z]):=by
     show _=_;rw[aa.u,zY,bY,List.map_nil,P,XH,av.u,bo.u];simp only[decide_eq_true_eq]
    by_cases G:af=0
    .subst G;have ca:((0:Nat):Int)+1=1:=K;rw[ca]at cm bb;have ay:=O<|ax.u.alloc<|γ #[.int .i64 (z:Int)] 3;go_wp2_with (at_builtin;refine Ù _ K _ _ 63 K (V n.heap) 3 i0 (.int .i64 0) 1 8 Ê hi cq cs ct K ζ _ _ _ K ay.u (J (V ao.heap) 0) 1 1 [.int .i64 (z:Int)] K K ?c1 ?c2 ?c3 ?c4 ?c5 ?_);case c1=>
      intro a6 u m;match a6,m with
      |0,m=>simp_all[Addr.add]
     case c2=>intro u m;simp at m;subst m;rfl
     case c3=>simp only[Δ];omega
     case c4=>omega
     case c5=>simp;omega
     intro v' bf a5 b8 _;have e3:Q f+1=Q (f++[(z:Int)]):=θ;rw[e3,show C8 f++[.int .i64 (z:Int)]=C8 (f++[(z:Int)]) from by simp[C8]]at a5;obtain⟨c9,c4,rfl⟩:=B8 a5;have bu:=O a5;have b5:=ν (λk=>V n.heap<=k) ao<|γ #[.int .i64 (z:Int)] 3;have ag:=b5.trans (ü b8) λk s x=>(A9 ay.u k x.symm).1;have bm:Hid (I (λk=>k=V w.heap) n bf):=((aq.u.mono (S':=λk=>k=V w.heap\/V n.heap<=k) λ_ _ x=>.inl x).trans ag λ_ _ x=>.inr x).mono (λk s x=>W);have bx:Hid (Seen bf (V w.heap) (j+1)<|(c.take<|j+1).map λx=>key<|cI T x):=b0.u.P ag W;clear a5 b8 b5 ag;go_wp2;go_roundw;case rel=>
      refine⟨j+1,f++[(z:Int)],c9,c4,W,ï,K,bm.u,bu.u,λx d=>?_,bx.u,?_,aw.u⟩
      .obtain d|d:=qW.1 d
       .exact IR.u x d
       grind
      .show _=_;rw[ar.u,wY θ,zY,v.u];rfl
     grind[intOf]
    .have d3:((af:Int)+1==1)=κ:=â;go_wp2_with fail;go_roundw;case rel=>exact⟨j+1,f,B,A,W,ï,K,aq.u,ax.u,IR.u,b0.u,(show _=_ from by rw[ar.u,yY G,v.u]),aw.u⟩
     grind[intOf]
  .have cf:j=Q c:=W;subst cf;rw[vZ]at v NR;have o:=O<|FC.u wr CR.u;have ae:=O<|ap.u wr CR.u;have cc:(J8<|e.map<|cI T).any (λt=>t.k==5)=κ:=by
    rw[<-HP.u,List.any_map,Bool.eq_false_iff];intro d;obtain⟨x,d,a3⟩:=List.any_eq_true.1 d;exact NR.u x d η
   have a2:Hid (mE (e.map<|cI T)=match f.map (cI T) with
    |[]=>.nd 5 [] []
    |[t]=>t
    |t::u::r=>.nd 10 []<|t::u::r):=by
    show _=_;unfold mE;rw[wY η,<-HP.u,<-v.u];rfl
   have cb:f≠[]:=by
    rintro rfl;have p:=v.u;have bc:=bs.u;rw[<-HP.u]at bc;obtain⟨t,r,e2⟩:=List.exists_cons_of_ne_nil bc;obtain⟨u,m,-⟩:=FY (c.map<|cI T) [] t η;rw[<-p]at m;simp at m
   have ab:=O H.u;clear CR H SR cc;have d0:Q f<=100000000:=W;match f,cb with
   |[x],_=>
    obtain⟨g,ce,q,cd,ah,y0⟩:=D6 (ls:=[x]) (C7 ab.u<|wQ _) (j:=0) θ;subst ce;unfold Δ at ah;have d:=IR.u x θ;simp only[List.getElem_cons_zero]at y0;obtain⟨z,rfl⟩:∃z:Nat,x=(z:Int):=⟨x.toNat,W⟩;have P:cI T (z:Int)=tr T z:=by simp[cI]
    simp only[jQ,xQ,Nat.zero_add]at*;go_wp2_with fail;go_ret;exact⟨z,[],K,θ,ù,by rw[iY];exact a9.u.y o.u,ù,by rw[iY,a2.u];rfl,S,V0.u,o.u.mono λ_ _ x=>x.elim⟩
   |x::y::r,_=>
    have ht:eJ ⟨10,[],x::y::r,0⟩ (Q T):=.inr (.inr<|.inr<|.inr ⟨K,K,θ,λu m=>IR.u u m⟩);have ck:eI wr ok ⟨10,[],x::y::r,0⟩ [.int .i64 10,sN,Y B (Q (x::y::r)) A,.int .i64 0]:=⟨_,_,K,kW _ _ _ _,C7 ab.u<|wQ _,λg q=>by grind[Θ],λg q=>bt.u g<|by have:=(A9 ab.u g q).1;omega⟩;have bv:=O<|KH wr (a9.u.y o.u) ⟨10,[],x::y::r,0⟩ none B 0 0 (Q (x::y::r)) A ck ht hN;have c7:Hid (tr (T++[⟨10,[],x::y::r,0⟩]) (Q T)=mE (e.map<|cI T)):=by
     show _=_;rw[wG hT ht,a2.u];simp[cI]
    have bp:Hid (tG<|T++[⟨10,[],x::y::r,0⟩]):=by
     intro a6 hi;by_cases b9:a6<Q T
     .rw[List.getElem_append_left b9];exact hf a6 b9
     .grind
    have e0:(((Q (x::y::r):Nat):Int)==0)=κ:=â;have p:(((Q (x::y::r):Nat):Int)==1)=κ:=â;generalize Q (x::y::r)=nn at*;go_wp2_with fail;refine bv.u.mono ?_;rintro a3 ds ⟨rfl,⟨v5,be,b4⟩,bd⟩;have cn:v5=S:=by
     have e6:wr.cell? (J a 0)=C S:=by rw[World.cell?_of_block<|o.u.block a cg λx=>x];exact V0.u
     rw[be]at e6;exact xZ e6
    subst cn;have bn:=O<|(o.u.mono (S':=mH a v5) å).trans b4 Ξ;have bz:=O bd;clear b4 bd be;go_wp2;go_ret;exact⟨Q T,[⟨10,[],x::y::r,0⟩],K,θ,θ,bz.u,bp.u,c7.u,v5,V0.u,bn.u⟩
end
section
variable{j w:E}{c:Cx}{a b f i:Nat}{h k e:υ}{g:Int}{Z:List Ty}{d:uZ}
def TG(a:Nat)(w:E)(v:υ):Prop:=∀ov,δ w (J a 6)=C ov->∀l,Θ v=C l->ov.ownBlock≠C l
theorem aW.ov(p:aW j w c a b f i h k g e Z d):∃ov D,δ w (J a 6)=C ov/\w.heap[a]?=C (γ (rM c h k g b i e ov) 66 (0,0))/\ρ w (V j.heap) 3 1 ov (Q d) (C8 d)/\iK w b f 4000 (tl c Z) D (λl=>ov.ownBlock≠C l)/\∀l,V w.heap<=l->ov.ownBlock≠C l:=by
 obtain⟨ov,D,m,n,q⟩:=p.st;refine⟨ov,D,cr m K,m,n,q,λl r o=>?_⟩;have:=(n.lt l o).2;omega
def aW.sw{m}(o:aW j w c a b f i h k g e Z d)(r:KG w m){v}(A:∀l,Θ v=C l->V w.heap<=l):TG a m v:=by
 obtain⟨ov,D,t,p,u,x,y⟩:=o.ov;intro s n l z;have q:=r.2 _ _ _ _ p ζ ζ;have:s=ov:=by
  rw[ä m a 6 _ _ _ q]at n;exact(xZ n).symm
 grind
def Ĵ{T}{t}(n:Fw T)(p:Q t.M<=100000000/\Q t.eo<=2001):Fw (T++[t]):=by
 intro m o;by_cases l:m<Q T
 .rw[List.getElem_append_left l];exact n m l
 grind
def RK(s:aW j w c a b f i h k g e Z d)(t)(l o)(n m q p)(N:ρ w 0 156 2 (Y l n m) (Q t.eo)<|I0 t.eo)(R:ρ w 0 3 1 (Y o q p) (Q t.M)<|C8 t.M)(z:TG a w<|Y l n m)(A:TG a w<|Y o q p)(P:eJ t (Q (tl c Z)))(M:Q t.M<=100000000/\Q t.eo<=2001)(H:Q (tl c Z)+1<=4000):
 μ ε 28 #[pV b,.agg #[U t.x,Y l n m,Y o q p,U t.fh]] w λx v=>x=π (U<|Q (tl c Z))/\aW j v c a b f i h k g e (Z++[t]) d/\KG w v:=by
 obtain⟨ov,D,y,B,F,G,h5⟩:=s.ov;refine(KH w G t l o n m q p ⟨_,_,K,N,R,λr u=>z ov y r u,λr u=>A ov y r u⟩ P H).mono ?_;rintro x v ⟨rfl,⟨a4,T,L⟩,S⟩;obtain⟨a2,a3⟩:=s.grow T L B F S<|Ĵ s.fq M;grind
def A4e(n:aW j w c a b f i h k g e Z d)(l:uZ)(F:∀x∈l,0<=x/\x<(Q (tl c Z)))(H:l≠[])(o)(p)(L:ρ w 0 3 1 (Y o (Q l) p) (Q l)<|C8 l)(G:Q l<=2001)(P:dW (l.map<|cI<|tl c Z)<=200000000)(z:Q (tl c Z)+1<=4000):
 μ ε 143 #[pV b,Y o (Q l) p] w λs q=>∃(r:Nat) (m:List Ty),s=π (U r)/\Q m<=1/\r<Q (tl c<|Z++m)/\tr (tl c<|Z++m) r=mE (l.map<|cI<|tl c Z)/\aW j q c a b f i h k g e (Z++m) d/\KG w q:=by
 obtain⟨ov,D,R,t,u,v,y⟩:=n.ov;refine(zd w v y n.fq l F H o p L G P z).mono ?_;rintro s q ⟨r,m,rfl,S,T,M,B,ht,a4,N,A⟩;obtain⟨a2,a3⟩:=n.grow N A t u M B;grind[pY]
end
section
variable{a b N:Nat}{T:List Ty}{D:Dt}
def zj{n}(w)(f:iK w a b N T D n)(k:tG T)(M:Q T+1<=N):
 μ ε 143 #[pV a,sN] w (XN a b N T D n [] w):=by
 have h:=f.lx;have P:=h.ok;have a8:=@run_makeMap ε;have j:I No w (ω w<|.map #[] 0):=ν _ _ _;have r:=O (Cc k (Q T) [] (ω w<|.map #[] 0) none 0 (λx hx=>η) (h.y j) (kW _ _ _ _) θ<|by simp[dW]);obtain⟨q,yx,R,a9,-⟩:=h.blk;have c:Hid (δ w (J a 0)=C q):=(show _=_ from cr R K);have m:eJ ⟨5,[],[],0⟩ (Q T):=.inl ⟨ζ,ζ,K,K⟩;have z:Hid (∀u,I No w u->_):=λu hu=>KH u (f.y hu) ⟨5,[],[],0⟩ none none 0 0 0 0 ⟨_,_,K,kW _ _ _ _,kW _ _ _ _,λg Z=>by grind[Θ],λg Z=>by grind[Θ]⟩ m M;have B:Hid (tr (T++[⟨5,[],[],0⟩]) (Q T)=mE (([]:uZ).map<|cI T)):=by
  rw[wG P m];rfl
 have v:Hid (tG<|T++[⟨5,[],[],0⟩]):=by
  intro i hi;by_cases l:i<Q T
  .rw[List.getElem_append_left l];exact k i l
  .grind
 have s:=O j;go_in;go_wp2_with fail;refine r.u.mono ?_;rintro e ab ⟨pa,aa,o,rfl,H,h2,h3,L⟩;have a2:o=[]:=by
  have d:Q (o.map<|cI T)=0:=by rw[L];simp[J8]
  rw[lZ]at d;exact List.length_eq_zero_iff.1 d
 subst a2;have a7:=O<|s.u.trans H Ξ;simp;go_wp2;go_loopw [15,5] (λa6 u wr=>a6=U 0/\u=sN/\Hid (I No w wr)) (λ_ _ _=>0);case atStart=>grind
 case round=>
  obtain⟨rfl,rfl,CR⟩:=hrel;have y:=O<|z.u wr CR.u;have G:=A4 CR.u c.u;have F:=O G;go_wp2_with fail;refine y.u.mono ?_;rintro e ac ⟨rfl,⟨p,a4,S⟩,a3⟩;have a5:p=q:=by
   have:=F.u;rw[a4]at this;exact xZ this
  subst a5;have t:=O<|(CR.u.mono å).trans S Ξ;have A:=O a3;go_wp2;go_ret;exact⟨Q T,[⟨5,[],[],0⟩],K,θ,θ,A.u,v.u,B.u,p,c.u,t.u⟩
end
section
variable{e w:E}{c:Cx}{d b f i:Nat}{h l g:υ}{j:Int}{Z:List Ty}{a:uZ}{k:Of}
def Tp(n:aW e w c d b f i h l j g Z a)(y:Q (tl c Z)+1<=4000):
 μ ε 143 #[pV b,sN] w λp o=>∃(r:Nat) (m:List Ty),p=π (U r)/\Q m<=1/\r<Q (tl c<|Z++m)/\tr (tl c<|Z++m) r=mE []/\aW e o c d b f i h l j g (Z++m) a/\KG w o:=by
 obtain⟨ov,D,M,t,u,x,N⟩:=n.ov;refine(zj w x n.fq y).mono ?_;rintro p o ⟨r,m,rfl,z,q,F,B,s,v,G,A⟩;obtain⟨H,L⟩:=n.grow G A t u F B;rw[pY]at q s;exact⟨r,m,K,z,q,s,H,L⟩
def oH(e w:E)(c:Cx)(d b f i:Nat)(h l:υ)(j:Int)(g:υ)(Z:List Ty)(a:uZ)(t:Tr)(o:ò)(n:E):Prop:=
 ∃(x:Nat) (m:List Ty),o=π (U x)/\Q m<=2/\x<Q (tl c<|Z++m)/\tr (tl c<|Z++m) x=t/\aW e n c d b f i h l j g (Z++m) a/\KG w n
def xo(A:aW e w c d b f i h l j g Z a)(y)(S:∀x∈y.M,Lk c Z a k x)(hn:Q y.M<=1200)(la)(lc)(ah:ρ w 0 3 1 (Y la (Q y.M) lc) (Q y.M)<|C8 y.M)(bo:dW (y.M.map<|bB k)<=25000000)(hN:Q (tl c Z)+2<=4000):
 μ ε 101 #[pV d,eE y la lc] w (oH e w c d b f i h l j g Z a<|BL k y):=by
 unfold BL eE;obtain⟨kd,va,vb,vc,m,tx,vn,vt,vp⟩:=y;simp only at*;obtain⟨oa,oc,bn,fz,q0,q1,q2,q3,q4,q5,q6,qp,qo⟩:=A.cell;have hT:=A.ts;obtain⟨i0,av,b5,b6,b7⟩:=ý Tryz.fy;have ap:=O qo;have ao:=O q3;have H0:=O A;have HO:=O ah;have HL:=O S;have B:∀x∈m,0<=a.getD x.toNat 0/\a.getD x.toNat 0<(Q (tl c Z):Int)/\cI (tl c Z) (a.getD x.toNat 0)=bB k x:=λx D=>by
  obtain⟨a5,r,L,s,v,b3,a4⟩:=S x D;have e2:a.getD x.toNat 0=(r:Int):=by rw[s,tQ,lQ,gQ L];exact v
  rw[e2];refine⟨W,W,?_⟩;unfold cI;rw[tQ];exact a4
 have be:=O B;have T:(m.map λx=>a.getD x.toNat 0).map (cI<|tl c Z)=m.map (bB k):=by
  rw[List.map_map];exact List.map_congr_left λx D=>(B x D).2.2
 have HU:Hid (∀(u:E) (q:Option í) (p:Nat),I No w u->(m=[]->q=none/\p=0)->ρ u (V w.heap) 3 1 (Y q (Q m) p) (Q m) (C8<|m.map λx=>a.getD x.toNat 0)->μ ε 143 #[pV b,Y q (Q m) p] u λs w'=>∃(r:Nat) (n:List Ty),s=π (U (r:Int))/\Q n<=1/\r<Q (tl c<|Z++n)/\tr (tl c<|Z++n) r=mE (m.map<|bB k)/\aW e w' c d b f i h l j g (Z++n) a/\KG u w'):=λu q p t az b2=>by
  by_cases R:m=[]
  .obtain⟨rfl,rfl⟩:=az R;subst R;exact Tp (A.y t) W
  .have:=A4e (A.y t) (m.map λx=>a.getD x.toNat 0) (λx D=>by
    obtain⟨ak,hy,rfl⟩:=kZ.1 D;exact⟨(B ak hy).1,(B ak hy).2.1⟩) (by simpa using R) q p (by rw[lZ];exact C7 b2<|wQ _) (by rw[lZ];omega) (by rw[T];omega) W;rw[T,lZ]at this;exact this
 have a8:Hid (∀(u:E) (n:List Ty) (r:Nat),aW e u c d b f i h l j g (Z++n) a->Q n<=1->r<Q (tl c<|Z++n)->_):=λu n r t hX v=>RK t ⟨8,[],[],(r:Int)⟩ none none 0 0 0 0 (kW _ _ _ _) (kW _ _ _ _) (λ_ _ ar N=>by simp[Θ]at N) (λ_ _ ar N=>by simp[Θ]at N) (.inr<|.inr<|.inl ⟨K,K,K,Int.natCast_nonneg r,Int.ofNat_lt.2 v⟩) ⟨θ,θ⟩ (by rw[U8]at hN⊢;rw[qQ];omega);simp only at a8;have A1:=ν No w<|aM kd va vb vc (Y la (Q m) lc) tx vn vt vp;have al:=O A1;clear A ah S B T qp qo q0 q1 q2 q4 q5 fz A1 hT;go_in;go_wp2_with fail;go_loopw [11,5] (λa6 u wr=>∃(o:Nat) (q:Option í) (p:Nat),o<=Q m/\a6=U (o:Int)/\u=Y q o p/\Hid (o=0->q=none/\p=0)/\Hid (I No w wr)/\Hid (wr.ownsRow (V w.heap) 3 1 (Y q o p) o<|C8<|(m.take o).map λx=>a.getD x.toNat 0)) (λa6 _ _=>Q m-(intOf a6).toNat);case atStart=>exact⟨0,none,0,wQ _,K,K,λ_=>⟨K,K⟩,al.u,kW _ _ _ _⟩
 case round=>
  obtain⟨o,q,p,hj,rfl,rfl,NR,CR,F⟩:=hrel;have ai:=A4 CR.u q6;have bp:V w.heap<=wr.heap.size:=CR.u.size;by_cases P:o<Q m
  .obtain⟨g2,ay,bf,bg,ax,v0⟩:=D6 (A3 HO.u CR.u Ξ) P;subst ay;obtain⟨a5,r,L,s,v,b3,a4⟩:=HL.u m[o]<|mQ P;obtain⟨go,b1,bh,bi,bj,b0,y0,-⟩:=ap.u a5 L;subst b1;rw[v]at y0;have bd:=A4 CR.u y0;have HT:Hid ((m.take<|o+1).map (λx=>a.getD x.toNat 0)=(m.take o).map (λx=>a.getD x.toNat 0)++[(r:Int)]):=by
    show _=_;rw[nQ P,zY,List.map_singleton,s,tQ,lQ,gQ L,v];rfl
   obtain⟨a9,ab⟩:∃a9,a9=(m.take o).map (λx=>a.getD x.toNat 0):=⟨_,K⟩;rw[<-ab]at F HT;clear ab;rw[s]at v0;have au:=blt bd;have a3:=blt ai;simp only at au a3;have bm:(a5:Int)<(Q a:Int):=W;unfold Δ at ax b0;have a7:=O<|F.u.alloc<|γ #[U (r:Int)] 3;clear s v a4 y0;go_wp2_with (at_builtin;refine Ù _ K _ _ 63 K (V w.heap) 3 i0 (U 0) 1 8 Ê av b5 b6 b7 K ζ _ _ _ K a7.u (J wr.heap.size 0) 1 1 [U (r:Int)] K K ?c1 ?c2 ?c3 ?c4 ?c5 ?_);case c1=>
    intro b8 u t;match b8,t with
    |0,t=>simp at t;subst t;simp[Addr.add]
   case c2=>intro u t;simp at t;subst t;rfl
   case c3=>simp only[Δ];omega
   case c4=>omega
   case c5=>simp;omega
   intro v' aj a2 af _;obtain⟨aq,c4,rfl⟩:=B8 a2;have an:=O a2;have ae:I (λz=>V w.heap<=z) wr aj:=(ν (λz=>V w.heap<=z) wr<|γ #[U (r:Int)] 3).trans (ü af) λz H x=>(A9 a7.u z x.symm).1;have am:Hid (I No w aj):=((CR.u.mono (S':=λz=>V w.heap<=z) å).trans ae Ξ).mono (λz H x=>W);clear a2 af ae;go_wp2_with fail;go_roundw;case rel=>exact⟨o+1,aq,c4,W,ï,K,λs=>W,am.u,(show ρ _ _ _ _ _ _ _ from by rw[HT.u,T4];exact an.u)⟩
   case measure=>simp[intOf];omega
  .have aw:o=Q m:=W;subst aw;rw[vZ]at F;have NN:Hid (m=[]->q=none/\p=0):=λs=>NR.u (by rw[s];rfl);have ba:=A4 CR.u ao.u;have a3:=blt ba;simp only at a3;clear NR q6 ai;go_wp2_with fail;go_region_with (first
    |(go_at_call 143;refine(HU.u _ q p (B6 CR.u<|Ψ _ _ 1) NN.u<|A3 F.u (Ψ No _ 1) Ξ).mono ?_;rintro s bb ⟨r,n,rfl,hX,v,ht,G,H⟩;have bq:δ bb (J d 3)=C (pV b):=by (obtain⟨_,_,_,_,_,_,_,b9,_⟩:=G.cell;exact b9))
    |(go_at_call 28;refine(a8.u _ n r G hX v).mono ?_;rintro s bc ⟨rfl,aa,ag⟩));all_goals
    have HQ:Hid (oH e w c d b f i h l j g Z a (.nd 8 [] [mE<|m.map<|bB k]) (π<|U (Q (tl c<|Z++n):Int)) bc):=by
     have M:Z++(n++[⟨8,[],[],(r:Int)⟩])=(Z++n)++[⟨8,[],[],(r:Int)⟩]:=(qZ _ _ _).symm;have b4:=wG G.ts (t:=⟨8,[],[],(r:Int)⟩)<|.inr<|.inr<|.inl ⟨K,K,K,Int.natCast_nonneg r,Int.ofNat_lt.2 v⟩;refine⟨Q (tl c<|Z++n),n++[⟨8,[],[],(r:Int)⟩],K,?_,?_,?_,?_,((KG.y<|B6 CR.u<|Ψ _ _ 1).trans H).trans ag⟩
     .rw[qQ,Û];omega
     .rw[M,U8,U8,qQ,qQ,qQ,Û];omega
     .rw[M,<-pY,b4];simp[ht]
     .rw[M];exact aa
    clear G H aa ag ht;go_wp2_with fail;go_ret;exact HQ.u
def kL(c:Cx)(a:uZ)(x:Int):bZ×Int:=((aA c.N x).text,a.getD (aA c.N x).a.toNat 0)
def vw(hB:dO e c d b f i h g)(a3:aW e w c d b f i h l j g Z a)(s)(ac:∀x∈s.M,∃n:Nat,x=(n:Int)/\∃hj,Lk c Z a k c.N[n].a/\S6 c.N[n].text)(av:(s.M.map λx=>(aA c.N x).text).Nodup)(hn:Q s.M<=1200)(B)(D)(au:ρ w 0 3 1 (Y B (Q s.M) D) (Q s.M)<|C8 s.M)(hN:Q (tl c Z)+1<=4000):
 μ ε 100 #[pV d,eE s B D] w (oH e w c d b f i h l j g Z a<|DK c.N k s):=by
 unfold DK eE;obtain⟨kd,va,vb,vc,m,tx,vn,vt,vp⟩:=s;simp only at*;obtain⟨i0,b9,bm,bn,bo⟩:=ý Tryz.j7;have hT:=a3.ts;have H0:=O a3;have HO:=O au;have HL:=O ac;have aa:∀x∈m,0<=(kL c a x).2/\(kL c a x).2<(Q (tl c Z):Int)/\tr (tl c Z) (kL c a x).2.toNat=bB k (aA c.N x).a/\S6 (kL c a x).1:=λx hx=>by
  obtain⟨n,rfl,hj,⟨p,r,hp,z,hr,bj,ad⟩,be⟩:=ac x hx;have A:aA c.N (n:Int)=c.N[n]:=B7 hj;have e2:(kL c a (n:Int)).2=(r:Int):=by
   unfold kL;rw[A,z];show a.getD (Int.toNat (p:Int)) 0=_;rw[tQ,lQ,gQ hp];exact hr
  refine⟨W,W,?_,?_⟩
  .rw[e2,tQ,A];exact ad
  .unfold kL;rw[A];exact be
 have am:Hid (eJ ⟨7,m.map<|kL c a,[],0⟩ (Q (tl c Z))):=.inr (.inl ⟨K,K,by rw[List.map_map];exact av,λp hp=>by
  obtain⟨x,hx,rfl⟩:=kZ.1 hp;obtain⟨a1,a2,_,a4⟩:=aa x hx;exact⟨a4,a1,a2⟩⟩);have b4:Hid (tr (tl c Z++[⟨7,m.map<|kL c a,[],0⟩]) (Q (tl c Z))=.nd 7 (m.map λx=>(aA c.N x).text) (m.map λx=>bB k (aA c.N x).a)):=by
  show _=_;rw[wG hT am.u];have A:(m.map<|kL c a).map (λp=>tr (tl c Z) p.2.toNat)=m.map λx=>bB k (aA c.N x).a:=by
   rw[List.map_map];exact List.map_congr_left λx hx=>(aa x hx).2.2.1
  have e2:(m.map<|kL c a).map (·.1)=m.map λx=>(aA c.N x).text:=by
   rw[List.map_map];rfl
  simp only[A,e2];simp
 obtain⟨oa,oc,ca,fz,q0,q1,q2,q3,q4,q5,q6,qp,qo⟩:=a3.cell;have b2:=O q3;have al:=O qo;have ak:=O<|hB.fx a3.P;have c3:=hB.ok.fp;have A1:=ν No w<|aM kd va vb vc (Y B (Q m) D) tx vn vt vp;have nb:=rY w<|aM kd va vb vc (Y B (Q m) D) tx vn vt vp;have n4:δ (w.alloc<|aM kd va vb vc (Y B (Q m) D) tx vn vt vp) (J (V w.heap) 4)=C (Y B (Q m) D):=cr nb K;have ai:=O A1;have b1:=O q0;have b3:=O q6;have bt:Hid (I (SW e d b f) e w):=a3.P;clear a3 au ac aa qp qo q1 q2 q3 q4 q5 fz A1 nb hT q0 q6 av;go_in;go_wp2_with fail;have hz:=rY (w.alloc<|aM kd va vb vc (Y B (Q m) D) tx vn vt vp)<|γ #[U 7,sN,sN,U 0] 88;have Z0:=O hz;have C3:=O<|B6 ai.u<|ν No (w.alloc<|aM kd va vb vc (Y B (Q m) D) tx vn vt vp)<|γ #[U 7,sN,sN,U 0] 88;simp only[Array.size_push,World.alloc]at Z0;clear hz ai;go_loopw [13] (λag wr=>∃(n:Nat) (t:Option í) (u:Nat),n<=Q m/\ag=U (n:Int)/\Hid (I No w wr)/\Hid (wr.heap[V w.heap+1]?=C (γ #[U 7,Y t n u,sN,U 0] 88 (0,0)))/\Hid (wr.ownsRow (V w.heap) 156 2 (Y t n u) n<|I0<|(m.take n).map<|kL c a)) (λag _=>Q m-(intOf ag).toNat);case atStart=>exact⟨0,none,0,wQ _,K,C3.u,Z0.u,kW _ _ _ _⟩
 case round=>
  clear Z0 C3 n4;obtain⟨n,t,u,hj,rfl,CR,y,F⟩:=hrel;have cb:V w.heap<=wr.heap.size:=CR.u.size;have bi:=(aG y.u);by_cases a9:n<Q m
  .obtain⟨g2,bc,bw,bz,bb,v0⟩:=D6 (A3 HO.u CR.u Ξ) a9;subst bc;obtain⟨jj,z,aq,⟨p,r,hp,ea,hr,bj,ad⟩,-⟩:=HL.u m[n]<|mQ a9;obtain⟨go,bh,c6,c7,c8,bg,y0,-⟩:=al.u p hp;subst bh;rw[hr]at y0;have HT:Hid ((m.take<|n+1).map (kL c a)=(m.take n).map (kL c a)++[(c.N[jj].text,(r:Int))]):=by
    show _=_;rw[nQ a9,zY,List.map_singleton,z];unfold kL;rw[show aA c.N (jj:Int)=c.N[jj] from B7 aq,ea,tQ,lQ,gQ hp,hr];rfl
   obtain⟨a7,ap⟩:∃a7,a7=(m.take n).map (kL c a):=⟨_,K⟩;rw[<-ap]at F HT;clear ap;have bp:=A4 CR.u b1.u;have af:=A4 CR.u b3.u;have ah:=A4 CR.u y0;obtain⟨a8,nc,H,L,bf,hg,c5,bd,⟨x0,x1,x2,x3,x4,x5,x6,x7,x8⟩,-,-⟩:=ak.u.at (CR.u.ep å<|vQ _) jj aq;generalize c.N[jj]=s at*;obtain⟨G,ce,N,P,M,q,R,T,S⟩:=s;subst bf;simp only at*;subst ea;rw[z]at v0;have d0:wr.cell? (J (V w.heap+1) 1)=C (Y t n u):=cr y.u K;have zf:∀o,wr.frozen? (J (V w.heap+1) o)=κ:=λo=>æ wr _ o _ _ y.u;have aw:Θ (Y t n u)≠C (V w.heap+1):=I6 F.u y.u ζ;unfold Δ at bb bd bg;have c9:(p:Int)<(Q a:Int):=W;have bx:(jj:Int)<(Q c.N:Int):=W;have b8:=blt ah;have ab:=blt af;simp only at b8 ab;clear z hr ad y0 HL al HO;have A2:=ν No wr<|aM G (p:Int) N P (Y H (Q M) L) q R T S;have ae:=rY wr<|aM G (p:Int) N P (Y H (Q M) L) q R T S;have A:=ä _ _ 1 _ _ _ ae;have e5:=ä _ _ 5 _ _ _ ae;replace A:δ (wr.alloc<|aM G (p:Int) N P (Y H (Q M) L) q R T S) (J wr.heap.size 1)=C (U (p:Int)):=A.trans K;replace e5:δ (wr.alloc<|aM G (p:Int) N P (Y H (Q M) L) q R T S) (J wr.heap.size 5)=C (ι ⟨ξ q⟩):=e5.trans K;have cd:=A4 A2 af;have cf:=A4 A2 ah;have an:=A4 A2 d0;have bs:∀o,(wr.alloc<|aM G (p:Int) N P (Y H (Q M) L) q R T S).frozen? (J (V w.heap+1) o)=κ:=λo=>U4 bi<|zf o;have ay:V (wr.alloc<|aM G (p:Int) N P (Y H (Q M) L) q R T S).heap=wr.heap.size+1:=Array.size_push _;have aj:=O A2;clear A2 ae zf;go_wp2_with fail;clear x0 x1 x2 x3 x4 x5 x6 x7 x8 v0 bp af ah d0;generalize (wr.alloc<|aM G (p:Int) N P (Y H (Q M) L) q R T S)=v at*;have b6:=O<|((A3 F.u aj.u Ξ).drew).alloc<|γ #[ι ⟨ξ q⟩,U (r:Int)] 156;have az:(v.drew.alloc<|γ #[ι ⟨ξ q⟩,U (r:Int)] 156).heap[wr.heap.size+1]?=C (γ #[ι ⟨ξ q⟩,U (r:Int)] 156 (0,0)):=by
    have:=rY v.drew<|γ #[ι ⟨ξ q⟩,U (r:Int)] 156;rw[show V v.drew.heap=wr.heap.size+1 from ay]at this;exact this
   have b5:=O az;have bv:δ (v.alloc<|γ #[ι ⟨ξ q⟩,U (r:Int)] 156) (J (V w.heap+1) 1)=C (Y t n u):=I9 (by rw[ay];omega) an;clear az;go_region_law (
    refine step_append_lies _ Ω _ _ _ Ω (V w.heap) 156 i0 _ 2 24 underlying86 b9 bm bn bo K W (Y t n u) n (I0 a7) Ω b6.u (J (wr.heap.size+1) 0) 1 1 [ι ⟨ξ q⟩,U (r:Int)] Ω Ω (World.news_of_block (cs:=#[ι ⟨ξ q⟩,U (r:Int)]) (t:=156) (fr:=(0,0)) b5.u) (by simp[Value.oneCell']) W (by simp only[Δ];omega) W â (V v.heap+1) θ ?_;intro gg bu b0 ax a5 b7 c4;have z4:δ b0 (J (V w.heap+1) 1)=C (Y t n u):=by rw[a5.cell_far _ â<|Ne.symm aw];exact I9 (w:=v.drew) â an
    have y4:b0.frozen? (J (V w.heap+1) 1)=κ:=by rw[a5.frozen_far _ â<|Ne.symm aw];exact U4 (w:=v.drew) â<|bs 1);all_goals
    have HP:=O (KL (o:=1) (n0:=V w.heap) (w:=w) y.u W F.u ζ (I.ep CR.u å<|vQ _) (vQ _) (B6 aj.u<|B6 (Ψ No v 1)<|ν No v.drew<|γ #[ι ⟨ξ q⟩,U (r:Int)] 156) a5 ax);clear ax a5 b7;go_wp2_with fail;go_roundw;case rel=>exact⟨n+1,_,_,W,ï,(I.below HP.u.2.2.2.1).mono λcc hk x=>W,HP.u.2.2.2.2.2.1,(show ρ _ _ _ _ _ _ _ from by rw[HT.u,PD];exact HP.u.2.2.2.2.1)⟩
    case measure=>simp[intOf];omega
  .have ba:n=Q m:=W;subst ba;rw[vZ]at F;have bq:=A4 CR.u b2.u;have ab:=blt bq;simp only at ab;have d0:wr.cell? (J (V w.heap+1) 0)=C (U 7):=cr y.u K;have d1:wr.cell? (J (V w.heap+1) 1)=C (Y t (Q m) u):=cr y.u K;have d2:wr.cell? (J (V w.heap+1) 2)=C (sN):=cr y.u K;have d3:wr.cell? (J (V w.heap+1) 3)=C (U 0):=cr y.u K;have HP:Hid (∀a6,I No wr a6->μ ε 28 #[pV b,.agg #[U 7,Y t (Q m) u,sN,U 0]] a6 λz w'=>z=π (U (Q (tl c Z):Int))/\aW e w' c d b f i h l j g (Z++[⟨7,m.map<|kL c a,[],0⟩]) a/\KG a6 w'):=λa6 hu=>
    RK (H0.u.y<|B6 CR.u hu) ⟨7,m.map<|kL c a,[],0⟩ t none (Q m) u 0 0 (by
     have:=C7 (A3 F.u hu Ξ)<|wQ _;rw[lZ];exact this) (kW _ _ _ _) (H0.u.sw (KG.y<|B6 CR.u hu) λa8 hg=>(F.u.lt a8 hg).1) (λ_ _ a8 hg=>by simp[Θ]at hg) am.u ⟨θ,by rw[lZ];omega⟩ hN;clear HL HO ak;go_wp2_with fail;go_region_with (go_at_call 28;refine(HP.u _<|Ψ _ _ 1).mono ?_;rintro z br ⟨rfl,ao,ar⟩);all_goals
    have HQ:Hid (oH e w c d b f i h l j g Z a (.nd 7 (m.map λx=>(aA c.N x).text)<|m.map λx=>bB k (aA c.N x).a) (π<|U (Q (tl c Z):Int)) br):=by
     refine⟨Q (tl c Z),[⟨7,m.map<|kL c a,[],0⟩],K,θ,by rw[<-pY,qQ,Û];omega,by rw[<-pY];exact b4.u,ao,(KG.y<|B6 CR.u<|Ψ _ _ 1).trans ar⟩
    clear ao ar;go_wp2_with fail;go_ret;exact HQ.u
end
def KQ(a b:E):Prop:=V a.heap<=V b.heap/\∀(q:Nat) (c) (e) (d),a.heap[q]?=C (γ c e d)->e≠120->e≠88->e≠3->e≠66->b.heap[q]?=C (γ c e d)
theorem KQ.refl(a):KQ a a:=⟨vQ _,λ_ _ _ _ h _ _ _ _=>h⟩
theorem KQ.trans{a b c}(h:KQ a b)(k:KQ b c):KQ a c:=⟨kQ h.1 k.1,λq d e f x g i j l=>k.2 q d e f (h.2 q d e f x g i j l) g i j l⟩
def KQ.kg{a b}(h:KG a b):KQ a b:=⟨h.1,λq c e d x f g _ _=>h.2 q c e d x f g⟩
theorem KQ.y{a b}(h:I No a b):KQ a b:=.kg<|.y h
section
variable{e w:E}{c:Cx}{a f d j:Nat}{i k fv:υ}{h:Int}{Z:List Ty}{b:uZ}{l:Of}
def aW.push{w1 w2:E}{x}{ov m}(L:aW e w c a f d j i k h fv Z b)(G:δ w (J a 6)=C ov)(M:I No w w1)(R:w1.grownBy w2 ov.ownBlock)(ho:w2.ownsRow (V e.heap) 3 1 m (Q b+1)<|C8 b++[U x]){s}(a6:Θ m=ov.ownBlock\/Θ m=C s)(aa:V w.heap<=s):
 w2.cell? (J a 6)=C ov/\w2.frozen? (J a 6)=κ/\a<w2.heap.size/\aW e (w2.setCell (J a 6) m) c a f d j i k h fv Z (b++[x])/\KQ w (w2.setCell (J a 6) m):=by
 obtain⟨N,⟨q,D,t,A,v⟩,P⟩:=L;have p:q=ov:=by
  rw[ä w a 6 _ _ _ t]at G;exact xZ G
 subst p;have a4:∀{o:Nat} {y:Array υ} {p:TypeId} {z:Nat×Nat},w.heap[o]?=C (γ y p z)->p≠3->C o≠Θ q:=λ{o y p z} S he n=>by
  obtain⟨_,H,F⟩:=A9 A o n.symm;grind
 have B:=(M.mono å).trans (ü R) Ξ;have u:w2.heap[a]?=C (γ (rM c i k h f j fv q) 66 (0,0)):=by
  rw[B.block a (aG t)<|a4 t ζ];exact t
 have r:I (λo=>C o=Θ q\/o=a) w (w2.setCell (J a 6) m):=(B.mono λ_ _ x=>.inl x).trans (é _ _ _) λ_ _ x=>.inr x;have T:KQ w (w2.setCell (J a 6) m):=⟨r.size,λa5 y p z hq _ _ h3 h4=>by
  rw[r.block a5 (aG hq) ?_]<;>grind⟩;have a2:¬(C d=Θ q\/d=a):=by
  rintro(n|n)
  .obtain⟨_,H,F⟩:=A9 A d n.symm;exact v.gm.tag _ _ _ F
  .subst n;exact v.gm.tag _ _ _ t
 have a3:∀g,Θ q≠C g->g<V w.heap->Θ m≠C g:=λg a7 a8 n=>η;refine⟨cr u K,æ w2 a 6 _ _ u,(aG u),⟨?_,⟨m,D,?_,?_,?_⟩,P⟩,T⟩
 .refine N.trans r ?_;rintro o S (n|rfl)
  .have:=(A9 A o n.symm).1;omega
  .exact .inl K
 .rw[ð w2 a 6 _ _ _ u];rfl
 .have:w2.ownsRow (V e.heap) 3 1 m (Q (b++[x])) (C8<|b++[x]):=by
   rw[qQ,Û,T4];exact ho
  refine A3 this (é _ _ _) λg a9 n=>?_;grind
 .refine v.P r (v.gm.P r a2) ?_ a3;grind
theorem aW.set(H:aW e w c a f d j i k h fv Z b){oc g}(A:δ w (J a 6)=C (Y (C<|J g 0) (Q b) oc))(r)(x):
 aW e (σ w (J g r)<|U x) c a f d j i k h fv Z (b.set r x)/\KQ w (σ w (J g r)<|U x):=by
 obtain⟨M,⟨S,D,u,R,v⟩,N⟩:=H;have n:S=Y (C<|J g 0) (Q b) oc:=by
  rw[ä w a 6 _ _ _ u]at A;exact xZ A
 subst n;obtain⟨T,G,P⟩:=A9 R g K;have o:I (λm=>m=g) w (σ w (J g r)<|U x):=é w (J g r)<|U x;have F:∀{m:Nat} {s:Array υ} {n:TypeId} {t:Nat×Nat},w.heap[m]?=C (γ s n t)->n≠3->m≠g:=λ{m s n t} z y p=>η;refine⟨⟨M.trans o λm z p=>W,⟨Y (C<|J g 0) (Q b) oc,D,?_,?_,?_⟩,N⟩,o.size,λq s n t B _ _ L _=>by rw[o.block q (aG B)<|F B L];omega⟩
 .rw[o.block a (aG u)<|F u ζ];omega
 .grind[List.length_set,wP]
 .refine v.P o (v.gm.P o λp=>?_) ?_ λ_ x _=>x
  .subst p;exact v.gm.tag _ _ _ P
  .rintro m G n z y p;obtain rfl|rfl|⟨_,hok⟩:=y
   .grind
   .grind
   .exact hok (by rw[show m=g from p];rfl)
end
