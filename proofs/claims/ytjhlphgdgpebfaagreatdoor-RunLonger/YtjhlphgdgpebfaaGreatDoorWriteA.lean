/-
  A part of the proof.
-/
import Derived.Test.YtjhlphgdgpebfaaGreatDoorNodeA
import Derived.Test.YtjhlphgdgpebfaaGreatDoorFitB
import Derived.Shelf.Strings.Builder1
import Derived.Test.YtjhlphgdgpebfaaGreatDoorSrt
import Derived.Shelf.SlSortCmp.NoneTotal
import Derived.Lib.SliceRun
set_option maxHeartbeats 0
set_option linter.all false
set_option maxRecDepth 100000
namespace Go.Proofs.YtjhlphgdgpebfaaGreatDoor
open _root_.Array renaming size->V
open Bool renaming true->τ,false->κ
open Decidable renaming decide->å
open Go renaming Value->χ,Calls->μ,frozen_of_row->ã,heap_setCell_same->ê,maxLen->Γ,cell_of_row->á
open Ending renaming returned->π
open Lib renaming compareBytes->û
open Obj renaming cells->γ
open Go.Proofs.Tryz renaming prog->η
open Value renaming ownBlock->Δ,pointer->υ,string->ζ,slice->Y
open World renaming setCell->ρ,ownsRow->ξ,cell?->δ,alloc->σ
open List renaming length->Q,toArray->ν
open Option renaming some->C
open Go.Proofs.Tryz
open Go.RowKit Go.Maps
def cG(B d:Nat)(w c:E):Prop:=I (λk=>B<=k/\(k=d\/∃a b,w.heap[k]?=C (γ a 5 b))) w c
theorem cG.refl(B a)(w):cG B a w w:=I.refl _ _
theorem cG.trans{B d}{a b c}(h:cG B d a b)(k:cG B d b c):cG B d a c:=by
 refine⟨k.os.trans h.os,k.tape.trans h.tape,k.output.trans h.output,kQ h.size k.size,λi e f=>?_⟩;have g:=h.block i e f;refine(k.block i (yQ e h.size) λx=>f ⟨x.1,?_⟩).trans g;grind
theorem cG.y{B b}{w a}(h:I No w a):cG B b w a:=h.mono λ_ _ x=>x.elim
def cG.below{B c}{w a}(h:cG B c w a)(b:B<=V w.heap):Below B w a:=I.ep h (λ_ _ x=>x.1) b
theorem cG.set{B a}(b:B<=a)(w)(o)(v):cG B a w (ρ w (J a o) v):=(I.set w _ v).mono λk _ x=>θ
def cG.row{B d}{w c}(i:cG B d w c){a}{e}{b}{v}{n}{f}(h:ξ w a e b v n f)(m:e≠5)(p:Δ v≠C d):ξ c a e b v n f:=by
 refine A3 h i λg j k=>?_;obtain rfl|⟨cs,fz,hh⟩:=k.2
 .grind
 .obtain⟨_,l,o⟩:=A9 h g j;grind
structure gC(w:E)(B wb:Nat)(tv:χ)(bn:Bool)(bs:bZ):Prop where
 low:B<=wb
 blk:∃p v,w.heap[wb]?=C (γ #[p,v,tv,.bool bn] 242 (0,0))/\(p=υ none\/p=pV wb)/\ξ w B 5 1 v (Q bs) (Lib.byteCells bs)
theorem gC.y{w e}{B a}{tv}{b}{c}(h:gC w B a tv b c)(d:I No w e):gC e B a tv b c:=by
 obtain⟨f,p,v,g,j,i⟩:=h;exact⟨f,p,v,by rw[d.block a (aG g) λx=>x];omega,j,A3 i d λ_ _ x=>x⟩
def gC.o9{w}{B a}{d}{c}{e}(h:gC w B a d c e):δ w (J a 2)=C d/\δ w (J a 3)=C (.bool c)/\a<V w.heap:=by
 obtain⟨f,p,v,b,i,g⟩:=h;exact⟨cr b K,cr b K,(aG b)⟩
def Tryz.mr:(prog.info? 240).map (·.size)=C 2:=Ψ
theorem Tryz.ot:liesAt η prog.depth 242 (4/prog.cellsOf 242) 0 240 1=τ:=Ψ
def Tryz.nz:(prog.info? 5).map (λi=>(i.zero,i.size,i.bytes))=C (C<|.int .u8 0,1,1):=Ψ
def Tryz.nj:prog.cellsOf 5=1:=Ψ
def ĝ(b)(w:E)(d:δ w (J b 0)=C (pV b)):
 μ η 271 #[pV b] w λe c=>e=rT/\c=w:=by
 obtain⟨j,a,_⟩:=Option.map_eq_some_iff.1 Tryz.mr;go_in;go_wp2;rw[Lib.run_neq_ptr_same w _ underlying237 a];go_wp2;go_end0;simp
def A4b(b)(w:E)(f:δ w (J b 0)=C (υ none))(c:w.shape? b=C (242,4))(g:w.frozen? (J b 0)=κ):
 μ η 271 #[pV b] w λe d=>e=rT/\d=ρ w (J b 0) (pV b):=by
 obtain⟨j,a,h⟩:=Option.map_eq_some_iff.1 Tryz.mr;go_in;go_wp2;rw[Lib.run_to_unsafe w (J b 0) underlying237 underlying286 a W c<|Nat.zero_lt_succ 3];simp;rw[Oper.upon_value];go_wp2;rw[run_callFunc_extern func286 Θ Ψ Ψ Θ];rw[Lib.run_noEscape];simp;rw[Oper.upon_value];go_wp2;rw[Lib.run_from_unsafe w (J b 0) underlying286 underlying237 a c Tryz.ot];simp;rw[Oper.upon_value];go_wp2;go_end0;simp
def yj{w}{B a}{g}{f}{d}(h:gC w B a g f d):
 μ η 271 #[pV a] w λe b=>e=rT/\cG B a w b/\V b.heap=V w.heap/\
  ∃v,b.heap[a]?=C (γ #[pV a,v,g,.bool f] 242 (0,0))/\ξ b B 5 1 v (Q d) (Lib.byteCells d):=by
 obtain⟨i,p,v,c,l,j⟩:=h;obtain rfl|rfl:=l
 .refine(A4b a w (cr c K) (by grind[World.shape?])<|ã w a 0 _ _ c).mono ?_;rintro e b ⟨rfl,rfl⟩;refine⟨K,cG.set i w 0 _,ι,v,by rw[ê w a 0 _ _ _ c];rfl,A3 j (I.set w (J a 0) _) λk n m=>?_⟩;have o:=m;grind[A9]
 .refine(ĝ a w<|cr c K).mono ?_;grind[cG.refl]
def Gs{w}{B a}{q}{l}{m}(h:gC w B a q l m)(s)(a9:Q m+s.size<=100000000000000)(a8:B<=V w.heap):
 μ η 262 #[pV a,ζ s] w λe D=>e=π (.tuple #[U s.size,.nilIface])/\cG B a w D/\gC D B a q l (m++s.data.toList):=by
 obtain⟨i0,L,Z,a2,a3⟩:=info_parts Tryz.nz;have x:=h.low;have F:=O<|yj h;go_in;go_wp2_with fail;refine F.u.mono ?_;rintro e a4 ⟨rfl,M,ab,v,p,R⟩;have N:=(aG p);have a5:δ a4 (J a 1)=C v:=cr p K;have H:=O M;have t:=O p;have j:=O R;go_wp2_with (at_builtin;refine Lib.wpList_append_own_string _ K _ _ 238 9 K B 5 i0 underlying238 underlying9 L Z a2 a3 _ _ _ K j.u s K ?c3 ?c4 ?c5 ?_);case c3=>grind[Γ]
 case c4=>omega
 case c5=>omega
 intro v' c A y _;have P:Δ v≠C a:=by
  intro f;obtain⟨_,n,b⟩:=A9 j.u a f;rw[t.u]at b;simp only[zQ,xW]at b;exact absurd b.2.1 ε
 have o:c.heap[a]?=C (γ #[pV a,v,q,.bool l] 242 (0,0)):=by
  rw[y.block a N λe=>P e.symm];exact t.u
 have d1:δ c (J a 1)=C v:=cr o K;have a6:=ã c a 1 _ _ o;obtain⟨g,i,d,rfl⟩:∃g i d,v'=Y g i d:=by
  obtain⟨S,_⟩|⟨a7,d,n,S,_⟩:=A.2<;>grind
 have r:=O o;have u:=O A;have G:=O y;go_wp2;go_ret2;refine⟨K,?_,x,_,Y g i d,by rw[ê c a 1 _ _ _ r.u];rfl,.inr K,?_⟩
 .refine(H.u.trans ?_).trans<|cG.set x c 1 _;refine(I.grown G.u).mono λk z f=>?_;obtain⟨aa,n,b⟩:=A9 j.u k f.symm;grind
 .have:=A3 u.u (I.set c (J a 1)<|Y g i d) λk z f=>by
   have T:=f;subst T;obtain⟨_,n,b⟩:=A9 u.u k z;rw[r.u]at b;grind
  grind[Lib.byteCells_append,Lib.strCells_eq,bl]
def lW(a:List ByteArray):bZ:=a.flatMap λs=>s.data.toList
def Fh(a:List ByteArray){j}(b):lW (a.take<|j+1)=lW (a.take j)++a[j].data.toList:=by
 unfold lW;grind[nQ]
def B8e(a){j}(b):Q (lW<|a.take j)+a[j].size<=Q (lW a):=by
 have c:=Fh a b;grind[lW,List.take_append_drop,size,bl,qQ]
def QE{w}{B b}{m}{f}{d}(h:gC w B b m f d)(a)(g)(n)(k:w.heap[g]?=C (γ (ν (a.map ζ)) 9 n))(T:Q a<=1000)(R:Q d+Q (lW a)<=100000000000000)(z:B<=V w.heap):
 μ η 247 #[pV b,Y (C<|J g 0) (Q a) (Q a)] w λe r=>e=rT/\cG B b w r/\gC r B b m f (d++lW a):=by
 have p:=(aG k);have M:g≠b:=by
  intro F;subst F;obtain⟨a2,v,i,_⟩:=h.blk;rw[k]at i;simp only[zQ,xW]at i;exact absurd i.2.1 ε
 have t:Hid (∀wr,cG B b w wr->wr.heap[g]?=C (γ (ν (a.map ζ)) 9 n)):=by
  intro wr A;rw[A.block g p λa4=>?_]
  .omega
  .grind
 have G:=O h;clear h k;go_in;go_wp2_with fail;go_loopw [8] (λv wr=>∃(j:Nat),j<=Q a/\v=U (j:Int)/\Hid (gC wr B b m f<|d++lW (a.take j))/\Hid (cG B b w wr)) (λv _=>Q a-(intOf v).toNat);case atStart=>exact⟨0,wQ _,K,by grind[lW],cG.refl _ _ _⟩
 case round=>
  obtain⟨j,N,rfl,c,CR⟩:=hrel;by_cases l:j<Q a
  .have L:wr.cell? (J g j)=C (.string a[j]):=by
    rw[á wr g j _ _ _<|t.u wr CR.u];simp[l]
   have S:=yQ p CR.u.size;have P:=B8e a l;have Z:=c.u.o9.2.2;have x:=O<|Fh a l;have y:=O (Gs c.u a[j] θ<|kQ z CR.u.size);have s:=O CR.u;clear CR c;go_wp2_with fail;refine y.u.mono ?_;rintro e a3 ⟨rfl,o,q⟩;have u:=O o;have H:=O q;clear o q;go_wp2;go_roundw;case rel=>exact⟨j+1,W,ç,by rw[x.u,<-List.append_assoc];omega,s.u.trans u.u⟩
   grind[intOf]
  .have D:j=Q a:=W;subst D;rw[vZ]at*;go_wp2_with fail;go_end0;exact⟨K,CR.u,c.u⟩
structure lU(w:E)(B wb:Nat)(tv:χ)(bn:Bool)(T:List Ty)(bs:bZ):Prop where
 jy:gC w B wb tv bn bs
 ok:aX T
 row:∃yx,ξ w 0 88 4 tv (Q T) yx/\eN (eI w λ_=>True) T yx
def lU.kept{w f}{B a}{d}{b}{T}{q i}(h:lU w B a d b T q)(m:cG B a w f)(r:gC f B a d b i):lU f B a d b T i:=by
 obtain⟨z,s,A,n,y⟩:=h;obtain⟨p,v,D,_⟩:=z.blk;have H:∀k c e,w.heap[k]?=C (γ c e (0,0))->(e=88\/e=156\/e=3)->¬(B<=k/\(k=a\/∃j l,w.heap[k]?=C (γ j 5 l))):=by
  rintro k c e G F ⟨_,o|⟨j,l,o⟩⟩
  .grind
  .grind
 refine⟨r,s,A,A3 n m λg t x=>?_,y.imp<|eI.P m (λg _ _ o u=>?_) λ_ _ _=>trivial⟩
 .obtain⟨_,c,u⟩:=A9 n g t;grind
 grind
theorem lU.y{w d}{B e}{tv}{a}{T}{b}(h:lU w B e tv a T b)(c:I No w d):lU d B e tv a T b:=h.kept (cG.y c)<|h.jy.y c
theorem lU.cell{w}{B b}{l}{d}{T}{m}(h:lU w B b l d T m):∃a c,l=Y a (Q T) c/\δ w (J b 2)=C (Y a (Q T) c)/\δ w (J b 3)=C (.bool d)/\b<V w.heap/\
 ∀i (t),∃g e f j k,a=C (J g 0)/\g<V w.heap/\Q T<=c/\c<=Γ/\δ w (J g<|i*4)=C (U T[i].x)/\δ w (J g<|i*4+1)=C (Y e (Q T[i].eo) f)/\δ w (J g<|i*4+2)=C (Y j (Q T[i].M) k)/\
  δ w (J g<|i*4+3)=C (U T[i].fh)/\ξ w 0 156 2 (Y e (Q T[i].eo) f) (Q T[i].eo) (I0 T[i].eo)/\ξ w 0 3 1 (Y j (Q T[i].M) k) (Q T[i].M) (C8 T[i].M):=by
 obtain⟨o,s,v,n,u⟩:=h;obtain⟨a,c,rfl⟩:=B8 n;obtain⟨p,q,r⟩:=o.o9;grind[Gg]
def E3d(k)(c:1<=k)(d:k<=6)(w:E):μ η 251 #[U k] w λe b=>e=π (ζ ⟨ν (Z6 k)⟩)/\b=w:=by
 have a:k=1\/k=2\/k=3\/k=4\/k=5\/k=6:=W;obtain rfl|rfl|rfl|rfl|rfl|rfl:=a<;>
 .go_in;go_wp2;go_ret;exact⟨K,K⟩
def uJ(k:Int)(a:Bool):Bool:=å (k=10)||(å (k=9)&&!a)
def Nz{w}{B f}{p}{j}{T}{l}(h:lU w B f p j T l)(i)(o:i<Q T)(a):
 μ η 264 #[pV f,U i,.bool a] w λe q=>e=π (.bool<|uJ T[i].x a)/\q=w:=by
 obtain⟨r,c,rfl,s,t,z,n⟩:=h.cell;obtain⟨g,u,v,A,D,rfl,y,x,m,F,G,H,L,-,-⟩:=n i o;unfold Γ at m;generalize T[i].x=k at*;by_cases b:k=10
 .subst b;go_in;go_wp2;go_ret;exact⟨K,K⟩
 .by_cases d:k=9
  .subst d;cases a<;>
   .go_in;go_wp2;go_ret;exact⟨K,K⟩
  .have e:uJ k a=κ:=by simp[uJ,b,d]
   rw[e];go_in;go_wp2;go_ret;refine⟨?_,K⟩;show π (Value.bool<|k==10)=_;grind
def mF(a:Bool)(t:Tr):Tr:=if a then iO t else t
def dV(a:Bool)(T:List Ty)(i:Nat):bZ:=bU<|mF a<|tr T i
def X8(w:E)(B b:Nat)(f:χ)(c:Bool)(d:bZ)(e:Ending)(a:E):Prop:=e=rT/\cG B b w a/\gC a B b f c d
def zK(B c:Nat)(d:χ)(a:Bool)(T:List Ty)(m:Nat):Prop:=∀(i) (w) (b),i+1<=m->i<Q T->lU w B c d a T b->B<=V w.heap->Q b+Q (dV a T i)<=100000000000000->
 μ η 237 #[pV c,U i] w (X8 w B c d a<|b++dV a T i)
def cG.other{w d}{B f}{l}{g}{i}(j:cG B f w d)(k:gC w B f l g i){q:Nat}{a}{e}{b}(h:w.heap[q]?=C (γ a e b))(n:e≠5)(o:e≠242):d.heap[q]?=C (γ a e b):=by
 rw[j.block q (aG h) λx=>?_]
 .omega
 .obtain c|⟨cs2,f2,c⟩:=x.2
  .subst c;obtain⟨p,v,m,_⟩:=k.blk;grind
  grind
theorem cG.own{w d}{B a}{o}{g}{i}(j:cG B a w d)(l:gC w B a o g i){b c n}{e}{v}{f}(h:ξ w b e c v n f)(k:e≠5)(s:e≠242):ξ d b e c v n f:=by
 refine j.row h k λm=>?_;obtain⟨_,q,t⟩:=A9 h a m;obtain⟨p,v,r,_⟩:=l.blk;grind
section
variable{B b:Nat}{c:χ}{a:Bool}{T:List Ty}{m:Nat}
def Sg(u:zK B b c a T m)(w)(f)(h:lU w B b c a T f)(x:B<=V w.heap)(k s r)(P v o)(p)(q)(d:uZ)(y:k<Q d)(z:Nat)(L:d[k]=z)(N:z+1<=m)(M:z<Q T)(D:Q f+Q (dV a T z)<=100000000000000)
 (H:w.heap[s]?=C (γ #[pV b] 236 (0,0))) (G:w.heap[r]?=C (γ #[P,v,Y p (Q d) q,o] 88 (0,0))) (F:ξ w 0 3 1 (Y p (Q d) q) (Q d)<|C8 d):
 μ η 249 #[U k,pV s,pV r] w (X8 w B b c a<|f++dV a T z):=by
 have t:Hid (∀i,I No w i->μ η 237 #[pV b,U z] i (X8 w B b c a<|f++dV a T z)):=by
  intro i n;refine(u z i f N M (h.y n) (kQ x n.size) D).mono ?_;rintro e w' ⟨rfl,j,l⟩;exact⟨K,(cG.y n).trans j,l⟩
 have S:δ w (J s 0)=C (pV b):=cr H K;have Z:δ w (J r 2)=C (Y p (Q d) q):=cr G K;obtain⟨g,rfl,hg,a2,A,R⟩:=D6 F y;rw[L]at R;unfold Γ at A;generalize dV a T z=tx at*;go_in;go_wp2;go_region_with ((go_at_call 237;refine(t.u _<|I.drewN _ _ 1).mono ?_;rintro e a3 ⟨rfl,j,l⟩));all_goals
  go_wp2;go_end0;exact⟨K,j,l⟩
def vV(a:Bool)(T:List Ty)(z:Nat)(d:Bool):bZ:=if d then [40]++dV a T z++[41] else dV a T z
def ŧ(IH:zK B b c a T m)(w)(q)(h:lU w B b c a T q)(ae:B<=V w.heap)(k A y)(x)(P)(f:uZ)(H)(z:Nat)(hz:f[k]=(z:Int))(ag:z+1<=m)(aa)(o)(a5:o=uJ T[z].x (å<|k+1=Q f))(a6:Q q+Q (vV a T z o)<=100000000000000)
 (hx:w.heap[A]?=C (γ #[pV b] 236 (0,0))) (ht:w.heap[y]?=C (γ #[Y x (Q f) P] 63 (0,0))) (v:ξ w 0 3 1 (Y x (Q f) P) (Q f)<|C8 f):
 μ η 263 #[U k,pV A,pV y] w (X8 w B b c a<|q++vV a T z o):=by
 have ah:(k==IntKind.i64.wrap (Q f-1))=å (k+1=Q f):=by
  obtain⟨_,_,_,af,L,_⟩:=D6 v H;unfold Γ at L;have e:IntKind.i64.wrap (Q f-1)=Q f-1:=by
   simp[IntKind.wrap,IntKind.bits,IntKind.signed];omega
  rw[e,Bool.eq_iff_iff];simp;omega
 have FN:Hid (∀n R,R=å (k+1=Q f)->μ η 264 #[pV b,U z,.bool R] (w.drewN n) λe S=>e=π (.bool o)/\S=w.drewN n):=by
  intro n R u;rw[a5,u];exact Nz (h.y<|I.drewN _ _ _) z aa _
 have FW:Hid (∀d i,cG B b w d->gC d B b c a i->Q i+Q (dV a T z)<=100000000000000->μ η 237 #[pV b,U z] d (X8 w B b c a<|i++dV a T z)):=by
  intro d i j M u;refine(IH z d i ag aa (h.kept j M) (kQ ae j.size) u).mono ?_;rintro e S ⟨rfl,l,p⟩;exact⟨K,j.trans l,p⟩
 have Z:Hid (∀d i (t:UInt8),cG B b w d->gC d B b c a i->Q i+1<=100000000000000->μ η 247 #[pV b,Y (C<|J (V d.heap) 0) 1 1] (d.alloc<|γ #[ζ ⟨#[t]⟩] 9) (X8 w B b c a<|i++[t])):=by
  intro d i t j M u;refine(QE (M.y<|I.alloc _ _ _) [⟨#[t]⟩] (V d.heap) (0,0) (rY d _) ι (by grind[lW])<|by simp;have:=j.size;omega).mono ?_;rintro e S ⟨rfl,l,p⟩;exact⟨K,(j.trans<|cG.y<|I.alloc _ _ _).trans l,by grind[lW]⟩
 have s:Hid (∀d,cG B b w d->δ d (J A 0)=C (pV b)/\δ d (J y 0)=C (Y x (Q f) P)/\A<V d.heap/\y<V d.heap/\∀g,x=C (J g 0)->g<V d.heap/\δ d (J g k)=C (U z)):=by
  intro d j;have a9:=j.other h.jy hx ε ε;have a7:=j.other h.jy ht ε ε;refine⟨cr a9 K,cr a7 K,(aG a9),(aG a7),λg hg=>?_⟩;obtain⟨g',e,G,_,_,ac⟩:=D6 (j.own h.jy v ε ε) H;rw[hg]at e;cases e;rw[hz]at ac;exact⟨G,ac⟩
 obtain⟨g,rfl,hg,af,L,y0⟩:=D6 v H;have HW:=O h.jy;unfold Γ at L;have ai:(k:Int)<(Q f:Int):=W;obtain⟨a3,a4,-,-,r⟩:=s.u w<|cG.refl _ _ _;have y1:=(r g K).2;clear h hx ht v hz y0 r a5;have a8:Hid (vV a T z o=if o then [40]++dV a T z++[41] else dV a T z):=K;generalize vV a T z o=tx at*;generalize dV a T z=tz at*;go_in;go_wp2_with fail;go_quiet ((go_at_call 264;refine Calls.quiet_of_same<|FN.u _ _ ?_;rfl));cases o
 .have e:=a8.u;simp only[yZ,if_false]at e;subst e;obtain⟨a3,a4,l1,l2,r⟩:=s.u _<|cG.y<|I.drewN No w nq;obtain⟨G,y1⟩:=r g K;go_wp2_with fail;go_region_with ((go_at_call 237;refine(FW.u _ q ?_ ?_ a6).mono ?_;exact cG.y<|I.drewN No w _;exact HW.u.y<|I.drewN No w _;rintro e D ⟨rfl,l,p⟩));all_goals
   go_wp2;go_end0;exact⟨K,l,p⟩
 .have e:=a8.u;simp only[if_true]at e;subst e;simp only[qQ,jQ,xQ]at a6;have N:cG B b w (w.drewN nq):=cG.y<|I.drewN No w nq;obtain⟨a3,a4,l1,l2,r⟩:=s.u _ N;have a2:=O (Z.u (w.drewN nq) q 40 N (HW.u.y<|I.drewN No w nq) W);clear r N;go_wp2_with fail;refine a2.u.mono ?_;rintro e D ⟨rfl,l,p⟩;obtain⟨d1,d2,m1,m2,d3⟩:=s.u D l;obtain⟨G,y2⟩:=d3 g K;have H1:=O l;have H2:=O p;clear l p d3 a2;go_wp2_with fail;go_region_with ((go_at_call 237;refine(FW.u _ (q++[40]) (H1.u.trans<|cG.y<|I.drewN No D 1) (H2.u.y<|I.drewN No D 1) θ).mono ?_;rintro e ab ⟨rfl,F,h4⟩));all_goals
   obtain⟨d4,-,m4,-,-⟩:=s.u ab F;have ad:=O (Z.u ab _ 41 F h4 θ);clear F h4;go_wp2_with fail;refine ad.u.mono ?_;rintro e aj ⟨rfl,h5,h6⟩;go_wp2;go_end0;exact⟨K,h5,θ⟩
end
def Z4(a:bZ)(f:Nat->bZ):Nat->bZ
 |0=>[]
 |n+1=>Z4 a f n++((if n=0 then [] else a)++f n)
def C1e(a)(f){j n}(h:j<=n):Q (Z4 a f j)<=Q (Z4 a f n):=by
 induction n<;>grind[Z4]
theorem Ez(a)(f)(j):Z4 a f (j+1)=Z4 a f j++((if j=0 then [] else a)++f j):=rfl
section
variable{B a:Nat}{c:χ}{b:Bool}
def ZN(p:Nat)(cf:∀(G) (F:E),(callFunc p G).run η F=.ok (.enter p G) F)(w)(o)(h:gC w B a c b o)(S:B<=V w.heap)(n)(hn:n<=1000000000)(d)(H L)(f)(a2:Q o+Q (Z4 d.data.toList f n)<=100000000000000)
 (z:∀(s) (j) (t),cG B a w s->gC s B a c b t->j<n->Q t+Q (f j)<=100000000000000->μ η p #[U j,H,L] s (X8 w B a c b<|t++f j)):
 μ η 248 #[pV a,U n,ζ d,.func (.func p) #[] #[H,L]] w (X8 w B a c b<|o++Z4 d.data.toList f n):=by
 have Z:=O h;have A:=O z;have P:Hid (Q d.data.toList=d.size):=bl d;clear h z;go_in;go_wp2_with fail;go_loopw [10] (λv wr=>∃(j:Nat),j<=n/\v=U (j:Int)/\Hid (gC wr B a c b<|o++Z4 d.data.toList f j)/\Hid (cG B a w wr)) (λv _=>n-(intOf v).toNat);case atStart=>exact⟨0,wQ _,K,by grind[Z4],cG.refl _ _ _⟩
 case round=>
  obtain⟨j,hj,rfl,k,CR⟩:=hrel;by_cases x:j<n
  .have l:=C1e d.data.toList f (show j+1<=n from x);have m:=O<|Ez d.data.toList f j;rw[Ez]at l;simp only[qQ]at l;have a4:=k.u.o9.2.2;by_cases u:j=0
   .have q:=O (A.u wr j _ CR.u k.u x θ);simp only[u,if_true,uY]at m;subst u;have y:=O CR.u;clear CR k l;go_wp2_with fail;refine q.u.mono ?_;rintro e M ⟨rfl,g,i⟩;have r:=O g;have R:=O i;clear g i;go_wp2;go_roundw;case rel=>exact⟨0+1,W,ç,by rw[m.u,<-List.append_assoc];omega,r.u⟩
    grind[intOf]
   .simp only[u,if_false]at m l;have a3:(0:Int)<(j:Int):=W;have D:=O (Gs k.u d (by have:=P.u;grind)<|kQ S CR.u.size);have y:=O CR.u;have N:=O l;clear CR k l;go_wp2_with fail;refine D.u.mono ?_;rintro e M ⟨rfl,g,i⟩;have q:=O (A.u M j _ (y.u.trans g) i x<|by have:=N.u;grind);clear g i D;go_wp2_with fail;refine q.u.mono ?_;rintro e a5 ⟨rfl,g,i⟩;have r:=O g;have R:=O i;clear g i;go_wp2;go_roundw;case rel=>exact⟨j+1,W,ç,by rw[m.u];grind,r.u⟩
    grind[intOf]
  .have T:j=n:=W;subst T;go_wp2_with fail;go_end0;exact⟨K,CR.u,k.u⟩
end
section
variable{B b:Nat}{c:χ}{a:Bool}{T:List Ty}{m:Nat}
def qH(a:Bool)(T:List Ty)(d:uZ)(j:Nat):bZ:=vV a T (d.getD j 0).toNat<|uJ (T.getD (d.getD j 0).toNat ty0).x<|å<|j+1=Q d
def Ŭ(A:zK B b c a T m)(w)(l)(h:lU w B b c a T l)(s:B<=V w.heap)(i)(k)(d:uZ)(hn:Q d<=100000000)(G:∀x∈d,0<=x/\x<Q T/\x+1<=m)(L:ξ w 0 3 1 (Y i (Q d) k) (Q d)<|C8 d)(H:Q l+Q (Z4 [32,124,32] (qH a T d) (Q d))<=100000000000000):
 μ η 250 #[pV b,Y i (Q d) k] w (X8 w B b c a<|l++Z4 [32,124,32] (qH a T d) (Q d)):=by
 have y:Hid (∀f,f=σ (σ w<|γ #[pV b] 236) (γ #[Y i (Q d) k] 63)->μ η 248 #[pV b,U (Q d),ζ ⟨#[32,124,32]⟩,.func (.func 263) #[] #[pV (V w.heap),pV<|V w.heap+1]] f (X8 w B b c a<|l++Z4 [32,124,32] (qH a T d) (Q d))):=by
  intro f r;have p:I No w f:=by subst r;exact(I.alloc No _ _).trans (I.alloc No _ _) λ_ _ x=>x
  have q:=h.y p;have R:f.heap[V w.heap]?=C (γ #[pV b] 236 (0,0)):=by
   subst r;rw[Below.heap_alloc _ _ _ ι];exact rY w _
  have N:f.heap[V w.heap+1]?=C (γ #[Y i (Q d) k] 63 (0,0)):=by
   subst r;have:=rY (σ w<|γ #[pV b] 236)<|γ #[Y i (Q d) k] 63;simpa using this
  have M:=A3 L p λ_ _ x=>x;refine(ZN 263 (λ_ _=>ú) f l q.jy (kQ s p.size) (Q d) W ⟨#[32,124,32]⟩ _ _ (qH a T d) H ?_).mono ?_
  .intro D j F g P t u;have a3:=G d[j]<|mQ t;obtain⟨z,S⟩:∃z:Nat,d[j]=z:=⟨d[j].toNat,W⟩;have v:z<Q T:=W;have e:qH a T d j=vV a T z (uJ T[z].x<|å<|j+1=Q d):=by
    unfold qH;rw[show d.getD j 0=z from θ,tQ,fX v]
   rw[e]at u⊢;refine(ŧ A D F (q.kept g P) (kQ s<|kQ p.size g.size) j (V w.heap) (V w.heap+1) i k d t z S W v _ K u (g.other q.jy R ε ε) (g.other q.jy N ε ε)<|g.own q.jy M ε ε).mono ?_;rintro e Z ⟨rfl,n,o⟩;exact⟨K,g.trans n,o⟩
  .rintro e Z ⟨rfl,n,o⟩;exact⟨K,(cG.y p).trans n,o⟩
 generalize Z4 [32,124,32] (qH a T d) (Q d)=tx at*;go_in;go_wp2_with fail;refine(y.u _ K).mono ?_;rintro e a4 ⟨rfl,n,o⟩;go_wp2;go_end0;exact⟨K,n,o⟩
end
def mL(a:bZ)(f:Nat->bZ):Nat->bZ
 |0=>[]
 |n+1=>mL a f n++(a++f n)
theorem MM(a)(f):∀n,mL a f (n+1)=a++f 0++mL a (λj=>f<|j+1) n
 |0=>by simp[mL]
 |n+1=>by
  rw[mL,MM a f n,mL];simp
theorem MK(a)(f):∀n,Z4 a f (n+1)=f 0++mL a (λj=>f<|j+1) n
 |0=>by grind[Z4,mL]
 |n+1=>by
  rw[Z4,MK a f n,mL];simp
theorem Į(a){f g}:∀n,(∀j,j<n->f j=g j)->mL a f n=mL a g n
 |0,_=>K
 |n+1,h=>by rw[mL,mL,Į a n λj b=>h j W,h n W]
theorem QD(a){f g}:∀n,(∀j,j<n->f j=g j)->Z4 a f n=Z4 a g n
 |0,_=>K
 |n+1,h=>by rw[Z4,Z4,QD a n λj b=>h j W,h n W]
def ES:Tr:=.nd 0 [] []
theorem Jb:∀r,qV κ r=mL [44,32] (λj=>bU<|r.getD j ES) (Q r)
 |[]=>Θ
 |t::r=>by
  rw[qV,Jb r,jQ,MM];simp
theorem Rq:∀r,qV τ r=Z4 [44,32] (λj=>bU<|r.getD j ES) (Q r)
 |[]=>Θ
 |t::r=>by
  grind[qV,Jb,jQ,MK]
def zR(t:Tr)(a:Bool):bZ:=if uJ t.k a then [40]++bU t++[41] else bU t
theorem Hx(t)(r):(if t.k=10\/t.k=9/\Q r≠0 then [40]++bU t++[41] else bU t)=zR t (å<|0+1=Q (t::r)):=by
 grind[zR,uJ,å]
theorem Jg:∀r,pP κ r=mL [32,124,32] (λj=>zR (r.getD j ES)<|å<|j+1=Q r) (Q r)
 |[]=>Θ
 |t::r=>by
  rw[pP,Jg r,Hx,jQ,MM];simp
theorem Rz:∀r,pP τ r=Z4 [32,124,32] (λj=>zR (r.getD j ES)<|å<|j+1=Q r) (Q r)
 |[]=>Θ
 |t::r=>by
  rw[pP,Jg r,Hx,jQ,MK];simp
theorem C1f(a)(t):(mF a t).k=t.k:=by
 grind[mF,D5f]
theorem IP(a){k}{c}{b}(h:k≠7):mF a (.nd k c b)=.nd k c (b.map<|mF a):=by
 cases a
 .have e:mF κ=id:=by funext t;simp[mF]
  simp_all
 .have e:mF τ=iO:=by funext t;simp[mF]
  simp_all[yC]
section
variable{bn:Bool}{T:List Ty}{i:Nat}
def Ss(a:aX T)(b)(c:1<=T[i].x)(d:T[i].x<=6):dV bn T i=Z6 T[i].x:=by
 unfold dV;rw[X7 a b,IP bn W,bU,wY W,wY W,wY W,wY W]
def Mm(a:aX T)(b)(h:T[i].x=8):dV bn T i=[91]++dV bn T T[i].fh.toNat++[93]:=by
 simp_all[dV,X7,IP,bU,wY,yY,UF]
theorem IX(b:aX T)(c)(h:T[i].x=9\/T[i].x=10):T[i].eo=[]:=by
 obtain a|a|a|a|a:=b i c<;>grind
def Ys(b:aX T)(c)(h:T[i].x=9):dV bn T i=[40]++Z4 [44,32] (λj=>dV bn T (T[i].M.getD j 0).toNat) (Q T[i].M)++[41,32,61,62,32]++dV bn T T[i].fh.toNat:=by
 have e:Z4 [44,32] (λj=>dV bn T (T[i].M.getD j 0).toNat) (Q T[i].M)=qV τ ((T[i].M.map λx=>tr T x.toNat).map<|mF bn):=by
  rw[Rq,lZ,lZ];refine QD _ _ λj a=>?_;unfold dV;simp[a]
 simp_all[dV,X7,IP,bU,wY,yY,IX,JH]
def Mx(a:aX T)(f)(h:T[i].x=10):dV bn T i=Z4 [32,124,32] (qH bn T T[i].M) (Q T[i].M):=by
 have e:Z4 [32,124,32] (qH bn T T[i].M) (Q T[i].M)=pP τ ((T[i].M.map λx=>tr T x.toNat).map<|mF bn):=by
  rw[Rz,lZ,lZ];refine QD _ _ λj b=>?_;have g:=(a i f).lg T[i].M[j]<|mQ b;have c:T[i].M[j].toNat<Q T:=W;unfold qH vV zR dV;have d:(tr T T[i].M[j].toNat).k=T[T[i].M[j].toNat].x:=by rw[X7 a c];rfl
  simp[b,C1f,d,c]
 simp_all[dV,X7,IP,bU,wY,yY,IX]
end
section
variable{B wb:Nat}{tv:χ}{bn:Bool}{T:List Ty}{m:Nat}
def BN(B wb:Nat)(tv:χ)(bn:Bool)(T:List Ty)(i:Nat):Prop:=∀(d) (w) (a) (b) (c),T[i].x=7->lU w B wb tv bn T a->B<=V w.heap->ξ w 0 156 2 (Y b (Q T[i].eo) c) (Q T[i].eo) (I0 T[i].eo)->Q a+Q (dV bn T i)<=100000000000000->
 μ η 246 #[pV wb,Y b (Q T[i].eo) c] w (X8 w B wb tv bn<|a++dV bn T i)
def Jc{a0}(i:B<=a0.heap.size)(a)(q)(b)(s)(f:q=V a.heap)(c:cG B wb a0 a)(g:gC a B wb tv bn b)(j:Q b+s.size<=100000000000000):
 μ η 247 #[pV wb,Y (C<|J q 0) 1 1] (a.alloc<|γ #[ζ s] 9) (X8 a0 B wb tv bn<|b++s.data.toList):=by
 subst f;have e:=bl s;refine(QE (g.y<|I.alloc _ _ _) [s] (V a.heap) (0,0) (rY a _) ι (by grind[lW])<|by simp;have:=c.size;omega).mono ?_;rintro e k ⟨rfl,d,h⟩;exact⟨K,(c.trans<|cG.y<|I.alloc _ _ _).trans d,by grind[lW]⟩
def Sy(IH:zK B wb tv bn T m)(i)(bh:i<=m)(aq:BN B wb tv bn T i)(M)(w)(A)(h:lU w B wb tv bn T A)(b0:B<=V w.heap)(ah:Q A+Q (dV bn T i)<=100000000000000)(b3:Q T[i].M<=100000000):
 μ η 237 #[pV wb,U i] w (X8 w B wb tv bn<|A++dV bn T i):=by
 have hT:=h.ok;obtain⟨ad,bb,be,bc,c3,bi,ar⟩:=h.cell;obtain⟨bf,n,p,d,f,rfl,hg,bg,b1,x0,x1,x2,x3,a8,a9⟩:=ar i M;unfold Γ at b1;clear ar;have a3:=O λe=>Mm (bn:=bn) hT M e;have a4:=O λe=>Ys (bn:=bn) hT M e;have Z:=O λe=>Mx (bn:=bn) hT M e;have a5:=O λe1 e2=>Ss (bn:=bn) hT M e1 e2;have S:=O λe x g=>aq M x g n p e;have aj:=hT i M;have b4:=aj.lg;have a6:=aj.of;have b2:T[i].x=7\/T[i].x=8\/T[i].x=9\/T[i].x=10\/(1<=T[i].x/\T[i].x<=6):=by
  obtain t|t|t|t|t:=aj
  .omega
  .omega
  .omega
  .omega
  .omega
 clear aj aq;generalize dV bn T i=tx at*;generalize T[i].x=k at*;generalize T[i].fh=o at*;generalize T[i].eo=q at*;generalize T[i].M=b at*;have v:I No w (σ (σ w<|γ #[pV wb] 236)<|γ #[U k,Y n (Q q) p,Y d (Q b) f,U o] 88):=(I.alloc No _ _).trans (I.alloc No _ _) λ_ _ ab=>ab;have r:=h.y v;have u:=kQ b0 v.size;have ac:Hid (∀e x g,X8 (σ (σ w<|γ #[pV wb] 236)<|γ #[U k,Y n (Q q) p,Y d (Q b) f,U o] 88) B wb tv bn g e x->X8 w B wb tv bn g e x):=by
  rintro e x g ⟨rfl,c,l⟩;exact⟨K,(cG.y v).trans c,l⟩
 have P:(σ (σ w<|γ #[pV wb] 236)<|γ #[U k,Y n (Q q) p,Y d (Q b) f,U o] 88).heap[V w.heap]?=C (γ #[pV wb] 236 (0,0)):=by
  rw[Below.heap_alloc _ _ _ ι];exact rY w _
 have t:(σ (σ w<|γ #[pV wb] 236)<|γ #[U k,Y n (Q q) p,Y d (Q b) f,U o] 88).heap[V w.heap+1]?=C (γ #[U k,Y n (Q q) p,Y d (Q b) f,U o] 88 (0,0)):=by
  have:=rY (σ w<|γ #[pV wb] 236)<|γ #[U k,Y n (Q q) p,Y d (Q b) f,U o] 88;simpa using this
 have N:=A3 a9 v λ_ _ ab=>ab;have a7:=A3 a8 v λ_ _ ab=>ab;have y:Hid (∀a,cG B wb (σ (σ w<|γ #[pV wb] 236)<|γ #[U k,Y n (Q q) p,Y d (Q b) f,U o] 88) a->δ a (J (V w.heap) 0)=C (pV wb)/\δ a (J (V w.heap+1) 2)=C (Y d (Q b) f)/\δ a (J (V w.heap+1) 3)=C (U o)/\V w.heap<V a.heap/\V w.heap+1<V a.heap):=by
  intro a s;have av:=s.other r.jy P ε ε;have an:=s.other r.jy t ε ε;exact⟨cr av K,cr an K,cr an K,(aG av),(aG an)⟩
 have G:=O λa aa g ba=>Jc (wb:=wb) (tv:=tv) (bn:=bn) (a0:=(σ (σ w<|γ #[pV wb] 236)<|γ #[U k,Y n (Q q) p,Y d (Q b) f,U o] 88)) u a aa g ba;have FW:Hid (∀a z g,cG B wb (σ (σ w<|γ #[pV wb] 236)<|γ #[U k,Y n (Q q) p,Y d (Q b) f,U o] 88) a->gC a B wb tv bn g->z<i->Q g+Q (dV bn T z)<=100000000000000->μ η 237 #[pV wb,U (z:Int)] a (X8 (σ (σ w<|γ #[pV wb] 236)<|γ #[U k,Y n (Q q) p,Y d (Q b) f,U o] 88) B wb tv bn<|g++dV bn T z)):=by
  intro a z g s hw hz hl;refine(IH z a g W W (r.kept s hw) (kQ u s.size) hl).mono ?_;rintro e x ⟨rfl,c,l⟩;exact⟨K,s.trans c,l⟩
 have FR:Hid (∀a g,cG B wb (σ (σ w<|γ #[pV wb] 236)<|γ #[U k,Y n (Q q) p,Y d (Q b) f,U o] 88) a->gC a B wb tv bn g->Q g+Q (Z4 [44,32] (λj=>dV bn T (b.getD j 0).toNat) (Q b))<=100000000000000->μ η 248 #[pV wb,U (Q b:Int),ζ ⟨#[44,32]⟩,.func (.func 249) #[] #[pV (V w.heap),pV<|V w.heap+1]] a (X8 (σ (σ w<|γ #[pV wb] 236)<|γ #[U k,Y n (Q q) p,Y d (Q b) f,U o] 88) B wb tv bn<|g++Z4 [44,32] (λj=>dV bn T (b.getD j 0).toNat) (Q b))):=by
  intro a g s hw hl;have ai:=r.kept s hw;have b9:=s.other r.jy P ε ε;have b7:=s.other r.jy t ε ε;have b5:=s.own r.jy N ε ε;refine(ZN 249 (λ_ _=>Θ) a g hw (kQ u s.size) (Q b) W ⟨#[44,32]⟩ _ _ (λj=>dV bn T (b.getD j 0).toNat) hl ?_).mono ?_
  .intro a2 j az D b8 hj au;have bo:=b4 b[j]<|mQ hj;obtain⟨z,hz⟩:∃z:Nat,b[j]=(z:Int):=⟨b[j].toNat,W⟩;have e:dV bn T (b.getD j 0).toNat=dV bn T z:=by
    rw[show b.getD j 0=(z:Int) from θ,tQ]
   rw[e]at au⊢;refine(Sg IH a2 az (ai.kept D b8) (kQ u<|kQ s.size D.size) j (V w.heap) (V w.heap+1) _ _ _ d f b hj z hz W W au (D.other ai.jy b9 ε ε) (D.other ai.jy b7 ε ε)<|D.own ai.jy b5 ε ε).mono ?_;rintro e x ⟨rfl,c,l⟩;exact⟨K,D.trans c,l⟩
  .rintro e x ⟨rfl,c,l⟩;exact⟨K,s.trans c,l⟩
 have al:=O r;have am:=O<|cG.refl B wb<|σ (σ w<|γ #[pV wb] 236)<|γ #[U k,Y n (Q q) p,Y d (Q b) f,U o] 88;obtain rfl|rfl|rfl|rfl|⟨hk1,D⟩:=b2
 .have HC:=O<|S.u K _ A r u a7 ah;clear h r P t N a7 a8 a9 FW G y a3 a4 Z a5 S v u;go_in;go_wp2_with fail;refine HC.u.mono ?_;rintro e H F;have b6:=ac.u _ _ _ F;obtain⟨rfl,c,l⟩:=b6;go_wp2;go_end0;exact⟨K,c,l⟩
 .have e:=a3.u K;obtain⟨z,rfl⟩:∃z:Nat,o=(z:Int):=⟨o.toNat,W⟩;have ao:z<i:=by have:=a6<|.inl K;omega
  rw[tQ]at e;subst e;simp only[qQ,jQ,xQ]at ah;have ae:=O (G.u _ (V w.heap+1+1) A ⟨#[91]⟩ ι am.u al.u.jy Ò);clear h r P t N a7 a8 a9 a3 a4 Z a5 S v u a6;go_in;go_wp2_with fail;refine ae.u.mono ?_;rintro e H ⟨rfl,c,l⟩;obtain⟨d1,d2,d3,l1,l2⟩:=y.u H c;have af:=O (FW.u H z _ c l ao θ);clear c l ae;go_wp2_with fail;refine af.u.mono ?_;rintro e R ⟨rfl,L,h4⟩;obtain⟨d4,-,-,l4,-⟩:=y.u R L;have ag:=O (G.u R (V R.heap) _ ⟨#[93]⟩ K L h4 Ò);clear L h4 af;go_wp2_with fail;refine ag.u.mono ?_;rintro e ap F;obtain⟨rfl,h5,h6⟩:=ac.u _ _ _ F;go_wp2;go_end0;exact⟨K,h5,θ⟩
 .have e:=a4.u K;obtain⟨z,rfl⟩:∃z:Nat,o=(z:Int):=⟨o.toNat,W⟩;have ao:z<i:=by have:=a6<|.inr K;omega
  rw[tQ]at e;subst e;generalize Z4 [44,32] (λj=>dV bn T (b.getD j 0).toNat) (Q b)=rb at*;simp only[qQ,jQ,xQ]at ah;have ae:=O (G.u _ (V w.heap+1+1) A ⟨#[40]⟩ ι am.u al.u.jy Ò);clear h r P t N a7 a8 a9 a3 a4 Z a5 S v u a6;go_in;go_wp2_with fail;refine ae.u.mono ?_;rintro e H ⟨rfl,c,l⟩;obtain⟨d1,d2,d3,l1,l2⟩:=y.u H c;have af:=O (FR.u H _ c l θ);clear c l ae;go_wp2_with fail;refine af.u.mono ?_;rintro e R ⟨rfl,L,h4⟩;obtain⟨d4,d5,d6,l4,l5⟩:=y.u R L;have ag:=O (G.u R (V R.heap) _ ⟨#[41,32,61,62,32]⟩ K L h4 Ò);clear L h4 af;go_wp2_with fail;refine ag.u.mono ?_;rintro e ap ⟨rfl,h5,h6⟩;obtain⟨d7,-,d8,l7,l8⟩:=y.u ap h5;have aw:=O (FW.u ap z _ h5 h6 ao θ);clear h5 h6 ag;go_wp2_with fail;refine aw.u.mono ?_;rintro e bp F;obtain⟨rfl,h7,h8⟩:=ac.u _ _ _ F;go_wp2;go_end0;exact⟨K,h7,θ⟩
 .have e:=Z.u K;subst e;have HC:=O<|Ŭ IH _ A r u d f b b3 (λab bm=>θ) N ah;clear h r P t N a7 a8 a9 FW G y FR a3 a4 Z a5 S v u a6;go_in;go_wp2_with fail;refine HC.u.mono ?_;rintro e H F;obtain⟨rfl,c,l⟩:=ac.u _ _ _ F;go_wp2;go_end0;exact⟨K,c,l⟩
 .have e:=a5.u hk1 D;subst e;obtain⟨d1,-,-,l1,l2⟩:=y.u _ am.u;have d0:δ ((σ (σ w<|γ #[pV wb] 236)<|γ #[U k,Y n (Q q) p,Y d (Q b) f,U o] 88)) (J (V w.heap+1) 0)=C (U k):=cr t K;have ay:=O al.u.jy;have bj:Q (Z6 k)<=7:=by
   have hk:k=1\/k=2\/k=3\/k=4\/k=5\/k=6:=W;obtain rfl|rfl|rfl|rfl|rfl|rfl:=hk<;>decide
  have FP:Hid (∀ak aa,aa=V w.heap+1+1->μ η 247 #[pV wb,Y (C<|J aa 0) 1 1] (σ (((σ (σ w<|γ #[pV wb] 236)<|γ #[U k,Y n (Q q) p,Y d (Q b) f,U o] 88)).drewN ak)<|γ #[ζ ⟨ν (Z6 k)⟩] 9) (X8 w B wb tv bn<|A++Z6 k)):=by
   intro ak aa hq;have hd:=I.drewN No (σ (σ w<|γ #[pV wb] 236)<|γ #[U k,Y n (Q q) p,Y d (Q b) f,U o] 88) ak;refine(G.u (World.drewN (σ (σ w<|γ #[pV wb] 236)<|γ #[U k,Y n (Q q) p,Y d (Q b) f,U o] 88) ak) aa A ⟨ν (Z6 k)⟩ ð (cG.y hd) (ay.u.y hd) Ò).mono ?_;intro e x F;exact ac.u _ _ _ F
  clear h r P t N a7 a8 a9 FW G y FR a3 a4 Z a5 S v u a6;have e7:(k==7)=κ:=à;have e8:(k==8)=κ:=à;have e9:(k==9)=κ:=à;have bd:(k==10)=κ:=à;have ax:=O λa=>E3d k hk1 D a;generalize Z6 k=wk at*;go_in;go_wp2_with fail;go_region_with (first
   |(go_at_call 251;refine(ax.u _).mono ?_;rintro e x ⟨rfl,rfl⟩)
   |(go_at_call 247;refine(FP.u 1 _ ι).mono ?_;rintro e H ⟨rfl,c,l⟩));all_goals
   go_wp2;go_end0;exact⟨K,c,l⟩
end
section
variable{a:Type}
theorem DG(b:a->List χ)(f:∀x,Q (b x)=2):∀(l:List a) (i c) (e),c<2->(l.flatMap b)[i*2+c]?=(b l[i])[c]?
 |[],_,_,e,_=>θ
 |x::r,0,c,_,d=>θ
 |x::r,i+1,c,e,d=>by
  rw[List.flatMap_cons,List.getElem?_append_right θ,f,show (i+1)*2+c-2=i*2+c by omega,DG b f r i c θ d];rfl
theorem SI(b:a->List χ)(c:∀x,Q (b x)=2):∀l:List a,Q (l.flatMap b)=Q l*2
 |[]=>K
 |x::r=>by
  rw[List.flatMap_cons,qQ,c,SI b c r,jQ];omega
end
theorem A5d[Inhabited (bZ×Int)](d)(a)(h:d.size*2<=a.size):(Sort.putCells id 0 (Sort.flatK O0 2 d) a).toList.take (d.size*2)=I0 d.toList:=by
 have g:Q (I0 d.toList)=d.size*2:=by
  unfold I0;rw[SI O0 λ_=>K];simp
 refine List.ext_getElem? λt=>?_;by_cases b:t<d.size*2
 .have e:=DG O0 (λ_=>K) d.toList (t/2) (t % 2) θ W;rw[show t/2*2+t % 2=t by omega]at e;unfold I0;rw[e,List.getElem?_take_of_lt b];have f:t<a.size:=W;have c:(Sort.putCells id 0 (Sort.flatK O0 2 d) a).toList[t]?=C ((O0 d[t/2]!)[t % 2]!):=by
   unfold Sort.putCells;rw[Array.getElem?_toList,Array.getElem?_mapIdx];simp only[f,Array.getElem?_eq_getElem,Option.map_some];rw[yY ð];simp only[Nat.sub_zero,id];rw[Sort.get_flatK _ _ _ _ b]
  rw[c];grind[O0]
 grind
def vy(x y:bZ×Int)(a:E):μ η 260 #[.agg #[ζ ⟨ν x.1⟩,U x.2],.agg #[ζ ⟨ν y.1⟩,U y.2]] a λe c=>e=π (U<|û x.1 y.1)/\∃q f,c=Sort.grow (a.drewN q) f:=by
 have b:=λd=>Tryz.strings_Compare ⟨ν x.1⟩ ⟨ν y.1⟩ d;generalize g:û x.1 y.1=r;simp at b;go_in;go_wp2_with (go_at_call 261;refine(b _).mono ?_;rintro e c ⟨rfl,rfl⟩);go_ret;exact⟨K,0,_,by rw[Sort.alloc_eq_grow,Sort.alloc_eq_grow,Sort.grow_grow];rfl⟩
def wI(x y:bZ×Int):Int:=û x.1 y.1
def KU:Sort.SWO (ltOf wI) where
 irrefl x:=by grind[ltOf,wI,Cf]
 trans x y z h1 h2:=by
  have a1:=of_decide_eq_true h1;have a:=of_decide_eq_true h2;unfold wI at a1 a;exact decide_eq_true ((JC x.1 y.1 z.1 W W).2<|.inl a1)
 ntrans x y z h1 h2:=by
  have a1:=of_decide_eq_false h1;have a:=of_decide_eq_false h2;unfold wI at a1 a;have b:=xE x.1 y.1;have c:=xE y.1 z.1;have d:=xE x.1 z.1;have:=(JC z.1 y.1 x.1 W W).1;refine decide_eq_false ?_;grind[wI]
def Ģ(w:E)(u)(a:List<|bZ×Int)(L:(a.map (·.1)).Nodup)(v)(P:ξ w u 156 2 v (Q a)<|I0 a)(a5:Q a<=100000000):
 μ η 259 #[v,.func (.func 260) #[] #[]] w λe f=>e=rT/\I (λk=>C k=Δ v) w f/\ξ f u 156 2 v (Q a) (I0<|nA a):=by
 obtain⟨rfl,A⟩|⟨g,n,o,rfl,D,l,M,H,a4,T⟩:=P.2
 .have d:=AnyF.slices_SortFunc_none Tryz.sortF none 0 (.func (.func 260) #[] #[]) w;refine Calls.mono (show μ η 259 _ _ _ from d) ?_;rintro e f ⟨rfl,rfl⟩;have:=List.length_eq_zero_iff.1 A;subst this;have e:nA ([]:List<|bZ×Int)=[]:=List.length_eq_zero_iff.1<|JG _;grind[I.refl]
 .have G:=(aG l);have z:=enters_of func260 Θ K;have B:Sort.HoldsK O0 2 w g 0 (ν a):=by
   intro j c;rw[Sort.size_flatK]at c;simp at c;refine⟨?_,by grind[ã]⟩;rw[Nat.zero_add,á w g j _ _ _ l,Sort.get_flatK _ _ _ _ W];have e:=DG O0 (λ_=>K) a (j/2) (j % 2) W W;rw[show j/2*2+j % 2=j by omega]at e;have h:o[j]?=(I0 a)[j]?:=by
    rw[<-T,List.getElem?_take_of_lt c,Array.getElem?_toList]
   have q:j/2<Q a:=W;have p:j % 2<Q (O0 a[j/2]):=by
    show j % 2<2;omega
   rw[h];unfold I0;rw[e,gQ p];simp[q,p]
  have d:=AnyQ.slices_SortFunc Tryz.sortF 2 Tryz.isAgg156 Tryz.sizeOf156 O0 (λ_=>K) (λx v t=>by simp[O0]at t;obtain rfl|rfl:=t<;>rfl) wI KU 260 #[] g 0 n (ν a) w z (λ_ _ _ _ x a3=>vy x a3 _) B G θ;simp only[List.size_toArray]at d;refine Calls.mono (show μ η 259 _ _ _ from d) ?_;rintro e f ⟨rfl,b,a2,os,s,R,rfl⟩;have S:b.size=Q a:=by have:=s.1;simpa using this
  have q:b.toList=nA a:=by
   have m:=s.2.2;have y:(b.extract 0 (Q a)).toList=b.toList:=by rw[<-S];simp
   have h:(a.toArray.extract 0 (Q a)).toList=a:=ι;rw[y,h]at m;refine QH _ _ (m.trans (Y3 a).symm) ((m.map _).nodup_iff.2 L) ?_<|QZ a;rw[List.pairwise_iff_getElem];intro i j r c F;have:=R i j (wQ _) F θ;simp at r c;have this:=of_decide_eq_false this;unfold wI at this;rw[getElem!_pos b i r,getElem!_pos b j c]at this;simp only[mR,EW,Bool.not_eq_true',decide_eq_false_iff_not,Array.getElem_toList];exact this
  have Z:(sortWorldK O0 2 w g 0 a2 b os).heap[g]?=C (γ (Sort.putCells id 0 (Sort.flatK O0 2 b) o) 156 (0,0)):=by
   unfold sortWorldK Sort.grow Sort.putRowK Sort.putRow Sort.mapBlock Sort.ahead;rw[Array.getElem?_append_left θ,Array.getElem?_modify,yY K,l];rfl
  refine⟨K,?_,?_⟩
  .refine⟨K,K,K,by grind[sortWorldK,Sort.grow,Sort.putRowK,Sort.putRow,Sort.mapBlock,Sort.ahead],λk hk N=>?_⟩;have a6:¬g=k:=λe=>N (by subst e;rfl);unfold sortWorldK Sort.grow Sort.putRowK Sort.putRow Sort.mapBlock Sort.ahead;grind
  .refine⟨?_,.inr ⟨g,n,_,K,D,Z,M,H,?_,?_⟩⟩
   .unfold I0;rw[SI O0 λ_=>K,JG]
   .grind[Sort.putCells]
   grind[A5d]
def uv(w:E)(b)(i)(f)(h:ξ w 0 156 2 (Y i (Q b) f) (Q b)<|I0 b)(hn:Q b<=100000000):
 μ η 258 #[Y i (Q b) f] w λe q=>∃l m,e=π (Y l (Q b) m)/\I No w q/\ξ q (V w.heap) 156 2 (Y l (Q b) m) (Q b) (I0 b):=by
 obtain⟨i0,M,S,T,Z⟩:=info_parts Tryz.j7;have a9:=λw a a2 c n' B=>Lib.run_eql_slice_nil w _ _ a a2 c n' B underlying86;obtain⟨d,F⟩|⟨g,a4,a5,d,hb,H,a7,hm,a6,a8⟩:=h.2
 .have:=List.length_eq_zero_iff.1 F;subst this;simp at d;obtain⟨rfl,-,rfl⟩:=d;go_in;go_wp2;go_ret;exact⟨none,0,K,I.refl _ _,K,.inl ⟨K,K⟩⟩
 .simp at d;obtain⟨rfl,-,rfl⟩:=d;have R:=(aG H);have y:Hid (ξ (σ w<|γ #[] 156) (V w.heap) 156 2 (Y (C<|J (V w.heap) 0) 0 0) 0 []):=
   ⟨K,.inr ⟨V w.heap,0,#[],K,vQ _,rY w _,vQ _,wQ _,K,K⟩⟩;have t:=O<|VS h;have v:Hid (∀j u,(I0 b)[j]?=C u->δ (σ w<|γ #[] 156) (((J g 0):Addr).add j)=C u):=by
   intro j u N;have e:=h.cells K j u N;have G:((J g 0):Addr).add j=(J g j):=by unfold Addr.add;split<;>simp_all
   rw[G]at e⊢;exact I9 R e
  have r:Hid (∀u∈I0 b,u.oneCell'=τ):=by
   intro u o;unfold I0 at o;obtain⟨x,-,p⟩:=List.mem_flatMap.1 o;simp[O0]at p;obtain rfl|rfl:=p<;>rfl
  go_in;go_wp2_with (at_builtin;refine wpList_append_own _ K _ _ 86 K (V w.heap) 156 i0 (.agg #[ζ ⟨#[]⟩,U 0]) 2 24 underlying86 M S T Z K ε _ 0 [] K y.u (J g 0) (Q b) f (I0 b) K t.u v.u r.u ?c3 ?c4 ?c5 ?_);case c3=>omega
  case c4=>omega
  case c5=>simp
  intro v' a3 n L _;obtain⟨A,D,rfl⟩:=B8 n;have z:=O n;have s:Hid (I No w a3):=by
   refine((I.alloc (λk=>V w.heap<=k) w _).trans (I.grown L) λk P x=>?_).mono (λk P x=>W);have x':C k=C (V w.heap):=x;simp at x';omega
  go_wp2;go_ret;exact⟨A,D,K,s.u,z.u⟩
def CG(a:Bool)(T:List Ty)(p:bZ×Int):bZ:=[32]++p.1++[58,32]++dV a T p.2.toNat++[59]
def oG(a:Bool)(T:List Ty)(l:List<|bZ×Int):bZ:=l.flatMap<|CG a T
def sZ(a:Bool)(l:List<|bZ×Int):List (bZ×Int):=if a then nA l else l
def OZ{bn}{T}(l:List<|bZ×Int){j}(a):oG bn T (l.take<|j+1)=oG bn T (l.take j)++CG bn T l[j]:=by
 unfold oG;grind[nQ]
def Jx{bn}{T}(l){j}(a):Q (oG bn T<|l.take j)+Q (CG bn T l[j])<=Q (oG bn T l):=by
 have b:=OZ (bn:=bn) (T:=T) l a;grind[oG,List.take_append_drop,qQ]
def ĉ(a)(l):Q (sZ a l)=Q l:=by
 grind[sZ,JG]
def Č{a}{l}{p}(h:p∈sZ a l):p∈l:=by
 grind[sZ,Y3]
section
variable{bn:Bool}{T:List Ty}{i:Nat}
def Dy(b:aX T)(c:i<Q T)(h:T[i].x=7):T[i].M=[]/\(T[i].eo.map (·.1)).Nodup:=by
 obtain a|a|a|a|a:=b i c<;>grind
def Mu(b:aX T)(c)(h:T[i].x=7):dV bn T i=[123]++oG bn T (sZ bn T[i].eo)++(if Q T[i].eo=0 then [] else [32])++[125]:=by
 obtain⟨d,f⟩:=Dy b c h;have e:tr T i=.nd 7 (T[i].eo.map (·.1)) (T[i].eo.map λp=>(λz:Int=>tr T z.toNat) p.2):=by
  rw[X7 b c,wY W,d,h];simp
 unfold dV;rw[e];cases bn with
 |false=>
  have a:∀t,mF κ t=t:=λt=>Θ;rw[a,ZR T[i].eo λz:Int=>tr T z.toNat];rfl
 |true=>
  have a:∀t,mF τ t=iO t:=λt=>Θ;rw[a,B3e _ (λz:Int=>tr T z.toNat) f,ZR _ λz:Int=>iO<|tr T z.toNat,JG];rfl
end
section
variable{B wb:Nat}{tv:χ}{bn:Bool}{T:List Ty}{m:Nat}
def OK{a0}(p:B<=a0.heap.size)(a)(q)(f)(b c d)(i:q=V a.heap)(g:cG B wb a0 a)(j:gC a B wb tv bn f)(r:Q f+b.size+c.size+d.size<=100000000000000):
 μ η 247 #[pV wb,Y (C<|J q 0) 3 3] (a.alloc<|γ #[ζ b,ζ c,ζ d] 9) (X8 a0 B wb tv bn<|f++(b.data.toList++c.data.toList++d.data.toList)):=by
 subst i;have k:=bl b;have l:=bl c;have n:=bl d;refine(QE (j.y<|I.alloc _ _ _) [b,c,d] (V a.heap) (0,0) (rY a _) ι (by grind[lW])<|by simp;have:=g.size;omega).mono ?_;rintro e s ⟨rfl,h,o⟩;exact⟨K,(g.trans<|cG.y<|I.alloc _ _ _).trans h,by grind[lW]⟩
def Ec{w:E}{f}{c}{b}{a}(l:ξ w f 156 2 (Y c (Q a) b) (Q a)<|I0 a){j}(e):
 ∃g,c=C (J g 0)/\g<V w.heap/\Q a<=b/\b<=Γ/\δ w (J g<|j*2)=C (ζ ⟨ν a[j].1⟩)/\δ w (J g<|j*2+1)=C (U a[j].2):=by
 obtain⟨g,rfl,-,k,h,i,d⟩:=D5 l W;have a0:=DG O0 (λ_=>K) a j 0 e W;have a1:=DG O0 (λ_=>K) a j 1 e W;exact⟨g,K,k,h,i,d _ _ a0,d _ _ a1⟩
def Ą(IH:zK B wb tv bn T m)(i)(bf:i<=m)(hi)(be:Q T[i].eo<=2001):BN B wb tv bn T i:=by
 intro _ w G fa fc al h a5 ho a7;have hT:=h.ok;have hE:=Mu (bn:=bn) hT hi al;have aw:=(Dy hT hi al).2;have ar:=(hT i hi).nh;have ay:=ĉ bn T[i].eo;have av:∀p∈sZ bn T[i].eo,0<=p.2/\p.2<i:=λp hp=>ar p<|Č hp;have bg:Q G+Q (oG bn T<|sZ bn T[i].eo)+2<=100000000000000:=by
  rw[hE]at a7;simp at a7;omega
 have au:Q T[i].eo≠0->Q G+Q (oG bn T<|sZ bn T[i].eo)+3<=100000000000000:=by
  intro h0;rw[hE,wY h0]at a7;simp at a7;omega
 have y:=O hE;clear hE ar al a7;generalize dV bn T i=tx at*;obtain⟨bc,c3,bh⟩:=h.jy.o9;generalize bd:T[i].eo=R at*;generalize ad:sZ bn R=b at*;
 have n:Hid (∀a0:E,I No w a0->∀a q f aa,q=V a.heap->cG B wb a0 a->gC a B wb tv bn f->Q f+aa.size<=100000000000000->μ η 247 #[pV wb,Y (C<|J q 0) 1 1] (a.alloc<|γ #[ζ aa] 9) (X8 a0 B wb tv bn<|f++aa.data.toList)):=
  λa0 o a q f aa=>Jc (kQ a5 o.size) a q f aa;have bb:Hid (∀a0:E,I No w a0->∀a q f s1 s2 s3,q=V a.heap->cG B wb a0 a->gC a B wb tv bn f->Q f+s1.size+s2.size+s3.size<=100000000000000->μ η 247 #[pV wb,Y (C<|J q 0) 3 3] (a.alloc<|γ #[ζ s1,ζ s2,ζ s3] 9) (X8 a0 B wb tv bn<|f++(s1.data.toList++s2.data.toList++s3.data.toList))):=
  λa0 o a q f s1 s2 s3=>OK (kQ a5 o.size) a q f s1 s2 s3;have FW:Hid (∀a0:E,I No w a0->∀a z f,cG B wb a0 a->gC a B wb tv bn f->z<i->Q f+Q (dV bn T z)<=100000000000000->μ η 237 #[pV wb,U (z:Int)] a (X8 a0 B wb tv bn<|f++dV bn T z)):=by
  intro a0 o a z f ha hw A N;refine(IH z a f W W ((h.y o).kept ha hw) (kQ a5<|kQ o.size ha.size) N).mono ?_;rintro e w' ⟨rfl,H,M⟩;exact⟨K,ha.trans H,M⟩
 have ap:Hid (∀a0:E,I No w a0->gC a0 B wb tv bn G):=λa0 o=>h.jy.y o;have FR:Hid (∀a0:E,I No w a0->∀ga gc,a0.ownsRow 0 156 2 (Y ga (Q b) gc) (Q b) (I0 b)->∀a,cG B wb a0 a->ξ a 0 156 2 (Y ga (Q b) gc) (Q b) (I0 b)):=
  λa0 o ga gc hr a ha=>ha.own (h.jy.y o) hr ε ε;have ax:=O aw;clear aw;cases bn with
 |false=>
  have ae:b=R:=by rw[<-ad];rfl
  subst ae;clear ad ay;have c:I No w w:=I.refl _ _;have am:=O ho;clear h ho;go_in;go_wp2_with fail;have Z:=O (n.u w c w (V w.heap) G ⟨#[123]⟩ K (cG.refl _ _ _) (ap.u w c) Ò);refine Z.u.mono ?_;rintro e u1 ⟨rfl,H,M⟩;have K1:=O H;have R1:=O M;clear H M Z;go_wp2_with fail;go_loopw [19] (λv wr=>∃j:Nat,j<=Q b/\v=U (j:Int)/\Hid (gC wr B wb tv κ<|G++[123]++oG κ T (b.take j))/\Hid (cG B wb w wr)) (λv _=>Q b-(intOf v).toNat);case atStart=>grind[oG]
  case round=>
   obtain⟨j,hj,rfl,d,CR⟩:=hrel;have ah:=kQ a5<|kQ c.size CR.u.size;by_cases u:j<Q b
   .have N:=Jx (bn:=κ) (T:=T) b u;have F:=O<|OZ (bn:=κ) (T:=T) b u;obtain⟨b1,aj,hg,b3,ai,x0,x1⟩:=Ec (FR.u w c _ _ am.u wr CR.u) u;subst aj;unfold Γ at ai;have a9:=av b[j]<|mQ u;unfold CG at N F;generalize b[j]=p at*;obtain⟨x,zz⟩:=p;obtain⟨z,rfl⟩:∃z:Nat,zz=(z:Int):=⟨zz.toNat,W⟩;have ao:z<i:=by have:=a9.2;simp only at this;omega
    simp only[tQ,qQ,jQ,xQ]at N F x0 x1;clear a9;have l:I No wr (wr.alloc<|γ #[ζ ⟨ν x⟩,U (z:Int)] 156):=I.alloc _ _ _;have a3:=O (OK (B:=B) (wb:=wb) (tv:=tv) (bn:=κ) (a0:=wr.alloc<|γ #[ζ ⟨ν x⟩,U (z:Int)] 156) (kQ ah l.size) _ (wr.heap.size+1) _ ⟨#[32]⟩ ⟨ν x⟩ ⟨#[58,32]⟩ ι (cG.refl _ _ _) (d.u.y l) Ò);have WA:=O<|d.u.y l;have S:=O<|CR.u.trans<|cG.y l;have a8:wr.heap.size<V (wr.alloc<|γ #[ζ ⟨ν x⟩,U (z:Int)] 156).heap:=ι;clear CR d l;go_wp2_with fail;refine a3.u.mono ?_;rintro e ab ⟨rfl,s,h4⟩;have hq:=s.other WA.u (rY wr _) ε ε;have d1:δ ab (J wr.heap.size 1)=C (U (z:Int)):=cr hq K;have d2:=yQ a8 s.size;have a4:=O (FW.u w c ab z _ (S.u.trans s) h4 ao<|by simp only[qQ,jQ,xQ];omega);clear s h4 hq WA S a3 a8;go_wp2_with fail;refine a4.u.mono ?_;rintro e ac ⟨rfl,h5,h6⟩;have a2:=O (n.u w c ac (V ac.heap) _ ⟨#[59]⟩ K h5 h6<|by simp[ByteArray.size];omega);clear h5 h6 a4;go_wp2_with fail;refine a2.u.mono ?_;rintro e b8 ⟨rfl,h7,h8⟩;have K7:=O h7;have R8:=O h8;clear h7 h8 a2;go_wp2;go_roundw;case rel=>exact⟨j+1,W,ç,by rw[F.u];grind,K7.u⟩
    case measure=>simp[intOf];omega
   .have ak:j=Q b:=W;subst ak;rw[vZ]at d;have a6:cG B wb w w:=cG.y c;by_cases A:Q b=0
    .have r:=O (n.u w c wr wr.heap.size _ ⟨#[125]⟩ K CR.u d.u Ò);have g:=y.u;rw[yY A]at g;have D:=O g;clear g y;clear CR d;have an:(Q b:Int)=0:=W;simp only[an]at*;go_wp2_with fail;refine r.u.mono ?_;rintro e P ⟨rfl,t,L⟩;go_wp2;go_end0;exact⟨K,a6.trans t,by rw[D.u];grind⟩
    .have b5:(0:Int)<(Q b:Int):=W;have b4:=au A;have g:=y.u;rw[wY A]at g;have D:=O g;clear g y;have r:=O (n.u w c wr wr.heap.size _ ⟨#[32]⟩ K CR.u d.u Ò);clear CR d;go_wp2_with fail;refine r.u.mono ?_;rintro e P ⟨rfl,t,L⟩;have af:=O (n.u w c P (V P.heap) _ ⟨#[125]⟩ K t L Ò);clear t L r;go_wp2_with fail;refine af.u.mono ?_;rintro e b9 ⟨rfl,ag,b2⟩;go_wp2;go_end0;exact⟨K,a6.trans ag,by rw[D.u];grind⟩
 |true=>
  have ae:b=nA R:=by rw[<-ad];rfl
  have HC:=O (uv w R fa fc ho W);clear h ho;go_in;go_wp2_with fail;refine HC.u.mono ?_;rintro e b7 ⟨ga,gc,rfl,az,o1⟩;have aq:=O (Ģ b7 (V w.heap) R ax.u _ o1 W);have K1:=O az;have O1:=O o1;clear az o1 HC;go_wp2_with fail;refine aq.u.mono ?_;rintro e k ⟨rfl,b0,o2⟩;have c:=K1.u.trans b0 (λb6 hk ba=>by have:=(A9 O1.u b6 ba.symm).1;omega);rw[<-ae]at o2;have am:=O<|C7 o2<|wQ _;clear K1 O1 aq b0 o2 ae ax ad;generalize Q R=bi at*;subst ay;go_wp2_with fail;have Z:=O (n.u k c k (V k.heap) G ⟨#[123]⟩ K (cG.refl _ _ _) (ap.u k c) Ò);refine Z.u.mono ?_;rintro e u1 ⟨rfl,H,M⟩;have K1:=O H;have R1:=O M;clear H M Z;go_wp2_with fail;go_loopw [19] (λv wr=>∃j:Nat,j<=Q b/\v=U (j:Int)/\Hid (gC wr B wb tv τ<|G++[123]++oG τ T (b.take j))/\Hid (cG B wb k wr)) (λv _=>Q b-(intOf v).toNat);case atStart=>grind[oG]
  case round=>
   obtain⟨j,hj,rfl,d,CR⟩:=hrel;have ah:=kQ a5<|kQ c.size CR.u.size;by_cases u:j<Q b
   .have N:=Jx (bn:=τ) (T:=T) b u;have F:=O<|OZ (bn:=τ) (T:=T) b u;obtain⟨b1,aj,hg,b3,ai,x0,x1⟩:=Ec (FR.u k c _ _ am.u wr CR.u) u;subst aj;unfold Γ at ai;have a9:=av b[j]<|mQ u;unfold CG at N F;generalize b[j]=p at*;obtain⟨x,zz⟩:=p;obtain⟨z,rfl⟩:∃z:Nat,zz=(z:Int):=⟨zz.toNat,W⟩;have ao:z<i:=by have:=a9.2;simp only at this;omega
    simp only[tQ,qQ,jQ,xQ]at N F x0 x1;clear a9;have l:I No wr (wr.alloc<|γ #[ζ ⟨ν x⟩,U (z:Int)] 156):=I.alloc _ _ _;have a3:=O (OK (B:=B) (wb:=wb) (tv:=tv) (bn:=τ) (a0:=wr.alloc<|γ #[ζ ⟨ν x⟩,U (z:Int)] 156) (kQ ah l.size) _ (wr.heap.size+1) _ ⟨#[32]⟩ ⟨ν x⟩ ⟨#[58,32]⟩ ι (cG.refl _ _ _) (d.u.y l) Ò);have WA:=O<|d.u.y l;have S:=O<|CR.u.trans<|cG.y l;have a8:wr.heap.size<V (wr.alloc<|γ #[ζ ⟨ν x⟩,U (z:Int)] 156).heap:=ι;clear CR d l;go_wp2_with fail;refine a3.u.mono ?_;rintro e ab ⟨rfl,s,h4⟩;have hq:=s.other WA.u (rY wr _) ε ε;have d1:δ ab (J wr.heap.size 1)=C (U (z:Int)):=cr hq K;have d2:=yQ a8 s.size;have a4:=O (FW.u k c ab z _ (S.u.trans s) h4 ao<|by simp only[qQ,jQ,xQ];omega);clear s h4 hq WA S a3 a8;go_wp2_with fail;refine a4.u.mono ?_;rintro e ac ⟨rfl,h5,h6⟩;have a2:=O (n.u k c ac (V ac.heap) _ ⟨#[59]⟩ K h5 h6<|by simp[ByteArray.size];omega);clear h5 h6 a4;go_wp2_with fail;refine a2.u.mono ?_;rintro e b8 ⟨rfl,h7,h8⟩;have K7:=O h7;have R8:=O h8;clear h7 h8 a2;go_wp2;go_roundw;case rel=>exact⟨j+1,W,ç,by rw[F.u];grind,K7.u⟩
    case measure=>simp[intOf];omega
   .have ak:j=Q b:=W;subst ak;rw[vZ]at d;have a6:cG B wb w k:=cG.y c;by_cases A:Q b=0
    .have r:=O (n.u k c wr wr.heap.size _ ⟨#[125]⟩ K CR.u d.u Ò);have g:=y.u;rw[yY A]at g;have D:=O g;clear g y;clear CR d;have an:(Q b:Int)=0:=W;simp only[an]at*;go_wp2_with fail;refine r.u.mono ?_;rintro e P ⟨rfl,t,L⟩;go_wp2;go_end0;exact⟨K,a6.trans t,by rw[D.u];grind⟩
    .have b5:(0:Int)<(Q b:Int):=W;have b4:=au A;have g:=y.u;rw[wY A]at g;have D:=O g;clear g y;have r:=O (n.u k c wr wr.heap.size _ ⟨#[32]⟩ K CR.u d.u Ò);clear CR d;go_wp2_with fail;refine r.u.mono ?_;rintro e P ⟨rfl,t,L⟩;have af:=O (n.u k c P (V P.heap) _ ⟨#[125]⟩ K t L Ò);clear t L r;go_wp2_with fail;refine af.u.mono ?_;rintro e b9 ⟨rfl,ag,b2⟩;go_wp2;go_end0;exact⟨K,a6.trans ag,by rw[D.u];grind⟩
def TV(b:∀i (a:i<Q T),Q T[i].M<=100000000/\Q T[i].eo<=2001):∀m,zK B wb tv bn T m
 |0=>λi w c g=>W
 |m+1=>λi w c f a h d e=>Sy (TV b m) i W (Ą (TV b m) i W a (b i a).2) a w c h d e (b i a).1
end
def D6c{w}{B c}{q}{i}{l}(h:gC w B c q i l)(d:l≠[]):
 μ η 238 #[pV c] w λe s=>e=π (ζ ⟨ν l⟩)/\Below B w s:=by
 obtain⟨u,p,v,m,_,f⟩:=h;have G:Q l≠0:=by simpa using d
 obtain⟨g,a,b,rfl,k,n,H,A,D,L⟩:∃g a b,v=Y (C<|J g 0) (Q l) a/\B<=g/\w.heap[g]?=C (γ b 5 (0,0))/\Q l<=a/\a<=Γ/\b.size=a*1/\b.toList.take (Q l*1)=Lib.byteCells l:=by
  obtain⟨_,N⟩|⟨g,a,b,o,r⟩:=f.2
  .omega
  .exact⟨g,a,b,o,r⟩
 have t:δ w.drew (J c 1)=C (Y (C<|J g 0) (Q l) a):=by
  have:=m;rw[á w.drew c 1 _ _ _ this];rfl
 have y:(Builtin.unsafeSliceData_ #[238] 260 #[Y (C<|J g 0) (Q l) a]).run η w.drew=.ok (pV g) w.drew:=
  Lib.run_unsafeSliceData_row _ _ _ _ _ _ W;have z:(Builtin.unsafeString_ #[260,3] 9 #[pV g,U (Q l)]).run η w.drew=.ok (ζ ⟨ν l⟩) (w.drew.freeze (J g 0) (Q l)):=by
  refine Lib.run_unsafeString_row w.drew 260 3 9 5 underlying260 Tryz.nj g b.size (by have F:w.drew.heap[g]?=C (γ b 5 (0,0)):=n;grind[World.shape?]) l d W Ä ?_;intro j x M;have:=f.cells K j (.int .u8 x.toNat) (by grind[Lib.byteCells]);exact this
 go_in;go_wp2;go_region;all_goals (go_wp2;go_ret;exact⟨K,Lib.below_freeze (Below.drew<|Below.refl B w) k _⟩)
def tG(T:List Ty):Prop:=∀i (a:i<Q T),Q T[i].M<=100000000/\Q T[i].eo<=2001
def Yu{bn}{T}{i}(a:aX T)(b:i<Q T):dV bn T i≠[]:=by
 grind[dV,mF,Yl,Yn,BR]
def Ay{bn}{T}{i}:Q (dV bn T i)<=wg (tr T i):=by
 grind[dV,mF,kQ,Ye,Yo]
section
variable{a b N:Nat}{T:List Ty}{D:Dt}
def Ū(w)(h:dY w a b N T D)(H:tG T)(j)(d)(l:w.heap[d]?=C (γ #[υ none,sN,sN,.bool j] 242 (0,0)))(i)(r:i<Q T)(hl:wg (tr T i)<=1000000000):
 μ η 219 #[pV a,pV d,U i] w λe S=>e=π (ζ ⟨ν (dV j T i)⟩)/\Below d w S:=by
 have q:=h.ok;obtain⟨_,_,yv,Z,F,o,M⟩:=h;obtain⟨f,c,rfl⟩:=B8 o;have a6:=(aG l);have a2:δ w (J a 0)=C (Y f (Q T) c):=cr F K;have a3:δ w (J d 2)=C (sN):=cr l K;have a4:=ã w d 2 _ _ l;have n:=I.set w (J d 2)<|Y f (Q T) c;have ne:∀g m e,w.heap[g]?=C (γ m e (0,0))->e≠242->¬g=d:=by
  rintro g m e k G rfl;rw[l]at k;simp only[zQ,xW]at k;exact G k.2.1.symm
 have R:gC (ρ w (J d 2)<|Y f (Q T) c) d d (Y f (Q T) c) j []:=⟨vQ _,υ none,sN,by rw[ê w d 2 _ _ _ l];rfl,.inl K,kW _ _ _ _⟩;have P:lU (ρ w (J d 2)<|Y f (Q T) c) d d (Y f (Q T) c) j T []:=by
  refine⟨R,q,Z,A3 (C7 o<|wQ _) n λg k x=>?_,M.imp<|eI.P n (λg _ _ hx L=>?_) λ_ _ _=>trivial⟩
  .obtain⟨_,m,L⟩:=A9 o g k;grind
  .grind
 have a5:=Ay (bn:=j) (T:=T) (i:=i);have z:=O (TV H (i+1) i _ [] (vQ _) r P à θ);have v:=O<|Yu (bn:=j) q r;have s:=O (n.ep (B:=d) (λa7 _ x=>θ) W);go_in;go_wp2_with fail;refine z.u.mono ?_;rintro e a8 ⟨rfl,A,p⟩;rw[uY]at p;have y:=O<|D6c p v.u;have t:=O (s.u.trans<|A.below à);go_wp2_with fail;refine y.u.mono ?_;rintro e a9 ⟨rfl,B⟩;have u:=O<|t.u.trans B;go_wp2;go_ret;exact⟨K,u.u⟩
def Ņ(w)(h:dY w a b N T D)(g:tG T)(i)(j:i<Q T)(l:wg (tr T i)<=1000000000):
 μ η 192 #[pV a,U i] w λe m=>e=π (ζ ⟨ν (dV τ T i)⟩)/\I No w m:=by
 have d:=O<|Ū _ (h.alloc<|γ #[υ none,sN,sN,.bool τ] 242) g τ (V w.heap) (rY w _) i j l;go_in;go_wp2_with fail;refine d.u.mono ?_;rintro e o ⟨rfl,f⟩;have c:=O (((I.alloc (λk=>V w.heap<=k) w _).trans (I.below f) λ_ _ x=>x).mono (S':=λ_=>False) λk n x=>W);go_wp2;go_ret;exact⟨K,c.u⟩
end
