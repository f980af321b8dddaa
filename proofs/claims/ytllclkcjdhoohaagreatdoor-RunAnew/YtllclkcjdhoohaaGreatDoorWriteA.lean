/-
  A part of the proof.
-/
import Derived.Test.YtllclkcjdhoohaaGreatDoorSrt
import Derived.Shelf.Strings.Builder1
import Derived.Shelf.SlSortCmp.NoneTotal
import Derived.Lib.SliceRun
import Derived.Test.YtllclkcjdhoohaaGreatDoorCheckA
import Derived.Test.YtllclkcjdhoohaaGreatDoorBindC
set_option maxHeartbeats 0
set_option linter.all false
set_option maxRecDepth 100000
set_option linter.all false
namespace Go.Proofs.YtllclkcjdhoohaaGreatDoor
open _root_.Array renaming size->V,getElem?_eq_some_iff->ş
open Bool renaming true->τ,false->κ
open Decidable renaming decide->ê
open Go renaming Value->υ,Calls->μ,frozen_of_row->æ,cell_of_row->ä,info_parts->ý,Addr->í,wpList_append_own->Ù,TypeId->Ò,heap_setCell_same->ð,maxLen->Δ,Ending->ò
open Ending renaming returned->π
open Lib renaming compareBytes->É
open Obj renaming cells->γ
open Go.Proofs.Tryz renaming prog->ε
open Value renaming string->ι,ownBlock->Θ,slice->Y,pointer->Γ
open World renaming ownsRow->ρ,alloc->ω,cell?->δ,setCell->σ
open I renaming refl->ì,alloc->ν,grown->ü,set->é,drewN->Ψ
open List renaming length->Q,toArray->ξ,append_assoc->ľ,getElem?_eq_some_iff->Î,length_singleton->Û
open Option renaming some->C
open Go.Proofs.Tryz
open Go.RowKit Go.Maps
section
variable{B b:Nat}{c:υ}{a:Bool}{T:List Ty}{m:Nat}
end
section
variable{B a:Nat}{c:υ}{b:Bool}
end
section
variable{B b:Nat}{c:υ}{a:Bool}{T:List Ty}{m:Nat}
end
section
variable{bn:Bool}{T:List Ty}{i:Nat}
end
section
variable{B wb:Nat}{tv:υ}{bn:Bool}{T:List Ty}{m:Nat}
end
section
variable{a:Type}
theorem DG(b:a->List υ)(f:∀x,Q (b x)=2):∀(l:List a) (i c) (e),c<2->(l.flatMap b)[i*2+c]?=(b l[i])[c]?
 |[],_,_,e,_=>η
 |x::r,0,c,_,d=>η
 |x::r,i+1,c,e,d=>by
  rw[List.flatMap_cons,List.getElem?_append_right η,f,show (i+1)*2+c-2=i*2+c by omega,DG b f r i c η d];rfl
theorem SI(b:a->List υ)(c:∀x,Q (b x)=2):∀l:List a,Q (l.flatMap b)=Q l*2
 |[]=>K
 |x::r=>by
  rw[List.flatMap_cons,qQ,c,SI b c r,jQ];omega
end
theorem A5d[Inhabited (bZ×Int)](d)(a)(h:d.size*2<=a.size):(Sort.putCells id 0 (Sort.flatK O0 2 d) a).toList.take (d.size*2)=I0 d.toList:=by
 have g:Q (I0 d.toList)=d.size*2:=by
  unfold I0;rw[SI O0 λ_=>K];simp
 refine List.ext_getElem? λt=>?_;by_cases b:t<d.size*2
 .have e:=DG O0 (λ_=>K) d.toList (t/2) (t % 2) η W;rw[show t/2*2+t % 2=t by omega]at e;unfold I0;rw[e,List.getElem?_take_of_lt b];have f:t<a.size:=W;have c:(Sort.putCells id 0 (Sort.flatK O0 2 d) a).toList[t]?=C ((O0 d[t/2]!)[t % 2]!):=by
   unfold Sort.putCells;rw[Array.getElem?_toList,Array.getElem?_mapIdx];simp only[f,Array.getElem?_eq_getElem,Option.map_some];rw[yY ù];simp only[Nat.sub_zero,id];rw[Sort.get_flatK _ _ _ _ b]
  rw[c];grind[O0]
 grind
def vy(x y:bZ×Int)(a:E):μ ε 68 #[.agg #[ι ⟨ξ x.1⟩,U x.2],.agg #[ι ⟨ξ y.1⟩,U y.2]] a λe c=>e=π (U<|É x.1 y.1)/\∃q f,c=Sort.grow (a.drewN q) f:=by
 have b:=λd=>Tryz.strings_Compare ⟨ξ x.1⟩ ⟨ξ y.1⟩ d;generalize g:É x.1 y.1=r;simp at b;go_in;go_wp2_with (go_at_call 69;refine(b _).mono ?_;rintro e c ⟨rfl,rfl⟩);go_ret;exact⟨K,0,_,by rw[Sort.alloc_eq_grow,Sort.alloc_eq_grow,Sort.grow_grow];rfl⟩
def wI(x y:bZ×Int):Int:=É x.1 y.1
def KU:Sort.SWO (ltOf wI) where
 irrefl x:=by grind[ltOf,wI,Cf]
 trans x y z h1 h2:=by
  have a1:=of_decide_eq_true h1;have a:=of_decide_eq_true h2;unfold wI at a1 a;exact decide_eq_true ((JC x.1 y.1 z.1 W W).2<|.inl a1)
 ntrans x y z h1 h2:=by
  have a1:=of_decide_eq_false h1;have a:=of_decide_eq_false h2;unfold wI at a1 a;have b:=xE x.1 y.1;have c:=xE y.1 z.1;have d:=xE x.1 z.1;have:=(JC z.1 y.1 x.1 W W).1;refine decide_eq_false ?_;grind[wI]
def Ģ(w:E)(u)(a:List<|bZ×Int)(L:(a.map (·.1)).Nodup)(v)(P:ρ w u 139 2 v (Q a)<|I0 a)(a5:Q a<=100000000):
 μ ε 67 #[v,.func (.func 68) #[] #[]] w λe f=>e=rT/\I (λk=>C k=Θ v) w f/\ρ f u 139 2 v (Q a) (I0<|nA a):=by
 obtain⟨rfl,A⟩|⟨g,n,o,rfl,D,l,M,H,a4,T⟩:=P.2
 .have d:=AnyF.slices_SortFunc_none Tryz.sortF none 0 (.func (.func 68) #[] #[]) w;refine Calls.mono (show μ ε 67 _ _ _ from d) ?_;rintro e f ⟨rfl,rfl⟩;have:=List.length_eq_zero_iff.1 A;subst this;have e:nA ([]:List<|bZ×Int)=[]:=List.length_eq_zero_iff.1<|JG _;grind[ì]
 .have G:=(aG l);have z:=enters_of func68 Ω K;have B:Sort.HoldsK O0 2 w g 0 (ξ a):=by
   intro j c;rw[Sort.size_flatK]at c;simp at c;refine⟨?_,by grind[æ]⟩;rw[Nat.zero_add,ä w g j _ _ _ l,Sort.get_flatK _ _ _ _ W];have e:=DG O0 (λ_=>K) a (j/2) (j % 2) W W;rw[show j/2*2+j % 2=j by omega]at e;have h:o[j]?=(I0 a)[j]?:=by
    rw[<-T,List.getElem?_take_of_lt c,Array.getElem?_toList]
   have q:j/2<Q a:=W;have p:j % 2<Q (O0 a[j/2]):=by
    show j % 2<2;omega
   rw[h];unfold I0;rw[e,gQ p];simp[q,p]
  have d:=AnyQ.slices_SortFunc Tryz.sortF 2 Tryz.isAgg139 Tryz.sizeOf139 O0 (λ_=>K) (λx v t=>by simp[O0]at t;obtain rfl|rfl:=t<;>rfl) wI KU 68 #[] g 0 n (ξ a) w z (λ_ _ _ _ x a3=>vy x a3 _) B G η;simp only[List.size_toArray]at d;refine Calls.mono (show μ ε 67 _ _ _ from d) ?_;rintro e f ⟨rfl,b,a2,os,s,R,rfl⟩;have S:b.size=Q a:=by have:=s.1;simpa using this
  have q:b.toList=nA a:=by
   have m:=s.2.2;have y:(b.extract 0 (Q a)).toList=b.toList:=by rw[<-S];simp
   have h:(a.toArray.extract 0 (Q a)).toList=a:=θ;rw[y,h]at m;refine QH _ _ (m.trans (Y3 a).symm) ((m.map _).nodup_iff.2 L) ?_<|QZ a;rw[List.pairwise_iff_getElem];intro i j r c F;have:=R i j (wQ _) F η;simp at r c;have this:=of_decide_eq_false this;unfold wI at this;rw[getElem!_pos b i r,getElem!_pos b j c]at this;simp only[mR,EW,Bool.not_eq_true',decide_eq_false_iff_not,Array.getElem_toList];exact this
  have Z:(sortWorldK O0 2 w g 0 a2 b os).heap[g]?=C (γ (Sort.putCells id 0 (Sort.flatK O0 2 b) o) 139 (0,0)):=by
   unfold sortWorldK Sort.grow Sort.putRowK Sort.putRow Sort.mapBlock Sort.ahead;rw[Array.getElem?_append_left η,Array.getElem?_modify,yY K,l];rfl
  refine⟨K,?_,?_⟩
  .refine⟨K,K,K,by grind[sortWorldK,Sort.grow,Sort.putRowK,Sort.putRow,Sort.mapBlock,Sort.ahead],λk hk N=>?_⟩;have a6:¬g=k:=λe=>N (by subst e;rfl);unfold sortWorldK Sort.grow Sort.putRowK Sort.putRow Sort.mapBlock Sort.ahead;grind
  .refine⟨?_,.inr ⟨g,n,_,K,D,Z,M,H,?_,?_⟩⟩
   .unfold I0;rw[SI O0 λ_=>K,JG]
   .grind[Sort.putCells]
   grind[A5d]
def uv(w:E)(b)(i)(f)(h:ρ w 0 139 2 (Y i (Q b) f) (Q b)<|I0 b)(hn:Q b<=100000000):
 μ ε 66 #[Y i (Q b) f] w λe q=>∃l m,e=π (Y l (Q b) m)/\I No w q/\ρ q (V w.heap) 139 2 (Y l (Q b) m) (Q b) (I0 b):=by
 obtain⟨i0,M,S,T,Z⟩:=ý Tryz.j7;have a9:=λw a a2 c n' B=>Lib.run_eql_slice_nil w _ _ a a2 c n' B underlying97;obtain⟨d,F⟩|⟨g,a4,a5,d,hb,H,a7,hm,a6,a8⟩:=h.2
 .have:=List.length_eq_zero_iff.1 F;subst this;simp at d;obtain⟨rfl,-,rfl⟩:=d;go_in;go_wp2;go_ret;exact⟨none,0,K,ì _ _,K,.inl ⟨K,K⟩⟩
 .simp at d;obtain⟨rfl,-,rfl⟩:=d;have R:=(aG H);have y:Hid (ρ (ω w<|γ #[] 139) (V w.heap) 139 2 (Y (C<|J (V w.heap) 0) 0 0) 0 []):=
   ⟨K,.inr ⟨V w.heap,0,#[],K,vQ _,rY w _,vQ _,wQ _,K,K⟩⟩;have t:=O<|VS h;have v:Hid (∀j u,(I0 b)[j]?=C u->δ (ω w<|γ #[] 139) (((J g 0):í).add j)=C u):=by
   intro j u N;have e:=h.cells K j u N;have G:((J g 0):í).add j=(J g j):=by unfold Addr.add;split<;>simp_all
   rw[G]at e⊢;exact I9 R e
  have r:Hid (∀u∈I0 b,u.oneCell'=τ):=by
   intro u o;unfold I0 at o;obtain⟨x,-,p⟩:=List.mem_flatMap.1 o;simp[O0]at p;obtain rfl|rfl:=p<;>rfl
  go_in;go_wp2_with (at_builtin;refine Ù _ K _ _ 97 K (V w.heap) 139 i0 (.agg #[ι ⟨#[]⟩,U 0]) 2 24 underlying97 M S T Z K ζ _ 0 [] K y.u (J g 0) (Q b) f (I0 b) K t.u v.u r.u ?c3 ?c4 ?c5 ?_);case c3=>omega
  case c4=>omega
  case c5=>simp
  intro v' a3 n L _;obtain⟨A,D,rfl⟩:=B8 n;have z:=O n;have s:Hid (I No w a3):=by
   refine((ν (λk=>V w.heap<=k) w _).trans (ü L) λk P x=>?_).mono (λk P x=>W);have x':C k=C (V w.heap):=x;simp at x';omega
  go_wp2;go_ret;exact⟨A,D,K,s.u,z.u⟩
section
variable{bn:Bool}{T:List Ty}{i:Nat}
end
section
variable{B wb:Nat}{tv:υ}{bn:Bool}{T:List Ty}{m:Nat}
end
section
variable{a b N:Nat}{T:List Ty}{D:Dt}
end
open Go.RowKit Go.Maps
def apart:List Ò:=[9,3,80,99,139,72,82,25,43]
def cG (B:Nat) (w w':E):Prop:=I (λk=>B≤k∧∀ cs e fz,w.heap[k]?=C (γ cs e fz)→e ∉ apart) w w'
theorem cG.trans {B:Nat} {a b c:E} (h:cG B a b) (k:cG B b c):cG B a c:=by
 refine ⟨k.os.trans h.os,k.tape.trans h.tape,k.output.trans h.output,Nat.le_trans h.size k.size,λi hi hn=>?_⟩;have h1:=h.block i hi hn;exact (k.block i (Nat.lt_of_lt_of_le hi h.size) λx=>hn ⟨x.1,λcs e fz y=>x.2 cs e fz<|h1.trans y⟩).trans h1
theorem cG.y {B:Nat} {w w':E} (h:I No w w'):cG B w w':=h.mono λ_ _ x=>x.elim
def cG.below {B:Nat} {w w':E} (h:cG B w w') (hB:B≤V w.heap):Below B w w':=I.ep h (λ_ _ x=>x.1) hB
structure Wk where
 b:Bool
 e:Ò
 rest:Array υ
 lies:liesAt Tryz.prog Tryz.prog.depth e ((4+rest.size)/Tryz.prog.cellsOf e) 0 47 1=τ
 ne:e ∉ 5::apart
def wkW (b:Bool):Wk:=⟨b,49,#[],î,ζ⟩
def hd4 {a b c d:υ} {r:Array υ} (o:Nat) (h:o<4:=by decide):(#[a,b,c,d]++r)[o]?=#[a,b,c,d][o]?:=by rw [Array.getElem?_append_left h]
section
variable {w w':E} {B wb:Nat} {tv:υ} {bn:Wk} {bs:bZ}
theorem cG.set {cs:Array υ} (hB:B≤wb) (o:Nat) (v:υ) (h:w.heap[wb]?=C (γ cs bn.e (0,0))):cG B w (σ w (J wb o) v):=(é w _ v).mono λk _ x=>by
 have x':k=wb:=x;subst x';exact ⟨hB,λ_ _ _ y m=>by rw [h] at y;cases y;exact bn.ne<|List.mem_cons_of_mem _ m⟩
structure gC (w:E) (B wb:Nat) (tv:υ) (bn:Wk) (bs:bZ):Prop where
 low:B≤wb
 blk:∃ p v,w.heap[wb]?=C (γ (#[p,v,tv,.bool bn.b]++bn.rest) bn.e (0,0))∧(p=Γ none∨p=pV wb)∧ρ w B 5 1 v (Q bs) (Lib.byteCells bs)∧(bs=[]→v=sN)
theorem gC.y (h:gC w B wb tv bn bs) (hc:I No w w'):gC w' B wb tv bn bs:=by
 obtain ⟨hB,p,v,hb,hp,ho,hv⟩:=h;exact ⟨hB,p,v,by rw [hc.block wb (ş.1 hb).1 λx=>x];exact hb,hp,A3 ho hc λ_ _ x=>x,hv⟩
theorem by_ne {cs:Array υ} {v:υ} {n:Nat} {xs:List υ} (hb:w.heap[wb]?=C (γ cs bn.e (0,0))) (ho:ρ w B 5 1 v n xs):Θ v≠C wb:=λhx=>by
 obtain ⟨_,cur,hh⟩:=A9 ho wb hx;rw [hb] at hh;simp only [Option.some.injEq,Obj.cells.injEq] at hh;exact bn.ne (by simp [hh.2.1])
def Tryz.mr:(Tryz.prog.info? 47).map (·.size)=C 2:=î
def Tryz.nz:(Tryz.prog.info? 5).map (λi=>(i.zero,i.size,i.bytes))=C (C<|.int .u8 0,1,1):=î
def Tryz.nj:Tryz.prog.cellsOf 5=1:=î
def yj (h:gC w B wb tv bn bs):
 μ Tryz.prog 91 #[pV wb] w λe w'=>e=rT∧cG B w w'∧V w'.heap=V w.heap∧
  ∃ v,w'.heap[wb]?=C (γ (#[pV wb,v,tv,.bool bn.b]++bn.rest) bn.e (0,0))∧ρ w' B 5 1 v (Q bs) (Lib.byteCells bs)∧(bs=[]→v=sN):=by
 obtain ⟨hB,p,v,hb,hp,ho,hv⟩:=h;have HV:=O hv;clear hv;obtain ⟨j,hj,hjs⟩:=Option.map_eq_some_iff.1 Tryz.mr;have h0:δ w (J wb 0)=C p:=(ä w wb 0 _ _ _ hb).trans<|hd4 0;have hfz:=æ w wb 0 _ _ hb;have hsh:w.shape? wb=C (bn.e,4+bn.rest.size):=by simp [World.shape?,hb,Nat.add_comm]
 have HB:=O hb;have HO:=O ho;clear hb ho;obtain rfl|rfl:=hp
 .go_enter Tryz.func91,Tryz.ntmps91;go_wp2;rw [Lib.run_to_unsafe w (J wb 0) Tryz.underlying44 Tryz.underlying196 hj (by rw [hjs];decide) hsh<|by show 0<4+bn.rest.size;omega];simp only [Result.andThen];rw [Oper.upon_value];go_wp2;rw [run_callFunc_extern Tryz.func145 î î î (e:=Extern.AbiNoEscape.same) î];rw [Lib.run_noEscape];simp only [Result.andThen];rw [Oper.upon_value];go_wp2;rw [Lib.run_from_unsafe w (J wb 0) Tryz.underlying196 Tryz.underlying44 hj hsh bn.lies];simp only [Result.andThen];rw [Oper.upon_value];go_wp2;go_end0;refine ⟨K,cG.set hB 0 _ HB.u,θ,v,by rw [ð w wb 0 _ _ _ HB.u];simp,A3 HO.u (é w (J wb 0) _) λk hk hx=>?_,HV.u⟩;have hx':k=wb:=hx;subst hx';exact by_ne HB.u HO.u hk
 .go_enter Tryz.func91,Tryz.ntmps91;go_wp2;rw [Lib.run_neq_ptr_same w _ Tryz.underlying44 hj];go_wp2;go_end0;exact ⟨K,.y<|ì _ _,K,v,HB.u,HO.u,HV.u⟩
def Gs (h:gC w B wb tv bn bs) (s:ByteArray) (hlen:Q bs+s.size≤100000000000000) (hBw:B≤V w.heap):
 μ Tryz.prog 49 #[pV wb,.string s] w λe w'=>e=π (.tuple #[U s.size,.nilIface])∧cG B w w'∧gC w' B wb tv bn (bs++s.data.toList):=by
 obtain ⟨i0,hi,hz0,hz1,hz2⟩:=ý Tryz.nz;have hB:=h.low;have HC:=O<|yj h;clear h;go_enter Tryz.func49,Tryz.ntmps49;go_wp2_with fail;refine HC.u.mono ?_;rintro e w1 ⟨rfl,hk1,hs1,v,hbk,hown,hv⟩;have HV:=O hv;clear hv;have hlt:=(ş.1 hbk).1;have c1:w1.cell? (J wb 1)=C v:=(ä w1 wb 1 _ _ _ hbk).trans<|hd4 1;have HK1:=O hk1;have HBK:=O hbk;have HO:=O hown;have HS1:=O hs1;clear hk1 hbk hown hs1;go_wp2_with (at_builtin;refine Lib.wpList_append_own_string _ K _ _ 45 9 K B 5 i0 Tryz.underlying45 Tryz.underlying9 hi hz0 hz1 hz2 _ _ _ K HO.u s K ?c3 ?c4 ?c5 ?_);case c3=>unfold Δ;omega
 case c4=>omega
 case c5=>rw [HS1.u];exact hBw
 intro v' w2 hown' hgrow hz;have hb2:w2.heap[wb]?=C (γ (#[pV wb,v,tv,.bool bn.b]++bn.rest) bn.e (0,0)):=by
  rw [hgrow.block wb hlt λe=>by_ne HBK.u HO.u e.symm];exact HBK.u
 have d1:w2.cell? (J wb 1)=C v:=(ä w2 wb 1 _ _ _ hb2).trans<|hd4 1;have f1:w2.frozen? (J wb 1)=κ:=æ w2 wb 1 _ _ hb2;obtain ⟨ao,cap,rfl⟩:=B8 hown';have HZ:=O hz.2;clear hz;have HB2:=O hb2;have HO2:=O hown';have HG:=O hgrow;clear hb2 hown' hgrow;go_wp2;go_ret2;refine ⟨K,(HK1.u.trans ?_).trans<|cG.set hB 1 _ HB2.u,hB,_,Y ao (Q bs+s.size) cap,by rw [ð w2 wb 1 _ _ _ HB2.u];simp,.inr K,?_,λe=>?_⟩
 .refine (ü HG.u).mono λk hk hx=>?_;obtain ⟨hlow,cur,hh⟩:=A9 HO.u k hx.symm;exact ⟨hlow,λ_ _ _ y m=>by rw [hh] at y;cases y;revert m;decide⟩
 .have:=A3 HO2.u (é w2 (J wb 1)<|Y ao (Q bs+s.size) cap) λk hk hx=>by
   have hx':k=wb:=hx;subst hx';exact by_ne HB2.u HO2.u hk
  rw [Lib.byteCells_append,← Lib.strCells_eq];simpa [bl] using this
 .obtain ⟨e1,e2⟩:=List.append_eq_nil_iff.1 e;exact HZ.u ⟨HV.u e1,ByteArray.ext<|by simpa using e2⟩
end
open Go.Proofs.Tryz
def Tab (w:E) (B:Nat):Prop:=Lib.TabIs Tryz.prog w "internal/strconv.uint64pow10" .u64 Lib.pow10Tab∧∃ g,Tryz.prog.globalNamed "internal/strconv.uint64pow10"=C g∧g<B∧g<V w.heap
def tab_chg {S:Nat→Prop} {w w':E} {B:Nat} (h:Tab w B) (hc:I S w w') (hs:∀ k,k<B→¬ S k):Tab w' B:=by
 obtain ⟨ht,g,hg,hgB,hgw⟩:=h;have hb:=hc.block g hgw<|hs g hgB;refine ⟨?_,g,hg,hgB,Nat.lt_of_lt_of_le hgw hc.size⟩;grind [Lib.TabIs,World.var?]
structure Pl_ where
 B:Nat
 wb:Nat
 T:List Ty
 N:List Nd
 tv:υ
 nv:υ
 Z:bZ
structure Sw_ (q:Pl_) (w:E) (bn:Wk) (r:bZ) (a:E):Prop where
 k:cG q.B w a
 w:∃ bs,gC a q.B q.wb q.tv bn bs∧bs++r=q.Z
 z:Q q.Z≤100000000000000
 ok:aX q.T
 t:∃ yx,ρ a 0 99 4 q.tv (Q q.T) yx∧eN (eI a λ_=>True) q.T yx
 n:∃ nx,ρ a 0 82 9 q.nv (Q q.N) nx∧eN (gE a λ_=>True) q.N nx
 b:q.N≠[]→Tab a q.B
def Ps_ (q:Pl_) (w:E) (bn:Wk) (r:bZ) (e:ò) (a:E):Prop:=e=rT∧Sw_ q w bn r a
abbrev Cw_ (q:Pl_) (w:E) (bn:Wk) (G:Nat) (args:Array υ) (X:bZ):Prop:=∀ ⦃r a⦄,Sw_ q w bn (X++r) a→μ Tryz.prog G args a (Ps_ q w bn r)
abbrev CC (q:Pl_) (bn:Wk) (G:Nat) (args:Array υ) (X:bZ):Prop:=∀ ⦃w⦄,Cw_ q w bn G args X
section
variable {q:Pl_} {w a b:E} {bn:Wk} {r:bZ}
theorem cG.own {B base size n:Nat} {e:Ò} {v:υ} {xs:List υ} (hc:cG B w a) (h:ρ w base e size v n xs) (he:e∈apart:=by decide):ρ a base e size v n xs:=
 A3 h hc λg hg x=>by
  obtain ⟨_,cur,hh⟩:=A9 h g hg;exact x.2 _ _ _ hh he
theorem Sw_.step (h:Sw_ q w bn r a) (hc:cG q.B a b) {d:Wk} {bs r':bZ} (h':gC b q.B q.wb q.tv d bs) (e:bs++r'=q.Z):Sw_ q w d r' b:=by
 obtain ⟨hk,_,hz,hT,⟨yx,ho,hr⟩,⟨nx,po,pr⟩,ht⟩:=h;have key:∀ g,(∃ cur e,a.heap[g]?=C (γ cur e (0,0))∧(e=139∨e=3))→¬ (q.B≤g∧∀ cs e fz,a.heap[g]?=C (γ cs e fz)→e ∉ apart):=by
  rintro g ⟨cur,e,hh,he⟩ x;exact x.2 _ _ _ hh (by obtain rfl|rfl:=he<;>decide)
 exact ⟨hk.trans hc,⟨bs,h',e⟩,hz,hT,⟨yx,hc.own ho,hr.imp<|eI.P hc (λg _ _ hx hh=>key g hh hx) λ_ _ _=>trivial⟩,⟨nx,hc.own po,pr.imp<|gE.P hc (λg _ _ hx hh=>key g hh hx) λ_ _ _=>trivial⟩,λx=>tab_chg (ht x) hc λk hk x=>by have:=x.1;omega⟩
theorem Sw_.y (h:Sw_ q w bn r a) (hc:I No a b):Sw_ q w bn r b:=
 have ⟨_,x,e⟩:=h.w;h.step (.y hc) (x.y hc) e
theorem Sw_.e (h:Sw_ q w bn r a):Sw_ q w bn r a.drew:=Sw_.y h<|Ψ _ _ 1
theorem Sw_.d (n:Nat) (h:Sw_ q w bn r a):Sw_ q w bn r (a.drewN n):=Sw_.y h<|Ψ _ _ _
def Sw_.base (h:Sw_ q w bn r a):Sw_ q a bn r a:={h with k:=.y (ì _ _)}
def Sw_.back {c:E} {d:Wk} {r':bZ} (h:Sw_ q w bn r a) (hc:I No a b) (g:Sw_ q b d r' c):Sw_ q w d r' c:={g with k:=(h.k.trans<|.y hc).trans g.k}
theorem Sw_.lt (h:Sw_ q w bn r a):q.wb<V a.heap:=by
 obtain ⟨_,⟨_,_,_,hb,_⟩,_⟩:=h.w;exact (ş.1 hb).1
theorem Sw_.blk {g:Nat} {cs:Array υ} {e:Ò} {fz:Nat×Nat} (h:Sw_ q w bn r a) (f:Hid<|w.heap[g]?=C (γ cs e fz)) (he:e∈apart:=by decide):Hid (a.heap[g]?=C (γ cs e fz)):=
 (h.k.block g (ş.1 f.u).1 λx=>x.2 _ _ _ f.u he).trans f.u
def Sw_.loc {g:Nat} {cs:Array υ} {e:Ò} {fz:Nat×Nat} (h:Sw_ q w bn r a) (f:Hid<|w.heap[g]?=C (γ cs e fz)) (he:e∈apart:=by decide):(∀ o,δ a (J g o)=cs[o]?)∧g<V a.heap:=
 ⟨λo=>ä a g o _ _ _<|h.blk f he,(ş.1<|h.blk f he).1⟩
theorem I.at {g:Nat} {o:Obj} (c:I No a b) (f:Hid<|a.heap[g]?=C o):Hid (b.heap[g]?=C o):=(c.block g (ş.1 f.u).1 λx=>x).trans f.u
def Sw_.ent (h:Sw_ q w bn r a) (o:Obj):Sw_ q (a.alloc o) bn r (a.alloc o)∧Hid ((a.alloc o).heap[V a.heap]?=C o)∧I No a (a.alloc o):=
 ⟨(h.y<|ν _ _ _).base,heap_alloc_new a o,ν _ _ _⟩
def Sw_.entd (h:Sw_ q w bn r a) (o:Obj):Sw_ q (a.alloc o).drew bn r (a.alloc o).drew∧Hid ((a.alloc o).drew.heap[V a.heap]?=C o)∧I No a (a.alloc o).drew:=
 have z:I No a (a.alloc o).drew:=(ν _ _ _).trans (Ψ _ _ 1) λ_ _ x=>x;⟨(h.y z).base,heap_alloc_new a o,z⟩
def Sw_.ent2 (h:Sw_ q w bn r a) (o p:Obj):Sw_ q ((a.alloc o).alloc p) bn r ((a.alloc o).alloc p)∧Hid (((a.alloc o).alloc p).heap[V a.heap]?=C o)∧Hid (((a.alloc o).alloc p).heap[V a.heap+1]?=C p)∧I No a ((a.alloc o).alloc p):=by
 obtain ⟨s,f,z⟩:=h.ent o;obtain ⟨s,g,y⟩:=s.ent p;exact ⟨s,y.at f,by simpa using g,z.trans y λ_ _ x=>x⟩
def wstr {l:bZ} (s:Sw_ q w bn (l++r) a):μ Tryz.prog 49 #[pV q.wb,ι ⟨ξ l⟩] a λe b=>e=π (.tuple #[U (Q l),.nilIface])∧Sw_ q w bn r b:=by
 obtain ⟨bs,h,e⟩:=s.w;have z:=s.z;have hl:=h.low;have:=s.lt;rw [← e] at z;simp only [List.length_append] at z;refine (Gs h ⟨ξ l⟩ (by show _+Q l≤_;omega) W).mono ?_;rintro _ b ⟨rfl,h1,h2⟩;exact ⟨K,s.step h1 h2<|by simpa using e⟩
def sayw (ws:List bZ) (s:Sw_ q w bn (ws.flatten++r) a) (hn:Q ws≤1000):
 μ Tryz.prog 26 #[pV q.wb,Y (C<|J (V a.heap) 0) (Q ws) (Q ws)] (a.alloc<|γ (ξ (ws.map λl=>ι ⟨ξ l⟩)) 9) (Ps_ q w bn r):=by
 obtain ⟨s',f,-⟩:=Sw_.ent s<|γ (ξ (ws.map λl=>ι ⟨ξ l⟩)) 9;generalize hA:a.alloc (γ (ξ (ws.map λl=>ι ⟨ξ l⟩)) 9)=A at*;have END:Hid (∀ b,Sw_ q A bn r b→Sw_ q w bn r b):=λb h=>Sw_.back s (hA ▸ ν _ _ _) h;generalize V a.heap=g at*;clear s hA;go_enter Tryz.func26,Tryz.ntmps26;go_wp2_with fail;go_loopw [8] (λv wr=>∃ (j:Nat),j≤Q ws∧v=U (j:Int)∧Sw_ q A bn ((ws.drop j).flatten++r) wr) (λv _=>Q ws-(intOf v).toNat);case atStart=>exact ⟨0,Nat.zero_le _,K,s'⟩
 case round=>
  obtain ⟨j,hj,rfl,s⟩:=hrel;obtain ⟨y,l⟩:=s.loc f;by_cases hjl:j<Q ws
  .have cg:wr.cell? (J g j)=C (ι ⟨ξ ws[j]⟩):=by rw [y];simp [hjl]
   rw [List.drop_eq_getElem_cons hjl,List.flatten_cons,ľ] at s;clear y;generalize ws[j]=x at*;go_wp2_with (refine (wstr s).mono ?_;rintro e w1 ⟨rfl,s⟩);go_roundw;case rel=>exact ⟨j+1,W,ï,s⟩
   case measure=>simp [intOf];omega
  .have hje:j=Q ws:=W;subst hje;rw [List.drop_length] at s;clear y;go_wp2_with fail;go_end0;exact ⟨K,END.u _ s⟩
def Jc {l1:bZ} {g:Nat} (s:Sw_ q w bn (l1++r) a) (hg:g=V a.heap:=by simp):μ Tryz.prog 26 #[pV q.wb,Y (C<|J g 0) 1 1] (a.alloc<|γ #[ι ⟨ξ l1⟩] 9) (Ps_ q w bn r):=hg ▸ sayw [l1] (by simpa using s) (Nat.le_of_ble_eq_true K)
def say2 {l1 l2:bZ} {g:Nat} (s:Sw_ q w bn (l1++(l2++r)) a) (hg:g=V a.heap:=by simp):μ Tryz.prog 26 #[pV q.wb,Y (C<|J g 0) 2 2] (a.alloc<|γ #[ι ⟨ξ l1⟩,ι ⟨ξ l2⟩] 9) (Ps_ q w bn r):=hg ▸ sayw [l1,l2] (by simpa using s) (Nat.le_of_ble_eq_true K)
def OK {l1 l2 l3:bZ} {g:Nat} (s:Sw_ q w bn (l1++(l2++(l3++r))) a) (hg:g=V a.heap:=by simp):μ Tryz.prog 26 #[pV q.wb,Y (C<|J g 0) 3 3] (a.alloc<|γ #[ι ⟨ξ l1⟩,ι ⟨ξ l2⟩,ι ⟨ξ l3⟩] 9) (Ps_ q w bn r):=hg ▸ sayw [l1,l2,l3] (by simpa using s) (Nat.le_of_ble_eq_true K)
def say1d {l1:bZ} {g:Nat} (s:Sw_ q w bn (l1++r) a) (hg:g=V a.heap:=by simp):μ Tryz.prog 26 #[pV q.wb,Y (C<|J g 0) 1 1] (a.alloc<|γ #[ι ⟨ξ l1⟩] 9).drew (Ps_ q w bn r):=Jc (s.d 1) hg
def say2d {l1 l2:bZ} {g:Nat} (s:Sw_ q w bn (l1++(l2++r)) a) (hg:g=V a.heap:=by simp):μ Tryz.prog 26 #[pV q.wb,Y (C<|J g 0) 2 2] (a.alloc<|γ #[ι ⟨ξ l1⟩,ι ⟨ξ l2⟩] 9).drew (Ps_ q w bn r):=say2 (s.d 1) hg
def say3d {l1 l2 l3:bZ} {g:Nat} (s:Sw_ q w bn (l1++(l2++(l3++r))) a) (hg:g=V a.heap:=by simp):μ Tryz.prog 26 #[pV q.wb,Y (C<|J g 0) 3 3] (a.alloc<|γ #[ι ⟨ξ l1⟩,ι ⟨ξ l2⟩,ι ⟨ξ l3⟩] 9).drew (Ps_ q w bn r):=OK (s.d 1) hg
def jn (sep:bZ):Bool→List bZ→bZ
 |_,[]=>[]
 |b,x::r=>(if b then sep else [])++(x++jn sep τ r)
def roww (kf:Nat) (cf:∀ (args:Array υ) (Gw:E),(callFunc kf args).run Tryz.prog Gw=.ok (.enter kf args) Gw) (sep:bZ) {c1 c2:υ} {L:List bZ} (hn:Q L≤1000000000) (H:∀ (j:Nat) (h:j<Q L),Cw_ q w bn kf #[U (j:Int),c1,c2] L[j]):
 Cw_ q w bn 34 #[pV q.wb,U (Q L:Int),ι ⟨ξ sep⟩,.func (.func kf) #[] #[c1,c2]] (jn sep κ L):=by
 intro r a s;have H:=O H;go_enter Tryz.func34,Tryz.ntmps34;go_wp2_with fail;go_loopw [10] (λv wr=>∃ (j:Nat),j≤Q L∧v=U (j:Int)∧Sw_ q w bn (jn sep (ê<|0<j) (L.drop j)++r) wr) (λv _=>Q L-(intOf v).toNat);case atStart=>exact ⟨0,Nat.zero_le _,K,s⟩
 case round=>
  obtain ⟨j,hj,rfl,s⟩:=hrel;by_cases hjl:j<Q L
  .have h:=O<|H.u j hjl;rw [List.drop_eq_getElem_cons hjl,jn] at s;generalize L[j]=x at*;by_cases hj0:j=0
   .subst hj0;simp only [Nat.lt_irrefl,decide_false,Bool.false_eq_true,if_false,List.nil_append,ľ] at s;go_wp2_with (refine (h.u s).mono ?_;rintro e w1 ⟨rfl,s⟩);go_roundw;case rel=>exact ⟨1,W,ï,s⟩
    case measure=>simp [intOf];omega
   .have hp:0<j:=W;have hpos:(0:Int)<(j:Int):=W;simp only [hp,decide_true,if_true,ľ] at s;go_wp2_with ((first|refine (wstr s).mono ?_|refine (h.u s).mono ?_);rintro e w1 ⟨rfl,s⟩);go_roundw;case rel=>exact ⟨j+1,W,ï,by simpa using s⟩
    case measure=>simp [intOf];omega
  .have hje:j=Q L:=W;subst hje;rw [List.drop_length] at s;go_wp2_with fail;go_end0;exact ⟨K,s⟩
end
abbrev pq (q:Pl_):υ:=pV q.wb
abbrev iv (i:Int):υ:=U i
abbrev sv (l:bZ):υ:=ι ⟨ξ l⟩
def zB_ {p:Prop} (h:p:=by
 go_wp2_with ((with_reducible first|refine (Jc s).mono ?_|refine (say1d s).mono ?_|refine (say2 s).mono ?_|refine (say2d s).mono ?_|refine (OK s).mono ?_|refine (say3d s).mono ?_|refine (c s).mono ?_|refine (c s.e).mono ?_|refine (c o.u s).mono ?_|refine (c u.u s).mono ?_|refine (c o.u s.e).mono ?_|refine (d s).mono ?_|refine (d s.e).mono ?_|refine (d o.u s).mono ?_|refine (d o.u s.e).mono ?_|refine (b s).mono ?_|refine (b s.e).mono ?_);rintro e a ⟨rfl,s⟩;(try obtain ⟨y,l⟩:=Sw_.loc s f);(try obtain ⟨y',l'⟩:=Sw_.loc s g));iterate 3 all_goals try (go_region_with ((with_reducible first|refine (Jc s).mono ?_|refine (say1d s).mono ?_|refine (say2 s).mono ?_|refine (say2d s).mono ?_|refine (OK s).mono ?_|refine (say3d s).mono ?_|refine (c s).mono ?_|refine (c s.e).mono ?_|refine (c o.u s).mono ?_|refine (c u.u s).mono ?_|refine (c o.u s.e).mono ?_|refine (d s).mono ?_|refine (d s.e).mono ?_|refine (d o.u s).mono ?_|refine (d o.u s.e).mono ?_|refine (b s).mono ?_|refine (b s.e).mono ?_);rintro e a ⟨rfl,s⟩;(try obtain ⟨y,l⟩:=Sw_.loc s f);(try obtain ⟨y',l'⟩:=Sw_.loc s g));all_goals go_wp2_with ((with_reducible first|refine (Jc s).mono ?_|refine (say1d s).mono ?_|refine (say2 s).mono ?_|refine (say2d s).mono ?_|refine (OK s).mono ?_|refine (say3d s).mono ?_|refine (c s).mono ?_|refine (c s.e).mono ?_|refine (c o.u s).mono ?_|refine (c u.u s).mono ?_|refine (c o.u s.e).mono ?_|refine (d s).mono ?_|refine (d s.e).mono ?_|refine (d o.u s).mono ?_|refine (d o.u s.e).mono ?_|refine (b s).mono ?_|refine (b s.e).mono ?_);rintro e a ⟨rfl,s⟩;(try obtain ⟨y,l⟩:=Sw_.loc s f);(try obtain ⟨y',l'⟩:=Sw_.loc s g)))
 all_goals
  go_end0;first|exact ⟨K,s⟩|exact ⟨K,Sw_.back s0 z s⟩):p:=h
def zz {p:Prop} (h:p:=by
 go_in;exact zB_):p:=h
def zA_ {p:Prop} (h:p:=by
 intro w r a s;try simp only [ľ] at s
 exact zz):p:=h
def mF (bn:Bool) (t:Tr):Tr:=if bn then iO t else t
def dV (bn:Bool) (T:List Ty) (i:Nat):bZ:=bU<|mF bn<|tr T i
def uJ (k:Int) (last:Bool):Bool:=ê (k=10)||(ê (k=9)&&!last)
def ups:List Tr→List bZ
 |[]=>[]
 |t::r=>(if uJ t.k (ê<|Q r=0) then [40]++bU t++[41] else bU t)::ups r
theorem txtC_jn:∀ (b:Bool) (r:List Tr),qV b r=jn [44,32] (!b) (r.map bU)
 |_,[]=>K
 |b,t::r=>by cases b<;>simp [qV,jn,txtC_jn κ r]
theorem txtU_jn:∀ (b:Bool) (r:List Tr),pP b r=jn [32,124,32] (!b) (ups r)
 |_,[]=>K
 |b,t::r=>by cases b<;>simp [pP,jn,ups,uJ,txtU_jn κ r]
theorem ups_len:∀ r,Q (ups r)=Q r
 |[]=>K
 |_::r=>by simp [ups,ups_len r]
theorem ups_at:∀ (r:List Tr) {j:Nat} {t:Tr},r[j]?=C t→(ups r)[j]?=C (if uJ t.k (ê<|j+1=Q r) then [40]++bU t++[41] else bU t)
 |[],j,t,h=>by simp at h
 |x::r,0,t,h=>by
  simp at h;subst h;rw [ups,List.getElem?_cons_zero];grind [uJ]
 |x::r,j+1,t,h=>by
  simp at h;simp [ups,ups_at r h]
theorem C1f (bn:Bool) (t:Tr):(mF bn t).k=t.k:=by
 grind [mF,D5f]
theorem IP (bn:Bool) {k:Int} {ns:List bZ} {ks:List Tr} (h:k≠7):mF bn (.nd k ns ks)=.nd k ns (ks.map<|mF bn):=by
 cases bn
 .have e:mF κ=id:=by funext t;simp [mF]
  rw [e];simp
 .have e:mF τ=iO:=by funext t;simp [mF]
  rw [e];exact yC h
def CG (bn:Bool) (T:List Ty) (p:bZ×Int):bZ:=[32]++(p.1++([58,32]++(dV bn T p.2.toNat++[59])))
def oG (bn:Bool) (T:List Ty) (l:List<|List UInt8×Int):bZ:=l.flatMap<|CG bn T
def sZ (bn:Bool) (l:List<|List UInt8×Int):List (List UInt8×Int):=if bn then nA l else l
def ĉ (bn:Bool) (l:List<|List UInt8×Int):Q (sZ bn l)=Q l:=by
 grind [sZ,JG]
def Č {bn:Bool} {l:List (List UInt8×Int)} {p:bZ×Int} (h:p∈sZ bn l):p∈l:=by
 unfold sZ at h;split at h
 .exact (Y3 l).subset h
 .exact h
section
variable {bn:Bool} {T:List Ty} {i:Nat} {t:Ty}
def ty_ok (hT:aX T) (ht:T[i]?=C t):eJ t i:=by
 obtain ⟨h,rfl⟩:=Î.1 ht;exact hT i h
theorem Ss (hT:aX T) (ht:T[i]?=C t) (h1:1≤t.x) (h2:t.x≤6):dV bn T i=Z6 t.x:=by
 obtain ⟨hi,rfl⟩:=Î.1 ht;unfold dV;rw [X7 hT hi,IP bn W,bU,if_neg W,if_neg W,if_neg W,if_neg W]
theorem Mm (hT:aX T) (ht:T[i]?=C t) (h:t.x=8):dV bn T i=[91]++dV bn T t.fh.toNat++[93]:=by
 obtain ⟨hi,rfl⟩:=Î.1 ht;unfold dV;rw [X7 hT hi,IP bn W,bU,if_neg W,if_pos h,if_pos<|.inl h];simp [UF]
theorem Ys (hT:aX T) (ht:T[i]?=C t) (h:t.x=9):dV bn T i=[40]++jn [44,32] κ (t.M.map λx=>dV bn T x.toNat)++[41,32,61,62,32]++dV bn T t.fh.toNat:=by
 have hf:t.eo=[]:=by have:=ty_ok hT ht;grind [eJ]
 obtain ⟨hi,rfl⟩:=Î.1 ht;unfold dV;rw [X7 hT hi,IP bn W,bU,if_neg W,if_neg W,if_pos h,if_pos<|.inr h,hf];simp [JH,txtC_jn,Function.comp_def]
theorem Mx (hT:aX T) (ht:T[i]?=C t) (h:t.x=10):dV bn T i=jn [32,124,32] κ (ups<|t.M.map λx=>mF bn<|tr T x.toNat):=by
 have hf:t.eo=[]:=by have:=ty_ok hT ht;grind [eJ]
 obtain ⟨hi,rfl⟩:=Î.1 ht;unfold dV;rw [X7 hT hi,IP bn W,bU,if_neg W,if_neg W,if_neg W,if_pos h,if_neg W,hf];simp [txtU_jn,Function.comp_def]
def Mu (hT:aX T) (ht:T[i]?=C t) (h:t.x=7):(t.eo.map (·.1)).Nodup∧dV bn T i=[123]++oG bn T (sZ bn t.eo)++(if Q t.eo=0 then [] else [32])++[125]:=by
 obtain ⟨hl,hn⟩:t.M=[]∧(t.eo.map (·.1)).Nodup:=by have:=ty_ok hT ht;grind [eJ]
 refine ⟨hn,?_⟩;obtain ⟨hi,rfl⟩:=Î.1 ht;have e:tr T i=.nd 7 (T[i].eo.map (·.1)) (T[i].eo.map λp=>(λz:Int=>tr T z.toNat) p.2):=by
  rw [X7 hT hi,if_neg W,hl,h];simp
 unfold dV;rw [e];cases bn with
 |false=>
  have e2:∀ t,mF κ t=t:=λt=>by simp [mF]
  rw [e2,ZR T[i].eo λz:Int=>tr T z.toNat];unfold oG CG sZ dV;simp [e2]
 |true=>
  have e2:∀ t,mF τ t=iO t:=λt=>by simp [mF]
  rw [e2,B3e _ (λz:Int=>tr T z.toNat) hn,ZR _ λz:Int=>iO<|tr T z.toNat,JG];unfold oG CG sZ dV;simp [e2]
end
abbrev tyc (t:Ty) (fa:Option í) (fc:Nat) (la:Option í) (lc:Nat):Array υ:=#[iv t.x,Y fa (Q t.eo) fc,Y la (Q t.M) lc,iv t.fh]
section
variable {q:Pl_} {w a Gw:E} {bn:Wk} {r X Gy:bZ} {i k qx ql:Nat} {t:Ty} {ls:uZ} {la fa:Option í} {lc fc:Nat}
theorem Sw_.ty (s:Sw_ q w bn r a) (ht:q.T[i]?=C t):∃ g c fa fc la lc,δ a (J q.wb 2)=C (Y (C<|J g 0) (Q q.T) c)∧δ a (J q.wb 3)=C (.bool bn.b)∧i<Q q.T∧g<V a.heap∧Q q.T≤c∧c≤9223372036854775807∧δ a (J g<|i*4)=C (iv t.x)∧δ a (J g<|i*4+1)=C (Y fa (Q t.eo) fc)∧δ a (J g<|i*4+2)=C (Y la (Q t.M) lc)∧δ a (J g<|i*4+3)=C (iv t.fh)∧
 Hid (ρ a 0 139 2 (Y fa (Q t.eo) fc) (Q t.eo)<|I0 t.eo)∧Hid (ρ a 0 3 1 (Y la (Q t.M) lc) (Q t.M)<|C8 t.M):=by
 obtain ⟨hi,rfl⟩:=Î.1 ht;obtain ⟨yx,ho,hr⟩:=s.t;obtain ⟨_,⟨_,p,v,hb,_⟩,_⟩:=s.w;obtain ⟨ad,c,e⟩:=B8 ho;rw [e] at ho;obtain ⟨g,fa,fc,la,lc,rfl,hg,h1,h2,x0,x1,x2,x3,u,o⟩:=Gg ho hr hi;unfold Δ at h2;exact ⟨g,c,fa,fc,la,lc,by rw [ä a q.wb 2 _ _ _ hb,← e];exact hd4 2,(ä a q.wb 3 _ _ _ hb).trans<|hd4 3,hi,hg,h1,W,x0,x1,x2,x3,u,o⟩
def E3d (k:Int) (h1:1≤k) (h2:k≤6) (s:Sw_ q w bn r a):μ Tryz.prog 37 #[iv k] a λe b=>e=π (sv<|Z6 k)∧Sw_ q w bn r b:=by
 have hk:k=1∨k=2∨k=3∨k=4∨k=5∨k=6:=W;obtain rfl|rfl|rfl|rfl|rfl|rfl:=hk<;>
 .go_in;go_wp2;go_ret;exact ⟨K,s⟩
def Nz {last:Bool} (s:Sw_ q w bn r a) (ht:q.T[i]?=C t):μ Tryz.prog 71 #[pq q,iv i,.bool last] a λe b=>e=π (.bool<|uJ t.x last)∧b=a:=by
 obtain ⟨g,c,fa,fc,la,lc,c2,c3,hi,hg,h1,h2,x0,x1,x2,x3,-,-⟩:=s.ty ht;have hl:=s.lt;generalize t.x=k at*;by_cases h10:k=10
 .subst h10;go_in;go_wp2;go_ret;exact ⟨K,K⟩
 by_cases h9:k=9
 .subst h9;cases last<;>
  .go_in;go_wp2;go_ret;exact ⟨K,K⟩
 have e:uJ k last=κ:=by simp [uJ,h10,h9]
 rw [e];have e10:(k==10)=κ:=by simp [h10]
 go_in;go_wp2;go_ret;exact ⟨K,K⟩
def wty1 (f:Hid<|Gw.heap[qx]?=C (γ #[pq q] 72 (0,0))) (g:Hid<|Gw.heap[ql]?=C (γ (tyc t fa fc la lc) 99 (0,0))) (o:Gw.ownsRow 0 3 1 (Y la (Q t.M) lc) (Q t.M)<|C8 t.M) (hk:k<Q t.M) (c:CC q bn 20 #[pq q,iv t.M[k]] X):
 Cw_ q Gw bn 35 #[iv k,pV qx,pV ql] X:=by
 intro r a s;obtain ⟨y1,l1⟩:=s.loc f;obtain ⟨y2,l2⟩:=s.loc g;obtain ⟨gi,rfl,hg1,hg2,hg3,hc⟩:=D6 (s.k.own o) hk;unfold Δ at hg3;obtain ⟨kd,fs,ls,of'⟩:=t;dsimp only at*;generalize ls[k]=z at*;exact zz
def wun1 {z:Nat} (f:Hid<|Gw.heap[qx]?=C (γ #[pq q] 72 (0,0))) (g:Hid<|Gw.heap[ql]?=C (γ #[Y la (Q ls) lc] 80 (0,0))) (o:Gw.ownsRow 0 3 1 (Y la (Q ls) lc) (Q ls)<|C8 ls) (hk:k<Q ls) (hz:ls[k]=(z:Int)) (ht:q.T[z]?=C t) (c:CC q bn 20 #[pq q,iv z] X):
 Cw_ q Gw bn 70 #[iv k,pV qx,pV ql] (if uJ t.x (ê<|k+1=Q ls) then [40]++X++[41] else X):=by
 intro r a s;have hg3:Q ls≤lc∧lc≤2^63-1:=by obtain ⟨_,_,_,h1,h2,_⟩:=D6 (s.k.own o) hk;exact ⟨h1,h2⟩
 have el:((k:Int)==IntKind.i64.wrap ((Q ls:Int)-1))=ê (k+1=Q ls):=by
  have e:IntKind.i64.wrap ((Q ls:Int)-1)=(Q ls:Int)-1:=by
   simp [IntKind.wrap,IntKind.bits,IntKind.signed];omega
  rw [e,Bool.eq_iff_iff];simp;omega
 have b:Hid (∀ n l,l=ê (k+1=Q ls)→μ Tryz.prog 71 #[pq q,iv z,.bool l] (a.drewN n) λe b=>e=π (.bool<|uJ t.x<|ê<|k+1=Q ls)∧b=a.drewN n):=λn l e=>e ▸ Nz (s.d n) ht;have c:=O c;have S:=O s;have F:=O λa r (s:Sw_ q Gw bn r a)=>And.intro (s.loc f)<|And.intro (s.loc g)<|D6 (s.k.own o) hk;rw [hz] at F;obtain ⟨⟨y1,l1⟩,⟨y2,l2⟩,gi,rfl,hg1,-,-,hc⟩:=F.u _ _ s;clear s;have y1:=y1 0;have y2:=y2 0;have hk1:ê ((k:Int)<0)=κ:=θ;have hk2:(k:Int)<Q ls:=W;clear hz ht o;generalize uJ t.x (ê<|k+1=Q ls)=bb at*;go_in;go_wp2_with fail;go_quiet ((go_at_call 71;refine Calls.quiet_of_same<|b.u _ _ ?_;rfl));have s:=S.u.d nq;clear S;have c:=c.u;obtain ⟨⟨y1,l1⟩,⟨y2,l2⟩,_,e,hg1,-,-,hc⟩:=F.u _ _ s;cases e;generalize a.drewN nq=A at*;cases bb
 .simp only [Bool.false_eq_true,if_false] at s;exact zB_
 .simp only [if_true,ľ] at s;go_wp2_with fail;refine (Jc s).mono ?_;rintro e A ⟨rfl,s⟩;obtain ⟨⟨y1,l1⟩,⟨y2,l2⟩,_,e,hg1,-,-,hc⟩:=F.u _ _ s;cases e;exact zB_
end
def Ec {w:E} {ga:Option í} {gc:Nat} {gs:List (List UInt8×Int)} (h:ρ w 0 139 2 (Y ga (Q gs) gc) (Q gs)<|I0 gs) {j:Nat} (hj:j<Q gs):∃ g,ga=C (J g 0)∧g<V w.heap∧Q gs≤gc∧gc≤Δ∧δ w (J g<|j*2)=C (sv gs[j].1)∧δ w (J g<|j*2+1)=C (iv gs[j].2):=by
 obtain ⟨g,rfl,_,hg,h1,h2,hc⟩:=D5 h W;exact ⟨g,K,hg,h1,h2,hc _ _<|DG O0 (λ_=>K) gs j 0 hj W,hc _ _<|DG O0 (λ_=>K) gs j 1 hj W⟩
def zO_ {p:Prop} (h:p:=by
 refine (Jc s).mono ?_;rintro e a1 ⟨rfl,s⟩;go_wp2_with fail;go_loopw [19] (λv wr=>∃ j:Nat,j≤Q gs∧v=iv j∧Sw_ q _ bn (oG _ q.T (gs.drop j)++((if Q gs=0 then [] else [32])++([125]++r))) wr) (λv _=>Q gs-(intOf v).toNat);case atStart=>exact ⟨0,Nat.zero_le _,K,s⟩
 case round=>
  obtain ⟨j,hj,rfl,s⟩:=hrel;by_cases hjl:j<Q gs
  .obtain ⟨g,rfl,hg,h1,h2,x0,x1⟩:=Ec (s.k.own o.u) hjl;unfold Δ at h2;have hz:=hm gs[j]<|List.getElem_mem hjl;rw [List.drop_eq_getElem_cons hjl,oG,List.flatMap_cons,CG] at s;generalize gs[j]=p at*;obtain ⟨nm,y⟩:=p;dsimp only at*;obtain ⟨y,rfl⟩:∃ k:Nat,y=k:=⟨y.toNat,W⟩;have c:=M.u y W;rw [Int.toNat_natCast] at s;simp only [ľ] at s;generalize dV _ q.T y=X at*;obtain ⟨s',f,z'⟩:=s.ent<|γ #[sv nm,iv y] 139;have hl:=s.lt;clear hz;go_wp2_with ((with_reducible first|refine (OK s').mono ?_|refine (Jc s').mono ?_|refine (c s').mono ?_);rintro e a ⟨rfl,s'⟩;obtain ⟨y,l⟩:=Sw_.loc s' f);go_roundw;case rel=>exact ⟨j+1,W,ï,s.back z' s'⟩
   case measure=>simp [intOf];omega
  .have hje:j=Q gs:=W;subst hje;rw [List.drop_length] at s;by_cases h0:Q gs=0
   .rw [if_pos h0] at s;simp only [oG,List.flatMap_nil,List.nil_append] at s;have h0:(Q gs:Int)=0:=W;simp only [h0] at*;go_wp2_with (refine (Jc s).mono ?_;rintro e a ⟨rfl,s⟩);go_end0;exact ⟨K,s0.back z s⟩
   .rw [if_neg h0] at s;simp only [oG,List.flatMap_nil,List.nil_append] at s;have hpos:(0:Int)<(Q gs:Int):=W;go_wp2_with (refine (Jc s).mono ?_;rintro e a ⟨rfl,s⟩);go_end0;exact ⟨K,s0.back z s⟩):p:=h
section
variable {q:Pl_} {bn:Wk} {i:Nat} {t:Ty} {L:List bZ}
def wuni_any (hL:Q L=Q t.M) (hm:Q L≤1000000000) (c:∀ j (h:j<Q L),∃ z t' X,t.M[j]?=C ((z:Nat):Int)∧q.T[z]?=C t'∧L[j]=(if uJ t'.x (ê<|j+1=Q t.M) then [40]++X++[41] else X)∧CC q bn 20 #[pq q,iv z] X):∀ ⦃w la lc⦄,ρ w 0 3 1 (Y la (Q t.M) lc) (Q t.M) (C8 t.M)→Cw_ q w bn 36 #[pq q,Y la (Q t.M) lc] (jn [32,124,32] κ L):=by
 intro w la lc o r a s0;have o:=s0.k.own o;obtain ⟨s,f,g,z⟩:=Sw_.ent2 s0 (γ #[pq q] 72)<|γ #[Y la (Q t.M) lc] 80;have d:=roww 70 (λ_ _=>ũ) [32,124,32] hm λj h=>by
  obtain ⟨y,t',X,hz,ht,e,c⟩:=c j h;obtain ⟨hj,hz⟩:=Î.1 hz;rw [e];exact wun1 f g (A3 o z λ_ _ x=>x) hj hz ht c
 rw [hL] at d;clear o c hL;generalize jn [32,124,32] κ L=T at*;exact zz
def wobj_any (hT:aX q.T) (ht:q.T[i]?=C t) (k:t.x=7) (hf:Q t.eo≤2001) (M:∀ z,z<i→CC q bn 20 #[pq q,iv (z:Nat)] (dV bn.b q.T z)):∀ ⦃w fa fc⦄,ρ w 0 139 2 (Y fa (Q t.eo) fc) (Q t.eo) (I0 t.eo)→Cw_ q w bn 33 #[pq q,Y fa (Q t.eo) fc] (dV bn.b q.T i):=by
 obtain ⟨hn,e⟩:=Mu (bn:=bn.b) hT ht k;rw [e];intro w fa fc o r a s0;simp only [ľ] at s0;have o:=s0.k.own o;have hm:∀ p∈sZ bn.b t.eo,0≤p.2∧p.2<(i:Int):=λp hp=>(ty_ok hT ht).nh p<|Č hp;obtain ⟨_,_,_,_,_,_,-,c3,-⟩:=s0.ty ht;have hl:=s0.lt;have hN:=O hn;clear e hn ht k;generalize t.eo=fs at*;have M:=O M;generalize hb:bn.b=bb at*;have hlen:Q (sZ bb fs)=Q fs:=ĉ _ _;have eh:=O (show (if Q fs=0 then ([]:bZ) else [32])=if Q (sZ bb fs)=0 then [] else [32] by rw [hlen]);rw [eh.u] at s0;clear eh;generalize hgs:sZ bb fs=gs at*;cases bb
 .obtain rfl:gs=fs:=hgs.symm;clear hN hlen;have s:=s0.base;have z:=ì No a;have o:=O o;go_in;go_wp2_with fail;exact zO_
 .have HC:=O (uv a fs fa fc o W);clear o;go_in;go_wp2_with fail;refine HC.u.mono ?_;rintro e w1 ⟨ga,gc,rfl,k1,o1⟩;have HC2:=O (Ģ w1 (V a.heap) fs hN.u _ o1 W);have K1:=O k1;have O1:=O o1;clear k1 o1 HC;go_wp2_with fail;refine HC2.u.mono ?_;rintro e A ⟨rfl,k2,o2⟩;have z:I No a A:=K1.u.trans k2 (λk hk x=>by have:=(A9 O1.u k x.symm).1;omega);rw [show nA fs=gs from hgs] at o2;have o:=O<|C7 o2<|Nat.zero_le _;have s:=(s0.y z).base;clear K1 O1 HC2 k2 o2 hN hgs;generalize Q fs=n at*;subst hlen;go_wp2_with fail;exact zO_
def Sy (few:Q t.M≤100000000∧Q t.eo≤2001) (ht:q.T[i]?=C t) (M:∀ z,z<i→CC q bn 20 #[pq q,iv (z:Nat)] (dV bn.b q.T z)):CC q bn 20 #[pq q,iv i] (dV bn.b q.T i):=by
 intro w r a s0;have hT:=s0.ok;have hy:=ty_ok hT ht;obtain ⟨g0,c0,fa,fc,la,lc,c2,c3,hi,hg,h1,h2,x0,x1,x2,x3,u,o⟩:=s0.ty ht;have hl:=s0.lt;obtain ⟨s,f,g,z⟩:=s0.ent2 (γ #[pq q] 72)<|γ (tyc t fa fc la lc) 99;have u:=O<|A3 u.u z λ_ _ x=>x;have o:=O<|A3 o.u z λ_ _ x=>x;have hk:t.x=7∨t.x=8∨t.x=9∨t.x=10∨(1≤t.x∧t.x≤6):=by grind [eJ]
 have hof:=hy.of;have hls:=hy.lg;obtain k|k|k|k|⟨k1,k2⟩:=hk
 .have c:=wobj_any hT ht k few.2 M;clear ht M few hy hof hls hT;generalize dV bn.b q.T i=X at*;obtain ⟨kd,fs,ls,of'⟩:=t;dsimp only at*;subst k;exact zz
 .rw [Mm hT ht k] at s;obtain ⟨y,e⟩:∃ y:Nat,t.fh=y:=⟨t.fh.toNat,by have:=hof<|.inl k;omega⟩;have c:=M y (by have:=hof<|.inl k;omega);rw [e,Int.toNat_natCast] at s;simp only [ľ] at s;clear ht M few hy hof hls hT;generalize dV bn.b q.T y=X at*;obtain ⟨kd,fs,ls,of'⟩:=t;dsimp only at*;subst k e;exact zz
 .rw [Ys hT ht k] at s;obtain ⟨y,e⟩:∃ y:Nat,t.fh=y:=⟨t.fh.toNat,by have:=hof<|.inr k;omega⟩;have c:=M y (by have:=hof<|.inr k;omega);have d:=roww 35 (λ_ _=>ũ) [44,32] (L:=t.M.map λx=>dV bn.b q.T x.toNat) (by simp;omega) λj h=>by
   simp only [List.length_map] at h;have hx:=hls _<|List.getElem_mem h;have c:=M t.M[j].toNat W;rw [List.getElem_map];exact wty1 f g o.u h (by rw [show ((t.M[j].toNat:Nat):Int)=t.M[j] by omega] at c;exact c)
  rw [List.length_map] at d;rw [e,Int.toNat_natCast] at s;simp only [ľ] at s;clear ht M few hy hof hls hT;generalize dV bn.b q.T y=X at*;generalize jn [44,32] κ _=Gy at*;obtain ⟨kd,fs,ls,of'⟩:=t;dsimp only at*;subst k e;exact zz
 .rw [Mx hT ht k] at s;have c:=wuni_any (L:=ups<|t.M.map λx=>mF bn.b<|tr q.T x.toNat) (q:=q) (bn:=bn) (t:=t) (by simp [ups_len]) (by simp [ups_len];omega) λj h=>by
   simp only [ups_len,List.length_map] at h;have hx:=hls _<|List.getElem_mem h;have hz:t.M[j].toNat<Q q.T:=W;have e:=ups_at (t.M.map λx=>mF bn.b<|tr q.T x.toNat) (j:=j) (t:=mF bn.b<|tr q.T t.M[j].toNat) (by simp [h]);obtain ⟨_,e⟩:=Î.1 e;refine ⟨t.M[j].toNat,_,_,?_,List.getElem?_eq_getElem hz,?_,M _ W⟩
   .rw [List.getElem?_eq_getElem h];congr 1;omega
   .rw [e,C1f,X7 hT hz];simp [Tr.k,dV,X7 hT hz]
  clear ht M few hy hof hls hT;generalize jn [32,124,32] κ _=X at*;obtain ⟨kd,fs,ls,of'⟩:=t;dsimp only at*;subst k;exact zz
 .rw [Ss hT ht k1 k2] at s;have c:=λ{w r a} (s:Sw_ q w bn r a)=>E3d t.x k1 k2 s;have e7:(t.x==7)=κ:=by simp;omega
  have e8:(t.x==8)=κ:=by simp;omega
  have e9:(t.x==9)=κ:=by simp;omega
  have e10:(t.x==10)=κ:=by simp;omega
  clear ht M few hy hof hls hT;generalize Z6 t.x=X at*;obtain ⟨kd,fs,ls,of'⟩:=t;dsimp only at*;exact zz
def TV (few:∀ t∈q.T,Q t.M≤100000000∧Q t.eo≤2001):∀ m i,i<m→i<Q q.T→CC q bn 20 #[pq q,iv (i:Nat)] (dV bn.b q.T i)
 |0,_,h,_=>W
 |m+1,i,h,hi=>Sy (few _<|List.getElem_mem hi) (List.getElem?_eq_getElem hi) λz hz=>TV few m z W W
end
def D6c {w:E} {B wb:Nat} {tv:υ} {bn:Wk} {l:bZ} (h:gC w B wb tv bn l):
 μ Tryz.prog 14 #[pV wb] w λe w'=>e=π (ι ⟨ξ l⟩)∧Below B w w':=by
 obtain ⟨hB,p,v,hbk,_,hown,hv⟩:=h;by_cases h0:l=[]
 .obtain rfl:=hv h0;subst h0;have c1:δ w.drew (J wb 1)=C (sN):=by
   have:w.drew.heap[wb]?=_:=hbk;rw [ä w.drew wb 1 _ _ _ this];exact hd4 1
  have hSD:(Builtin.unsafeSliceData_ #[45] 85 #[sN]).run Tryz.prog w.drew=.ok (Γ none) w.drew:=Lib.run_unsafeSliceData_nil _ _ _ _ _;have hUS:(Builtin.unsafeString_ #[85,3] 9 #[Γ none,U 0]).run Tryz.prog w.drew=.ok (.string .empty) w.drew:=Lib.run_unsafeString_none _ _ _ _ _;clear hbk hown hv;go_in;go_wp2;go_region;all_goals (go_wp2;go_ret;exact ⟨K,Below.drew<|Below.refl B w⟩)
 have hl0:Q l≠0:=by simpa using h0
 obtain ⟨g,cap,cur,rfl,hbg,hg,hnc,hcm,hcs,htake⟩:∃ g cap cur,v=Y (C<|J g 0) (Q l) cap∧B≤g∧w.heap[g]?=C (γ cur 5 (0,0))∧Q l≤cap∧cap≤Δ∧cur.size=cap*1∧cur.toList.take (Q l*1)=Lib.byteCells l:=by
  obtain⟨_,hz⟩|⟨g,cap,cur,hv,r⟩:=hown.2
  .exact absurd hz hl0
  .exact ⟨g,cap,cur,hv,r⟩
 have c1:δ w.drew (J wb 1)=C (Y (C<|J g 0) (Q l) cap):=by
  have:w.drew.heap[wb]?=C (γ (#[p,Y (C<|J g 0) (Q l) cap,tv,.bool bn.b]++bn.rest) bn.e (0,0)):=hbk;rw [ä w.drew wb 1 _ _ _ this];exact hd4 1
 have hSD:(Builtin.unsafeSliceData_ #[45] 85 #[Y (C<|J g 0) (Q l) cap]).run Tryz.prog w.drew=.ok (pV g) w.drew:=
  Lib.run_unsafeSliceData_row _ _ _ _ _ _ W;have hUS:(Builtin.unsafeString_ #[85,3] 9 #[pV g,U (Q l)]).run Tryz.prog w.drew=.ok (ι ⟨ξ l⟩) (w.drew.freeze (J g 0) (Q l)):=by
  refine Lib.run_unsafeString_row w.drew 85 3 9 5 Tryz.underlying85 Tryz.nj g cur.size (by have hg':w.drew.heap[g]?=C (γ cur 5 (0,0)):=hg;simp [World.shape?,hg']) l h0 W (by unfold Δ at hcm;omega) ?_;intro j x hx;have:=hown.cells (g:=g) K j (.int .u8 x.toNat) (by simp [Lib.byteCells,hx]);exact this
 clear hown hbk htake hg hcs hv;go_enter Tryz.func14,Tryz.ntmps14;go_wp2;go_region;all_goals (go_wp2;go_ret;exact ⟨K,Lib.below_freeze (Below.drew<|Below.refl B w) (p:=(J g 0)) hbg _⟩)
def tG (T:List Ty):Prop:=∀ i (hi:i<Q T),Q T[i].M≤100000000∧Q T[i].eo≤2001
def Ay {bn:Bool} {T:List Ty} {i:Nat}:Q (dV bn T i)≤wg (tr T i):=by
 unfold dV mF;split
 .exact Nat.le_trans (Ye _)<|Yo _
 .exact Ye _
def wt_new {w:E} {B wb:Nat} {tv:υ} {T:List Ty} {b:Bool} {i:Nat} (hT:aX T) (hf:tG T) (hB:B≤wb) (hb:w.heap[wb]?=C (γ #[Γ none,sN,tv,.bool b] 49 (0,0))) (hy:∃ yx,ρ w 0 99 4 tv (Q T) yx∧eN (eI w λ_=>True) T yx) (hi:i<Q T) (hl:wg (tr T i)≤1000000000):
 μ Tryz.prog 20 #[pV wb,iv i] w λe a=>e=rT∧cG B w a∧gC a B wb tv (wkW b) (dV b T i):=by
 have s:Sw_ ⟨B,wb,T,[],tv,sN,dV b T i⟩ w (wkW b) (dV b T i++[]) w:=⟨.y<|ì _ _,⟨[],⟨hB,Γ none,sN,hb,.inl K,World.ownsRow_nil _ _ _ _,λ_=>K⟩,θ⟩,Nat.le_trans Ay W,hT,hy,⟨[],World.ownsRow_nil _ _ _ _,K⟩,λh=>absurd K h⟩;refine (TV (bn:=wkW b) (λt ht=>by obtain ⟨j,hj,rfl⟩:=List.getElem_of_mem ht;exact hf j hj) (i+1) i (Nat.lt_succ_self i) hi s).mono ?_;rintro e a ⟨rfl,s⟩;obtain ⟨bs,x,e⟩:=s.w;simp only [List.append_nil] at e;exact ⟨K,s.k,e ▸ x⟩
section
variable {lb mb N:Nat} {T:List Ty} {D:Dt}
def Ū (w:E) (h:dY w lb mb N T D) (hf:tG T) (bn:Bool) (wb:Nat) (hwb:w.heap[wb]?=C (γ #[Γ none,sN,sN,.bool bn] 49 (0,0))) (i:Nat) (hi:i<Q T) (hl:wg (tr T i)≤1000000000):
 μ Tryz.prog 291 #[pV lb,pV wb,U (i:Int)] w λe w'=>e=π (ι ⟨ξ (dV bn T i)⟩)∧Below wb w w':=by
 have hT:=h.ok;obtain ⟨_,_,yv,yx,hb,ho,hr⟩:=h;obtain ⟨ad,c,rfl⟩:=B8 ho;have hlt:=(ş.1 hwb).1;have hlb:=(ş.1 hb).1;have c0:δ w (J lb 0)=C (Y ad (Q T) c):=by rw [ä w lb 0 _ _ _ hb];rfl
 have c2:δ w (J wb 2)=C (sN):=by rw [ä w wb 2 _ _ _ hwb];rfl
 have f2:w.frozen? (J wb 2)=κ:=æ w wb 2 _ _ hwb;have hc1:=é w (J wb 2)<|Y ad (Q T) c;have ne:∀ g cur e,w.heap[g]?=C (γ cur e (0,0))→e≠49→¬ g=wb:=by
  rintro g cur e hg he rfl;rw [hwb] at hg;simp only [Option.some.injEq,Obj.cells.injEq] at hg;exact he hg.2.1.symm
 have HT:=O (wt_new hT hf (Nat.le_refl wb) (by rw [ð w wb 2 _ _ _ hwb];rfl) ⟨yx,A3 (C7 ho<|Nat.zero_le _) hc1 λg hg x=>by
  obtain ⟨_,cur,hh⟩:=A9 ho g hg;exact ne g cur _ hh ζ x,hr.imp (eI.P hc1 (λg _ _ hx hh=>by
  obtain ⟨cur,e,hh,he⟩:=hh;exact ne g cur _ hh (by obtain rfl|rfl:=he<;>decide) hx) λ_ _ _=>trivial)⟩ hi hl);have HC1:=O (hc1.ep (B:=wb) (λk _ x=>by have x':k=wb:=x;omega) W);clear hc1 ho hr hb hwb ne;go_enter Tryz.func291,Tryz.ntmps291;go_wp2_with fail;refine HT.u.mono ?_;rintro e w2 ⟨rfl,h2,h3⟩;have hw2:wb<w2.heap.size:=by obtain ⟨_,_,_,hb,_⟩:=h3;exact (ş.1 hb).1
 have HS:=O<|D6c h3;have HC2:=O (HC1.u.trans<|h2.below<|by simp;omega);clear h2 h3 HT;go_wp2_with fail;refine HS.u.mono ?_;rintro e w3 ⟨rfl,h4⟩;have HC3:=O<|HC2.u.trans h4;clear h4;go_wp2;go_ret;exact ⟨K,HC3.u⟩
def Ņ (w:E) (h:dY w lb mb N T D) (hf:tG T) (i:Nat) (hi:i<Q T) (hl:wg (tr T i)≤1000000000):
 μ Tryz.prog 273 #[pV lb,U (i:Int)] w λe w'=>e=π (ι ⟨ξ (dV τ T i)⟩)∧I No w w':=by
 have HT:=O<|Ū _ (h.alloc<|γ #[Γ none,sN,sN,.bool τ] 49) hf τ (V w.heap) (heap_alloc_new w _) i hi hl;clear h;go_enter Tryz.func273,Tryz.ntmps273;go_wp2_with fail;refine HT.u.mono ?_;rintro e w2 ⟨rfl,h2⟩;have HC:=O (((ν (λk=>V w.heap≤k) w _).trans (I.below h2) λ_ _ x=>x).mono (S':=λ_=>False) λk hk x=>W);clear h2;go_wp2;go_ret;exact ⟨K,HC.u⟩
end
def cI(T:List Ty)(x:Int):Tr:=tr T x.toNat
theorem Cw:∀l a,J8 (l++a)=J8 l++J8 a
 |[],_=>Ω
 |t::r,a=>by rw[jZ,J8,J8,Cw r a,qZ]
theorem A6d(t):J8 [t]=flat t:=by simp[J8]
def vl(T)(a:uZ){j}(b):J8 ((a.take<|j+1).map<|cI T)=J8 ((a.take j).map<|cI T)++flat (cI T a[j]):=by
 grind[nQ,zY,Cw,A6d]
theorem IX{T:List Ty}{i}(b:aX T)(c:i<Q T)(h:T[i].x=9\/T[i].x=10):T[i].eo=[]:=by
 obtain a|a|a|a|a:=b i c<;>grind
def Wd{T}{z}(a:aX T)(c)(b:T[z].x=10):flat (tr T z)=J8 (T[z].M.map<|cI T):=by
 rw[X7 a c,flat,yY b,wY W,IX a c<|.inr b];rfl
def vj{T}{z}(a:aX T)(c)(b:T[z].x≠10):flat (tr T z)=[tr T z]:=by
 simp_all[X7,flat,wY]
def Af:∀l,Q l*5<=dW l
 |[]=>θ
 |t::r=>by have:=Af r;grind[jQ,dW]
theorem E4d(T)(a:uZ)(j):dW ((a.take j).map<|cI T)<=dW (a.map<|cI T):=by
 grind[cI,zY,List.take_append_drop,Aa]
def PC{T}{ls a:uZ}{j}(h:a.map (cI T)=J8 ((ls.take j).map<|cI T)):Q a*5<=dW (ls.map<|cI T):=by
 have b:=Af<|J8<|(ls.take j).map<|cI T;have c:=GQ ((ls.take j).map<|cI T) λx _=>Am x;grind[E4d]
def A0e{T}{z}(a:aX T)(b)(c:T[z].x=10):dW (T[z].M.map<|cI T)<=wg (tr T z):=by
 have e:(T[z].M.map λx=>tr T x.toNat)=T[z].M.map (cI T):=K;rw[X7 a b,wg,wY W,IX a b<|.inr c,e];simp
def SH{l}(a:l≠[])(h:∀t∈l,flat t≠[]):J8 l≠[]:=by
 cases l with
 |nil=>grind
 |cons t r=>
  rw[J8];simp_all
def XQ(t)(h:Wf t):flat t≠[]:=by
 induction h with
 |plain k i e=>grind[flat]
 |obj j g a b c d _=>simp_all[flat,wY]
 |arr t a _=>simp_all[flat,wY]
 |fn t l a b _ _=>simp_all[flat,wY]
 |uni g e h f=>
  rw[flat,yY K];exact SH η f
def ApP(T:List Ty)(f:uZ)(w:E)(e:ò)(d:E):Prop:=∃(b:Option í) (c:Nat) (a:uZ),e=π (Y b (Q a) c)/\I No w d/\ρ d (V w.heap) 3 1 (Y b (Q a) c) (Q a) (C8 a)/\(∀x∈a,0<=x/\x<Q T)/\a.map (cI T)=J8 (f.map<|cI T)
section
variable{a b N:Nat}{T:List Ty}{D:Dt}
def UB(a b N:Nat)(T:List Ty)(D:Dt)(m:Nat):Prop:=∀(c) (w) (d) (e),(∀x∈c,0<=x/\x<(m:Int)/\x<Q T)->dY w a b N T D->ρ w 0 3 1 (Y d (Q c) e) (Q c) (C8 c)->Q c<=100000000->dW (c.map<|cI T)<=1000000000->
 μ ε 272 #[pV a,Y d (Q c) e] w (ApP T c w)
theorem Zo(hf:tG T){an}(IH:∀z,z<an->UB a b N T D z):UB a b N T D an:=by
 intro f w la lc ay ag b0 hn bh;have p:=ag.ok;obtain⟨i0,hi,ak,al,am⟩:=ý Tryz.fy;have ab:Hid (∀m,I No w m->dY m a b N T D):=λm ha=>ag.y ha;have FO:Hid (∀m,I No w m->ρ m 0 3 1 (Y la (Q f) lc) (Q f) (C8 f)):=λm ha=>A3 b0 ha Ξ;go_in;go_wp2;go_loopw [11,5] (λa9 u wr=>∃(j:Nat) (c:uZ) (G:Option í) (F:Nat),j<=Q f/\a9=U j/\u=Y G (Q c) F/\Hid (I No w wr)/\Hid (wr.ownsRow (V w.heap) 3 1 (Y G (Q c) F) (Q c)<|C8 c)/\Hid (∀x∈c,0<=x/\x<Q T)/\Hid (c.map (cI T)=J8 ((f.take j).map<|cI T))) (λa9 _ _=>Q f-(intOf a9).toNat);case atStart=>exact⟨0,[],none,0,wQ _,K,K,ì _ _,kW _ _ _ _,(show∀x∈([]:uZ),_ from θ),(show _=_ from Ω)⟩
 case round=>
  obtain⟨j,c,G,F,hj,rfl,rfl,CR,y,IR,t⟩:=hrel;by_cases L:j<Q f
  .have bj:=ay f[j]<|mQ L;have a3:=O<|vl T f L;have be:=PC t.u;have az:=QL (kZ.2 ⟨f[j],mQ L,K⟩:cI T f[j]∈f.map (cI T));obtain⟨b8,ax,hg,ba,av,y0⟩:=D6 (FO.u wr CR.u) L;subst ax;unfold Δ at av;generalize f[j]=xx at*;obtain⟨z,rfl⟩:∃z:Nat,xx=z:=⟨xx.toNat,W⟩;have n:z<Q T:=W;have b2:cI T z=tr T z:=by simp[cI]
   rw[b2]at az a3;obtain⟨b5,c3,b6,-,bd,-,ar⟩:=(ab.u wr CR.u).cell;obtain⟨g3,fa,fc,M,P,rfl,r,b9,aq,x0,x1,x2,x3,-,a8⟩:=ar z n;unfold Δ at aq;have au:=hf z n;have ah:=(p z n).lg;have HU:=O λd=>Wd p n d;have Z:=O λd=>vj p n d;have a6:=λd=>A0e p n d;have ai:T[z].x=10->T[z].M≠[]:=by
    intro d;obtain s|s|s|s|s:=p z n
    .omega
    .omega
    .omega
    .omega
    .grind
   have a5:=λx (e:x∈T[z].M)=>BR p x.toNat η;generalize T[z].x=k at*;generalize T[z].eo=fs at*;generalize T[z].M=o at*;generalize T[z].fh=a7 at*;have A:I No w (wr.alloc<|γ #[U k,Y fa (Q fs) fc,Y M (Q o) P,U a7] 99):=CR.u.trans (ν _ _ _) Ξ;have SZ:=CR.u.size;by_cases d:k=10
   .subst d;have HA:=O (IH z W o _ M P (λx e=>η) (ab.u _ A) (a8.alloc _) au.1 W);have v:=O<|y.u.alloc<|γ #[U 10,Y fa (Q fs) fc,Y M (Q o) P,U a7] 99;have ao:Hid (J8 (o.map<|cI T)≠[]):=SH ù (λbm s=>by
     obtain⟨x,e,rfl⟩:=kZ.1 s;exact XQ _<|a5 x e);have bi:=a6 K;have S:=O<|HU.u K;have B:=O A;clear A y CR a8 a6 ai a5 ah HU Z;go_wp2_with fail;refine HA.u.mono ?_;rintro b7 b3 ⟨b4,c2,g,rfl,h2,h3,h4,H⟩;have bc:=PC (ls:=o) (j:=Q o) (by rw[vZ];exact H);have b1:0<Q g:=by
     obtain h0|h0:=Nat.eq_zero_or_pos (Q g)
     .have:=congrArg Q H;rw[lZ,h0]at this;exact absurd (List.length_eq_zero_iff.1 this.symm) ao.u
     .omega
    obtain⟨q,rfl,bf,bg,-,-,aj⟩:=D5 h3 b1;have af:=O<|A3 v.u h2 Ξ;have HN:Hid (∀i u,(C8 g)[i]?=C u->δ b3 (((J q 0):í).add i)=C u):=by
     intro i u h;have ap:((J q 0):í).add i=(J q i):=by unfold Addr.add;split<;>simp_all
     rw[ap];exact aj i u h
    have H1:Hid (∀u∈C8 g,u.oneCell'=τ):=by
     intro u h;unfold C8 at h;obtain⟨x,-,rfl⟩:=kZ.1 h;rfl
    have HL:Hid (Q (C8 g)=Q g*1):=(show _=_ from by simp[C8]);have ae:=O<|B.u.trans h2 Ξ;have H4:=O h4;have H5:=O H;clear HA v h2 h3 h4 H aj B;go_wp2_with (at_builtin;refine Ù _ K _ _ 80 K (V w.heap) 3 i0 (U 0) 1 8 underlying80 hi ak al am K ζ _ _ _ K af.u (J q 0) (Q g) c2 (C8 g) K HL.u HN.u H1.u ?c3 ?c4 ?c5 ?_);case c3=>simp only[Δ];omega
    case c4=>omega
    case c5=>have:=ae.u.size;omega
    intro v' aa l r _;have e3:Q c+Q g=Q (c++g):=θ;rw[e3,show C8 c++C8 g=C8 (c++g) from by simp[C8]]at l;obtain⟨a4,c4,rfl⟩:=B8 l;have a2:=O l;have R:Hid (I No w aa):=(((I.mono ae.u (S':=λk=>V w.heap<=k) å).trans (ü r) λk d x=>(A9 af.u k x.symm).1)).mono (λk d x=>W);clear l r;go_wp2;go_roundw;case rel=>
     refine⟨j+1,c++g,a4,c4,W,ï,K,R.u,a2.u,λx e=>?_,?_⟩
     .obtain e|e:=qW.1 e
      .exact IR.u x e
      .exact H4.u x e
     .show _=_;rw[a3.u,zY,t.u,H5.u,S.u]
    grind[intOf]
   .have bb:(k==10)=κ:=by simp[d]
    have S:=O<|Z.u d;have v:=O<|(y.u.alloc<|γ #[U k,Y fa (Q fs) fc,Y M (Q o) P,U a7] 99).alloc<|γ #[U (z:Int)] 3;have B:=O<|A.trans (ν No _<|γ #[U (z:Int)] 3) Ξ;clear A y CR a8 a6 ai a5 ah HU Z;go_wp2_with (at_builtin;refine Ù _ K _ _ 80 K (V w.heap) 3 i0 (U 0) 1 8 underlying80 hi ak al am K ζ _ _ _ K v.u (J (wr.heap.size+1) 0) 1 1 [U (z:Int)] K K ?c1 ?c2 ?c3 ?c4 ?c5 ?_);case c1=>
     intro i u h;match i,h with
     |0,h=>simp_all[Addr.add]
    case c2=>intro u h;simp at h;subst h;rfl
    case c3=>simp only[Δ];omega
    case c4=>omega
    case c5=>simp;omega
    intro v' aa l r _;have e3:Q c+1=Q (c++[(z:Int)]):=θ;rw[e3,show C8 c++[U (z:Int)]=C8 (c++[(z:Int)]) from by simp[C8]]at l;obtain⟨a4,c4,rfl⟩:=B8 l;have a2:=O l;have R:Hid (I No w aa):=(((I.mono B.u (S':=λk=>V w.heap<=k) å).trans (ü r) λk d x=>(A9 v.u k x.symm).1)).mono (λk d x=>W);clear l r;go_wp2;go_roundw;case rel=>
     refine⟨j+1,c++[(z:Int)],a4,c4,W,ï,K,R.u,a2.u,λx e=>?_,?_⟩
     .obtain e|e:=qW.1 e
      .exact IR.u x e
      grind
     .show _=_;rw[a3.u,zY,t.u,S.u];rfl
    grind[intOf]
  .have aw:j=Q f:=W;subst aw;rw[vZ]at t;go_wp2_with fail;go_ret;exact⟨G,F,c,K,CR.u,y.u,IR.u,t.u⟩
def Cc(c:tG T)(m):UB a b N T D m:=by
 induction m using Nat.strongRecOn<;>grind[Nat.strongRecOn,Zo]
end
theorem XH:∀(l a) (t),dd a (l++[t])=if (dd a l).any (λu=>key u==key t) then dd a l else dd a l++[t]
 |[],a,t=>Ω
 |u::r,a,t=>by
  rw[jZ,dd,dd];split<;>exact XH r _ t
def Qb(l)(k):(dd [] l).any (λu=>key u==k)=ê ((l.map key).count k≠0):=by
 rw[Bool.eq_iff_iff,List.any_eq_true,decide_eq_true_iff];constructor
 .rintro⟨u,a,e⟩;have:u∈l:=by
   obtain h|h:=GA _ _ u a
   .grind
   .omega
  grind[key,kZ,List.count_pos_iff]
 .intro h;have b:k∈l.map key:=List.count_pos_iff.1 W;obtain⟨x,c,e⟩:=kZ.1 b;obtain⟨u,a,d⟩:=FY l [] x c;grind
def ZM:Keyed ε 9:=string_keyed underlying9
def Df(l:bZ)(h:Q l<=1000000000):keyOf ε 9 (ι ⟨ξ l⟩)=C (.string l):=by
 have a:(⟨ξ l⟩:ByteArray).size<=Δ:=by simp[ByteArray.size];unfold Δ;omega
 unfold keyOf;simp_all[mapKey]
structure Seen(w:E)(q:Nat)(m:Nat)(ks:List bZ):Prop where
 own:∃n D,w.ownsMap ε 9 (plainElem (H:=Unit) ε 3) q n D/\n<=m/\IsMap D/\∀s:bZ,D.atKey (.string s) (.lit<|.int .i64 0)=.lit (.int .i64 ((ks.count s:Nat):Int))
def Seen.new(w:E):Seen (ω w<|.map #[] 0) (V w.heap) 0 []:=⟨0,.map [],World.ownsMap_made w _ _ _,vQ _,isMap_empty,λ_=>K⟩
theorem Seen.P{S}{w w'}{q m}{a}(h:Seen w q m a)(f:I S w w')(g:¬S q):Seen w' q m a:=by
 obtain⟨n,D,⟨c,b,d,e⟩,r⟩:=h.own;exact⟨n,D,⟨c,b,by rw[f.block q (aG d) g];omega,e⟩,r⟩
def Seen.look{w}{q m}{b}(h:Seen w q m b)(s)(g:Q s<=1000000000):
 (Instr.lookup 266 (.map<|C q) (ι ⟨ξ s⟩) κ).run ε w=.ok (.int .i64<|(b.count s:Nat)) w:=by
 obtain⟨n,D,e,j,i,d⟩:=h.own;obtain⟨c,f,a,_⟩:=e.lookup_int ZM underlying266 underlying3 (Tryz.lj _)<|Df s g;rw[d s]at a;simp at a;rw[a];exact f
def Seen.put{w}{q m}{a}(h:Seen w q m a)(s)(i:Q s<=1000000000)(t:m<=1000000000)(r:Q a<=200000000):
 ∃b,(Instr.mapUpdate 266 (.map<|C q) (ι ⟨ξ s⟩)<|.int .i64<|((a.count s:Nat))+1).run ε w=.ok () b/\Seen b q (m+1) (a++[s])/\I (λk=>k=q) w b:=by
 obtain⟨n,D,e,v,c,o⟩:=h.own;have p:a.count s<=Q a:=List.count_le_length;have l:(Lit.int .i64<|((a.count s:Nat):Int)+1).wf=τ:=by
  have:=U7 (a.count s+1) W;simpa using this
 obtain⟨b,g,f,d⟩:=e.update ZM underlying266 Ñ (Df s i)<|plainElem_int underlying3 l;refine⟨b,g,⟨n+1,_,f,W,c.put _ _,λu=>?_⟩,(ü d).mono λk _ x=>η⟩;by_cases j:u=s
 .subst j;rw[atKey_put_same c<|show WideAt.IsKeyLit (.string u) from trivial];simp
 grind[atKey_put_other,List.count,List.count_singleton]
def XN(b f N:Nat)(T:List Ty)(D:Dt)(g:Nat->Prop)(d:uZ)(w:E)(e:ò)(c:E):Prop:=
 ∃(r:Nat) (a:List Ty),e=π (.int .i64 r)/\Q a<=1/\r<Q (T++a)/\iK c b f N (T++a) D g/\tG (T++a)/\tr (T++a) r=mE (d.map<|cI T)/\∃v,δ w (J b 0)=C v/\I (mH b v) w c
def A6f{T}{z}(b:aX T)(c)(d:T[z].x=5):tr T z=.nd 5 [] []:=by
 obtain a|a|a|a|a:=b z c<;>simp_all[X7,wY]
section
variable{a b N:Nat}{T:List Ty}{D:Dt}
def zd{ok}(w)(hO:iK w a b N T D ok)(ch:∀g,V w.heap<=g->ok g)(hf:tG T)(e:uZ)(d8:∀x∈e,0<=x/\x<Q T)(dc:e≠[])(la)(lc)(ci:ρ w 0 3 1 (Y la (Q e) lc) (Q e)<|C8 e)(hn:Q e<=2001)(di:dW (e.map<|cI T)<=200000000)(hN:Q T+1<=N):
 μ ε 226 #[pV a,Y la (Q e) lc] w (XN a b N T D ok e w):=by
 have h:=hO.lx;have a9:=O hO;have bt:=O ch;have hT:=h.ok;have db:=@run_makeMap ε;obtain⟨i0,hi,cq,cs,ct⟩:=ý Tryz.fy;have da:=h.gm.lt;have G:I No w (ω w<|.map #[] 0):=ν _ _ _;have HA:=O (Cc hf (Q T) e (ω w<|.map #[] 0) la lc (λx d=>η) (h.y G) (ci.alloc _) W W);have SN:=O<|Seen.new w;have HS:=O<|h.y G;have bs:Hid (J8 (e.map<|cI T)≠[]):=SH ù (λt ht=>by
  obtain⟨x,d,rfl⟩:=kZ.1 ht;exact XQ _<|BR hT x.toNat η);obtain⟨S,yx,b3,dl,-⟩:=h.blk;have V0:Hid (δ w (J a 0)=C S):=(show _=_ from cr b3 K);have bi:=O G;have cg:=(aG b3);go_in;go_wp2_with fail;refine HA.u.mono ?_;rintro a3 n ⟨pa,cu,c,rfl,L,h2,h3,h4⟩;have de:=PC (ls:=e) (j:=Q e) (by rw[vZ];exact h4);simp only[World.size_alloc]at h2;have S1:=O<|SN.u.P L λx=>x;have az:=O<|HS.u.y L;have bj:=O<|bi.u.trans L Ξ;have df:V w.heap+1<=V n.heap:=by have:=L.size;simpa using this
 have FP:Hid (∀i,I (λk=>k=V w.heap) n i->ρ i 0 3 1 (Y pa (Q c) cu) (Q c) (C8 c)):=λi F=>C7 (A3 h2 F λg q x=>by have:=(A9 h2 g q).1;omega)<|wQ _;have ap:Hid (∀i,I (λk=>k=V w.heap) n i->dY i a b N T D):=by
  intro i F;refine az.u.P F (az.u.gm.P F W) λk cy a3 s _ x=>?_;obtain⟨dq,cv,⟨es,cl,hh,_⟩,_⟩:=S1.u.own;have x':=x;rw[x',hh]at s;cases s
 have FC:Hid (∀i,I (λk=>k=V w.heap) n i->I No w i):=λi F=>((bj.u.mono (S':=λk=>k=V w.heap) å).trans F Ξ).mono (λk s x=>W);have HI:=O h3;have HP:=O h4;clear L h2 h3 h4 HA SN HS;go_wp2_with fail;go_loopw [15,5] (λan u wr=>∃(j:Nat) (f:uZ) (B:Option í) (A:Nat),j<=Q c/\an=.int .i64 (j:Int)/\u=Y B (Q f) A/\Hid (I (λk=>k=V w.heap) n wr)/\Hid (wr.ownsRow (V n.heap) 3 1 (Y B (Q f) A) (Q f)<|C8 f)/\Hid (∀x∈f,0<=x/\x<(Q T:Int))/\
  Hid (Seen wr (V w.heap) j<|(c.take j).map λx=>key<|cI T x)/\Hid (f.map (cI T)=dd [] ((c.take j).map<|cI T))/\Hid (∀x∈c.take j,(cI T x).k≠5)) (λan _ _=>Q c-(intOf an).toNat);case atStart=>exact⟨0,[],none,0,wQ _,K,K,ì _ _,kW _ _ _ _,(show∀x∈([]:uZ),_ from θ),S1.u,(show _=_ from K),(show∀x∈c.take 0,_ from θ)⟩
 case round=>
  obtain⟨j,f,B,A,hj,rfl,rfl,CR,H,IR,SR,v,NR⟩:=hrel;have dj:=CR.u.size;have cz:Q f<=Q c:=by
   have p:=congrArg Q v.u;have e2:∀(a8 i:List Tr),Q (dd i a8)<=Q i+Q a8:=by
    intro a8;induction a8 with
    |nil=>grind[dd]
    |cons t r ih=>
     grind[dd]
   have e3:=e2 ((c.take j).map<|cI T) [];simp at p e3;omega
  by_cases M:j<Q c
  .have dk:=HI.u c[j]<|mQ M;have ak:cI T c[j]∈J8 (e.map<|cI T):=by rw[<-HP.u];exact kZ.2 ⟨_,mQ M,K⟩
   have cp:wg (cI T c[j])<=200000000:=by
    have p:=QL ak;have e2:=GQ (e.map<|cI T) λx _=>Am x;omega
   have d9:=mQ M;have aa:=O<|nQ M;obtain⟨g,cj,q,cd,ah,y0⟩:=D6 (FP.u wr CR.u) M;subst cj;unfold Δ at ah;generalize c[j]=xx at*;obtain⟨z,rfl⟩:∃z:Nat,xx=(z:Int):=⟨xx.toNat,W⟩;have hz:z<Q T:=W;have P:cI T (z:Int)=tr T z:=by simp[cI]
   rw[P]at cp ak;have ae:=O<|ap.u wr CR.u;obtain⟨cw,c3,cx,-,d6,-,b6⟩:=ae.u.cell;obtain⟨g3,fa,fc,dm,dp,rfl,d4,d1,a4,x0,-,-,-,-,-⟩:=b6 z hz;unfold Δ at a4;clear b6;have bh:=O λs=>A6f hT hz s;have au:Hid ((tr T z).k=T[z].x):=(show _=_ from by rw[X7 hT hz];rfl);have Z:=O (Ņ wr ae.u hf z hz W);have p:dV τ T z=key (tr T z):=K;have aj:Q (key<|tr T z)<=1000000000:=by
    have:=Ay (bn:=τ) (T:=T) (i:=z);rw[p]at this;omega
   rw[p]at Z;by_cases ai:T[z].x=5
   .generalize T[z].x=k at*;subst ai;have a2:Hid (mE (e.map<|cI T)=tr T z):=by
     show _=_;unfold mE;rw[yY<|List.any_eq_true.2 ⟨tr T z,ak,by rw[au.u];rfl⟩];exact(bh.u K).symm
    have o:=O<|FC.u wr CR.u;clear CR H SR Z;go_wp2_with fail;go_ret;exact⟨z,[],K,θ,ù,by rw[iY];exact a9.u.y o.u,ù,by rw[iY];exact a2.u.symm,S,V0.u,o.u.mono λ_ _ x=>x.elim⟩
   .have d5:(T[z].x==5)=κ:=by simp[ai]
    have ba:(tr T z).k≠5:=by rw[au.u];exact ai
    have br:=O ba;generalize T[z].x=k at*;generalize b2:key (tr T z)=l at*;have av:=O b2;clear b2;have c8:=O SR.u;have bg:=O CR.u;have b1:=O H.u;clear SR CR H ba;go_wp2_with fail;refine Z.u.mono ?_;rintro a3 dr ⟨rfl,R⟩;have a4:=bg.u.trans R å;have al:=c8.u.P R λx=>x;have dg:=R.size;have d7:=al.look l aj;obtain⟨ao,cm,am,a7⟩:=al.put l aj W â;have bb:=am.look l aj;have b7:((((c.take j).map λx=>key<|cI T x)++[l]).count l:Int)=(((c.take j).map λx=>key<|cI T x).count l:Int)+1:=θ;rw[b7]at bb;have d2:((c.take j).map λx=>key<|cI T x).count l<=200000000:=by
     have:=List.count_le_length (a:=l) (l:=(c.take j).map λx=>key<|cI T x);rw[lZ,List.length_take]at this;omega
    have bo:Hid ((dd []<|(c.take j).map<|cI T).any (λu=>key u==l)=ê (((c.take j).map λx=>key<|cI T x).count l≠0)):=by
     have:=Qb ((c.take j).map<|cI T) l;rw[List.map_map]at this;exact this
    have c6:Hid ((c.take<|j+1).map (λx=>key<|cI T x)=((c.take j).map λx=>key<|cI T x)++[l]):=by
     show _=_;rw[aa.u,zY];simp[P,av.u]
    generalize ((c.take j).map λx=>key<|cI T x).count l=af at*;have aq:=O<|a4.trans a7 Ξ;have bw:=O am;have bq:=O<|R.mono (S':=λk=>k=V w.heap) å|>.trans a7 Ξ;have dh:=a7.size;have ax:=O (A3 b1.u bq.u λg q x=>by have:=(A9 b1.u g q).1;omega);clear al am R a7 a4 b7 Z;have aw:Hid (∀x∈c.take (j+1),(cI T x).k≠5):=by
     intro x d;rw[aa.u]at d;obtain d|d:=qW.1 d
     .exact NR.u x d
     .simp at d;subst d;rw[P];exact br.u
    have b0:Hid (Seen ao (V w.heap) (j+1)<|(c.take<|j+1).map λx=>key<|cI T x):=by
     have:=bw.u;rw[<-c6.u]at this;exact this
    have ar:Hid (dd [] ((c.take<|j+1).map<|cI T)=if af≠0 then dd [] ((c.take j).map<|cI T) else dd [] ((c.take j).map<|cI T)++[tr T z]):=by
     show _=_;rw[aa.u,zY,bY,List.map_nil,P,XH,av.u,bo.u];simp only[decide_eq_true_eq]
    by_cases G:af=0
    .subst G;have ca:((0:Nat):Int)+1=1:=K;rw[ca]at cm bb;have ay:=O<|ax.u.alloc<|γ #[.int .i64 (z:Int)] 3;go_wp2_with (at_builtin;refine Ù _ K _ _ 80 K (V n.heap) 3 i0 (.int .i64 0) 1 8 underlying80 hi cq cs ct K ζ _ _ _ K ay.u (J (V ao.heap) 0) 1 1 [.int .i64 (z:Int)] K K ?c1 ?c2 ?c3 ?c4 ?c5 ?_);case c1=>
      intro a6 u m;match a6,m with
      |0,m=>simp_all[Addr.add]
     case c2=>intro u m;simp at m;subst m;rfl
     case c3=>simp only[Δ];omega
     case c4=>omega
     case c5=>simp;omega
     intro v' bf a5 b8 _;have e3:Q f+1=Q (f++[(z:Int)]):=θ;rw[e3,show C8 f++[.int .i64 (z:Int)]=C8 (f++[(z:Int)]) from by simp[C8]]at a5;obtain⟨c9,c4,rfl⟩:=B8 a5;have bu:=O a5;have b5:=ν (λk=>V n.heap<=k) ao<|γ #[.int .i64 (z:Int)] 3;have ag:=b5.trans (ü b8) λk s x=>(A9 ay.u k x.symm).1;have bm:Hid (I (λk=>k=V w.heap) n bf):=((aq.u.mono (S':=λk=>k=V w.heap\/V n.heap<=k) λ_ _ x=>.inl x).trans ag λ_ _ x=>.inr x).mono (λk s x=>W);have bx:Hid (Seen bf (V w.heap) (j+1)<|(c.take<|j+1).map λx=>key<|cI T x):=b0.u.P ag W;clear a5 b8 b5 ag;go_wp2;go_roundw;case rel=>
      refine⟨j+1,f++[(z:Int)],c9,c4,W,ï,K,bm.u,bu.u,λx d=>?_,bx.u,?_,aw.u⟩
      .obtain d|d:=qW.1 d
       .exact IR.u x d
       grind
      .show _=_;rw[ar.u,wY θ,zY,v.u];rfl
     grind[intOf]
    .have d3:((af:Int)+1==1)=κ:=â;go_wp2_with fail;go_roundw;case rel=>exact⟨j+1,f,B,A,W,ï,K,aq.u,ax.u,IR.u,b0.u,(show _=_ from by rw[ar.u,yY G,v.u]),aw.u⟩
     grind[intOf]
  .have cf:j=Q c:=W;subst cf;rw[vZ]at v NR;have o:=O<|FC.u wr CR.u;have ae:=O<|ap.u wr CR.u;have cc:(J8<|e.map<|cI T).any (λt=>t.k==5)=κ:=by
    rw[<-HP.u,List.any_map,Bool.eq_false_iff];intro d;obtain⟨x,d,a3⟩:=List.any_eq_true.1 d;exact NR.u x d η
   have a2:Hid (mE (e.map<|cI T)=match f.map (cI T) with
    |[]=>.nd 5 [] []
    |[t]=>t
    |t::u::r=>.nd 10 []<|t::u::r):=by
    show _=_;unfold mE;rw[wY η,<-HP.u,<-v.u];rfl
   have cb:f≠[]:=by
    rintro rfl;have p:=v.u;have bc:=bs.u;rw[<-HP.u]at bc;obtain⟨t,r,e2⟩:=List.exists_cons_of_ne_nil bc;obtain⟨u,m,-⟩:=FY (c.map<|cI T) [] t η;rw[<-p]at m;simp at m
   have ab:=O H.u;clear CR H SR cc;have d0:Q f<=100000000:=W;match f,cb with
   |[x],_=>
    obtain⟨g,ce,q,cd,ah,y0⟩:=D6 (ls:=[x]) (C7 ab.u<|wQ _) (j:=0) θ;subst ce;unfold Δ at ah;have d:=IR.u x θ;simp only[List.getElem_cons_zero]at y0;obtain⟨z,rfl⟩:∃z:Nat,x=(z:Int):=⟨x.toNat,W⟩;have P:cI T (z:Int)=tr T z:=by simp[cI]
    simp only[jQ,xQ,Nat.zero_add]at*;go_wp2_with fail;go_ret;exact⟨z,[],K,θ,ù,by rw[iY];exact a9.u.y o.u,ù,by rw[iY,a2.u];rfl,S,V0.u,o.u.mono λ_ _ x=>x.elim⟩
   |x::y::r,_=>
    have ht:eJ ⟨10,[],x::y::r,0⟩ (Q T):=.inr (.inr<|.inr<|.inr ⟨K,K,θ,λu m=>IR.u u m⟩);have ck:eI wr ok ⟨10,[],x::y::r,0⟩ [.int .i64 10,sN,Y B (Q (x::y::r)) A,.int .i64 0]:=⟨_,_,K,kW _ _ _ _,C7 ab.u<|wQ _,λg q=>by grind[Θ],λg q=>bt.u g<|by have:=(A9 ab.u g q).1;omega⟩;have bv:=O<|KH wr (a9.u.y o.u) ⟨10,[],x::y::r,0⟩ none B 0 0 (Q (x::y::r)) A ck ht hN;have c7:Hid (tr (T++[⟨10,[],x::y::r,0⟩]) (Q T)=mE (e.map<|cI T)):=by
     show _=_;rw[wG hT ht,a2.u];simp[cI]
    have bp:Hid (tG<|T++[⟨10,[],x::y::r,0⟩]):=by
     intro a6 hi;by_cases b9:a6<Q T
     .rw[List.getElem_append_left b9];exact hf a6 b9
     .grind
    have e0:(((Q (x::y::r):Nat):Int)==0)=κ:=â;have p:(((Q (x::y::r):Nat):Int)==1)=κ:=â;generalize Q (x::y::r)=nn at*;go_wp2_with fail;refine bv.u.mono ?_;rintro a3 ds ⟨rfl,⟨v5,be,b4⟩,bd⟩;have cn:v5=S:=by
     have e6:wr.cell? (J a 0)=C S:=by rw[World.cell?_of_block<|o.u.block a cg λx=>x];exact V0.u
     rw[be]at e6;exact xZ e6
    subst cn;have bn:=O<|(o.u.mono (S':=mH a v5) å).trans b4 Ξ;have bz:=O bd;clear b4 bd be;go_wp2;go_ret;exact⟨Q T,[⟨10,[],x::y::r,0⟩],K,θ,θ,bz.u,bp.u,c7.u,v5,V0.u,bn.u⟩
end
section
variable{j w:E}{c:Cx}{a b f i:Nat}{h k e:υ}{g:Int}{Z:List Ty}{d:uZ}
def TG(a:Nat)(w:E)(v:υ):Prop:=∀ov,δ w (J a 6)=C ov->∀l,Θ v=C l->ov.ownBlock≠C l
theorem aW.ov(p:aW j w c a b f i h k g e Z d):∃ov D,δ w (J a 6)=C ov/\w.heap[a]?=C (γ (rM c h k g b i e ov) 96 (0,0))/\ρ w (V j.heap) 3 1 ov (Q d) (C8 d)/\iK w b f 4000 (tl c Z) D (λl=>ov.ownBlock≠C l)/\∀l,V w.heap<=l->ov.ownBlock≠C l:=by
 obtain⟨ov,D,m,n,q⟩:=p.st;refine⟨ov,D,cr m K,m,n,q,λl r o=>?_⟩;have:=(n.lt l o).2;omega
def aW.sw{m}(o:aW j w c a b f i h k g e Z d)(r:KG w m){v}(A:∀l,Θ v=C l->V w.heap<=l):TG a m v:=by
 obtain⟨ov,D,t,p,u,x,y⟩:=o.ov;intro s n l z;have q:=r.2 _ _ _ _ p ζ ζ;have:s=ov:=by
  rw[ä m a 6 _ _ _ q]at n;exact(xZ n).symm
 grind
def Ĵ{T}{t}(n:Fw T)(p:Q t.M<=100000000/\Q t.eo<=2001):Fw (T++[t]):=by
 intro m o;by_cases l:m<Q T
 .rw[List.getElem_append_left l];exact n m l
 grind
def RK(s:aW j w c a b f i h k g e Z d)(t)(l o)(n m q p)(N:ρ w 0 139 2 (Y l n m) (Q t.eo)<|I0 t.eo)(R:ρ w 0 3 1 (Y o q p) (Q t.M)<|C8 t.M)(z:TG a w<|Y l n m)(A:TG a w<|Y o q p)(P:eJ t (Q (tl c Z)))(M:Q t.M<=100000000/\Q t.eo<=2001)(H:Q (tl c Z)+1<=4000):
 μ ε 58 #[pV b,.agg #[U t.x,Y l n m,Y o q p,U t.fh]] w λx v=>x=π (U<|Q (tl c Z))/\aW j v c a b f i h k g e (Z++[t]) d/\KG w v:=by
 obtain⟨ov,D,y,B,F,G,h5⟩:=s.ov;refine(KH w G t l o n m q p ⟨_,_,K,N,R,λr u=>z ov y r u,λr u=>A ov y r u⟩ P H).mono ?_;rintro x v ⟨rfl,⟨a4,T,L⟩,S⟩;obtain⟨a2,a3⟩:=s.grow T L B F S<|Ĵ s.fq M;grind
def A4e(n:aW j w c a b f i h k g e Z d)(l:uZ)(F:∀x∈l,0<=x/\x<(Q (tl c Z)))(H:l≠[])(o)(p)(L:ρ w 0 3 1 (Y o (Q l) p) (Q l)<|C8 l)(G:Q l<=2001)(P:dW (l.map<|cI<|tl c Z)<=200000000)(z:Q (tl c Z)+1<=4000):
 μ ε 226 #[pV b,Y o (Q l) p] w λs q=>∃(r:Nat) (m:List Ty),s=π (U r)/\Q m<=1/\r<Q (tl c<|Z++m)/\tr (tl c<|Z++m) r=mE (l.map<|cI<|tl c Z)/\aW j q c a b f i h k g e (Z++m) d/\KG w q:=by
 obtain⟨ov,D,R,t,u,v,y⟩:=n.ov;refine(zd w v y n.fq l F H o p L G P z).mono ?_;rintro s q ⟨r,m,rfl,S,T,M,B,ht,a4,N,A⟩;obtain⟨a2,a3⟩:=n.grow N A t u M B;grind[pY]
end
section
variable{a b N:Nat}{T:List Ty}{D:Dt}
def zj{n}(w)(f:iK w a b N T D n)(k:tG T)(M:Q T+1<=N):
 μ ε 226 #[pV a,sN] w (XN a b N T D n [] w):=by
 have h:=f.lx;have P:=h.ok;have a8:=@run_makeMap ε;have j:I No w (ω w<|.map #[] 0):=ν _ _ _;have r:=O (Cc k (Q T) [] (ω w<|.map #[] 0) none 0 (λx hx=>η) (h.y j) (kW _ _ _ _) θ<|by simp[dW]);obtain⟨q,yx,R,a9,-⟩:=h.blk;have c:Hid (δ w (J a 0)=C q):=(show _=_ from cr R K);have m:eJ ⟨5,[],[],0⟩ (Q T):=.inl ⟨ζ,ζ,K,K⟩;have z:Hid (∀u,I No w u->_):=λu hu=>KH u (f.y hu) ⟨5,[],[],0⟩ none none 0 0 0 0 ⟨_,_,K,kW _ _ _ _,kW _ _ _ _,λg Z=>by grind[Θ],λg Z=>by grind[Θ]⟩ m M;have B:Hid (tr (T++[⟨5,[],[],0⟩]) (Q T)=mE (([]:uZ).map<|cI T)):=by
  rw[wG P m];rfl
 have v:Hid (tG<|T++[⟨5,[],[],0⟩]):=by
  intro i hi;by_cases l:i<Q T
  .rw[List.getElem_append_left l];exact k i l
  .grind
 have s:=O j;go_in;go_wp2_with fail;refine r.u.mono ?_;rintro e ab ⟨pa,aa,o,rfl,H,h2,h3,L⟩;have a2:o=[]:=by
  have d:Q (o.map<|cI T)=0:=by rw[L];simp[J8]
  rw[lZ]at d;exact List.length_eq_zero_iff.1 d
 subst a2;have a7:=O<|s.u.trans H Ξ;simp;go_wp2;go_loopw [15,5] (λa6 u wr=>a6=U 0/\u=sN/\Hid (I No w wr)) (λ_ _ _=>0);case atStart=>grind
 case round=>
  obtain⟨rfl,rfl,CR⟩:=hrel;have y:=O<|z.u wr CR.u;have G:=A4 CR.u c.u;have F:=O G;go_wp2_with fail;refine y.u.mono ?_;rintro e ac ⟨rfl,⟨p,a4,S⟩,a3⟩;have a5:p=q:=by
   have:=F.u;rw[a4]at this;exact xZ this
  subst a5;have t:=O<|(CR.u.mono å).trans S Ξ;have A:=O a3;go_wp2;go_ret;exact⟨Q T,[⟨5,[],[],0⟩],K,θ,θ,A.u,v.u,B.u,p,c.u,t.u⟩
end
section
variable{e w:E}{c:Cx}{d b f i:Nat}{h l g:υ}{j:Int}{Z:List Ty}{a:uZ}{k:Of}
def Tp(n:aW e w c d b f i h l j g Z a)(y:Q (tl c Z)+1<=4000):
 μ ε 226 #[pV b,sN] w λp o=>∃(r:Nat) (m:List Ty),p=π (U r)/\Q m<=1/\r<Q (tl c<|Z++m)/\tr (tl c<|Z++m) r=mE []/\aW e o c d b f i h l j g (Z++m) a/\KG w o:=by
 obtain⟨ov,D,M,t,u,x,N⟩:=n.ov;refine(zj w x n.fq y).mono ?_;rintro p o ⟨r,m,rfl,z,q,F,B,s,v,G,A⟩;obtain⟨H,L⟩:=n.grow G A t u F B;rw[pY]at q s;exact⟨r,m,K,z,q,s,H,L⟩
def oH(e w:E)(c:Cx)(d b f i:Nat)(h l:υ)(j:Int)(g:υ)(Z:List Ty)(a:uZ)(t:Tr)(o:ò)(n:E):Prop:=
 ∃(x:Nat) (m:List Ty),o=π (U x)/\Q m<=2/\x<Q (tl c<|Z++m)/\tr (tl c<|Z++m) x=t/\aW e n c d b f i h l j g (Z++m) a/\KG w n
def xo(A:aW e w c d b f i h l j g Z a)(y)(S:∀x∈y.M,Lk c Z a k x)(hn:Q y.M<=1200)(la)(lc)(ah:ρ w 0 3 1 (Y la (Q y.M) lc) (Q y.M)<|C8 y.M)(bo:dW (y.M.map<|bB k)<=25000000)(hN:Q (tl c Z)+2<=4000):
 μ ε 172 #[pV d,eE y la lc] w (oH e w c d b f i h l j g Z a<|BL k y):=by
 unfold BL eE;obtain⟨kd,va,vb,vc,m,tx,vn,vt,vp⟩:=y;simp only at*;obtain⟨oa,oc,bn,fz,q0,q1,q2,q3,q4,q5,q6,qp,qo⟩:=A.cell;have hT:=A.ts;obtain⟨i0,av,b5,b6,b7⟩:=ý Tryz.fy;have ap:=O qo;have ao:=O q3;have H0:=O A;have HO:=O ah;have HL:=O S;have B:∀x∈m,0<=a.getD x.toNat 0/\a.getD x.toNat 0<(Q (tl c Z):Int)/\cI (tl c Z) (a.getD x.toNat 0)=bB k x:=λx D=>by
  obtain⟨a5,r,L,s,v,b3,a4⟩:=S x D;have e2:a.getD x.toNat 0=(r:Int):=by rw[s,tQ,lQ,gQ L];exact v
  rw[e2];refine⟨W,W,?_⟩;unfold cI;rw[tQ];exact a4
 have be:=O B;have T:(m.map λx=>a.getD x.toNat 0).map (cI<|tl c Z)=m.map (bB k):=by
  rw[List.map_map];exact List.map_congr_left λx D=>(B x D).2.2
 have HU:Hid (∀(u:E) (q:Option í) (p:Nat),I No w u->(m=[]->q=none/\p=0)->ρ u (V w.heap) 3 1 (Y q (Q m) p) (Q m) (C8<|m.map λx=>a.getD x.toNat 0)->μ ε 226 #[pV b,Y q (Q m) p] u λs w'=>∃(r:Nat) (n:List Ty),s=π (U (r:Int))/\Q n<=1/\r<Q (tl c<|Z++n)/\tr (tl c<|Z++n) r=mE (m.map<|bB k)/\aW e w' c d b f i h l j g (Z++n) a/\KG u w'):=λu q p t az b2=>by
  by_cases R:m=[]
  .obtain⟨rfl,rfl⟩:=az R;subst R;exact Tp (A.y t) W
  .have:=A4e (A.y t) (m.map λx=>a.getD x.toNat 0) (λx D=>by
    obtain⟨ak,hy,rfl⟩:=kZ.1 D;exact⟨(B ak hy).1,(B ak hy).2.1⟩) (by simpa using R) q p (by rw[lZ];exact C7 b2<|wQ _) (by rw[lZ];omega) (by rw[T];omega) W;rw[T,lZ]at this;exact this
 have a8:Hid (∀(u:E) (n:List Ty) (r:Nat),aW e u c d b f i h l j g (Z++n) a->Q n<=1->r<Q (tl c<|Z++n)->_):=λu n r t hX v=>RK t ⟨8,[],[],(r:Int)⟩ none none 0 0 0 0 (kW _ _ _ _) (kW _ _ _ _) (λ_ _ ar N=>by simp[Θ]at N) (λ_ _ ar N=>by simp[Θ]at N) (.inr<|.inr<|.inl ⟨K,K,K,Int.natCast_nonneg r,Int.ofNat_lt.2 v⟩) ⟨θ,θ⟩ (by rw[U8]at hN⊢;rw[qQ];omega);simp only at a8;have A1:=ν No w<|aM kd va vb vc (Y la (Q m) lc) tx vn vt vp;have al:=O A1;clear A ah S B T qp qo q0 q1 q2 q4 q5 fz A1 hT;go_in;go_wp2_with fail;go_loopw [11,5] (λa6 u wr=>∃(o:Nat) (q:Option í) (p:Nat),o<=Q m/\a6=U (o:Int)/\u=Y q o p/\Hid (o=0->q=none/\p=0)/\Hid (I No w wr)/\Hid (wr.ownsRow (V w.heap) 3 1 (Y q o p) o<|C8<|(m.take o).map λx=>a.getD x.toNat 0)) (λa6 _ _=>Q m-(intOf a6).toNat);case atStart=>exact⟨0,none,0,wQ _,K,K,λ_=>⟨K,K⟩,al.u,kW _ _ _ _⟩
 case round=>
  obtain⟨o,q,p,hj,rfl,rfl,NR,CR,F⟩:=hrel;have ai:=A4 CR.u q6;have bp:V w.heap<=wr.heap.size:=CR.u.size;by_cases P:o<Q m
  .obtain⟨g2,ay,bf,bg,ax,v0⟩:=D6 (A3 HO.u CR.u Ξ) P;subst ay;obtain⟨a5,r,L,s,v,b3,a4⟩:=HL.u m[o]<|mQ P;obtain⟨go,b1,bh,bi,bj,b0,y0,-⟩:=ap.u a5 L;subst b1;rw[v]at y0;have bd:=A4 CR.u y0;have HT:Hid ((m.take<|o+1).map (λx=>a.getD x.toNat 0)=(m.take o).map (λx=>a.getD x.toNat 0)++[(r:Int)]):=by
    show _=_;rw[nQ P,zY,List.map_singleton,s,tQ,lQ,gQ L,v];rfl
   obtain⟨a9,ab⟩:∃a9,a9=(m.take o).map (λx=>a.getD x.toNat 0):=⟨_,K⟩;rw[<-ab]at F HT;clear ab;rw[s]at v0;have au:=blt bd;have a3:=blt ai;simp only at au a3;have bm:(a5:Int)<(Q a:Int):=W;unfold Δ at ax b0;have a7:=O<|F.u.alloc<|γ #[U (r:Int)] 3;clear s v a4 y0;go_wp2_with (at_builtin;refine Ù _ K _ _ 80 K (V w.heap) 3 i0 (U 0) 1 8 underlying80 av b5 b6 b7 K ζ _ _ _ K a7.u (J wr.heap.size 0) 1 1 [U (r:Int)] K K ?c1 ?c2 ?c3 ?c4 ?c5 ?_);case c1=>
    intro b8 u t;match b8,t with
    |0,t=>simp at t;subst t;simp[Addr.add]
   case c2=>intro u t;simp at t;subst t;rfl
   case c3=>simp only[Δ];omega
   case c4=>omega
   case c5=>simp;omega
   intro v' aj a2 af _;obtain⟨aq,c4,rfl⟩:=B8 a2;have an:=O a2;have ae:I (λz=>V w.heap<=z) wr aj:=(ν (λz=>V w.heap<=z) wr<|γ #[U (r:Int)] 3).trans (ü af) λz H x=>(A9 a7.u z x.symm).1;have am:Hid (I No w aj):=((CR.u.mono (S':=λz=>V w.heap<=z) å).trans ae Ξ).mono (λz H x=>W);clear a2 af ae;go_wp2_with fail;go_roundw;case rel=>exact⟨o+1,aq,c4,W,ï,K,λs=>W,am.u,(show ρ _ _ _ _ _ _ _ from by rw[HT.u,T4];exact an.u)⟩
   case measure=>simp[intOf];omega
  .have aw:o=Q m:=W;subst aw;rw[vZ]at F;have NN:Hid (m=[]->q=none/\p=0):=λs=>NR.u (by rw[s];rfl);have ba:=A4 CR.u ao.u;have a3:=blt ba;simp only at a3;clear NR q6 ai;go_wp2_with fail;go_region_with (first
    |(go_at_call 226;refine(HU.u _ q p (B6 CR.u<|Ψ _ _ 1) NN.u<|A3 F.u (Ψ No _ 1) Ξ).mono ?_;rintro s bb ⟨r,n,rfl,hX,v,ht,G,H⟩;have bq:δ bb (J d 3)=C (pV b):=by (obtain⟨_,_,_,_,_,_,_,b9,_⟩:=G.cell;exact b9))
    |(go_at_call 58;refine(a8.u _ n r G hX v).mono ?_;rintro s bc ⟨rfl,aa,ag⟩));all_goals
    have HQ:Hid (oH e w c d b f i h l j g Z a (.nd 8 [] [mE<|m.map<|bB k]) (π<|U (Q (tl c<|Z++n):Int)) bc):=by
     have M:Z++(n++[⟨8,[],[],(r:Int)⟩])=(Z++n)++[⟨8,[],[],(r:Int)⟩]:=(qZ _ _ _).symm;have b4:=wG G.ts (t:=⟨8,[],[],(r:Int)⟩)<|.inr<|.inr<|.inl ⟨K,K,K,Int.natCast_nonneg r,Int.ofNat_lt.2 v⟩;refine⟨Q (tl c<|Z++n),n++[⟨8,[],[],(r:Int)⟩],K,?_,?_,?_,?_,((KG.y<|B6 CR.u<|Ψ _ _ 1).trans H).trans ag⟩
     .rw[qQ,Û];omega
     .rw[M,U8,U8,qQ,qQ,qQ,Û];omega
     .rw[M,<-pY,b4];simp[ht]
     .rw[M];exact aa
    clear G H aa ag ht;go_wp2_with fail;go_ret;exact HQ.u
def kL(c:Cx)(a:uZ)(x:Int):bZ×Int:=((aA c.N x).text,a.getD (aA c.N x).a.toNat 0)
def vw(hB:dO e c d b f i h g)(a3:aW e w c d b f i h l j g Z a)(s)(ac:∀x∈s.M,∃n:Nat,x=(n:Int)/\∃hj,Lk c Z a k c.N[n].a/\S6 c.N[n].text)(av:(s.M.map λx=>(aA c.N x).text).Nodup)(hn:Q s.M<=1200)(B)(D)(au:ρ w 0 3 1 (Y B (Q s.M) D) (Q s.M)<|C8 s.M)(hN:Q (tl c Z)+1<=4000):
 μ ε 171 #[pV d,eE s B D] w (oH e w c d b f i h l j g Z a<|DK c.N k s):=by
 unfold DK eE;obtain⟨kd,va,vb,vc,m,tx,vn,vt,vp⟩:=s;simp only at*;obtain⟨i0,b9,bm,bn,bo⟩:=ý Tryz.j7;have hT:=a3.ts;have H0:=O a3;have HO:=O au;have HL:=O ac;have aa:∀x∈m,0<=(kL c a x).2/\(kL c a x).2<(Q (tl c Z):Int)/\tr (tl c Z) (kL c a x).2.toNat=bB k (aA c.N x).a/\S6 (kL c a x).1:=λx hx=>by
  obtain⟨n,rfl,hj,⟨p,r,hp,z,hr,bj,ad⟩,be⟩:=ac x hx;have A:aA c.N (n:Int)=c.N[n]:=B7 hj;have e2:(kL c a (n:Int)).2=(r:Int):=by
   unfold kL;rw[A,z];show a.getD (Int.toNat (p:Int)) 0=_;rw[tQ,lQ,gQ hp];exact hr
  refine⟨W,W,?_,?_⟩
  .rw[e2,tQ,A];exact ad
  .unfold kL;rw[A];exact be
 have am:Hid (eJ ⟨7,m.map<|kL c a,[],0⟩ (Q (tl c Z))):=.inr (.inl ⟨K,K,by rw[List.map_map];exact av,λp hp=>by
  obtain⟨x,hx,rfl⟩:=kZ.1 hp;obtain⟨a1,a2,_,a4⟩:=aa x hx;exact⟨a4,a1,a2⟩⟩);have b4:Hid (tr (tl c Z++[⟨7,m.map<|kL c a,[],0⟩]) (Q (tl c Z))=.nd 7 (m.map λx=>(aA c.N x).text) (m.map λx=>bB k (aA c.N x).a)):=by
  show _=_;rw[wG hT am.u];have A:(m.map<|kL c a).map (λp=>tr (tl c Z) p.2.toNat)=m.map λx=>bB k (aA c.N x).a:=by
   rw[List.map_map];exact List.map_congr_left λx hx=>(aa x hx).2.2.1
  have e2:(m.map<|kL c a).map (·.1)=m.map λx=>(aA c.N x).text:=by
   rw[List.map_map];rfl
  simp only[A,e2];simp
 obtain⟨oa,oc,ca,fz,q0,q1,q2,q3,q4,q5,q6,qp,qo⟩:=a3.cell;have b2:=O q3;have al:=O qo;have ak:=O<|hB.fx a3.P;have c3:=hB.ok.fp;have A1:=ν No w<|aM kd va vb vc (Y B (Q m) D) tx vn vt vp;have nb:=rY w<|aM kd va vb vc (Y B (Q m) D) tx vn vt vp;have n4:δ (w.alloc<|aM kd va vb vc (Y B (Q m) D) tx vn vt vp) (J (V w.heap) 4)=C (Y B (Q m) D):=cr nb K;have ai:=O A1;have b1:=O q0;have b3:=O q6;have bt:Hid (I (SW e d b f) e w):=a3.P;clear a3 au ac aa qp qo q1 q2 q3 q4 q5 fz A1 nb hT q0 q6 av;go_in;go_wp2_with fail;have hz:=rY (w.alloc<|aM kd va vb vc (Y B (Q m) D) tx vn vt vp)<|γ #[U 7,sN,sN,U 0] 99;have Z0:=O hz;have C3:=O<|B6 ai.u<|ν No (w.alloc<|aM kd va vb vc (Y B (Q m) D) tx vn vt vp)<|γ #[U 7,sN,sN,U 0] 99;simp only[Array.size_push,World.alloc]at Z0;clear hz ai;go_loopw [13] (λag wr=>∃(n:Nat) (t:Option í) (u:Nat),n<=Q m/\ag=U (n:Int)/\Hid (I No w wr)/\Hid (wr.heap[V w.heap+1]?=C (γ #[U 7,Y t n u,sN,U 0] 99 (0,0)))/\Hid (wr.ownsRow (V w.heap) 139 2 (Y t n u) n<|I0<|(m.take n).map<|kL c a)) (λag _=>Q m-(intOf ag).toNat);case atStart=>exact⟨0,none,0,wQ _,K,C3.u,Z0.u,kW _ _ _ _⟩
 case round=>
  clear Z0 C3 n4;obtain⟨n,t,u,hj,rfl,CR,y,F⟩:=hrel;have cb:V w.heap<=wr.heap.size:=CR.u.size;have bi:=(aG y.u);by_cases a9:n<Q m
  .obtain⟨g2,bc,bw,bz,bb,v0⟩:=D6 (A3 HO.u CR.u Ξ) a9;subst bc;obtain⟨jj,z,aq,⟨p,r,hp,ea,hr,bj,ad⟩,-⟩:=HL.u m[n]<|mQ a9;obtain⟨go,bh,c6,c7,c8,bg,y0,-⟩:=al.u p hp;subst bh;rw[hr]at y0;have HT:Hid ((m.take<|n+1).map (kL c a)=(m.take n).map (kL c a)++[(c.N[jj].text,(r:Int))]):=by
    show _=_;rw[nQ a9,zY,List.map_singleton,z];unfold kL;rw[show aA c.N (jj:Int)=c.N[jj] from B7 aq,ea,tQ,lQ,gQ hp,hr];rfl
   obtain⟨a7,ap⟩:∃a7,a7=(m.take n).map (kL c a):=⟨_,K⟩;rw[<-ap]at F HT;clear ap;have bp:=A4 CR.u b1.u;have af:=A4 CR.u b3.u;have ah:=A4 CR.u y0;obtain⟨a8,nc,H,L,bf,hg,c5,bd,⟨x0,x1,x2,x3,x4,x5,x6,x7,x8⟩,-,-⟩:=ak.u.at (CR.u.ep å<|vQ _) jj aq;generalize c.N[jj]=s at*;obtain⟨G,ce,N,P,M,q,R,T,S⟩:=s;subst bf;simp only at*;subst ea;rw[z]at v0;have d0:wr.cell? (J (V w.heap+1) 1)=C (Y t n u):=cr y.u K;have zf:∀o,wr.frozen? (J (V w.heap+1) o)=κ:=λo=>æ wr _ o _ _ y.u;have aw:Θ (Y t n u)≠C (V w.heap+1):=I6 F.u y.u ζ;unfold Δ at bb bd bg;have c9:(p:Int)<(Q a:Int):=W;have bx:(jj:Int)<(Q c.N:Int):=W;have b8:=blt ah;have ab:=blt af;simp only at b8 ab;clear z hr ad y0 HL al HO;have A2:=ν No wr<|aM G (p:Int) N P (Y H (Q M) L) q R T S;have ae:=rY wr<|aM G (p:Int) N P (Y H (Q M) L) q R T S;have A:=ä _ _ 1 _ _ _ ae;have e5:=ä _ _ 5 _ _ _ ae;replace A:δ (wr.alloc<|aM G (p:Int) N P (Y H (Q M) L) q R T S) (J wr.heap.size 1)=C (U (p:Int)):=A.trans K;replace e5:δ (wr.alloc<|aM G (p:Int) N P (Y H (Q M) L) q R T S) (J wr.heap.size 5)=C (ι ⟨ξ q⟩):=e5.trans K;have cd:=A4 A2 af;have cf:=A4 A2 ah;have an:=A4 A2 d0;have bs:∀o,(wr.alloc<|aM G (p:Int) N P (Y H (Q M) L) q R T S).frozen? (J (V w.heap+1) o)=κ:=λo=>U4 bi<|zf o;have ay:V (wr.alloc<|aM G (p:Int) N P (Y H (Q M) L) q R T S).heap=wr.heap.size+1:=Array.size_push _;have aj:=O A2;clear A2 ae zf;go_wp2_with fail;clear x0 x1 x2 x3 x4 x5 x6 x7 x8 v0 bp af ah d0;generalize (wr.alloc<|aM G (p:Int) N P (Y H (Q M) L) q R T S)=v at*;have b6:=O<|((A3 F.u aj.u Ξ).drew).alloc<|γ #[ι ⟨ξ q⟩,U (r:Int)] 139;have az:(v.drew.alloc<|γ #[ι ⟨ξ q⟩,U (r:Int)] 139).heap[wr.heap.size+1]?=C (γ #[ι ⟨ξ q⟩,U (r:Int)] 139 (0,0)):=by
    have:=rY v.drew<|γ #[ι ⟨ξ q⟩,U (r:Int)] 139;rw[show V v.drew.heap=wr.heap.size+1 from ay]at this;exact this
   have b5:=O az;have bv:δ (v.alloc<|γ #[ι ⟨ξ q⟩,U (r:Int)] 139) (J (V w.heap+1) 1)=C (Y t n u):=I9 (by rw[ay];omega) an;clear az;go_region_law (
    refine step_append_lies _ Ω _ _ _ Ω (V w.heap) 139 i0 _ 2 24 underlying97 b9 bm bn bo K W (Y t n u) n (I0 a7) Ω b6.u (J (wr.heap.size+1) 0) 1 1 [ι ⟨ξ q⟩,U (r:Int)] Ω Ω (World.news_of_block (cs:=#[ι ⟨ξ q⟩,U (r:Int)]) (t:=139) (fr:=(0,0)) b5.u) (by simp[Value.oneCell']) W (by simp only[Δ];omega) W â (V v.heap+1) θ ?_;intro gg bu b0 ax a5 b7 c4;have z4:δ b0 (J (V w.heap+1) 1)=C (Y t n u):=by rw[a5.cell_far _ â<|Ne.symm aw];exact I9 (w:=v.drew) â an
    have y4:b0.frozen? (J (V w.heap+1) 1)=κ:=by rw[a5.frozen_far _ â<|Ne.symm aw];exact U4 (w:=v.drew) â<|bs 1);all_goals
    have HP:=O (KL (o:=1) (n0:=V w.heap) (w:=w) y.u W F.u ζ (I.ep CR.u å<|vQ _) (vQ _) (B6 aj.u<|B6 (Ψ No v 1)<|ν No v.drew<|γ #[ι ⟨ξ q⟩,U (r:Int)] 139) a5 ax);clear ax a5 b7;go_wp2_with fail;go_roundw;case rel=>exact⟨n+1,_,_,W,ï,(I.below HP.u.2.2.2.1).mono λcc hk x=>W,HP.u.2.2.2.2.2.1,(show ρ _ _ _ _ _ _ _ from by rw[HT.u,PD];exact HP.u.2.2.2.2.1)⟩
    case measure=>simp[intOf];omega
  .have ba:n=Q m:=W;subst ba;rw[vZ]at F;have bq:=A4 CR.u b2.u;have ab:=blt bq;simp only at ab;have d0:wr.cell? (J (V w.heap+1) 0)=C (U 7):=cr y.u K;have d1:wr.cell? (J (V w.heap+1) 1)=C (Y t (Q m) u):=cr y.u K;have d2:wr.cell? (J (V w.heap+1) 2)=C (sN):=cr y.u K;have d3:wr.cell? (J (V w.heap+1) 3)=C (U 0):=cr y.u K;have HP:Hid (∀a6,I No wr a6->μ ε 58 #[pV b,.agg #[U 7,Y t (Q m) u,sN,U 0]] a6 λz w'=>z=π (U (Q (tl c Z):Int))/\aW e w' c d b f i h l j g (Z++[⟨7,m.map<|kL c a,[],0⟩]) a/\KG a6 w'):=λa6 hu=>
    RK (H0.u.y<|B6 CR.u hu) ⟨7,m.map<|kL c a,[],0⟩ t none (Q m) u 0 0 (by
     have:=C7 (A3 F.u hu Ξ)<|wQ _;rw[lZ];exact this) (kW _ _ _ _) (H0.u.sw (KG.y<|B6 CR.u hu) λa8 hg=>(F.u.lt a8 hg).1) (λ_ _ a8 hg=>by simp[Θ]at hg) am.u ⟨θ,by rw[lZ];omega⟩ hN;clear HL HO ak;go_wp2_with fail;go_region_with (go_at_call 58;refine(HP.u _<|Ψ _ _ 1).mono ?_;rintro z br ⟨rfl,ao,ar⟩);all_goals
    have HQ:Hid (oH e w c d b f i h l j g Z a (.nd 7 (m.map λx=>(aA c.N x).text)<|m.map λx=>bB k (aA c.N x).a) (π<|U (Q (tl c Z):Int)) br):=by
     refine⟨Q (tl c Z),[⟨7,m.map<|kL c a,[],0⟩],K,θ,by rw[<-pY,qQ,Û];omega,by rw[<-pY];exact b4.u,ao,(KG.y<|B6 CR.u<|Ψ _ _ 1).trans ar⟩
    clear ao ar;go_wp2_with fail;go_ret;exact HQ.u
end
def KQ(a b:E):Prop:=V a.heap<=V b.heap/\∀(q:Nat) (c) (e) (d),a.heap[q]?=C (γ c e d)->e≠169->e≠99->e≠3->e≠96->b.heap[q]?=C (γ c e d)
theorem KQ.refl(a):KQ a a:=⟨vQ _,λ_ _ _ _ h _ _ _ _=>h⟩
theorem KQ.trans{a b c}(h:KQ a b)(k:KQ b c):KQ a c:=⟨kQ h.1 k.1,λq d e f x g i j l=>k.2 q d e f (h.2 q d e f x g i j l) g i j l⟩
def KQ.kg{a b}(h:KG a b):KQ a b:=⟨h.1,λq c e d x f g _ _=>h.2 q c e d x f g⟩
theorem KQ.y{a b}(h:I No a b):KQ a b:=.kg<|.y h
section
variable{e w:E}{c:Cx}{a f d j:Nat}{i k fv:υ}{h:Int}{Z:List Ty}{b:uZ}{l:Of}
def aW.push{w1 w2:E}{x}{ov m}(L:aW e w c a f d j i k h fv Z b)(G:δ w (J a 6)=C ov)(M:I No w w1)(R:w1.grownBy w2 ov.ownBlock)(ho:w2.ownsRow (V e.heap) 3 1 m (Q b+1)<|C8 b++[U x]){s}(a6:Θ m=ov.ownBlock\/Θ m=C s)(aa:V w.heap<=s):
 w2.cell? (J a 6)=C ov/\w2.frozen? (J a 6)=κ/\a<w2.heap.size/\aW e (w2.setCell (J a 6) m) c a f d j i k h fv Z (b++[x])/\KQ w (w2.setCell (J a 6) m):=by
 obtain⟨N,⟨q,D,t,A,v⟩,P⟩:=L;have p:q=ov:=by
  rw[ä w a 6 _ _ _ t]at G;exact xZ G
 subst p;have a4:∀{o:Nat} {y:Array υ} {p:Ò} {z:Nat×Nat},w.heap[o]?=C (γ y p z)->p≠3->C o≠Θ q:=λ{o y p z} S he n=>by
  obtain⟨_,H,F⟩:=A9 A o n.symm;grind
 have B:=(M.mono å).trans (ü R) Ξ;have u:w2.heap[a]?=C (γ (rM c i k h f j fv q) 96 (0,0)):=by
  rw[B.block a (aG t)<|a4 t ζ];exact t
 have r:I (λo=>C o=Θ q\/o=a) w (w2.setCell (J a 6) m):=(B.mono λ_ _ x=>.inl x).trans (é _ _ _) λ_ _ x=>.inr x;have T:KQ w (w2.setCell (J a 6) m):=⟨r.size,λa5 y p z hq _ _ h3 h4=>by
  rw[r.block a5 (aG hq) ?_]<;>grind⟩;have a2:¬(C d=Θ q\/d=a):=by
  rintro(n|n)
  .obtain⟨_,H,F⟩:=A9 A d n.symm;exact v.gm.tag _ _ _ F
  .subst n;exact v.gm.tag _ _ _ t
 have a3:∀g,Θ q≠C g->g<V w.heap->Θ m≠C g:=λg a7 a8 n=>η;refine⟨cr u K,æ w2 a 6 _ _ u,(aG u),⟨?_,⟨m,D,?_,?_,?_⟩,P⟩,T⟩
 .refine N.trans r ?_;rintro o S (n|rfl)
  .have:=(A9 A o n.symm).1;omega
  .exact .inl K
 .rw[ð w2 a 6 _ _ _ u];rfl
 .have:w2.ownsRow (V e.heap) 3 1 m (Q (b++[x])) (C8<|b++[x]):=by
   rw[qQ,Û,T4];exact ho
  refine A3 this (é _ _ _) λg a9 n=>?_;grind
 .refine v.P r (v.gm.P r a2) ?_ a3;grind
theorem aW.set(H:aW e w c a f d j i k h fv Z b){oc g}(A:δ w (J a 6)=C (Y (C<|J g 0) (Q b) oc))(r)(x):
 aW e (σ w (J g r)<|U x) c a f d j i k h fv Z (b.set r x)/\KQ w (σ w (J g r)<|U x):=by
 obtain⟨M,⟨S,D,u,R,v⟩,N⟩:=H;have n:S=Y (C<|J g 0) (Q b) oc:=by
  rw[ä w a 6 _ _ _ u]at A;exact xZ A
 subst n;obtain⟨T,G,P⟩:=A9 R g K;have o:I (λm=>m=g) w (σ w (J g r)<|U x):=é w (J g r)<|U x;have F:∀{m:Nat} {s:Array υ} {n:Ò} {t:Nat×Nat},w.heap[m]?=C (γ s n t)->n≠3->m≠g:=λ{m s n t} z y p=>η;refine⟨⟨M.trans o λm z p=>W,⟨Y (C<|J g 0) (Q b) oc,D,?_,?_,?_⟩,N⟩,o.size,λq s n t B _ _ L _=>by rw[o.block q (aG B)<|F B L];omega⟩
 .rw[o.block a (aG u)<|F u ζ];omega
 .grind[List.length_set,wP]
 .refine v.P o (v.gm.P o λp=>?_) ?_ λ_ x _=>x
  .subst p;exact v.gm.tag _ _ _ P
  .rintro m G n z y p;obtain rfl|rfl|⟨_,hok⟩:=y
   .grind
   .grind
   .exact hok (by rw[show m=g from p];rfl)
end
