/-
  A part of the proof.
-/
import Derived.Test.YtllclkcjdhoohaaGreatDoorYq
import Derived.Test.YtllclkcjdhoohaaGreatDoorWriteA
import Derived.Sort.Grow
set_option linter.all false
set_option maxHeartbeats 0
set_option linter.all false
set_option maxRecDepth 100000
namespace Go.Proofs.YtllclkcjdhoohaaGreatDoor
open _root_.Array renaming size->V,getElem?_eq_some_iff->ş
open Bool renaming true->τ,false->κ
open Go renaming Value->υ,Ending->ò,Calls->μ,cell_of_row->ä,heap_setCell_same->ð,frozen_of_row->æ,results->ã,bodyPost_ret->ç,Addr->í,maxLen->Δ
open Ending renaming returned->π
open Obj renaming cells->γ
open RowKit.Below renaming heap_alloc->ÿ,refl->ñ
open Value renaming slice->Y,string->ι,pointer->Γ
open World renaming cell?->δ,setCell->σ,alloc->ω,ownsRow->ρ,size_alloc->Ô
open I renaming alloc->ν,refl->ì
open List renaming length->Q,append_assoc->ľ,getElem?_eq_some_iff->Î
open Nt renaming k->õ
open Option renaming some->C
open Go.RowKit
section
variable {w:E} {B pb:Nat} {tv:υ} {L:List Tk} {ok:Nat→Prop} {d:Nat} {s:St}
def PostZ (w:E) (B pb:Nat) (tv:υ) (L:List Tk) (ok:Nat→Prop) (d:Nat) (φ:Sp→Option (Out Int)) (e:ò) (w':E):Prop:=
 Kept B ok w w'∧∃ o,Ev L φ o∧match o with
  |.ok s' _=>if (tk L s'.i).x=6 then e=rT∧aH w' B pb tv L ok d s' else e=gu 1 ((tk L s'.i).at':Int)
  |.fail er p=>e=gu er p∧er≠0
def PostF (w:E) (B pb:Nat) (tv:υ) (L:List Tk) (ok:Nat→Prop) (d:Nat) (φ:Sp→Option (Out Int)) (e:ò) (w':E):Prop:=
 Kept B ok w w'∧∃ o,Ev L φ o∧match o with
  |.ok s' _=>if (tk L s'.i).x=6 then e=π (.agg #[U 0,U 0])∧aH w' B pb tv L ok d s' else e=π (.agg #[U 1,U ((tk L s'.i).at':Int)])
  |.fail er p=>e=π (.agg #[U er,U p])∧er≠0
def PostW (w:E) (B pb:Nat) (tv:υ) (L:List Tk) (ok:Nat→Prop) (d:Nat) (φ:Sp→Option (Out Int)) (e:ò) (w':E):Prop:=
 Kept B ok w w'∧∃ o,Ev L φ o∧match o with
  |.ok s' _=>if (tk L s'.i).x=6 then (if 1200<Q s'.N∨300<Q s'.T then e=π (.agg #[U 2,U 0]) else e=π (.agg #[U 0,U 0])∧aH w' B pb tv L ok d s') else e=π (.agg #[U 1,U ((tk L s'.i).at':Int)])
  |.fail er p=>e=π (.agg #[U er,U p])∧er≠0
def whole1_any (hL:cY L) (hok:∀ g,V w.heap≤g→ok g) (hB:B≤V w.heap) (h:aH w B pb tv L ok d s) (qf qp:Nat) (hf:w.heap[qf]?=C (γ #[.func (.func 32) #[pV pb] #[]] 53 (0,0)))
 (hp:w.heap[qp]?=C (γ #[pV pb] 76 (0,0))):
 μ Tryz.prog 41 #[pV qf,pV qp] w (PostZ w B pb tv L ok d λr=>r.typ d s):=by
 have HM:=ZU hL (Q L-s.i) w ok d s (Nat.le_refl _) hok hB h;have f0:δ w (J qf 0)=C (.func (.func 32) #[pV pb] #[]):=by rw [ä w qf 0 _ _ _ hf];rfl
 have HQ:=O hp;go_enter Tryz.func41,Tryz.ntmps41;go_wp2_with fail;refine HM.mono ?_;rintro e w1 ⟨hk,o,hev,hpost⟩;have K1:=O hk;have E1:=O hev;have p0:w1.cell? (J qp 0)=C (pV pb):=(xD hk HQ.u ζ K).2;have Q1:=O (xD hk HQ.u ζ (o:=0) K).1;cases o with
 |fail er p=>
  obtain ⟨rfl,he⟩:=hpost;exact ⟨K,K1.u,_,E1.u,K,he⟩
 |ok s1 x=>
  obtain ⟨rfl,hp,hg⟩:=hpost;have HE:=B9d hL hp;have HF:=λw2 (h2:aH w2 B pb tv L ok d s1)=>vP hL h2 1;have P1:=O hp;by_cases h6:(tk L s1.i).x=6
  .have h6':decide ((tk L s1.i).x=6)=τ:=by simp [h6]
   rw [h6'] at HE;go_wp2_with fail;refine HE.mono ?_;rintro e w2 ⟨rfl,hc⟩;have P2:=O<|P1.u.y hc;have K2:=O<|K1.u.trans<|C9 hc;go_wp2;go_end0;exact ⟨K2.u,_,E1.u,by simp [h6];exact P2.u⟩
  .have h6':decide ((tk L s1.i).x=6)=κ:=by simp [h6]
   rw [h6'] at HE;go_wp2_with fail;refine HE.mono ?_;rintro e w2 ⟨rfl,hc⟩;have P2:=O<|P1.u.y hc;have K2:=O<|K1.u.trans<|C9 hc;have p1:w2.cell? (J qp 0)=C (pV pb):=(xD (C9 (B:=B) (ok:=ok) hc) Q1.u ζ K).2;go_wp2_with fail;refine (HF _ P2.u).mono ?_;rintro e w3 ⟨rfl,hc⟩;exact ⟨K,K2.u.trans<|C9 hc,_,E1.u,by show (if (tk L s1.i).x=6 then _ else _);rw [if_neg h6];rfl⟩
def fin_cells {w0 w w6:E} {q:Nat} {a b:υ} {cs:Array υ} (hq:w.heap[q]?=C (γ cs 25 (0,0))) (h:aH w B pb tv L ok d s) (ht:tv.ownBlock≠C q) (hk:Kept B ok w0 w) (hq0:V w0.heap≤q) (hcs:cs.size=2)
 (hc:I No (σ (σ w (J q 0) a) (J q 1) b) w6):w6.cell? (J q 0)=C a∧w6.cell? (J q 1)=C b∧Kept B ok w0 w6∧aH w6 B pb tv L ok d s:=by
 have h1:=ð w q 0 cs _ a hq;have h2:=ð (σ w (J q 0) a) q 1 _ _ b h1;have hlt:=(ş.1 h2).1;have h3:=hc.block q hlt λx=>x;rw [h2] at h3;refine ⟨?_,?_,((hk.f7 a hq0).f7 b hq0).trans<|C9 hc,((h.f7 a hq ht ζ).f7 b h1 ht ζ).y hc⟩
 .rw [ä w6 q 0 _ _ _ h3];grind
 .rw [ä w6 q 1 _ _ _ h3];grind
def fault_typ_any (hL:cY L) (hok:∀ g,V w.heap≤g→ok g) (hB:B≤V w.heap) (h:aH w B pb tv L ok d s) (qf qp:Nat) (hf:w.heap[qf]?=C (γ #[.func (.func 32) #[pV pb] #[]] 53 (0,0)))
 (hp:w.heap[qp]?=C (γ #[pV pb] 76 (0,0))):
 μ Tryz.prog 40 #[.func (.func 41) #[] #[pV qf,pV qp]] w (PostF w B pb tv L ok d λr=>r.typ d s):=by
 have HM:=whole1_any hL (w:=ω w<|γ #[U 0,U 0] 25) (λg hg=>hok g<|by simp at hg;omega) (by simp;omega) (h.alloc _) qf qp (by grind[ÿ]) (by grind[ÿ]);have ht2:=h.kq<|Nat.le_refl _;go_enter_defers Tryz.func40,Tryz.ntmps40;go_wp2_with fail;refine HM.mono ?_;rintro e w1 ⟨hk,o,hev,hpost⟩;obtain ⟨hb1,q0⟩:=xD hk (heap_alloc_new w _) ζ (o:=0) K;have q1:=(xD hk (heap_alloc_new w _) ζ (o:=1) K).2;have hz:=(ş.1 hb1).1;have qf':=λo=>æ w1 _ o _ _ hb1;have HB1:=O hb1;have K1:=O<|((Kept.refl B ok w).alloc _).trans hk;have E1:=O hev;cases o with
 |fail er p=>
  obtain ⟨rfl,he⟩:=hpost;unfold gu;refine leaves_cons (f:=80) (args:=#[pV (V w.heap)]) θ (by simp [go_sem]) ?_;refine (FQ (V w.heap) er p 0 0 [] _ q0 q1 qf').mono ?_;rintro e u' w2 ⟨rfl,rfl,hc,z0,z1⟩;have KX:PostF w B pb tv L ok d (λr=>r.typ d s) (π<|.agg #[U er,U p]) w2:=⟨K1.u.trans' hc λi hi hx=>W,_,E1.u,K,he⟩;simp [Leaves,settle,ã,Tryz.results40,go_sem,z0,z1];omega
 |ok s1 x=>
  by_cases h6:(tk L s1.i).x=6
  .simp only [h6,if_true] at hpost;obtain ⟨rfl,hp⟩:=hpost;have P1:=O hp;go_wp2;refine leaves_cons (f:=80) (args:=#[pV (V w.heap)]) θ (by simp [go_sem]) ?_;refine (OP (V w.heap) _).mono ?_;rintro e u' w6 ⟨rfl,rfl,hc6⟩;obtain ⟨z0,z1,k6,p6⟩:=fin_cells HB1.u P1.u ht2 K1.u (Nat.le_refl _) K hc6;have KX:PostF w B pb tv L ok d (λr=>r.typ d s) (π<|.agg #[U 0,U 0]) w6:=⟨k6,_,E1.u,η⟩;simp [Leaves,settle,ã,Tryz.results40,go_sem,z0,z1];omega
  .simp only [h6,if_false] at hpost;subst hpost;unfold gu;refine leaves_cons (f:=80) (args:=#[pV (V w.heap)]) θ (by simp [go_sem]) ?_;refine (FQ (V w.heap) 1 ((tk L s1.i).at':Int) 0 0 [] _ q0 q1 qf').mono ?_;rintro e u' w4 ⟨rfl,rfl,hc4,z0,z1⟩;have KX:PostF w B pb tv L ok d (λr=>r.typ d s) (π<|.agg #[U 1,U ((tk L s1.i).at':Int)]) w4:=⟨K1.u.trans' hc4 λi hi hx=>W,_,E1.u,η⟩;generalize ((tk L s1.i).at':Int)=pa at*;simp [Leaves,settle,ã,Tryz.results40,go_sem,z0,z1];omega
def whole_typ_any (hL:cY L) (hok:∀ g,V w.heap≤g→ok g) (hB:B≤V w.heap) (h:aH w B pb tv L ok d s):
 μ Tryz.prog 22 #[pV pb,.func (.func 32) #[pV pb] #[]] w (PostW w B pb tv L ok d λr=>r.typ d s):=by
 obtain ⟨b0,b1,b2⟩:=PH w (γ #[pV pb] 76) (γ #[.func (.func 32) #[pV pb] #[]] 53)<|γ #[U 0,U 0] 25;have HM:=fault_typ_any hL (λg hg=>hok g η) η (((h.alloc _).alloc _).alloc _) (V w.heap+1) (V w.heap) b1 b0;have ht2:tv.ownBlock≠C (V w.heap+2):=h.kq W;have B0:=O b0;have B2:=O b2;go_enter Tryz.func22,Tryz.ntmps22;go_wp2_with fail;refine HM.mono ?_;rintro e w1 ⟨hk,o,hev,hpost⟩;have K1:=O<|((((Kept.refl B ok w).alloc _).alloc _).alloc _).trans hk;have E1:=O hev;have p0:w1.cell? (J (V w.heap) 0)=C (pV pb):=(xD hk B0.u ζ K).2;obtain ⟨hb2,-⟩:=xD hk B2.u ζ (o:=0) K;have r0:=(xD hk B2.u ζ (o:=0) K).2;have r1:=(xD hk B2.u ζ (o:=1) K).2;have hz:=(ş.1 hb2).1;have rf:=λo=>æ w1 _ o _ _ hb2;have HB2:=O hb2;have hz':V w.heap<w1.heap.size:=W;cases o with
 |fail er p=>
  obtain ⟨rfl,he⟩:=hpost;have he':(er==0)=κ:=by simp [he]
  go_wp2_with fail;exact ç (v:=.agg #[U er,U p]) (by simp [ã,Tryz.results22,go_sem,r0,r1,hz]) K ⟨((K1.u.f7 _ W).f7 _ W).alloc _,_,E1.u,K,he⟩
 |ok s1 x=>
  by_cases h6:(tk L s1.i).x=6
  .simp only [h6,if_true] at hpost;obtain ⟨rfl,hp⟩:=hpost;have P1:=O hp;obtain ⟨nv,yv,nx,yx,hb,hn,hy,_⟩:=hp.blk;have hlt:=(ş.1 hb).1;obtain ⟨na,nc,rfl⟩:=B8 hn;obtain ⟨ya,yc,rfl⟩:=B8 hy;have c3:w1.cell? (J pb 3)=C (Y na (Q s1.N) nc):=by rw [ä w1 pb 3 _ _ _ hb];rfl
   have c4:w1.cell? (J pb 4)=C (Y ya (Q s1.T) yc):=by rw [ä w1 pb 4 _ _ _ hb];rfl
   clear hp hb hn hy;by_cases hN:(1200:Int)<(Q s1.N:Int)
   .have hN':1200<Q s1.N:=W;go_wp2_with fail;exact ç (v:=.agg #[U 2,U 0]) (by simp [ã,Tryz.results22,go_sem,r0,r1,hz]) K ⟨((K1.u.f7 _ W).f7 _ W).alloc _,_,E1.u,η⟩
   .have hN':¬ 1200<Q s1.N:=W;by_cases hT:(300:Int)<(Q s1.T:Int)
    .have hT':300<Q s1.T:=W;go_wp2_with fail;exact ç (v:=.agg #[U 2,U 0]) (by simp [ã,Tryz.results22,go_sem,r0,r1,hz]) K ⟨((K1.u.f7 _ W).f7 _ W).alloc _,_,E1.u,η⟩
    .have hT':¬ 300<Q s1.T:=W;go_wp2_with fail;obtain ⟨_,_,k6,p6⟩:=fin_cells (a:=U 0) (b:=U 0) HB2.u P1.u ht2 K1.u W K<|ν No _<|γ #[U 0,U 0] 25;exact ç (v:=.agg #[U 0,U 0]) (by simp [ã,Tryz.results22,go_sem,r0,r1,hz]) K ⟨k6,_,E1.u,η⟩
  .simp only [h6,if_false] at hpost;subst hpost;have XP:PostW w B pb tv L ok d (λr=>r.typ d s) (π<|.agg #[U 1,U ((tk L s1.i).at':Int)]) (ω (σ (w1.setCell (J (V w.heap+2) 0)<|U 1) (J (V w.heap+2) 1)<|U ((tk L s1.i).at':Int))<|γ #[U 1,U ((tk L s1.i).at':Int)] 25):=
    ⟨((K1.u.f7 _ W).f7 _ W).alloc _,_,E1.u,η⟩;have XH:=O XP;clear XP h6 E1;go_wp2_with fail;exact ç (v:=.agg #[U 1,U ((tk L s1.i).at':Int)]) (by simp [ã,Tryz.results22,go_sem,r0,r1,hz]) K XH.u
end
def TyAns (l:bZ) (w:E) (e:ò) (w':E):Prop:=
 Below (V w.heap) w w'∧((∃ er p,TRes l (.inl (er,p))∧e=π (.tuple #[sN,.agg #[U er,U p]]))∨
  ∃ T ad c,TRes l (.inr T)∧e=π (.tuple #[Y ad (Q T) c,.agg #[U 0,U 0]])∧pL w' (V w.heap) (Y ad (Q T) c) T)
def fin_bad {w w4:E} {l:bZ} {er p:Int} {o:Obj} (hb:Below (V w.heap) w w4) (hz:V w.heap<w4.heap.size) (ht:TRes l<|.inl (er,p)):
 TyAns l w (π<|.tuple #[sN,.agg #[U er,U p]]) ((σ (w4.setCell (J (V w.heap) 0)<|U er) (J (V w.heap) 1)<|U p).alloc o).drew:=
 ⟨(((hb.setCell θ _).setCell θ _).alloc (by simp;omega) _).drew,.inl ⟨er,p,ht,K⟩⟩
def fin_good {w w4:E} {l:bZ} {ad:Option í} {c:Nat} {T:List Ty} {yx:List υ} {cs:Array υ} {a b:υ} {o:Obj} (hb:Below (V w.heap) w w4) (hz:V w.heap<w4.heap.size) (hq:w4.heap[V w.heap]?=C (γ cs 25 (0,0)))
 (ho:w4.ownsRow (V w.heap) 99 4 (Y ad (Q T) c) (Q T) yx) (hr:eN (eI w4 λg=>V w.heap≤g) T yx) (ht:TRes l<|.inr T):
 TyAns l w (π<|.tuple #[Y ad (Q T) c,.agg #[U 0,U 0]]) ((σ (w4.setCell (J (V w.heap) 0) a) (J (V w.heap) 1) b).alloc o):=by
 have hc:I (λk=>k=V w.heap) w4 ((σ (w4.setCell (J (V w.heap) 0) a) (J (V w.heap) 1) b).alloc o):=
  ((I.set w4 (J (V w.heap) 0) a).trans (I.set _ (J (V w.heap) 1) b) λ_ _ x=>x).trans (ν No _ _) λ_ _ x=>x.elim;refine ⟨((hb.setCell θ _).setCell θ _).alloc (by simp;omega) _,.inr ⟨T,ad,c,ht,K,yx,A3 ho hc λg hg hx=>?_,hr.imp<|eI.P hc (λg _ _ hx hh=>?_) λ_ x _=>x⟩⟩
 .subst hx;obtain ⟨_,cur,hh⟩:=A9 ho _ hg;grind
 grind
def type_any (s:ByteArray) (w:E) (hs:s.size≤Δ):μ Tryz.prog 19 #[ι s] w (TyAns s.data.toList w):=by
 have HS:=λw1=>ė s w1 hs;go_enter Tryz.func19,Tryz.ntmps19;go_wp2_with fail;refine (HS _).mono ?_;clear HS;rintro e w1 ⟨ad,c,rfl,ho,hb⟩;obtain ⟨qc,qf,hz⟩:=wx (I.below hb) θ;have q0:w1.cell? (J (V w.heap) 0)=C (U 0):=qc 0 _ K;have q1:w1.cell? (J (V w.heap) 1)=C (U 0):=qc 1 _ K;have HB:=O (((ñ (V w.heap) w).alloc (Nat.le_refl _)<|γ #[U 0,U 0] 25).trans<|hb.mono θ);have HQ:=O ((hb.block (V w.heap) θ).trans<|heap_alloc_new w _);have HO:=O<|C7 ho (θ:V w.heap≤_);clear qc hb ho;by_cases he:(O8 s.data.toList).2.1=0
 .have he':((O8 s.data.toList).2.1!=0)=κ:=by simp [he]
  obtain ⟨hl1,hl0,hl2⟩:=Qz _ he;have hw1:V w.heap≤w1.heap.size:=W;have HW:=whole_typ_any (w:=ω (w1.alloc<|γ #[U 0,U ((O8 s.data.toList).2.2:Int)] 25)<|γ #[Y ad (Q (O8 s.data.toList).1) c,U 0,U 0,sN,sN] 78)
   (B:=V w.heap) (pb:=w1.heap.size+1) (ok:=λg=>V w.heap≤g) ⟨hl1,hl2⟩ (λg hg=>by simp at hg;omega) (by simp;omega) (C9e θ (by simp;omega) (λg hg=>by simp at hg;omega) hl0<|HO.u.alloc _);have HE:Hid (∀ o,Ev (O8 s.data.toList).1 (λr=>r.typ 0 ⟨0,[],[]⟩) o→Ev (O8 s.data.toList).1 (λr=>r.typ 0 ⟨0,[],[]⟩) o):=λ_ h=>h;have HZ:=O he;clear HO hl2;go_wp2_with fail;refine HW.mono ?_;clear HW;rintro e w4 ⟨hk,o,hev,hm⟩;have HQ4:Hid (w4.heap[V w.heap]?=C (γ #[U 0,U 0] 25 (0,0))):=by
   have h2:(ω (w1.alloc<|γ #[U 0,U ((O8 s.data.toList).2.2:Int)] 25)<|γ #[Y ad (Q (O8 s.data.toList).1) c,U 0,U 0,sN,sN] 78).heap[V w.heap]?=C (γ #[U 0,U 0] 25 (0,0)):=by
    rw [ÿ _ _ _<|by simp;omega,ÿ _ _ _ hz];exact HQ.u
   show _=_;rw [hk.block (V w.heap) (by simp;omega) λx=>?_]
   .exact h2
   .obtain ⟨cs,e,fz,hh,r⟩:=x.2.1;rw [h2] at hh;simp only [Option.some.injEq,Obj.cells.injEq] at hh;obtain ⟨_,rfl,_⟩:=hh;obtain r|r|r:=r<;>exact absurd r ζ
  have z4:V w.heap<w4.heap.size:=by have:=hk.size;simp at this;omega
  have B4:=O (((HB.u.alloc hw1 _).alloc (by simp;omega) _).trans<|hk.below<|by simp;omega);have E4:=O hev;have y0:w4.cell? (J (V w.heap) 0)=C (U 0):=by rw [ä w4 _ 0 _ _ _ HQ4.u];rfl
  have y1:w4.cell? (J (V w.heap) 1)=C (U 0):=by rw [ä w4 _ 1 _ _ _ HQ4.u];rfl
  have yf:∀ o,w4.frozen? (J (V w.heap) o)=κ:=λo=>æ w4 _ o _ _ HQ4.u;clear hk hev q0 q1 qf hz HB HE;cases o with
  |fail er p=>
   obtain ⟨rfl,hne⟩:=hm;have hne':(er !=0)=τ:=by simp [hne]
   have TR:=O (show TRes s.data.toList (.inl (er,p)) from ⟨hne,.inr ⟨HZ.u,.inl E4.u⟩⟩);clear E4 HQ;go_wp2_with fail;go_region;go_wp2_with fail;exact ç (v:=.tuple #[sN,.agg #[U er,U p]]) (by simp [ã,Tryz.results19,go_sem,y0,y1,z4]) K<|fin_bad B4.u z4 TR.u
  |ok s' x=>
   by_cases h6:(tk (O8 s.data.toList).1 s'.i).x=6
   .simp only [h6,if_true] at hm;by_cases hmany:1200<Q s'.N∨300<Q s'.T
    .rw [if_pos hmany] at hm;subst hm;have TR:=O (show TRes s.data.toList (.inl (2,0)) from ⟨ζ,.inr ⟨HZ.u,.inr ⟨s',x,E4.u,by rw [if_pos h6];exact ⟨hmany,K,K⟩⟩⟩⟩);clear hmany h6;have hne':((2:Int)!=0)=τ:=ζ;clear E4 HQ;go_wp2_with fail;go_region;go_wp2_with fail;exact ç (v:=.tuple #[sN,.agg #[U 2,U 0]]) (by simp [ã,Tryz.results19,go_sem,y0,y1,z4]) K<|fin_bad B4.u z4 TR.u
    .rw [if_neg hmany] at hm;obtain ⟨rfl,hp⟩:=hm;have TR:=O (show TRes s.data.toList (.inr s'.T) from ⟨HZ.u,s',x,E4.u,h6,W,W,K⟩);have PP:=O hp;obtain ⟨nv,yv,nx,yx,hb,hn,hy,hrn,hry⟩:=hp.blk;obtain ⟨ya,yc,rfl⟩:=B8 hy;have c4:w4.cell? (J (w1.heap.size+1) 4)=C (Y ya (Q s'.T) yc):=by rw [ä w4 _ 4 _ _ _ hb];rfl
     have hlt:=(ş.1 hb).1;have OO:=O hy;have RR:=O hry;clear hp hb hn hy hrn hry hmany h6 E4 HQ;go_wp2_with fail;exact ç (v:=.tuple #[Y ya (Q s'.T) yc,.agg #[U 0,U 0]]) (by simp [ã,Tryz.results19,go_sem,y0,y1,z4]) K<|fin_good B4.u z4 HQ4.u OO.u RR.u TR.u
   .simp only [h6,if_false] at hm;subst hm;have TR:=O (show TRes s.data.toList (.inl (1,((tk (O8 s.data.toList).1 s'.i).at':Int))) from ⟨ζ,.inr ⟨HZ.u,.inr ⟨s',x,E4.u,by rw [if_neg h6];exact ⟨K,K⟩⟩⟩⟩);clear h6;generalize ((tk (O8 s.data.toList).1 s'.i).at':Int)=pp at*;have hne':((1:Int)!=0)=τ:=ζ;clear E4 HQ;go_wp2_with fail;go_region;go_wp2_with fail;exact ç (v:=.tuple #[sN,.agg #[U 1,U pp]]) (by simp [ã,Tryz.results19,go_sem,y0,y1,z4]) K<|fin_bad B4.u z4 TR.u
 .have he':((O8 s.data.toList).2.1!=0)=τ:=by simp [he]
  have TR:=O (show TRes s.data.toList (.inl ((O8 s.data.toList).2.1,((O8 s.data.toList).2.2:Int))) from ⟨he,.inl ⟨K,K⟩⟩);clear HQ HO;generalize (O8 s.data.toList).2.1=er at*;generalize ((O8 s.data.toList).2.2:Int)=p at*;go_wp2_with fail;go_region;go_wp2_with fail;exact ç (v:=.tuple #[sN,.agg #[U er,U p]]) (by simp [ã,Tryz.results19,go_sem,q0,q1,hz]) K<|fin_bad HB.u hz TR.u
open Go.Proofs.Tryz
def liesBldP:liesAt Tryz.prog Tryz.prog.depth 51 (6/Tryz.prog.cellsOf 51) 0 47 1=τ:=î
def pk (nv:υ) (d:Nat):Wk:=⟨κ,51,#[nv,U (d:Int)],liesBldP,ζ⟩
abbrev ndc (n:Nd) (la:Option í) (lc:Nat):Array υ:=#[U n.x,U n.a,U n.b,U n.c,Y la (Q n.M) lc,ι ⟨n.text.toArray⟩,U n.n,U n.ty,U n.at']
section
variable {q:Pl_} {w a:E} {bn:Wk} {r:bZ} {n:Nd}
def ret_int' {a b:Int} (h:a=b):π (iv a)=π (iv b):=by rw [h]
def binds_any {la:Option í} {lc:Nat} (s:Sw_ q w bn r a):μ Tryz.prog 211 #[.agg<|ndc n la lc] a λe b=>e=π (iv<|jO n.x n.text)∧Sw_ q w bn r b:=by
 have s:=s.y<|ν _ _<|γ (ndc n la lc) 82;obtain ⟨kd,va,vb,vc,vl,tx,vn,vt,vp⟩:=n;dsimp only at*;by_cases h13:kd=13
 .subst h13;go_in;go_wp2;go_ret;exact ⟨K,s⟩
 by_cases h12:kd=12
 .subst h12;go_in;go_wp2;all_goals go_ret
  all_goals exact ⟨ret_int'<|by simp_all [jO],s⟩
 have e13:(kd==13)=κ:=by simp [h13]
 have e12:(kd !=12)=τ:=by simp [h12]
 have e:jO kd tx=5:=by simp [jO,h12,h13]
 rw [e];go_in;go_wp2;go_ret;exact ⟨K,s⟩
end
def zM_ {p:Prop} (h:p:=by
 intro w la lc o r a s0;try simp only [ľ] at s0
 have o:=O<|A3 (s0.k.own o) (ν No a<|γ (ndc n la lc) 82) λ_ _ x=>x;obtain ⟨s,f,z⟩:=Sw_.ent s0<|γ (ndc n la lc) 82;have b:=λ{w r a} (s:Sw_ q w bn r a)=>binds_any (n:=n) (la:=la) (lc:=lc) s;try rw [hb] at b
 obtain ⟨kd,va,vb,vc,vl,tx,vn,vt,vp⟩:=n;try (dsimp only at k;subst k)
 dsimp only at*;try subst h
 exact zz):p:=h
abbrev CN_ (q:Pl_) (bn:Wk) (G:Nat) (n:Nd) (X:bZ):Prop:=∀ ⦃w la lc⦄,ρ w 0 3 1 (Y la (Q n.M) lc) (Q n.M) (C8 n.M)→Cw_ q w bn G #[pq q,.agg<|ndc n la lc] X
section
variable {q:Pl_} {bn:Wk} {X Gy:bZ} {i j:Int} {n:Nd} {la:Option í} {lc:Nat}
def pget_any {nm:bZ} (c:CC q bn 142 #[pq q,iv i,iv 5] X):
 CC q bn 89 #[pq q,iv i,sv nm] (X++([46]++nm)):=zA_
def at_any' (c:CC q bn 142 #[pq q,iv i,iv 5] X) (d:CC q bn 87 #[pq q,iv j] Gy):
 CC q bn 90 #[pq q,iv i,iv j] (X++[91]++Gy++[93]):=zA_
def typeIfAny_no:CC q bn 88 #[pq q,iv<|-1] []:=zA_
def typeIfAny_yes {j:Nat} (c:CC q bn 20 #[pq q,iv j] X):CC q bn 88 #[pq q,iv j] ([58,32]++X):=zA_
def when_any {wd:bZ} (c:CC q bn 87 #[pq q,iv n.a] X) (d:CC q bn 47 #[pq q,iv n.b] Gy):∀ ⦃w la lc⦄,ρ w 0 3 1 (Y la (Q n.M) lc) (Q n.M) (C8 n.M)→Cw_ q w bn 46 #[pq q,sv wd,.agg<|ndc n la lc] (wd++[32,40]++X++[41,32]++Gy):=zM_
def line_let (k:n.x=17) (c:CC q bn 88 #[pq q,iv n.ty] X) (d:CC q bn 87 #[pq q,iv n.a] Gy):CN_ q bn 48 n ([108,101,116,32]++n.text++X++[32,61,32]++Gy):=zM_
def line_set (k:n.x=18) (c:CC q bn 87 #[pq q,iv n.a] X):CN_ q bn 48 n (n.text++[32,61,32]++X):=zM_
def line_put (k:n.x=19) (c:CC q bn 89 #[pq q,iv n.a,sv n.text] X) (d:CC q bn 87 #[pq q,iv n.b] Gy):CN_ q bn 48 n (X++[32,61,32]++Gy):=zM_
def line_lay (k:n.x=20) (c:CC q bn 90 #[pq q,iv n.a,iv n.b] X) (d:CC q bn 87 #[pq q,iv n.c] Gy):CN_ q bn 48 n (X++[32,61,32]++Gy):=zM_
def line_print (k:n.x=21) (c:CC q bn 87 #[pq q,iv n.a] X):CN_ q bn 48 n ([112,114,105,110,116,32]++X):=zM_
def line_return (k:n.x=24) (c:CC q bn 87 #[pq q,iv n.a] X):CN_ q bn 48 n ([114,101,116,117,114,110,32]++X):=zM_
def line_do (k:n.x=25) (c:CC q bn 87 #[pq q,iv n.a] X):CN_ q bn 48 n X:=zM_
def stmt_line (h2:(n.x==22)=κ) (h3:(n.x==23)=κ) (c:CN_ q bn 48 n X):CN_ q bn 25 n (X++[59]):=zM_
def stmt_if (k:n.x=22) (h:n.c=-1) (c:∀ ⦃w la lc⦄,ρ w 0 3 1 (Y la (Q n.M) lc) (Q n.M) (C8 n.M)→Cw_ q w bn 46 #[pq q,sv [105,102],.agg<|ndc n la lc] X):CN_ q bn 25 n X:=zM_
def stmt_else (k:n.x=22) (h:0≤n.c) (c:∀ ⦃w la lc⦄,ρ w 0 3 1 (Y la (Q n.M) lc) (Q n.M) (C8 n.M)→Cw_ q w bn 46 #[pq q,sv [105,102],.agg<|ndc n la lc] X) (d:CC q bn 47 #[pq q,iv n.c] Gy):CN_ q bn 25 n (X++[32,101,108,115,101,32]++Gy):=zM_
def stmt_while (k:n.x=23) (c:∀ ⦃w la lc⦄,ρ w 0 3 1 (Y la (Q n.M) lc) (Q n.M) (C8 n.M)→Cw_ q w bn 46 #[pq q,sv [119,104,105,108,101],.agg<|ndc n la lc] X):CN_ q bn 25 n X:=zM_
def simple_num (k:n.x=1) (c:∀ {w r a},Sw_ q w bn r a→μ Tryz.prog 182 #[iv n.n] a λe b=>e=π (sv X)∧Sw_ q w bn r b):CN_ q bn 144 n X:=zM_
def simple_text (k:n.x=2):CN_ q bn 144 n ([34]++n.text++[34]):=zM_
def simple_bool (k:n.x=3) (c:∀ {w r a},Sw_ q w bn r a→μ Tryz.prog 183 #[.bool<|n.n==1] a λe b=>e=π (sv X)∧Sw_ q w bn r b):CN_ q bn 144 n X:=zM_
def simple_null (k:n.x=4):CN_ q bn 144 n [110,117,108,108]:=zM_
def simple_var (k:n.x=5):CN_ q bn 144 n n.text:=zM_
def simple_fn (k:n.x=6) (c:CN_ q bn 213 n X):CN_ q bn 144 n X:=zM_
def simple_obj (k:n.x=10) (c:∀ ⦃w la lc⦄,ρ w 0 3 1 (Y la (Q n.M) lc) (Q n.M) (C8 n.M)→Cw_ q w bn 214 #[pq q,Y la (Q n.M) lc] X):CN_ q bn 144 n X:=zM_
def simple_arr (k:n.x=11) (c:∀ ⦃w la lc⦄,ρ w 0 3 1 (Y la (Q n.M) lc) (Q n.M) (C8 n.M)→Cw_ q w bn 143 #[pq q,sv [91],Y la (Q n.M) lc,sv [93]] X):CN_ q bn 144 n X:=zM_
def one_any (c:CC q bn 142 #[pq q,iv n.a,iv 4] X):CN_ q bn 141 n (n.text++((if n.text=[116,121,112,101,111,102] then [32] else [])++X)):=by
 by_cases k:n.text=[116,121,112,101,111,102]
 .rw [if_pos k];exact zM_
 .rw [if_neg k];have k2:(n.text==[116,121,112,101,111,102])=κ:=by simpa using k
  exact zM_
def two_1 (hb:jO n.x n.text=1) (c:CC q bn 142 #[pq q,iv n.a,iv 2] X) (d:CC q bn 142 #[pq q,iv n.b,iv 2] Gy):CN_ q bn 140 n (X++([32]++n.text++[32])++Gy):=zM_
def two_2 (hb:jO n.x n.text=2) (c:CC q bn 142 #[pq q,iv n.a,iv 2] X) (d:CC q bn 142 #[pq q,iv n.b,iv 3] Gy):CN_ q bn 140 n (X++([32]++n.text++[32])++Gy):=zM_
def two_3 (hb:jO n.x n.text=3) (c:CC q bn 142 #[pq q,iv n.a,iv 3] X) (d:CC q bn 142 #[pq q,iv n.b,iv 4] Gy):CN_ q bn 140 n (X++([32]++n.text++[32])++Gy):=zM_
end
section
variable {q:Pl_} {w a:E} {bn:Wk} {r:bZ} {d j:Nat} {n:Nd}
theorem Sw_.nd (s:Sw_ q w (pk q.nv d) r a) (hn:q.N[j]?=C n):∃ g la lc nc,q.nv=Y (C<|J g 0) (Q q.N) nc∧δ a (J q.wb 4)=C (Y (C<|J g 0) (Q q.N) nc)∧g<V a.heap∧j<Q q.N∧Q q.N≤nc∧nc≤9223372036854775807∧δ a (J g<|j*9)=C (iv n.x)∧δ a (J g<|j*9+1)=C (iv n.a)∧δ a (J g<|j*9+2)=C (iv n.b)∧δ a (J g<|j*9+3)=C (iv n.c)∧
 δ a (J g<|j*9+4)=C (Y la (Q n.M) lc)∧δ a (J g<|j*9+5)=C (sv n.text)∧δ a (J g<|j*9+6)=C (iv n.n)∧δ a (J g<|j*9+7)=C (iv n.ty)∧δ a (J g<|j*9+8)=C (iv n.at')∧
 Hid (ρ a 0 3 1 (Y la (Q n.M) lc) (Q n.M)<|C8 n.M):=by
 obtain ⟨hj,rfl⟩:=Î.1 hn;obtain ⟨nx,ho,hr⟩:=s.n;obtain ⟨_,⟨_,p,v,hb,_⟩,_⟩:=s.w;obtain ⟨na,nc,e⟩:=B8 ho;rw [e] at ho;obtain ⟨g,rfl,_,hg,hc1,hc2,hcell⟩:=D5 ho W;obtain ⟨xs,ht,hx⟩:=eN.at (z:=9) (λ_ _ h=>h.len) j hj hr;obtain ⟨lv,rfl,ho2,_⟩:=ht;obtain ⟨la,lc,rfl⟩:=B8 ho2;unfold Δ at hc2;have c4:=ä a q.wb 4 _ _ _ hb;refine ⟨g,la,lc,nc,e,by rw [c4,← e];rfl,hg,hj,hc1,W,?_,?_,?_,?_,?_,?_,?_,?_,?_,ho2⟩;all_goals refine hcell _ _ ?_
 .simpa using hx 0
 .simpa using hx 1
 .simpa using hx 2
 .simpa using hx 3
 .simpa using hx 4
 .simpa using hx 5
 .simpa using hx 6
 .simpa using hx 7
 .simpa using hx 8
end
def zE_ {p:Prop} (h:p:=by
 intro w r a s0;try simp only [ľ] at s0
 obtain ⟨g,la,lc,nc,-,c4,hg,hj,h1,h2,x0,x1,x2,x3,x4,x5,x6,x7,x8,o⟩:=s0.nd hn;obtain ⟨s,f,z⟩:=Sw_.ent s0<|γ (ndc n la lc) 82;have o:=O<|A3 o.u (ν No a<|γ (ndc n la lc) 82) λ_ _ x=>x;clear hn;have hl:=s0.lt;obtain ⟨kd,va,vb,vc,vl,tx,vn,vt,vp⟩:=n;try (dsimp only at k;subst k)
 dsimp only at*;exact zz):p:=h
section
variable {q:Pl_} {bn:Wk} {X Gy:bZ} {dd j:Nat} {n:Nd}
def expr_two (hn:q.N[j]?=C n) (k:n.x=12) (c:CN_ q (pk q.nv dd) 140 n X):CC q (pk q.nv dd) 87 #[pq q,iv j] X:=zE_
def expr_one (hn:q.N[j]?=C n) (k:n.x=13) (c:CN_ q (pk q.nv dd) 141 n X):CC q (pk q.nv dd) 87 #[pq q,iv j] X:=zE_
def expr_call (hn:q.N[j]?=C n) (k:n.x=7) (c:CC q (pk q.nv dd) 142 #[pq q,iv n.a,iv 5] X) (d:∀ ⦃w la lc⦄,ρ w 0 3 1 (Y la (Q n.M) lc) (Q n.M) (C8 n.M)→Cw_ q w (pk q.nv dd) 143 #[pq q,sv [40],Y la (Q n.M) lc,sv [41]] Gy):CC q (pk q.nv dd) 87 #[pq q,iv j] (X++Gy):=zE_
def expr_get (hn:q.N[j]?=C n) (k:n.x=8) (c:CC q (pk q.nv dd) 89 #[pq q,iv n.a,sv n.text] X):CC q (pk q.nv dd) 87 #[pq q,iv j] X:=zE_
def expr_at (hn:q.N[j]?=C n) (k:n.x=9) (c:CC q (pk q.nv dd) 90 #[pq q,iv n.a,iv n.b] X):CC q (pk q.nv dd) 87 #[pq q,iv j] X:=zE_
def expr_as (hn:q.N[j]?=C n) (k:n.x=14) (c:CC q (pk q.nv dd) 142 #[pq q,iv n.a,iv 5] X) (d:CC q (pk q.nv dd) 20 #[pq q,iv n.ty] Gy):CC q (pk q.nv dd) 87 #[pq q,iv j] (X++[32,97,115,32]++Gy):=zE_
def expr_simple (hn:q.N[j]?=C n) (h12:(n.x==12)=κ) (h13:(n.x==13)=κ) (h7:(n.x==7)=κ) (h8:(n.x==8)=κ) (h9:(n.x==9)=κ) (h14:(n.x==14)=κ) (c:CN_ q (pk q.nv dd) 144 n X):CC q (pk q.nv dd) 87 #[pq q,iv j] X:=zE_
def within_any (hn:q.N[j]?=C n) {least:Nat} (c:CC q (pk q.nv dd) 87 #[pq q,iv j] X):CC q (pk q.nv dd) 142 #[pq q,iv j,iv least] (if least≤jO n.x n.text then X else [40]++X++[41]):=by
 intro w r a s;obtain ⟨g,la,lc,nc,-,c4,hg,hj,h1,h2,x0,x1,x2,x3,x4,x5,x6,x7,x8,-⟩:=s.nd hn;have hl:=s.lt;have b:=λ{w r a} (s:Sw_ q w (pk q.nv dd) r a)=>binds_any (n:=n) (la:=la) (lc:=lc) s;clear hn;generalize jO n.x n.text=m at*;by_cases h:least≤m
 .rw [if_pos h] at s;have h:(least:Int)≤m:=W;exact zz
 .rw [if_neg h] at s;have h:¬ (least:Int)≤m:=W;simp only [ľ] at s;exact zz
end
def zC_ {p:Prop} (h:p:=by
 intro r a s0;try simp only [ľ] at s0
 obtain ⟨y1,l1⟩:=s0.loc f;obtain ⟨y2,l2⟩:=s0.loc g;obtain ⟨gi,rfl,hg1,hg2,hg3,hc⟩:=D6 (s0.k.own o) hk;unfold Δ at hg3;rw [hz] at hc;obtain ⟨gn,na,nc,ncap,-,c4,hg,hj,h1,h2,x0,x1,x2,x3,x4,x5,x6,x7,x8,-⟩:=s0.nd hn;have g:=s0.blk f;obtain ⟨s,f,z⟩:=Sw_.entd s0<|γ (ndc n na nc) 82;have g:=z.at g;have hl:=s0.lt;clear hn hz o;obtain ⟨kd,va,vb,vc,vl,tx,vn,vt,vp⟩:=n;dsimp only at*;go_in;go_wp2_with fail;go_region;obtain ⟨y,l⟩:=s.loc f;obtain ⟨y',l'⟩:=s.loc g;clear x0 x1 x2 x3 x4 x5 x6 x7 x8 y1 y2 c4 hc;generalize hA:(a.alloc<|γ (ndc ⟨kd,va,vb,vc,vl,tx,vn,vt,vp⟩ na nc) 82).drew=A at*;clear hA;exact zB_):p:=h
section
variable {q:Pl_} {Gw:E} {bn:Wk} {X Gy:bZ} {d k qx ql:Nat} {ls:uZ} {la:Option í} {lc:Nat} {n:Nd}
def prow1 (f:Hid<|Gw.heap[qx]?=C (γ #[pq q] 43 (0,0))) (g:Hid<|Gw.heap[ql]?=C (γ #[Y la (Q ls) lc] 80 (0,0))) (o:Gw.ownsRow 0 3 1 (Y la (Q ls) lc) (Q ls)<|C8 ls) (hk:k<Q ls) (c:CC q bn 87 #[pq q,iv ls[k]] X):
 Cw_ q Gw bn 212 #[iv k,pV qx,pV ql] X:=by
 intro r a s;obtain ⟨y1,l1⟩:=s.loc f;obtain ⟨y2,l2⟩:=s.loc g;obtain ⟨gi,rfl,hg1,hg2,hg3,hc⟩:=D6 (s.k.own o) hk;unfold Δ at hg3;generalize ls[k]=z at*;exact zz
def pobj1 {z:Nat} (f:Hid<|Gw.heap[qx]?=C (γ #[pq q] 43 (0,0))) (g:Hid<|Gw.heap[ql]?=C (γ #[Y la (Q ls) lc] 80 (0,0))) (o:Gw.ownsRow 0 3 1 (Y la (Q ls) lc) (Q ls)<|C8 ls) (hk:k<Q ls) (hz:ls[k]=(z:Int)) (hn:q.N[z]?=C n) (c:CC q (pk q.nv d) 87 #[pq q,iv n.a] X):
 Cw_ q Gw (pk q.nv d) 254 #[iv k,pV qx,pV ql] (n.text++[58,32]++X):=zC_
def pfun1 {z:Nat} {m:Nd} (f:Hid<|Gw.heap[qx]?=C (γ #[pq q] 43 (0,0))) (g:Hid<|Gw.heap[ql]?=C (γ (ndc m la lc) 82 (0,0))) (o:Gw.ownsRow 0 3 1 (Y la (Q m.M) lc) (Q m.M)<|C8 m.M) (hk:k<Q m.M) (hz:m.M[k]=(z:Int)) (hn:q.N[z]?=C n) (c:CC q (pk q.nv d) 88 #[pq q,iv n.ty] X):
 Cw_ q Gw (pk q.nv d) 253 #[iv k,pV qx,pV ql] (n.text++X):=zC_
end
def zL_ {p:Prop} (h:p:=by
 intro w la lc o r a s0;try simp only [ľ] at s0
 have o:=s0.k.own o;obtain ⟨s,f,g,z⟩:=Sw_.ent2 s0 (γ #[pq q] 43)<|γ #[Y la (Q n.M) lc] 80;have d:=roww _ (λ_ _=>ũ) [44,32] hm λj h=>c f g (A3 o z λ_ _ x=>x) j h;rw [hL] at d;clear o c hL;generalize jn [44,32] κ L=T at*;exact zz):p:=h
section
variable {q:Pl_} {bn:Wk} {X Gy bg en:bZ} {d m:Nat} {n:Nd} {L:List bZ}
def prow_any (hL:Q L=Q n.M) (hm:Q L≤1000000000) (c:∀ j (h:j<Q L),CC q bn 87 #[pq q,iv<|n.M[j]'(hL ▸ h)] L[j]):∀ ⦃w la lc⦄,ρ w 0 3 1 (Y la (Q n.M) lc) (Q n.M) (C8 n.M)→Cw_ q w bn 143 #[pq q,sv bg,Y la (Q n.M) lc,sv en] (bg++jn [44,32] κ L++en):=by
 replace c:∀ {Gw la lc qx ql},Hid (Gw.heap[qx]?=C (γ #[pq q] 43 (0,0)))→Hid (Gw.heap[ql]?=C (γ #[Y la (Q n.M) lc] 80 (0,0)))→Gw.ownsRow 0 3 1 (Y la (Q n.M) lc) (Q n.M) (C8 n.M)→∀ j (h:j<Q L),Cw_ q Gw bn 212 #[iv j,pV qx,pV ql] L[j]:=λf g o j h=>prow1 f g o (hL ▸ h)<|c j h;exact zL_
abbrev Pts (q:Pl_) (l:uZ) (L:List bZ) (H:Nd→bZ→Prop):Prop:=∀ j (h:j<Q L),∃ (z:Nat) (n:Nd),l[j]?=C (z:Int)∧q.N[z]?=C n∧H n L[j]
def pobj_any (hL:Q L=Q n.M) (hm:Q L≤1000000000) (c:Pts q n.M L λn x=>∃ X,x=n.text++[58,32]++X∧CC q (pk q.nv d) 87 #[pq q,iv n.a] X):∀ ⦃w la lc⦄,ρ w 0 3 1 (Y la (Q n.M) lc) (Q n.M) (C8 n.M)→Cw_ q w (pk q.nv d) 214 #[pq q,Y la (Q n.M) lc] (if Q L=0 then [123,125] else [123,32]++jn [44,32] κ L++[32,125]):=by
 replace c:∀ {Gw la lc qx ql},Hid (Gw.heap[qx]?=C (γ #[pq q] 43 (0,0)))→Hid (Gw.heap[ql]?=C (γ #[Y la (Q n.M) lc] 80 (0,0)))→Gw.ownsRow 0 3 1 (Y la (Q n.M) lc) (Q n.M) (C8 n.M)→∀ j (h:j<Q L),Cw_ q Gw (pk q.nv d) 254 #[iv j,pV qx,pV ql] L[j]:=λf g o j h=>by
  obtain ⟨z,n',hz,hn,X,e,c⟩:=c j h;obtain ⟨hj,hz⟩:=Î.1 hz;rw [e];exact pobj1 f g o hj hz hn c
 by_cases h:Q L=0
 .rw [if_pos h];have h:Q n.M=0:=W;clear c;intro w la lc _ r a s0;obtain ⟨s,f,g,z⟩:=Sw_.ent2 s0 (γ #[pq q] 43)<|γ #[Y la (Q n.M) lc] 80;rw [h] at*;exact zz
 .rw [if_neg h];have h:((Q n.M:Int)==0)=κ:=by rw [← hL];simp;rintro rfl;exact h K
  exact zL_
def pfun_any (hL:Q L=Q n.M) (hm:Q L≤1000000000) (p:Pts q n.M L λn x=>∃ X,x=n.text++X∧CC q (pk q.nv d) 88 #[pq q,iv n.ty] X) (c:CC q (pk q.nv d) 88 #[pq q,iv n.ty] X) (b:CC q (pk q.nv d) 47 #[pq q,iv n.a] Gy):CN_ q (pk q.nv d) 213 n ([102,110,40]++jn [44,32] κ L++[41]++X++[32]++Gy):=by
 intro w la lc o r a s0;simp only [ľ] at s0;have o:=s0.k.own o;obtain ⟨s,f,g,z⟩:=Sw_.ent2 s0 (γ #[pq q] 43)<|γ (ndc n la lc) 82;have d:=roww 253 (λ_ _=>ũ) [44,32] hm λj h=>by
  obtain ⟨z',n',hz,hn,X,e,c⟩:=p j h;obtain ⟨hj,hz⟩:=Î.1 hz;rw [e];exact pfun1 f g (A3 o z λ_ _ x=>x) hj hz hn c
 rw [hL] at d;clear o p hL;generalize jn [44,32] κ L=T at*;obtain ⟨kd,va,vb,vc,vl,tx,vn,vt,vp⟩:=n;dsimp only at*;exact zz
def Sw_.pd {w a:E} {r:bZ} (s:Sw_ q w (pk q.nv d) r a):δ a (J q.wb 5)=C (iv d)∧(∀ o,a.frozen? (J q.wb o)=κ)∧q.wb<V a.heap:=by
 obtain ⟨_,⟨_,p,v,hb,_⟩,_⟩:=s.w;exact ⟨ä a q.wb 5 _ _ _ hb,λo=>æ a q.wb o _ _ hb,s.lt⟩
def Sw_.deep {w a:E} {r:bZ} (s:Sw_ q w (pk q.nv d) r a) (d':Nat):Sw_ q w (pk q.nv d') r (σ a (J q.wb 5)<|iv d'):=by
 obtain ⟨bs,⟨hB,p,v,hb,hp,ho,hv⟩,e⟩:=s.w;refine s.step (cG.set hB 5 _ hb) ⟨hB,p,v,by rw [ð a q.wb 5 _ _ _ hb];rfl,hp,A3 ho (I.set a _ _) λk hk hx=>?_,hv⟩ e;have hx':k=q.wb:=hx;subst hx';exact by_ne hb ho hk
def margin_any (hd:d≤1000000):CC q (pk q.nv d) 24 #[pq q] (mg d):=by
 intro w r a s;obtain ⟨c5,-,hl⟩:=s.pd;go_in;go_wp2_with fail;go_loopw [6] (λv wr=>∃ j:Nat,j≤d∧v=iv j∧Sw_ q w (pk q.nv d) (mg (d-j)++r) wr) (λv _=>d-(intOf v).toNat);case atStart=>exact ⟨0,Nat.zero_le _,K,s⟩
 case round=>
  obtain ⟨j,hj,rfl,s⟩:=hrel;by_cases hjl:j<d
  .have e:mg (d-j)=[32,32]++mg (d-(j+1)):=by rw [show d-j=d-(j+1)+1 by omega];rfl
   rw [e,ľ] at s;go_wp2_with (refine (Jc s).mono ?_;rintro e w1 ⟨rfl,s⟩);go_roundw;case rel=>exact ⟨j+1,W,ï,s⟩
   case measure=>simp [intOf];omega
  .have hje:j=d:=W;subst hje;rw [Nat.sub_self] at s;go_wp2_with fail;go_end0;exact ⟨K,s⟩
def lns (d:Nat) (L:List bZ):bZ:=L.flatMap λx=>mg d++(x++[10])
def statements_any {z:Nat} (hd:d≤1000000) (hn:q.N[z]?=C n) (hL:Q L=Q n.M) (c:Pts q n.M L λn x=>CN_ q (pk q.nv d) 25 n x):CC q (pk q.nv d) 12 #[pq q,iv z] (lns d L):=by
 intro w r a s0;obtain ⟨g,la,lc,nc,-,c4,hg,hj,h1,h2,x0,x1,x2,x3,x4,x5,x6,x7,x8,o⟩:=s0.nd hn;have hl:=s0.lt;have s:=s0.base;have S0:=O s0;have M:=O c;clear s0 c hn x0 x1 x2 x3 x5 x6 x7 x8;generalize n.M=ls at*;have hL:=O hL;go_in;go_wp2_with fail;go_loopw [15] (λv wr=>∃ j:Nat,j≤Q ls∧v=iv j∧Sw_ q a (pk q.nv d) (lns d (L.drop j)++r) wr) (λv _=>Q ls-(intOf v).toNat);case atStart=>exact ⟨0,Nat.zero_le _,K,s⟩
 case round=>
  obtain ⟨j,hj,rfl,s⟩:=hrel;by_cases hjl:j<Q ls
  .have hjL:j<Q L:=by rw [hL.u];exact hjl
   obtain ⟨y,n',hz,hn,c⟩:=M.u j hjL;obtain ⟨gi,rfl,hg1,hg2,hg3,hc⟩:=D6 (s.k.own o.u) hjl;rw [(Î.1 hz).2] at hc;unfold Δ at hg3;rw [List.drop_eq_getElem_cons hjL,lns,List.flatMap_cons,ľ,ľ] at s;generalize L[j]=x at*;simp only [ľ] at s;have hl:=s.lt;clear hz hjL;go_wp2_with fail;refine (margin_any hd s).mono ?_;rintro e a1 ⟨rfl,s⟩;obtain ⟨g',la',lc',nc',-,c4',hg',hj',h1',h2',x0,x1,x2,x3,x4',x5,x6,x7,x8,o'⟩:=s.nd hn;have s':=s.base;have hl:=s.lt;clear hn;obtain ⟨kd,va,vb,vc,vl,tx,vn,vt,vp⟩:=n';dsimp only at*;go_wp2_with ((first|refine (c o'.u s').mono ?_|refine (Jc s').mono ?_);rintro e a ⟨rfl,s'⟩);have s:=Sw_.back s (ì _ _) s';go_roundw;case rel=>exact ⟨j+1,W,ï,s⟩
   case measure=>simp [intOf];omega
  .have hje:j=Q ls:=W;subst hje;rw [List.drop_eq_nil_of_le<|by rw [hL.u];exact Nat.le_refl _] at s;go_wp2_with fail;go_end0;exact ⟨K,Sw_.back S0.u (ì _ _) s⟩
def pblock_any {i:Int} (hd:d+1≤1000000) (c:CC q (pk q.nv<|d+1) 12 #[pq q,iv i] X):CC q (pk q.nv d) 47 #[pq q,iv i] ([123,10]++X++mg d++[125]):=by
 intro w r a s;simp only [ľ] at s;have e5:((d+1:Nat):Int)=(d:Int)+1:=W;have e6:(d:Int)+1-1=(d:Int):=W;go_in;go_wp2_with fail;refine (Jc s).mono ?_;rintro e a ⟨rfl,s⟩;obtain ⟨c5,fz,hlt⟩:=s.pd;have s:=s.deep<|d+1;rw [e5] at s;go_wp2_with fail;refine (c s).mono ?_;rintro e a ⟨rfl,s⟩;obtain ⟨c5,fz,hlt⟩:=s.pd;rw [e5] at c5;have s:=s.deep d;go_wp2_with fail;refine (margin_any W s).mono ?_;rintro e a ⟨rfl,s⟩;go_wp2_with fail;refine (Jc s).mono ?_;rintro e a ⟨rfl,s⟩;go_wp2;go_end0;exact ⟨K,s⟩
end
theorem join_jn (sep:bZ):∀ cs:List Pc,CN sep cs=jn sep κ (cs.map (·.s))
 |[]=>K
 |[c]=>by simp [CN,jn]
 |c::c'::r=>by simp [CN,jn,join_jn sep<|c'::r]
theorem prL_s (d:Nat) (ps:List Nt):(EU d ps).map (·.s)=ps.map (pr d):=by simp [prL_map]
theorem lines_lns (d:Nat) (ps:List Nt):We d (EU d ps)=lns d (ps.map<|pr d):=by simp [We,lns,prL_map,List.flatMap_map]
structure Okt (q:Pl_) (d m:Nat) (t:Nt) (i:Int):Prop where
 s:uD t≤m
 d:d+uD t≤1000000
 g:Gd t
 a:At q.N q.T t i
def PE_ (q:Pl_) (m:Nat):Prop:=∀ ⦃t i d⦄,Okt q d m t i→aP t.k→CC q (pk q.nv d) 87 #[pq q,iv i] (pr d t)
def PB (q:Pl_) (m:Nat):Prop:=∀ ⦃t i d⦄,Okt q d m t i→t.k=26→CC q (pk q.nv d) 47 #[pq q,iv i] (pr d t)
def PS (q:Pl_) (m:Nat):Prop:=∀ ⦃t d n⦄ ⦃j:Nat⦄,Okt q d m t j→q.N[j]?=C n→17≤t.k→t.k≤25→CN_ q (pk q.nv d) 25 n (pr d t)
section
variable {q:Pl_} {d m:Nat} {i:Int}
theorem Okt.nd {m':Nat} {k:Int} {tx:bZ} {n:Int} {ps:List Nt} (h:Okt q d m' (.nd k tx n ps) i) (hm:m'≤m+1:=by omega):∃ (j:Nat) (c:Nd) (is:uZ),i=j∧q.N[j]?=C c∧c.x=k∧c.text=tx∧c.n=n∧V9 k is c∧bO k (ps.map õ)∧Q is=Q ps∧Q ps≤1000000∧d+1≤1000000∧
 ∀ {e d':Nat} {p:Nt} {i:Int},d'≤d+1→ps[e]?=C p→is[e]?=C i→Okt q d' m p i:=by
 obtain ⟨hs,hd,hg,ha⟩:=h;rw [At] at ha;rw [Gd] at hg;rw [uD] at hs hd;obtain ⟨j,rfl,hj,e1,e2,e3,is,hf,hL⟩:=ha;have hl:=len_szNL ps;refine ⟨j,_,is,K,List.getElem?_eq_getElem hj,e1,e2,e3,hf,hg.1,MQ hL,W,W,λ{e d' p i} hd' hp hi=>?_⟩;obtain ⟨h1,rfl⟩:=Î.1 hp;obtain ⟨h2,rfl⟩:=Î.1 hi;have h3:=S9<|List.getElem_mem h1;exact ⟨W,W,tN hg.2<|List.getElem_mem h1,atL_at hL e h1 h2⟩
def l_within {t:Nt} (hE:PE_ q m) (h:Okt q d m t i) (he:aP t.k) (l:Nat):CC q (pk q.nv d) 142 #[pq q,iv i,iv l] (wi l ⟨uK t,t.k,pr d t⟩):=by
 have x:=hE h he;have ha:=h.a;cases t with
 |ty t=>cases t<;>simp [õ,aP] at he
 |nd k tx n ps=>
  rw [At] at ha;obtain ⟨j,rfl,hj,rfl,rfl,-⟩:=ha;exact within_any (List.getElem?_eq_getElem hj) x
def PT (q:Pl_):Prop:=∀ ⦃d j⦄,j<Q q.T→CC q (pk q.nv d) 20 #[pq q,iv (j:Nat)] (bU<|tr q.T j)
def l_tif {t:Nt} (hT:PT q) (h:Okt q d m t i) (ht:jM t.k):CC q (pk q.nv d) 88 #[pq q,iv i] (QJ ⟨uK t,t.k,pr d t⟩):=by
 obtain ⟨t,rfl⟩:=xV h.g ht;have ha:=h.a;cases t with
 |none=>
  rw [At] at ha;subst ha;exact typeIfAny_no
 |some t=>
  rw [At] at ha;obtain ⟨j,rfl,hj,rfl⟩:=ha;exact typeIfAny_yes<|hT hj
def chg_grow (w:E) (os:Array Obj):I No w (Go.Sort.grow w os):=⟨K,K,K,θ,λk hk _=>by simp [Go.Sort.grow,Array.getElem?_append,hk]⟩
def itoa_any (hN:q.N≠[]) {n:Int} (h1:-9223372036854775808≤n) (h2:n≤9223372036854775807) {bn:Wk} {w a:E} {r:bZ} (s:Sw_ q w bn r a):μ Tryz.prog 182 #[iv n] a λe b=>e=π (sv<|Lib.itoa n)∧Sw_ q w bn r b:=by
 refine (Tryz.strconv_Itoa n h1 h2 a (s.b hN).1).mono ?_;rintro e b ⟨rfl,k,os,rfl⟩;exact ⟨K,(s.d k).y<|chg_grow _ _⟩
def fbool_any {b:Bool} {bn:Wk} {w a:E} {r:bZ} (s:Sw_ q w bn r a):μ Tryz.prog 183 #[.bool b] a λe b'=>e=π (sv<|Lib.formatBool b)∧Sw_ q w bn r b':=by
 refine (Tryz.strconv_FormatBool b a).mono ?_;rintro e b ⟨rfl,rfl⟩;exact ⟨K,s⟩
def l_row {c:Nd} {qs:List Nt} {bg en:bZ} (hE:PE_ q m) (hl:Q c.M=Q qs) (hp:Q qs≤1000000) (M:∀ {e:Nat} {p:Nt} {i:Int},qs[e]?=C p→c.M[e]?=C i→Okt q d m p i) (he:∀ y∈qs.map õ,aP y):∀ ⦃w la lc⦄,ρ w 0 3 1 (Y la (Q c.M) lc) (Q c.M) (C8 c.M)→Cw_ q w (pk q.nv d) 143 #[pq q,sv bg,Y la (Q c.M) lc,sv en] (bg++CN [44,32] (EU d qs)++en):=by
 rw [join_jn,prL_s];refine prow_any (by simpa using hl.symm) (by simp;omega) λj h=>?_;simp only [List.length_map] at h;simpa using hE (M (e:=j) (List.getElem?_eq_getElem h)<|List.getElem?_eq_getElem W)<|he _<|List.mem_map_of_mem<|List.getElem_mem h
def conc2 {l:uZ} (h:2≤Q l):∃ a y z,l=a++[y]++[z]:=by
 obtain rfl|⟨a,z,rfl⟩:=List.eq_nil_or_concat l
 .simp at h
 obtain rfl|⟨a,y,rfl⟩:=List.eq_nil_or_concat a
 .simp at h
 exact ⟨a,y,z,θ⟩
def pe_step (hT:PT q) (hnum:∀ n∈q.N,-9223372036854775808≤n.n∧n.n≤9223372036854775807) (hE:PE_ q m) (hB:PB q m):PE_ q (m+1):=by
 intro t i d h he;cases t with
 |ty t=>cases t<;>simp [õ,aP] at he
 |nd k tx n ps=>
 obtain ⟨j,c,is,rfl,hn,rfl,rfl,rfl,hf,hs,hl,hp,hd,M⟩:=h.nd (m:=m);have hN:q.N≠[]:=by rintro e;simp [e] at hn
 have hu:=hnum c<|List.mem_of_getElem? hn;have hk:c.x=1∨c.x=2∨c.x=3∨c.x=4∨c.x=5∨c.x=6∨c.x=7∨c.x=8∨c.x=9∨c.x=10∨c.x=11∨c.x=12∨c.x=13∨c.x=14:=by
  simp only [õ,aP] at he;omega
 clear h he;have D:=@M;replace M:=λ{e p i}=>@M e d p i<|Nat.le_succ d;obtain k|k|k|k|k|k|k|k|k|k|k|k|k|k:=hk<;>rw [k] at hf hs ⊢
 .exact expr_simple hn (by simp [k]) (by simp [k]) (by simp [k]) (by simp [k]) (by simp [k]) (by simp [k])<|simple_num k<|itoa_any hN hu.1 hu.2
 .exact expr_simple hn (by simp [k]) (by simp [k]) (by simp [k]) (by simp [k]) (by simp [k]) (by simp [k])<|simple_text k
 .exact expr_simple hn (by simp [k]) (by simp [k]) (by simp [k]) (by simp [k]) (by simp [k]) (by simp [k])<|simple_bool k fbool_any
 .exact expr_simple hn (by simp [k]) (by simp [k]) (by simp [k]) (by simp [k]) (by simp [k]) (by simp [k])<|simple_null k
 .exact expr_simple hn (by simp [k]) (by simp [k]) (by simp [k]) (by simp [k]) (by simp [k]) (by simp [k])<|simple_var k
 .obtain ⟨_,r,hm,h16,hr⟩:=hs;obtain ⟨qs,q2,rfl,rfl,hm2⟩:=List.map_eq_append_iff.1 hm;obtain ⟨rt,bk,rfl,rfl,hbk⟩:=k2 hm2;obtain ⟨h1,h2,h3,h4⟩:=hf;obtain ⟨is,y,z,rfl⟩:=conc2 h4;simp only [List.dropLast_concat,List.getLastD_concat] at h1 h2 h3;subst h1 h2 h3;simp at hl;have e:pr d (.nd 6 c.text c.n<|qs++[rt,bk])=[102,110,40]++jn [44,32] κ (qs.map<|pr d)++[41]++QJ ⟨uK rt,rt.k,pr d rt⟩++[32]++pr d bk:=by
   have e1:EU d (qs++[rt,bk])=EU d qs++[⟨uK rt,rt.k,pr d rt⟩]++[⟨uK bk,bk.k,pr d bk⟩]:=by simp [prL_map]
   show Lm 6 c.text c.n (EU d<|qs++[rt,bk])=_;rw [e1,← prL_s,← join_jn];simp [Lm]
  rw [e];refine expr_simple hn (by simp [k]) (by simp [k]) (by simp [k]) (by simp [k]) (by simp [k]) (by simp [k]) (simple_fn k<|pfun_any (by simp [hl]) (by simp at hp ⊢;omega) (λj h=>?_) (l_tif hT (M (e:=Q qs) θ<|by simp [← hl]) hr)<|hB (M (e:=Q qs+1) θ<|by simp [← hl]) hbk);simp only [List.length_map] at h;have o:=M (e:=j) (p:=qs[j]) (i:=c.M[j]) η η;have k16:=h16 _<|List.mem_map_of_mem<|List.getElem_mem h;simp only [List.getElem_map];generalize qs[j]=p at*;cases p with
  |ty t=>cases t<;>simp [õ] at k16
  |nd k' tx' n' ps'=>
  obtain rfl:k'=_:=k16;obtain ⟨z,c',is',ez,hz,-,rfl,-,hf,⟨x,hm,h1⟩,-,-,-,C'⟩:=o.nd (m:=m);obtain ⟨a,rfl,rfl⟩:=k1 hm;obtain rfl:is'=_:=hf;exact ⟨z,c',ez ▸ List.getElem?_eq_getElem _,hz,_,K,l_tif hT (C' (e:=0) (Nat.le_succ d) K K) h1⟩
 .obtain ⟨x,xs,hm,h1,h2⟩:=hs;obtain ⟨a,qs,rfl,rfl,rfl⟩:=List.map_eq_cons_iff.1 hm;obtain ⟨e1,e2,e3⟩:=hf;cases is with
  |nil=>simp at e3
  |cons y is=>
  obtain rfl:y=_:=e1.symm;obtain rfl:is=_:=e2.symm;exact expr_call hn k (l_within hE (M (e:=0) K K) h1 5)<|l_row hE (by simpa using hl) (by simp at hp;omega) (λ{e _ _} hp hi=>M (e:=e+1) hp hi) h2
 .obtain ⟨x,hm,h1⟩:=hs;obtain ⟨a,rfl,rfl⟩:=k1 hm;obtain rfl:is=_:=hf;exact expr_get hn k<|pget_any<|l_within hE (M (e:=0) K K) h1 5
 .obtain ⟨x,y,hm,h1,h2⟩:=hs;obtain ⟨a,b,rfl,rfl,rfl⟩:=k2 hm;obtain rfl:is=_:=hf;exact expr_at hn k<|at_any' (l_within hE (M (e:=0) K K) h1 5)<|hE (M (e:=1) K K) h2
 .obtain rfl:_=is:=hf;have e:pr d (.nd 10 c.text c.n ps)=if Q (ps.map<|pr d)=0 then [123,125] else [123,32]++jn [44,32] κ (ps.map<|pr d)++[32,125]:=by
   show Lm 10 c.text c.n (EU d ps)=_;rw [← prL_s,← join_jn];simp [Lm]
  rw [e];refine expr_simple hn (by simp [k]) (by simp [k]) (by simp [k]) (by simp [k]) (by simp [k]) (by simp [k]) (simple_obj k<|pobj_any (by simp [hl]) (by simp;omega) λj h=>?_);simp only [List.length_map] at h;have o:=M (e:=j) (p:=ps[j]) (i:=c.M[j]) (by simp [h]) (by simp [hl,h]);have k15:=hs _<|List.mem_map_of_mem<|List.getElem_mem h;simp only [List.getElem_map];generalize ps[j]=p at*;cases p with
  |ty t=>cases t<;>simp [õ] at k15
  |nd k' tx' n' ps'=>
  obtain rfl:k'=_:=k15;obtain ⟨z,c',is',ez,hz,-,rfl,-,hf,⟨x,hm,h1⟩,-,-,-,C'⟩:=o.nd (m:=m);obtain ⟨a,rfl,rfl⟩:=k1 hm;obtain rfl:is'=_:=hf;exact ⟨z,c',ez ▸ List.getElem?_eq_getElem _,hz,_,K,hE (C' (e:=0) (Nat.le_succ d) K K) h1⟩
 .obtain rfl:_=is:=hf;exact expr_simple hn (by simp [k]) (by simp [k]) (by simp [k]) (by simp [k]) (by simp [k]) (by simp [k])<|simple_arr k<|l_row hE hl hp M hs
 .obtain ⟨x,y,hm,h1,h2⟩:=hs;obtain ⟨a,b,rfl,rfl,rfl⟩:=k2 hm;obtain rfl:is=_:=hf;have hb:jO 12 c.text=1∨jO 12 c.text=2∨jO 12 c.text=3:=by
   simp only [jO];grind
  show CC _ _ _ _<|wi (if jO 12 c.text=1 then 2 else jO 12 c.text) _++_++wi (jO 12 c.text+1) _;obtain e|e|e:=hb<;>rw [e]<;>refine expr_two hn k ?_
  .exact two_1 (k ▸ e) (l_within hE (M (e:=0) K K) h1 2)<|l_within hE (M (e:=1) K K) h2 2
  .exact two_2 (k ▸ e) (l_within hE (M (e:=0) K K) h1 2)<|l_within hE (M (e:=1) K K) h2 3
  .exact two_3 (k ▸ e) (l_within hE (M (e:=0) K K) h1 3)<|l_within hE (M (e:=1) K K) h2 4
 .obtain ⟨x,hm,h1⟩:=hs;obtain ⟨a,rfl,rfl⟩:=k1 hm;obtain rfl:is=_:=hf;have e:=expr_one hn k<|one_any<|l_within hE (M (e:=0) K K) h1 4;simp only [← ľ] at e;exact e
 .obtain ⟨x,hm,h1⟩:=hs;obtain ⟨a,b,rfl,rfl,h0⟩:=k2 hm;obtain rfl:is=_:=hf;have o:=M (e:=1) K K;obtain ⟨t,rfl⟩:=xV o.g<|.inr h0;cases t with
  |none=>simp [õ] at h0
  |some t=>
  have ha:=o.a;rw [At] at ha;obtain ⟨jt,e,hj,rfl⟩:=ha;exact expr_as hn k (l_within hE (M (e:=0) K K) h1 5)<|e ▸ hT hj
end
section
variable {q:Pl_} {d m:Nat} {i:Int}
def ps_step (hT:PT q) (hE:PE_ q m) (hB:PB q m):PS q (m+1):=by
 intro t d c j h hn h17 h25;cases t with
 |ty t=>cases t<;>simp [õ] at h17
 |nd k tx n ps=>
 obtain ⟨j',c',is,ej,hn',rfl,rfl,rfl,hf,hs,hl,hp,hd,M⟩:=h.nd (m:=m);obtain rfl:c=c':=by
  rw [show j=j' by omega,hn'] at hn;exact (Option.some.inj hn).symm
 have hk:c.x=17∨c.x=18∨c.x=19∨c.x=20∨c.x=21∨c.x=22∨c.x=23∨c.x=24∨c.x=25:=by
  simp only [õ] at h17 h25;omega
 clear h h17 h25;replace M:=λ{e p i}=>@M e d p i<|Nat.le_succ d;obtain k|k|k|k|k|k|k|k|k:=hk<;>rw [k] at hf hs ⊢
 .obtain ⟨x,y,hm,h1,h2⟩:=hs;obtain ⟨a,b,rfl,rfl,rfl⟩:=k2 hm;obtain rfl:is=_:=hf;exact stmt_line (by simp [k]) (by simp [k])<|line_let k (l_tif hT (M (e:=0) K K) h1)<|hE (M (e:=1) K K) h2
 .obtain ⟨x,hm,h1⟩:=hs;obtain ⟨a,rfl,rfl⟩:=k1 hm;obtain rfl:is=_:=hf;exact stmt_line (by simp [k]) (by simp [k])<|line_set k<|hE (M (e:=0) K K) h1
 .obtain ⟨x,y,hm,h1,h2⟩:=hs;obtain ⟨a,b,rfl,rfl,rfl⟩:=k2 hm;obtain rfl:is=_:=hf;exact stmt_line (by simp [k]) (by simp [k])<|line_put k (pget_any<|l_within hE (M (e:=0) K K) h1 5)<|hE (M (e:=1) K K) h2
 .obtain ⟨x,y,z,hm,h1,h2,h3⟩:=hs;obtain ⟨a,b,c,rfl,rfl,rfl,rfl⟩:=k3 hm;obtain rfl:is=_:=hf;exact stmt_line (by simp [k]) (by simp [k])<|line_lay k (at_any' (l_within hE (M (e:=0) K K) h1 5)<|hE (M (e:=1) K K) h2)<|hE (M (e:=2) K K) h3
 .obtain ⟨x,hm,h1⟩:=hs;obtain ⟨a,rfl,rfl⟩:=k1 hm;obtain rfl:is=_:=hf;exact stmt_line (by simp [k]) (by simp [k])<|line_print k<|hE (M (e:=0) K K) h1
 .obtain ⟨x,z,hm,h1,h2⟩:=hs;obtain ⟨a,b,c',rfl,rfl,hb,rfl⟩:=k3 hm;obtain rfl:is=_:=hf;have w:=when_any (wd:=[105,102]) (hE (M (e:=0) K K) h1)<|hB (M (e:=1) K K) hb;have o:=M (e:=2) K K;have ha:=o.a;cases c' with
  |nd k' tx' n' ps'=>
   rw [At] at ha;obtain ⟨jc,e,-⟩:=ha;obtain h2|h2:=h2
   .obtain rfl:k'=_:=h2;have x:=stmt_else k W w<|hB o K;rw [ľ _ [32,101,108,115,101,32]] at x;exact x
   .obtain rfl:k'=_:=h2;exact absurd o.g.1 (by simp [bO])
  |ty t=>
   cases t with
   |none=>
    rw [At] at ha;have x:=stmt_if k ha w;rw [← List.append_nil<|[105,102]++[32,40]++_++_++_] at x;exact x
   |some t=>simp [õ] at h2
 .obtain ⟨x,hm,h1⟩:=hs;obtain ⟨a,b,rfl,rfl,hb⟩:=k2 hm;obtain rfl:is=_:=hf;exact stmt_while k<|when_any (hE (M (e:=0) K K) h1)<|hB (M (e:=1) K K) hb
 .obtain ⟨x,hm,h1⟩:=hs;obtain ⟨a,rfl,rfl⟩:=k1 hm;obtain rfl:is=_:=hf;exact stmt_line (by simp [k]) (by simp [k])<|line_return k<|hE (M (e:=0) K K) h1
 .obtain ⟨x,hm,h1⟩:=hs;obtain ⟨a,rfl,rfl⟩:=k1 hm;obtain rfl:is=_:=hf;exact stmt_line (by simp [k]) (by simp [k])<|line_do k<|hE (M (e:=0) K K) h1
def l_stmts {z:Nat} {c:Nd} {ps:List Nt} (hS:PS q m) (hd:d≤1000000) (hn:q.N[z]?=C c) (hl:Q c.M=Q ps) (hs:∀ x∈ps.map õ,17≤x∧x≤25) (M:∀ {e:Nat} {p:Nt} {i:Int},ps[e]?=C p→c.M[e]?=C i→Okt q d m p i):CC q (pk q.nv d) 12 #[pq q,iv z] (We d<|EU d ps):=by
 rw [lines_lns];refine statements_any hd hn (by simp [hl]) λj h=>?_;simp only [List.length_map] at h;have o:=M (e:=j) (p:=ps[j]) (i:=c.M[j]) η η;have kk:=hs _<|List.mem_map_of_mem<|List.getElem_mem h;simp only [List.getElem_map];generalize ps[j]=p at*;have ha:=o.a;cases p with
 |ty t=>cases t<;>simp [õ] at kk
 |nd k' tx' n' ps'=>
 rw [At] at ha;obtain ⟨y,ey,hy,-⟩:=ha;rw [ey] at o;exact ⟨y,_,ey ▸ List.getElem?_eq_getElem _,List.getElem?_eq_getElem hy,hS o (List.getElem?_eq_getElem hy) kk.1 kk.2⟩
def pb_step (hS:PS q m):PB q (m+1):=by
 intro t i d h hk;cases t with
 |ty t=>cases t<;>simp [õ] at hk
 |nd k tx n ps=>
 obtain rfl:k=_:=hk;obtain ⟨j,c,is,rfl,hn,-,rfl,rfl,rfl,hs,hl,hp,hd,M⟩:=h.nd (m:=m);exact pblock_any hd<|l_stmts hS hd hn hl hs λ{e p i}=>@M e (d+1) p i<|Nat.le_refl _
def print_all (hT:PT q) (hnum:∀ n∈q.N,-9223372036854775808≤n.n∧n.n≤9223372036854775807):∀ m,PE_ q m∧PS q m∧PB q m
 |0=>⟨λt i d h=>by have:=A8b t;have:=h.s;omega,λt i d j h=>by have:=A8b t;have:=h.s;omega,λt i d h=>by have:=A8b t;have:=h.s;omega⟩
 |m+1=>by
  obtain ⟨hE,hS,hB⟩:=print_all hT hnum m;exact ⟨pe_step hT hnum hE hB,ps_step hT hE hB,pb_step hS⟩
end
section
variable {B wb:Nat} {tv:υ}
def blen_any {bn:Wk} {w:E} {bs:bZ} (h:gC w B wb tv bn bs):
 μ Tryz.prog 13 #[pV wb] w λe w'=>e=π (iv (Q bs))∧w'=w:=by
 obtain ⟨p,v,hb,_,ho,_⟩:=h.blk;obtain ⟨ad,c,rfl⟩:=B8 ho;have c1:δ w (J wb 1)=C (Y ad (Q bs) c):=(ä w wb 1 _ _ _ hb).trans<|hd4 1;have hlt:=(ş.1 hb).1;clear hb ho h;go_in;go_wp2;go_ret;exact ⟨K,K⟩
end
structure Trd (N:List Nd) (T:List Ty) (ps:List Nt):Prop where
 ok:aX T
 ls:∀ i (hi:i<Q T),Q T[i].M≤100000∧Q T[i].eo≤1001
 num:∀ i (h:i<Q N),-9223372036854775808≤N[i].n∧N[i].n≤9223372036854775807
 main:∃ h:Q N-1<Q N,kO N T ps N[Q N-1].M
 gd:∀ p∈ps,Gd p∧17≤p.k∧p.k≤25∧uD p≤1000000
 few:Q ps≤1000000∧Q N≤1200
 len:Q (We 0<|EU 0 ps)≤1000000000000
def PnAns (l:bZ) (w:E) (e:ò) (w':E):Prop:=
 Below (V w.heap) w w'∧((∃ er p,dZ l (.inl (er,p))∧e=π (.tuple #[ι ⟨#[]⟩,.agg #[iv er,iv p]]))∨
  ∃ N T ps,dZ l (.inr (N,T))∧Trd N T ps∧((4000<Q (We 0<|EU 0 ps)∧e=π (.tuple #[ι ⟨#[]⟩,.agg #[iv 2,iv 0]]))∨
   (Q (We 0<|EU 0 ps)≤4000∧e=π (.tuple #[sv<|We 0<|EU 0 ps,.agg #[iv 0,iv 0]]))))
def pr_new {w1 w:E} {B wb:Nat} {ya na:Option í} {yc nc:Nat} {N:List Nd} {T:List Ty} {ps:List Nt} {lo:Nat} (h:Trd N T ps) (hB:B≤wb) (hb:w.heap[wb]?=C (γ #[Γ none,sN,Y ya (Q T) yc,.bool κ,Y na (Q N) nc,iv 0] 51 (0,0))) (hc:I No w1 w) (hy:pL w1 lo (Y ya (Q T) yc) T) (hn:pM w1 lo (Y na (Q N) nc) N) (ht:Tab w1 B):
 μ Tryz.prog 12 #[pV wb,iv (Q N-1:Nat)] w λe b=>e=rT∧cG B w b∧gC b B wb (Y ya (Q T) yc) (pk (Y na (Q N) nc) 0) (We 0<|EU 0 ps):=by
 obtain ⟨yx,hy1,hy2⟩:=hy;obtain ⟨nx,hn1,hn2⟩:=hn;have s:Sw_ ⟨B,wb,T,N,Y ya (Q T) yc,Y na (Q N) nc,We 0<|EU 0 ps⟩ w (pk (Y na (Q N) nc) 0) (We 0 (EU 0 ps)++[]) w:=
  ⟨.y<|ì _ _,⟨[],⟨hB,Γ none,sN,hb,.inl K,World.ownsRow_nil _ _ _ _,λ_=>K⟩,θ⟩,Nat.le_trans h.len ζ,h.ok,⟨yx,C7 (A3 hy1 hc λ_ _ x=>x)<|Nat.zero_le _,hy2.imp<|eI.P hc (λ_ _ _ x=>x.elim) λ_ _ _=>trivial⟩,⟨nx,C7 (A3 hn1 hc λ_ _ x=>x)<|Nat.zero_le _,hn2.imp<|gE.P hc (λ_ _ _ x=>x.elim) λ_ _ _=>trivial⟩,λ_=>tab_chg ht hc λ_ _ x=>x⟩;obtain ⟨hz,hL⟩:=h.main;have hA:=print_all (q:=⟨B,wb,T,N,Y ya (Q T) yc,Y na (Q N) nc,We 0<|EU 0 ps⟩) (λd j hj=>TV (bn:=pk (Y na (Q N) nc) d) (λt ht=>by obtain ⟨j,hj,rfl⟩:=List.getElem_of_mem ht;exact ⟨Nat.le_trans (h.ls j hj).1 ζ,Nat.le_trans (h.ls j hj).2 ζ⟩) (j+1) j (Nat.lt_succ_self j) hj) (λn hn=>by obtain ⟨j,hj,rfl⟩:=List.getElem_of_mem hn;exact h.num j hj) 1000000;refine (l_stmts (d:=0) hA.2.1 (Nat.zero_le _) (List.getElem?_eq_getElem hz) (MQ hL) (λx hx=>?_) (λ{e p i} hp hi=>?_) s).mono ?_
 .obtain ⟨p,hp,rfl⟩:=List.mem_map.1 hx;obtain ⟨_,h1,h2,_⟩:=h.gd p hp;exact ⟨h1,h2⟩
 .obtain ⟨h1,rfl⟩:=Î.1 hp;obtain ⟨h2,rfl⟩:=Î.1 hi;obtain ⟨g1,_,_,g4⟩:=h.gd _<|List.getElem_mem h1;exact ⟨g4,W,g1,atL_at hL e h1 h2⟩
 .rintro e b ⟨rfl,s⟩;obtain ⟨bs,x,e⟩:=s.w;simp only [List.append_nil] at e;exact ⟨K,s.k,e ▸ x⟩
def cG.other {B g:Nat} {w a:E} {cs:Array υ} {e:TypeId} {fz:Nat×Nat} (h:cG B w a) (f:w.heap[g]?=C (γ cs e fz)) (he:e∈apart:=by decide):a.heap[g]?=C (γ cs e fz):=
 (h.block g (ş.1 f).1 λx=>x.2 _ _ _ f he).trans f
def print_any (s:ByteArray) (w:E) (hs:s.size≤Δ) (ht:Tab w (V w.heap)) (hA:∀ N T,dZ s.data.toList (.inr (N,T))→∃ ps,Trd N T ps):μ Tryz.prog 6 #[ι s] w (PnAns s.data.toList w):=by
 have HP:=O λw1=>Eg s w1 hs;go_in;go_wp2_with fail;refine (HP.u _).mono ?_;clear HP;rintro e w1 ⟨hb,hr⟩;have hz:V w.heap<w1.heap.size:=by have:=hb.size;simp at this;omega
 have QF:Hid (w1.heap[V w.heap]?=C (γ #[iv 0,iv 0] 25 (0,0))):=by
  show _=_;rw [hb.block (V w.heap) θ];exact heap_alloc_new w _
 have HB:=O (((ñ (V w.heap) w).alloc (Nat.le_refl _)<|γ #[iv 0,iv 0] 25).trans<|hb.mono θ);have pc:=λo=>ä w1 _ o _ _ _ QF.u;have pf:∀ o,w1.frozen? (J (V w.heap) o)=κ:=λo=>æ w1 _ o _ _ QF.u;obtain⟨er,p,hres,rfl⟩|⟨N,T,na,nc,ya,yc,hres,rfl,hN,hT⟩:=hr
 .have hne:er≠0:=hres.1;have hne':(er !=0)=τ:=by simp [hne]
  have TR:=O hres;clear hb hres;go_wp2_with fail;go_region;all_goals go_wp2_with fail
  exact ç (v:=.tuple #[ι ⟨#[]⟩,.agg #[iv er,iv p]]) (by simp [ã,results6,go_sem,pc,hz]) K ⟨((((HB.u.setCell θ _).setCell θ _).alloc (by simp;omega) _).alloc (by simp;omega) _).drew,.inl ⟨er,p,TR.u,K⟩⟩
 .obtain ⟨ps,htr⟩:=hA N T hres;obtain ⟨A,hAe⟩:∃ A,A=ω (ω (w1.alloc<|γ #[Y na (Q N) nc,Y ya (Q T) yc,iv<|(Q N:Int)-1] 40)<|γ #[iv 0,iv 0] 25) (γ #[Γ none,sN,Y ya (Q T) yc,.bool κ,Y na (Q N) nc,iv 0] 51):=⟨_,K⟩;have hc:I No w1 A:=hAe ▸ ((ν No _ _).trans (ν No _ _) λ_ _ x=>x).trans (ν No _ _) (λ_ _ x=>x);have hb3:=heap_alloc_new (ω (w1.alloc<|γ #[Y na (Q N) nc,Y ya (Q T) yc,iv<|(Q N:Int)-1] 40)<|γ #[iv 0,iv 0] 25)<|γ #[Γ none,sN,Y ya (Q T) yc,.bool κ,Y na (Q N) nc,iv 0] 51;rw [← hAe] at hb3;simp only [Ô] at hb3;obtain ⟨t1,g,t2,t3,t4⟩:=tab_chg (tab_chg ht (ν No _<|γ #[iv 0,iv 0] 25) λ_ _ x=>x) (I.below hb) (λk hk x=>by simp at x;omega);have HS:=O<|pr_new (B:=V w.heap+1) htr W hb3 hc hT hN ⟨t1,g,t2,W,t4⟩;have em:((Q N-1:Nat):Int)=(Q N:Int)-1:=by have:=htr.main.1;omega
  rw [em] at HS;have FO:Hid (A.heap[V w.heap]?=C (γ #[iv 0,iv 0] 25 (0,0))):=(hc.block _ hz λx=>x).trans QF.u;have HB3:=O (HB.u.trans<|I.ep hc (λ_ _ x=>x.elim) W);have hB3:V w.heap+1≤V A.heap:=Nat.le_trans hz hc.size;have TR:=O hres;have TD:=O htr;clear hb hres htr hN hT ht hA hb3 t1 t2 t3 t4 hc;have hAe:=O hAe;generalize hll:We 0 (EU 0 ps)=LL at*;have HLL:=O hll;clear hll;go_wp2_with fail;rw [← hAe.u];refine HS.u.mono ?_;rintro e w5 ⟨rfl,h1,h2⟩;have Q5:=O<|h1.other FO.u;have qc:=λo=>ä w5 _ o _ _ _ Q5.u;have qf:∀ o,w5.frozen? (J (V w.heap) o)=κ:=λo=>æ w5 _ o _ _ Q5.u;have hz5:=(ş.1 Q5.u).1;have B5:=O (HB3.u.trans<|(h1.below hB3).mono W);have HN:=O<|blen_any h2;have HStr:=O<|D6c h2;clear h1 h2 HS FO hB3 pc pf;go_wp2_with fail;refine HN.u.mono ?_;rintro e w6 ⟨rfl,rfl⟩;clear HN;by_cases hbig:4000<LL.length
  .have hbig':(4000:Int)<(LL.length:Int):=W;go_wp2_with fail;exact ç (v:=.tuple #[ι ⟨#[]⟩,.agg #[iv 2,iv 0]]) (by simp [ã,results6,go_sem,qc]) K ⟨(B5.u.setCell θ _).setCell θ _,.inr ⟨N,T,ps,TR.u,TD.u,.inl ⟨by rw [HLL.u];exact hbig,K⟩⟩⟩
  .have hbig':¬ (4000:Int)<(LL.length:Int):=W;go_wp2_with fail;refine HStr.u.mono ?_;rintro e w7 ⟨rfl,hb7⟩;have q7:=(hb7.block (V w.heap) W).trans Q5.u;have rc:=λo=>ä w7 _ o _ _ _ q7;have rf:∀ o,w7.frozen? (J (V w.heap) o)=κ:=λo=>æ w7 _ o _ _ q7;have hz7:=(ş.1 q7).1;have B7:=O (B5.u.trans<|hb7.mono W);clear hb7 q7 HStr qc qf;go_wp2_with fail;exact ç (v:=.tuple #[sv LL,.agg #[iv 0,iv 0]]) (by simp [ã,results6,go_sem,rc]) K ⟨(B7.u.setCell θ _).setCell θ _,.inr ⟨N,T,ps,TR.u,TD.u,.inr ⟨by rw [HLL.u];omega,by rw [HLL.u]⟩⟩⟩
def showType_at (s:ByteArray) (w:E) (hs:s.size≤Δ) (hT0:TRes s.data.toList<|.inr btT):
 μ Tryz.prog 10 #[ι s] w λe w'=>e=π (.tuple #[sv [110,117,109,32,124,32,116,101,120,116],.agg #[iv 0,iv 0]])∧Below (V w.heap) w w':=by
 have HP:=O λw1=>type_any s w1 hs;go_in;go_wp2_with fail;refine (HP.u _).mono ?_;clear HP;rintro e w1 ⟨hb,hr⟩;have hz:V w.heap<w1.heap.size:=by have:=hb.size;simp at this;omega
 have QF:Hid (w1.heap[V w.heap]?=C (γ #[iv 0,iv 0] 25 (0,0))):=(hb.block (V w.heap) θ).trans<|heap_alloc_new w _;have HB:=O (((ñ (V w.heap) w).alloc (Nat.le_refl _)<|γ #[iv 0,iv 0] 25).trans<|hb.mono θ);obtain⟨er,p,hres,rfl⟩|⟨T,ya,yc,hres,rfl,hT⟩:=hr
 .have:=tres_one hT0 hres;cases this
 obtain rfl:T=btT:=by
  have:=tres_one hT0 hres;simpa using this
 obtain ⟨yx,hy1,hy2⟩:=hT;have hlT:btT.length=3:=K;rw [hlT] at hy1;obtain ⟨A,hAe⟩:∃ A,A=ω (w1.alloc<|γ #[iv 0,iv 0] 25) (γ #[Γ none,sN,Y ya 3 yc,.bool κ] 49):=⟨_,K⟩;have hc:I No w1 A:=hAe ▸ (ν No _ _).trans (ν No _ _) (λ_ _ x=>x);have hb3:=heap_alloc_new (w1.alloc<|γ #[iv 0,iv 0] 25)<|γ #[Γ none,sN,Y ya 3 yc,.bool κ] 49;rw [← hAe] at hb3;simp only [Ô] at hb3;have etx:dV κ btT 2=[110,117,109,32,124,32,116,101,120,116]:=by
  rw [dV,mF,if_neg ζ,btT_ok.2];decide
 have HS:=O (wt_new (B:=V w.heap+1) (i:=2) btT_ok.1 (λi hi=>by
  have:i=0∨i=1∨i=2:=W;obtain rfl|rfl|rfl:=this<;>exact ⟨by simp [btT],by simp [btT]⟩) W hb3 ⟨yx,C7 (A3 hy1 hc λ_ _ x=>x)<|Nat.zero_le _,hy2.imp<|eI.P hc (λ_ _ _ x=>x.elim) λ_ _ _=>trivial⟩ ζ<|by rw [btT_ok.2];decide);rw [etx] at HS;have FO:Hid (A.heap[V w.heap]?=C (γ #[iv 0,iv 0] 25 (0,0))):=(hc.block _ hz λx=>x).trans QF.u;have HB3:=O (HB.u.trans<|I.ep hc (λ_ _ x=>x.elim) W);have hB3:V w.heap+1≤V A.heap:=Nat.le_trans hz hc.size;clear hb hres hT0 hb3 hc hy1 hy2 etx;rw [hlT];have hAe:=O hAe;go_wp2_with fail;rw [← hAe.u];refine HS.u.mono ?_;rintro e w5 ⟨rfl,h1,h2⟩;have Q5:=O<|h1.other FO.u;have qc:=λo=>ä w5 _ o _ _ _ Q5.u;have qf:∀ o,w5.frozen? (J (V w.heap) o)=κ:=λo=>æ w5 _ o _ _ Q5.u;have hz5:=(ş.1 Q5.u).1;have B5:=O (HB3.u.trans<|(h1.below hB3).mono W);have HStr:=O<|D6c h2;clear h1 h2 HS FO hB3;go_wp2_with fail;refine HStr.u.mono ?_;rintro e w6 ⟨rfl,hb6⟩;have q6:=(hb6.block (V w.heap) W).trans Q5.u;have rc:=λo=>ä w6 _ o _ _ _ q6;have rf:∀ o,w6.frozen? (J (V w.heap) o)=κ:=λo=>æ w6 _ o _ _ q6;have hz6:=(ş.1 q6).1;have B6:=O (B5.u.trans<|hb6.mono W);clear HStr hb6 q6 qc qf;go_wp2_with fail;exact ç (v:=.tuple #[sv [110,117,109,32,124,32,116,101,120,116],.agg #[iv 0,iv 0]]) (by simp [ã,results10,go_sem,rc]) K ⟨K,(B6.u.setCell θ _).setCell θ _⟩
