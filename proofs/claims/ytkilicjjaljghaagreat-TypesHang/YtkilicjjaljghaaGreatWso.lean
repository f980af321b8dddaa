/-
  The contracts of slices.Clone, of object's closure, and of slices.SortFunc, at fields.
-/
import Derived.Test.YtkilicjjaljghaaGreatMov
import Derived.Test.YtkilicjjaljghaaGreatShelf
import Derived.Test.YtkilicjjaljghaaGreatSrt
import Derived.Test.YtkilicjjaljghaaGreatPlainC
import Derived.Shelf.SlSortCmp.NoneTotal
import Derived.Lib.SliceRun
namespace Go.Proofs.YtkilicjjaljghaaGreat
open Go.RowKit Go.Maps

section
variable {α : Type}
theorem flat_get (enc : α → List Value) (hk : ∀ x, (enc x).length = 2) : ∀ (l : List α) (i c : Nat) (hi : i < l.length), c < 2 → (l.flatMap enc)[i * 2 + c]? = (enc l[i])[c]?
  | [], _, _, hi, _ => by simp at hi
  | x :: r, 0, c, _, hc => by
    rw [List.flatMap_cons, List.getElem?_append_left (by rw [hk]; omega)]
    simp
  | x :: r, i + 1, c, hi, hc => by
    rw [List.flatMap_cons, List.getElem?_append_right (by rw [hk]; omega), hk, show (i + 1) * 2 + c - 2 = i * 2 + c by omega, flat_get enc hk r i c (by simpa using hi) hc]
    rfl
theorem flat_len (enc : α → List Value) (hk : ∀ x, (enc x).length = 2) : ∀ l : List α, (l.flatMap enc).length = l.length * 2
  | [] => rfl
  | x :: r => by
    rw [List.flatMap_cons, List.length_append, hk, flat_len enc hk r, List.length_cons]
    omega
end

/-- The cells of a sorted row are what the order says. -/
theorem flat_take [Inhabited (List UInt8 × Int)] (d : Array (List UInt8 × Int)) (cur : Array Value) (h : d.size * 2 ≤ cur.size) : (Sort.putCells id 0 (Sort.flatK fcells 2 d) cur).toList.take (d.size * 2) = frows d.toList := by
  have hf : (frows d.toList).length = d.size * 2 := by
    unfold frows
    rw [flat_len fcells (fun _ => rfl)]
    simp
  refine List.ext_getElem? fun t => ?_
  by_cases ht : t < d.size * 2
  · have e := flat_get fcells (fun _ => rfl) d.toList (t / 2) (t % 2) (by simp; omega) (by omega)
    rw [show t / 2 * 2 + t % 2 = t by omega] at e
    unfold frows
    rw [e, List.getElem?_take_of_lt ht]
    have hc : t < cur.size := by omega
    have e2 : (Sort.putCells id 0 (Sort.flatK fcells 2 d) cur).toList[t]? = some ((fcells d[t / 2]!)[t % 2]!) := by
      unfold Sort.putCells
      rw [Array.getElem?_toList, Array.getElem?_mapIdx]
      simp only [hc, Array.getElem?_eq_getElem, Option.map_some]
      rw [if_pos (by simp; omega)]
      simp only [Nat.sub_zero, id]
      rw [Sort.get_flatK _ _ _ _ ht]
    rw [e2]
    have hd : t / 2 < d.size := by omega
    have e3 : d[t / 2]! = d.toList[t / 2]'(by simpa using hd) := by simp [hd]
    rw [e3]
    have h2 : t % 2 < (fcells (d.toList[t / 2]'(by simpa using hd))).length := by
      show t % 2 < 2
      omega
    rw [List.getElem?_eq_getElem h2, getElem!_pos (fcells (d.toList[t / 2]'(by simpa using hd))) (t % 2) h2]
  · rw [List.getElem?_eq_none (by simp; omega), List.getElem?_eq_none (by rw [hf]; omega)]

set_option maxHeartbeats 1000000 in
/-- Two names, compared. -/
theorem ocmp_any (x y : List UInt8 × Int) (W : World) : Calls Tryz.prog 103 #[.agg #[.string ⟨x.1.toArray⟩, .int .i64 x.2], .agg #[.string ⟨y.1.toArray⟩, .int .i64 y.2]] W fun e w' => e = .returned (.int .i64 (Lib.compareBytes x.1 y.1)) ∧ ∃ q os', w' = Sort.grow (W.drewN q) os' := by
  have hcon := fun W' => Tryz.strings_Compare ⟨x.1.toArray⟩ ⟨y.1.toArray⟩ W'
  generalize hr : Lib.compareBytes x.1 y.1 = r
  simp only [hr] at hcon
  go_enter Tryz.func103, Tryz.ntmps103
  go_wp2_with (go_at_call 104; refine (hcon _).mono ?_; rintro e w' ⟨rfl, rfl⟩)
  go_ret
  exact ⟨rfl, 0, _, by rw [Sort.alloc_eq_grow, Sort.alloc_eq_grow, Sort.grow_grow]; rfl⟩

def cmpN (x y : List UInt8 × Int) : Int := Lib.compareBytes x.1 y.1
theorem swoN : Sort.SWO (ltOf cmpN) where
  irrefl x := by simp [ltOf, cmpN, M.cmpB_self]
  trans x y z h1 h2 := by
    have a1 := of_decide_eq_true h1
    have a2 := of_decide_eq_true h2
    unfold cmpN at a1 a2
    exact decide_eq_true ((M.cmpB_trans x.1 y.1 z.1 (by omega) (by omega)).2 (.inl a1))
  ntrans x y z h1 h2 := by
    have a1 := of_decide_eq_false h1
    have a2 := of_decide_eq_false h2
    unfold cmpN at a1 a2
    have e1 := M.cmpB_swap x.1 y.1
    have e2 := M.cmpB_swap y.1 z.1
    have e3 := M.cmpB_swap x.1 z.1
    have := (M.cmpB_trans z.1 y.1 x.1 (by omega) (by omega)).1
    refine decide_eq_false ?_
    unfold cmpN
    omega

set_option maxHeartbeats 1000000 in
theorem sort_any (w : World) (n0 : Nat) (fs : List (List UInt8 × Int)) (hn : (fs.map (·.1)).Nodup) (v : Value) (ho : w.ownsRow n0 55 2 v fs.length (frows fs)) (hle : fs.length ≤ 100000) :
    Calls Tryz.prog 102 #[v, .func (.func 103) #[] #[]] w fun e w' => e = .returned (.tuple #[]) ∧ Chg (fun k => some k = v.ownBlock) w w' ∧ w'.ownsRow n0 55 2 v fs.length (frows (M.srtL fs)) := by
  rcases ho.2 with ⟨rfl, h0⟩ | ⟨g, cap, cur, rfl, hb, hg, hn2, hm, hcs, htk⟩
  · have hcon := AnyF.slices_SortFunc_none Tryz.sortF none 0 (.func (.func 103) #[] #[]) w
    refine Calls.mono (show Calls Tryz.prog 102 _ _ _ from hcon) ?_
    rintro e w' ⟨rfl, rfl⟩
    have : fs = [] := List.length_eq_zero_iff.1 h0
    subst this
    have e : M.srtL ([] : List (List UInt8 × Int)) = [] := List.length_eq_zero_iff.1 (M.srtL_length _)
    rw [e]
    exact ⟨rfl, Chg.refl _ _, ho⟩
  · have hlt := (Array.getElem?_eq_some_iff.1 hg).1
    have eg : ∀ args w, (callFunc 103 args).run Tryz.prog w = .ok (.enter 103 args) w := enters_of Tryz.func103 (by kernel_rfl) rfl
    have hH : Sort.HoldsK fcells 2 w g 0 fs.toArray := by
      intro j hj
      rw [Sort.size_flatK] at hj
      simp only [List.size_toArray] at hj
      refine ⟨?_, by rw [Nat.zero_add]; exact frozen_of_row w g j _ _ hg⟩
      rw [Nat.zero_add, cell_of_row w g j _ _ _ hg, Sort.get_flatK _ _ _ _ (by simpa using hj)]
      have e := flat_get fcells (fun _ => rfl) fs (j / 2) (j % 2) (by omega) (by omega)
      rw [show j / 2 * 2 + j % 2 = j by omega] at e
      have e2 : cur[j]? = (frows fs)[j]? := by
        rw [← htk, List.getElem?_take_of_lt hj, Array.getElem?_toList]
      have hd : j / 2 < fs.length := by omega
      have h2 : j % 2 < (fcells fs[j / 2]).length := by
        show j % 2 < 2
        omega
      rw [e2]
      unfold frows
      rw [e, List.getElem?_eq_getElem h2]
      simp [hd, h2]
    have hcon := AnyQ.slices_SortFunc Tryz.sortF 2 Tryz.isAgg55 Tryz.sizeOf55 fcells (fun _ => rfl) (fun x v hv => by simp [fcells] at hv; rcases hv with rfl | rfl <;> rfl) cmpN swoN 103 #[] g 0 cap fs.toArray w eg (fun _ _ _ _ x y => ocmp_any x y _) hH hlt (by simp; omega)
    simp only [List.size_toArray] at hcon
    refine Calls.mono (show Calls Tryz.prog 102 _ _ _ from hcon) ?_
    rintro e w' ⟨rfl, d', n, os, hp, hs, rfl⟩
    have hsz : d'.size = fs.length := by have := hp.1; simpa using this
    have hd : d'.toList = M.srtL fs := by
      have hpp := hp.2.2
      have e1 : (d'.extract 0 fs.length).toList = d'.toList := by rw [← hsz]; simp
      have e2 : (fs.toArray.extract 0 fs.length).toList = fs := by simp
      rw [e1, e2] at hpp
      refine M.sorted_one _ _ (hpp.trans (M.srtL_perm fs).symm) ((hpp.map _).nodup_iff.2 hn) ?_ (M.srtL_sorted fs)
      rw [List.pairwise_iff_getElem]
      intro i j hi hj hij
      have := hs i j (Nat.zero_le _) hij (by rw [← hsz]; simpa using hj)
      simp only [Array.length_toList] at hi hj
      have this := of_decide_eq_false this
      unfold cmpN at this
      rw [getElem!_pos d' i hi, getElem!_pos d' j hj] at this
      simp only [M.leN, M.ltN, Bool.not_eq_true', decide_eq_false_iff_not, Array.getElem_toList]
      exact this
    have hw : (sortWorldK fcells 2 w g 0 n d' os).heap[g]? = some (.cells (Sort.putCells id 0 (Sort.flatK fcells 2 d') cur) 55 (0, 0)) := by
      unfold sortWorldK Sort.grow Sort.putRowK Sort.putRow Sort.mapBlock Sort.ahead
      rw [Array.getElem?_append_left (by simpa using hlt), Array.getElem?_modify, if_pos rfl, hg]
      rfl
    refine ⟨rfl, ?_, ?_⟩
    · refine ⟨rfl, rfl, rfl, by simp [sortWorldK, Sort.grow, Sort.putRowK, Sort.putRow, Sort.mapBlock, Sort.ahead], fun k hk hne => ?_⟩
      have hne2 : ¬ g = k := fun e => hne (by subst e; rfl)
      unfold sortWorldK Sort.grow Sort.putRowK Sort.putRow Sort.mapBlock Sort.ahead
      rw [Array.getElem?_append_left (by simpa using hk), Array.getElem?_modify, if_neg hne2]
    · refine ⟨?_, .inr ⟨g, cap, _, rfl, hb, hw, hn2, hm, ?_, ?_⟩⟩
      · unfold frows
        rw [flat_len fcells (fun _ => rfl), M.srtL_length]
      · simp [Sort.putCells, hcs]
      · rw [← hd, ← hsz]
        exact flat_take d' cur (by rw [hcs, hsz]; omega)

set_option maxRecDepth 100000 in
set_option maxHeartbeats 1000000 in
theorem fclone_any (w : World) (fs : List (List UInt8 × Int)) (fa : Option Addr) (fc : Nat) (ho : w.ownsRow 0 55 2 (.slice fa fs.length fc) fs.length (frows fs)) (hn : fs.length ≤ 100000) :
    Calls Tryz.prog 101 #[.slice fa fs.length fc] w fun e w' => ∃ ga gc, e = .returned (.slice ga fs.length gc) ∧ Chg (fun _ => False) w w' ∧ w'.ownsRow w.heap.size 55 2 (.slice ga fs.length gc) fs.length (frows fs) := by
  obtain ⟨i0, hi, hz0, hz1, hz2⟩ := info_parts Tryz.infoField
  have q50 : ∀ (w : World) (a : Option Addr) (n c n' c' : Nat), (binOp .eql 50 (.slice a n c) (.slice none n' c')).run Tryz.prog w = .ok (.bool a.isNone) w := fun w a n c n' c' => Lib.run_eql_slice_nil w _ _ a n c n' c' Tryz.underlying50
  rcases ho.2 with ⟨hv, h0⟩ | ⟨g, cap, cur, hv, hb, hg, hn2, hm, hcs, htk⟩
  · have : fs = [] := List.length_eq_zero_iff.1 h0
    subst this
    simp only [Value.slice.injEq] at hv
    obtain ⟨rfl, -, rfl⟩ := hv
    go_enter Tryz.func101, Tryz.ntmps101
    go_wp2
    go_ret
    exact ⟨none, 0, rfl, Chg.refl _ _, rfl, .inl ⟨rfl, rfl⟩⟩
  · simp only [Value.slice.injEq] at hv
    obtain ⟨rfl, -, rfl⟩ := hv
    have hlt := (Array.getElem?_eq_some_iff.1 hg).1
    have HO : Hid ((w.alloc (.cells #[] 55)).ownsRow w.heap.size 55 2 (.slice (some ⟨w.heap.size, 0, none⟩) 0 0) 0 []) :=
      ⟨rfl, .inr ⟨w.heap.size, 0, #[], rfl, Nat.le_refl _, heap_alloc_new w _, Nat.le_refl _, Nat.zero_le _, rfl, rfl⟩⟩
    have HL := hide (owns_len ho)
    have HN : Hid (∀ j u, (frows fs)[j]? = some u → (w.alloc (.cells #[] 55)).cell? ((⟨g, 0, none⟩ : Addr).add j) = some u) := by
      intro j u hj
      have e := ho.cells (g := g) rfl j u hj
      have hadd : (⟨g, 0, none⟩ : Addr).add j = ⟨g, j, none⟩ := by unfold Addr.add; split <;> simp_all
      rw [hadd] at e ⊢
      exact cell_old hlt e
    have H1 : Hid (∀ u ∈ frows fs, u.oneCell' = true) := by
      intro u hu
      unfold frows at hu
      obtain ⟨x, -, hx⟩ := List.mem_flatMap.1 hu
      simp [fcells] at hx
      rcases hx with rfl | rfl <;> rfl
    clear ho htk hg
    go_enter Tryz.func101, Tryz.ntmps101
    go_wp2_with (at_builtin; refine wpList_append_own _ rfl _ _ 50 rfl w.heap.size 55 i0 (.agg #[.string ⟨#[]⟩, .int .i64 0]) 2 24 Tryz.underlying50 hi hz0 hz1 hz2 rfl (by decide) _ 0 [] rfl HO.out ⟨g, 0, none⟩ fs.length fc (frows fs) rfl HL.out HN.out H1.out ?c3 ?c4 ?c5 ?_)
    case c3 => simp only [maxLen]; omega
    case c4 => omega
    case c5 => simp
    intro v' w2 hown2 hg2 _
    obtain ⟨ad2, c2, rfl⟩ := owns_form hown2
    have HO2 := hide hown2
    have HC : Hid (Chg (fun _ => False) w w2) := by
      refine ((Chg.alloc (fun k => w.heap.size ≤ k) w _).trans (Chg.grown hg2) (fun k hk x => ?_)).mono (fun k hk x => by omega)
      have x' : some k = some w.heap.size := x
      simp only [Option.some.injEq] at x'
      omega
    clear hown2 hg2
    go_wp2
    go_ret
    exact ⟨ad2, c2, rfl, HC.out, HO2.out⟩
end Go.Proofs.YtkilicjjaljghaaGreat
