/-
  The contract of types.Union, of two texts.
-/
import Derived.Test.YtkilicjjaljghaaGreatTsa
namespace Go.Proofs.YtkilicjjaljghaaGreat
open Go.RowKit Go.Maps

def UtAns (a b : List UInt8) (w : World) (e : Ending) (w' : World) : Prop := Below w.heap.size w w' ∧
  ((∃ er p, Flt [a, b] er p ∧ e = .returned (.tuple #[.string ⟨#[]⟩, .agg #[.int .i64 er, .int .i64 p]])) ∨ ∃ X Y, M.TRes a (.inr X) ∧ M.TRes b (.inr Y) ∧ e = .returned (.tuple #[.string ⟨(M.txt' (M.unite [root X, root Y])).toArray⟩, .agg #[.int .i64 0, .int .i64 0]]))

set_option maxRecDepth 10000 in
set_option maxHeartbeats 2000000 in
theorem unionT_any (w : World) (b c : Nat) (s t : List UInt8) (hst : Strs w b [s, t]) (hs : s.length ≤ maxLen) (ht : t.length ≤ maxLen) : Calls Tryz.prog 12 #[.slice (some ⟨b, 0, none⟩) 2 c] w (UtAns s t w) := by
  have HR := hide (read_any (w.alloc (.cells #[.int .i64 0, .int .i64 0] 24)) b c [s, t] (strs_size hst _) (by simp) (fun x hx => by
    simp only [List.mem_cons, List.not_mem_nil, or_false] at hx
    rcases hx with rfl | rfl
    · exact hs
    · exact ht))
  have B0 := hide ((Below.refl w.heap.size w).alloc (Nat.le_refl _) (.cells #[.int .i64 0, .int .i64 0] 24))
  have F0 : Hid ((w.alloc (.cells #[.int .i64 0, .int .i64 0] 24)).heap[w.heap.size]? = some (.cells #[.int .i64 0, .int .i64 0] 24 (0, 0))) := heap_alloc_new w _
  clear hst
  go_enter Tryz.func12, Tryz.ntmps12
  go_wp2_with fail
  refine HR.out.mono ?_
  clear HR
  rintro e w1 ⟨hb1, hans⟩
  have B1 := hide (B0.out.trans (hb1.mono (by simp)))
  have F1 : Hid (w1.heap[w.heap.size]? = some (.cells #[.int .i64 0, .int .i64 0] 24 (0, 0))) := (hb1.block w.heap.size (by simp)).trans F0.out
  have f0 : w1.cell? ⟨w.heap.size, 0, none⟩ = some (.int .i64 0) := by rw [cell_of_row w1 _ 0 _ _ _ F1.out]; rfl
  have f1 : w1.cell? ⟨w.heap.size, 1, none⟩ = some (.int .i64 0) := by rw [cell_of_row w1 _ 1 _ _ _ F1.out]; rfl
  have hz := (Array.getElem?_eq_some_iff.1 F1.out).1
  have ff : ∀ o, w1.frozen? ⟨w.heap.size, o, none⟩ = false := fun o => frozen_of_row w1 _ o _ _ F1.out
  have hz2 : w.heap.size + 1 ≤ w1.heap.size := by have := hb1.size; simp at this; omega
  clear hb1 B0 F0
  rcases hans with ⟨j, T, rs, er, p, hj, -, htr, rfl⟩ | ⟨T, rs, lb, mb, ad, ac, hrd, rfl, hsh, hlb, hmb, hown, v0, hv0, hvg⟩
  · have hne : er ≠ 0 := htr.1
    have hne' : (er != 0) = true := by simp [hne]
    have HX : Hid (Flt [s, t] er p) := ⟨hne, _, List.getElem_mem hj, htr⟩
    clear htr
    go_wp2_with fail
    go_region
    go_wp2
    exact bodyPost_ret (v := .tuple #[.string ⟨#[]⟩, .agg #[.int .i64 er, .int .i64 p]]) (by simp [results, Tryz.results12, go_sem, f0, f1, hz]) rfl
      ⟨(((B1.out.setCell (by simp) _).setCell (by simp) _).alloc (by simp; omega) _).drew, .inl ⟨er, p, HX.out, rfl⟩⟩
  · have hTlen := hrd.len.1
    have HFW := rd_few hrd
    obtain ⟨X, Y, hX, hY, hp, hq, hTl, rfl, htr1, htr2⟩ := rd_two hrd
    have hX3 := (M.tres_ok hX).2.2.1
    have hY3 := (M.tres_ok hY).2.2.1
    have wX := M.tres_wg hX
    have wY := M.tres_wg hY
    have em : ([(X.length : Int) - 1, (X.length : Int) + Y.length - 1]).map (trx T) = [root X, root Y] := by
      simp only [List.map_cons, List.map_nil, trx]
      rw [show ((X.length : Int) - 1).toNat = X.length - 1 by omega, show ((X.length : Int) + Y.length - 1).toNat = X.length + Y.length - 1 by omega, htr1, htr2]
    have hwl : M.wgL [root X, root Y] ≤ 200000 := by
      simp only [M.wgL]
      unfold root
      omega
    have HU := lunion_any (w1.alloc (.cells #[.int .i64 0, .int .i64 0] 24)) (hsh.alloc _) HFW [(X.length : Int) - 1, (X.length : Int) + Y.length - 1] (fun x hx => by
      simp only [List.mem_cons, List.not_mem_nil, or_false] at hx
      rcases hx with rfl | rfl <;> omega) (by simp) ad ac (by have := (owns_base hown (Nat.zero_le _)).alloc (.cells #[.int .i64 0, .int .i64 0] 24); exact this) (by simp) (by rw [em]; exact hwl) (by omega)
    have HU2 := hide HU
    have hv1 := cell_old (o := .cells #[.int .i64 0, .int .i64 0] 24) (World.block_lt_of_cell? w1 _ hv0) hv0
    have HV := hide hv1
    have HVG := hide hvg
    have HE := hide em
    have HX := hide hX
    have HY := hide hY
    have hlt : lb < w1.heap.size := World.block_lt_of_cell? w1 _ hv0
    have HO := hide hown
    have HBK := hide hsh.blk
    clear hsh hown hrd hX hY htr1 htr2 hv0 hvg hv1 em HU
    go_wp2_with fail
    refine HU2.out.mono ?_
    rintro e w2 ⟨r, Z, rfl, hr, hs2, hf2, hu2, v2, hv2, hc2⟩
    have e2 : v2 = v0 := by
      have := HV.out
      rw [hv2] at this
      exact Option.some.inj this
    subst e2
    rw [HE.out] at hu2
    have hwg2 : M.wg (M.tr (T ++ Z) r) ≤ 1000000 := by
      rw [hu2]
      have := M.wg_unite [root X, root Y]
      omega
    have HT := hide (ltext_any w2 hs2 hf2 r hr hwg2)
    have etx : wtx false (T ++ Z) r = M.txt' (M.unite [root X, root Y]) := by
      unfold wtx
      rw [hu2]
      simp [wtr]
    rw [etx] at HT
    have hlow : ∀ k, AddS lb v2 k → w.heap.size + 1 ≤ k := by
      rintro k (rfl | hx)
      · simpa using hlb
      · have := HVG.out k hx.symm
        simpa using this
    have B2 := hide ((B1.out.alloc (by omega) (.cells #[.int .i64 0, .int .i64 0] 24)).trans (hc2.toBelow (B := w.heap.size) (fun k _ x => by have := hlow k x; omega) (by simp; omega)))
    have F2 : Hid (w2.heap[w.heap.size]? = some (.cells #[.int .i64 0, .int .i64 0] 24 (0, 0))) := by
      show _ = _
      rw [hc2.block w.heap.size (by simp; omega) (fun x => by have := hlow _ x; omega), Below.heap_alloc _ _ _ hz]
      exact F1.out
    have hw2 : w1.heap.size ≤ w2.heap.size := by have := hc2.size; simp at this; omega
    generalize htx : M.txt' (M.unite [root X, root Y]) = tx at *
    have HTX := hide htx
    clear htx
    clear hs2 hu2 hc2 HU2 HV etx
    go_wp2_with fail
    refine HT.out.mono ?_
    rintro e w3 ⟨rfl, hc3⟩
    have B3 := hide (B2.out.trans (hc3.toBelow (fun _ _ x => x.elim) (by omega)))
    have F3 : Hid (w3.heap[w.heap.size]? = some (.cells #[.int .i64 0, .int .i64 0] 24 (0, 0))) := by
      show _ = _
      rw [hc3.block w.heap.size (by omega) (fun x => x)]
      exact F2.out
    have g0 : w3.cell? ⟨w.heap.size, 0, none⟩ = some (.int .i64 0) := by rw [cell_of_row w3 _ 0 _ _ _ F3.out]; rfl
    have g1 : w3.cell? ⟨w.heap.size, 1, none⟩ = some (.int .i64 0) := by rw [cell_of_row w3 _ 1 _ _ _ F3.out]; rfl
    have gz := (Array.getElem?_eq_some_iff.1 F3.out).1
    have gf : ∀ o, w3.frozen? ⟨w.heap.size, o, none⟩ = false := fun o => frozen_of_row w3 _ o _ _ F3.out
    clear hc3
    go_wp2_with fail
    exact bodyPost_ret (v := .tuple #[.string ⟨tx.toArray⟩, .agg #[.int .i64 0, .int .i64 0]]) (by simp [results, Tryz.results12, go_sem, g0, g1]) rfl
      ⟨(B3.out.setCell (by simp) _).setCell (by simp) _, .inr ⟨X, Y, HX.out, HY.out, by rw [HTX.out]⟩⟩
end Go.Proofs.YtkilicjjaljghaaGreat
