/-
  The contract of SameTokens where both slices hold the same tokens: it returns true.
-/
import Derived.Test.YthaffghlalnjaaaBegun
import Derived.Deep.QuietTactic
import Derived.BigQuiet
namespace Go.Proofs.Ythaffghlalnjaaa
open Go.RowKit

theorem rows_at : ∀ (L : List M.Tk) (k : Nat) (h : k < L.length) (j : Nat), j < 3 → (rows L)[3 * k + j]? = (tcells L[k])[j]?
  | [], k, h, _, _ => by simp at h
  | t :: r, 0, _, j, hj => by
    simp only [rows, List.flatMap_cons, Nat.mul_zero, Nat.zero_add, List.getElem_cons_zero]
    rw [List.getElem?_append_left (by simp [tcells]; omega)]
  | t :: r, k + 1, h, j, hj => by
    simp only [rows, List.flatMap_cons, List.getElem_cons_succ]
    rw [List.getElem?_append_right (by simp [tcells]; omega)]
    have := rows_at r k (by simpa using h) j hj
    rw [← this]
    simp only [tcells, List.length_cons, List.length_nil, rows]
    congr 1
    omega

theorem tok_cells {w : World} {g : Nat} {L : List M.Tk} {k : Nat} (h : k < L.length) (hc : ∀ j u, (rows L)[j]? = some u → w.cell? ⟨g, j, none⟩ = some u) :
    w.cell? ⟨g, k * 3, none⟩ = some (.int .i64 L[k].kind) ∧ w.cell? ⟨g, k * 3 + 1, none⟩ = some (.string ⟨L[k].text.toArray⟩) ∧ w.cell? ⟨g, k * 3 + 2, none⟩ = some (.int .i64 (L[k].at' : Int)) := by
  rw [Nat.mul_comm k 3]
  exact ⟨hc _ _ (rows_at L k h 0 (by omega)), hc _ _ (rows_at L k h 1 (by omega)), hc _ _ (rows_at L k h 2 (by omega))⟩

set_option maxHeartbeats 1000000 in
theorem same_any (L : List M.Tk) (ad1 ad2 : Option Addr) (c1 c2 b1 b2 : Nat) (w : World) (hL : L.length ≤ 1001) (h1 : w.ownsRow b1 32 3 (.slice ad1 L.length c1) L.length (rows L)) (h2 : w.ownsRow b2 32 3 (.slice ad2 L.length c2) L.length (rows L)) :
    Calls Try.prog 8 #[.slice ad1 L.length c1, .slice ad2 L.length c2] w fun e w' => e = .returned (.bool true) ∧ Below w.heap.size w w' := by
  have hne : ((L.length : Int) != (L.length : Int)) = false := by simp
  by_cases hn : 0 < L.length
  · obtain ⟨g1, rfl, _, hg1, hc1, hm1, cell1⟩ := owns_at h1 hn
    obtain ⟨g2, rfl, _, hg2, hc2, hm2, cell2⟩ := owns_at h2 hn
    clear h1 h2
    go_enter Try.func8, Try.ntmps8
    go_wp2
    go_loopw [5] (fun i wr => ∃ k : Nat, k ≤ L.length ∧ i = .int .i64 k ∧ Hid (Below w.heap.size w wr)) (fun i _ => L.length - (intOf i).toNat)
    case atStart => exact ⟨0, Nat.zero_le _, rfl, Below.refl _ _⟩
    case round =>
      obtain ⟨k, hk, rfl, hb⟩ := hrel
      by_cases hlt : k < L.length
      · obtain ⟨x0, x1, x2⟩ := tok_cells hlt cell1
        obtain ⟨y0, y1, y2⟩ := tok_cells hlt cell2
        rw [← hb.out.cell (p := ⟨g1, k * 3, none⟩) hg1] at x0
        rw [← hb.out.cell (p := ⟨g1, k * 3 + 1, none⟩) hg1] at x1
        rw [← hb.out.cell (p := ⟨g1, k * 3 + 2, none⟩) hg1] at x2
        rw [← hb.out.cell (p := ⟨g2, k * 3, none⟩) hg2] at y0
        rw [← hb.out.cell (p := ⟨g2, k * 3 + 1, none⟩) hg2] at y1
        rw [← hb.out.cell (p := ⟨g2, k * 3 + 2, none⟩) hg2] at y2
        generalize L[k] = tk at *
        obtain ⟨kd, tx, pl⟩ := tk
        simp only at x0 x1 x2 y0 y1 y2
        generalize (⟨tx.toArray⟩ : ByteArray) = bx at *
        go_wp2
        go_quiet (fail)
        clear x0 x1 x2 y0 y1 y2
        go_wp2
        go_roundw
        case rel => exact ⟨k + 1, by omega, by go_num, below_drewN hb.out _⟩
        case measure => simp [intOf]; omega
      · go_wp2
        go_ret
        exact ⟨rfl, hb.out⟩
  · have hz : L = [] := List.eq_nil_of_length_eq_zero (by omega)
    subst hz
    clear h1 h2 hne hn hL
    simp only [List.length_nil]
    go_enter Try.func8, Try.ntmps8
    go_wp2
    go_loop [5] (fun i => i = .int .i64 0) (fun _ => 0)
    case atStart => rfl
    case round =>
      subst hrel
      go_wp2
      go_ret
      exact ⟨rfl, Below.refl _ _⟩
end Go.Proofs.Ythaffghlalnjaaa
