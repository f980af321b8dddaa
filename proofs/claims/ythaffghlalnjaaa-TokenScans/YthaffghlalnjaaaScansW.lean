/-
  The walk of the statement TokenScans: it returns true, and nothing that was there has turned.
-/
import Derived.Test.YthaffghlalnjaaaTokens
namespace Go.Proofs.Ythaffghlalnjaaa
open Go.RowKit

theorem scan_len (l : List UInt8) : (M.scan l).1.length ≤ 1001 := by
  have key : ∀ (f : Nat) (l : List UInt8) (a : Nat) (acc : List M.Tk), acc.length ≤ 1000 → (M.scanF f l a acc).1.length ≤ 1001 := by
    intro f
    induction f with
    | zero => intro l a acc _; simp [M.scanF]
    | succ f ih =>
      intro l a acc h
      simp only [M.scanF]
      split
      · simp; omega
      split
      · simp
      split
      · simp
      · exact ih _ _ _ (by simp; omega)
  unfold M.scan
  split
  · simp
  · exact key _ _ _ _ (by simp)

set_option maxHeartbeats 1000000 in
theorem tokenScans_any (s : ByteArray) (w : World) (hs : s.size ≤ maxLen) : Calls Try.prog 3 #[.string s] w fun e w' => e = .returned (.bool true) ∧ Below w.heap.size w w' := by
  have hl := scan_len s.data.toList
  go_enter Try.func3, Try.ntmps3
  go_wp2_with fail
  refine (scan_any _ _ hs).mono ?_
  rintro e w1 ⟨ad1, c1, rfl, hown1, hb1⟩
  generalize hR : M.scan s.data.toList = R at *
  have HR := hide hR
  clear hR
  obtain ⟨L, er, pl⟩ := R
  simp only at hown1 hl ⊢
  have H1 := hide hown1
  have B1 := hide hb1
  clear hown1 hb1
  go_wp2_with fail
  refine (tokens_any _ _ hs).mono ?_
  rintro e w2 ⟨ad2, c2, rfl, hown2, hb2⟩
  rw [HR.out] at hown2 ⊢
  simp only at hown2 ⊢
  obtain ⟨hc2, hf2⟩ := bcell hb2
  have q0 : w2.cell? ⟨w1.heap.size, 0, none⟩ = some (.int .i64 er) := by rw [hc2 _ _ (by simp), World.cell?_alloc_new]; rfl
  have q1 : w2.cell? ⟨w1.heap.size, 1, none⟩ = some (.int .i64 (pl : Int)) := by rw [hc2 _ _ (by simp), World.cell?_alloc_new]; rfl
  have hz : w1.heap.size < w2.heap.size := by have := hb2.size; simp at this; omega
  have H2 := hide hown2
  have B2 := hide hb2
  clear hown2 hb2 hc2 hf2
  go_wp2_with fail
  refine (begun_any _).mono ?_
  rintro e w3 ⟨rfl, hb3⟩
  obtain ⟨hc3, hf3⟩ := bcell hb3
  have p0 : w3.cell? ⟨w1.heap.size, 0, none⟩ = some (.int .i64 er) := by rw [hc3 _ _ (by simp; omega), World.cell?_alloc_past _ _ _ hz]; exact q0
  have p1 : w3.cell? ⟨w1.heap.size, 1, none⟩ = some (.int .i64 (pl : Int)) := by rw [hc3 _ _ (by simp; omega), World.cell?_alloc_past _ _ _ hz]; exact q1
  have r0 : w3.cell? ⟨w2.heap.size, 0, none⟩ = some (.int .i64 er) := by rw [hc3 _ _ (by simp), World.cell?_alloc_new]; rfl
  have r1 : w3.cell? ⟨w2.heap.size, 1, none⟩ = some (.int .i64 (pl : Int)) := by rw [hc3 _ _ (by simp), World.cell?_alloc_new]; rfl
  have hz3 : w2.heap.size < w3.heap.size := by have := hb3.size; simp at this; omega
  have B3 := hide hb3
  clear hb3 hc3 hf3 q0 q1
  go_wp2_with fail
  refine (same_any L ad1 ad2 c1 c2 _ _ _ hl (ownsRow_below (ownsRow_below (H1.out.alloc _) B2.out |>.alloc _) B3.out) (ownsRow_below (H2.out.alloc _) B3.out)).mono ?_
  rintro e w4 ⟨rfl, hb4⟩
  have B4 := hide hb4
  clear hb4
  go_wp2
  go_ret
  refine ⟨rfl, ?_⟩
  have s1 := B1.out.size
  have s2 : w1.heap.size + 1 ≤ w2.heap.size := by have := B2.out.size; simpa using this
  have s3 : w2.heap.size + 1 ≤ w3.heap.size := by have := B3.out.size; simpa using this
  have k2 := (B1.out.alloc s1 _).trans (B2.out.mono (by simp; omega))
  have k3 := (k2.alloc (by omega) _).trans (B3.out.mono (by simp; omega))
  exact k3.trans (B4.out.mono (by omega))
end Go.Proofs.Ythaffghlalnjaaa
