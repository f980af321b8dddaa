/-
  The contract of tokenBegun: it returns true.
-/
import Derived.Test.YthaffghlalnjaaaScan
namespace Go.Proofs.Ythaffghlalnjaaa
open Go.RowKit

/-- A slice that owns something: where it lies. -/
theorem owns_at {w : World} {base : Nat} {e : TypeId} {size : Nat} {ad : Option Addr} {c n : Nat} {xs : List Value} (h : w.ownsRow base e size (.slice ad n c) n xs) (hn : 0 < n) :
    ∃ g, ad = some ⟨g, 0, none⟩ ∧ base ≤ g ∧ g < w.heap.size ∧ n ≤ c ∧ c ≤ maxLen ∧ ∀ j u, xs[j]? = some u → w.cell? ⟨g, j, none⟩ = some u := by
  have hc := fun g hg => h.cells (g := g) hg
  have hl := h.lt
  rcases h.2 with ⟨_, h0⟩ | ⟨g, cap, cur, hv, hb, hg, hn2, hm, _⟩
  · omega
  · simp only [Value.slice.injEq] at hv
    obtain ⟨rfl, _, rfl⟩ := hv
    refine ⟨g, rfl, hb, (hl g rfl).2, hn2, hm, fun j u hj => ?_⟩
    have := hc g rfl j u hj
    have hadd : (⟨g, 0, none⟩ : Addr).add j = ⟨g, j, none⟩ := by unfold Addr.add; split <;> simp_all
    rw [hadd] at this
    exact this

theorem begun_scan : M.scan [120, 32, 61, 32, 49, 50, 59] = ([⟨1, [120], 0⟩, ⟨5, [61], 2⟩, ⟨3, [49, 50], 4⟩, ⟨5, [59], 6⟩, ⟨6, [], 7⟩], 0, 0) := by
  rfl

set_option maxHeartbeats 1000000 in
theorem begun_any (w : World) : Calls Try.prog 7 #[] w fun e w' => e = .returned (.bool true) ∧ Below w.heap.size w w' := by
  go_enter Try.func7, Try.ntmps7
  go_wp2_with fail
  refine (scan_any _ _ (by decide)).mono ?_
  rintro e w1 ⟨ad, c, rfl, hown, hb⟩
  rw [show M.scan (ByteArray.mk #[120, 32, 61, 32, 49, 50, 59]).data.toList = _ from begun_scan] at hown ⊢
  obtain ⟨g, rfl, hg1, hg2, hn, hm, hcell⟩ := owns_at hown (by decide)
  have c0 : w1.cell? ⟨g, 0, none⟩ = some (.int .i64 1) := hcell 0 _ rfl
  have c7 : w1.cell? ⟨g, 7, none⟩ = some (.string ⟨#[49, 50]⟩) := hcell 7 _ rfl
  have c14 : w1.cell? ⟨g, 14, none⟩ = some (.int .i64 7) := hcell 14 _ rfl
  have hb' := hide hb
  clear hown hcell hb
  go_wp2
  go_ret
  exact ⟨rfl, hb'.out.alloc hb'.out.size _⟩
end Go.Proofs.Ythaffghlalnjaaa
