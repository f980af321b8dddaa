/-
  Plain functions: all tokens of a text, or the first fault.
-/
import Derived.Test.YthaffghlalnjaaaMathb
namespace Go.Proofs.Ythaffghlalnjaaa.M

/-- The tokens from a place on, behind some, or the first fault and where it is. -/
def scanF : Nat → List UInt8 → Nat → List Tk → List Tk × Int × Nat
  | 0, _, _, _ => ([], 0, 0)
  | f + 1, l, a, acc =>
    if l.length ≤ a + sp blank (l.drop a) then (acc ++ [⟨6, [], l.length⟩], 0, 0)
    else if (first (l.drop (a + sp blank (l.drop a)))).2.2 = 0 then ([], 1, a + sp blank (l.drop a))
    else if acc.length = 1000 then ([], 2, a + sp blank (l.drop a))
    else scanF f l (a + sp blank (l.drop a) + (first (l.drop (a + sp blank (l.drop a)))).2.2)
      (acc ++ [⟨(first (l.drop (a + sp blank (l.drop a)))).1, (first (l.drop (a + sp blank (l.drop a)))).2.1, a + sp blank (l.drop a)⟩])

def scan (l : List UInt8) : List Tk × Int × Nat := if 4000 < l.length then ([], 2, 0) else scanF (l.length + 1) l 0 []

theorem longest_len (l : List UInt8) : ∀ (gs : List (List UInt8)) (m : Nat), m ≤ l.length → gs.foldl (fun m g => if g.isPrefixOf l then max m g.length else m) m ≤ l.length
  | [], m, hm => hm
  | g :: r, m, hm => by
    simp only [List.foldl_cons]
    refine longest_len l r _ ?_
    split
    · rename_i h
      exact Nat.max_le.2 ⟨hm, (List.isPrefixOf_iff_prefix.1 h).length_le⟩
    · exact hm

theorem first_le (l : List UInt8) : (first l).2.2 ≤ l.length := by
  unfold first
  cases h : l.head? with
  | none => simp
  | some c =>
    simp only
    split
    · unfold number
      split
      · simp
      · exact sp_le _ _
    split
    · unfold name
      split
      · simp
      · exact sp_le _ _
    split
    · unfold text
      split
      · simp
      · rename_i h1
        rw [not_or] at h1
        have h2 : (l.tail.drop (sp txt l.tail)).head? = some 34 := Classical.not_not.1 h1.2
        have h3 : sp txt l.tail < l.tail.length := by
          apply Classical.byContradiction
          intro h4
          rw [List.drop_of_length_le (by omega)] at h2
          simp at h2
        rw [List.length_tail] at h3
        show sp txt l.tail + 2 ≤ l.length
        omega
    · unfold sign
      split
      · simp
      · exact longest_len l signs 0 (by omega)

/-- From a place that is not blank. -/
theorem scanF_at (f : Nat) (l : List UInt8) (a : Nat) (acc : List Tk) (hb : sp blank (l.drop a) = 0) : scanF (f + 1) l a acc =
    if l.length ≤ a then (acc ++ [⟨6, [], l.length⟩], 0, 0)
    else if (first (l.drop a)).2.2 = 0 then ([], 1, a)
    else if acc.length = 1000 then ([], 2, a)
    else scanF f l (a + (first (l.drop a)).2.2) (acc ++ [⟨(first (l.drop a)).1, (first (l.drop a)).2.1, a⟩]) := by
  simp only [scanF, hb, Nat.add_zero]

theorem sp_drop (p : Nat → Bool) : ∀ (l : List UInt8), sp p (l.drop (sp p l)) = 0
  | [] => by simp [sp]
  | c :: r => by
    simp only [sp]
    split
    · rw [List.drop_succ_cons]; exact sp_drop p r
    · rename_i h; simp [sp, h]

/-- Blanks ahead may be passed over. -/
theorem scanF_skip (f : Nat) (l : List UInt8) (a : Nat) (acc : List Tk) : scanF (f + 1) l a acc = scanF (f + 1) l (a + sp blank (l.drop a)) acc := by
  have h := sp_drop blank (l.drop a)
  rw [List.drop_drop] at h
  rw [scanF_at f l (a + sp blank (l.drop a)) acc h]
  simp only [scanF]

end Go.Proofs.Ythaffghlalnjaaa.M
