/-
  Plain facts on the signs, and on which kind of token a byte begins.
-/
import Derived.Test.YthaffghlalnjaaaMathc
namespace Go.Proofs.Ythaffghlalnjaaa.M

/-- The signs of one byte. -/
def chars : List UInt8 := [40, 41, 123, 125, 91, 93, 44, 59, 58, 46, 61, 60, 43, 45, 42, 33, 124]
def isSign (c : Nat) : Bool := chars.any (fun x => x.toNat == c)

theorem longest_one (c : UInt8) (r : List UInt8) : ∀ (xs : List UInt8) (m : Nat), (xs.map fun x => [x]).foldl (fun m g => if g.isPrefixOf (c :: r) then max m g.length else m) m = if xs.contains c then max m 1 else m
  | [], m => by simp
  | x :: xs, m => by
    simp only [List.map_cons, List.foldl_cons]
    rw [longest_one c r xs]
    have h : ([x].isPrefixOf (c :: r)) = (x == c) := by simp [List.isPrefixOf]
    rw [h, List.contains_cons]
    by_cases hx : x = c
    · subst hx; simp
    · have h1 : (x == c) = false := by simp [hx]
      have h2 : (c == x) = false := by simp [Ne.symm hx]
      simp [h1, h2]

theorem isSign_iff (c : UInt8) : chars.contains c = isSign c.toNat := by
  rw [Bool.eq_iff_iff]
  simp only [isSign, List.any_eq_true, List.contains_iff_mem, beq_iff_eq]
  constructor
  · intro h; exact ⟨c, h, rfl⟩
  · rintro ⟨x, hx, he⟩; rw [← UInt8.toNat_inj.1 he]; exact hx

theorem longest_signs (c : UInt8) (r : List UInt8) : longest (c :: r) signs = if c = 61 ∧ (r.head? = some 61 ∨ r.head? = some 62) then 2 else if isSign c.toNat then 1 else 0 := by
  have hs : signs = [[61, 61], [61, 62]] ++ chars.map (fun x => [x]) := rfl
  rw [hs, longest, List.foldl_append, longest_one, isSign_iff]
  cases r with
  | nil => simp
  | cons d q =>
    simp only [List.foldl_cons, List.foldl_nil, List.isPrefixOf, List.head?_cons, Option.some.injEq, List.length_cons, List.length_nil, Bool.and_true, beq_iff_eq, Bool.and_eq_true]
    by_cases hc : c = 61
    · subst hc
      by_cases h1 : d = 61
      · subst h1; simp
      · by_cases h2 : d = 62
        · subst h2; simp
        · simp [h1, h2, Ne.symm h1, Ne.symm h2]
    · simp [hc, Ne.symm hc]

end Go.Proofs.Ythaffghlalnjaaa.M
