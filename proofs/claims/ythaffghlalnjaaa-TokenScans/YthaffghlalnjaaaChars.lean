/-
  The contracts of the small functions on one byte: each returns the plain function of the byte, and the world is as it was.
-/
import Derived.Test.YthaffghlalnjaaaChecked
import Derived.Test.YthaffghlalnjaaaMath
import Derived.WalkKit
import Derived.WalkSpells
import Derived.WalkLawsBesides
namespace Go.Proofs.Ythaffghlalnjaaa
open Go.RowKit

theorem ret_bool {a b : Bool} (h : a = b) : Ending.returned (.bool a) = .returned (.bool b) := by rw [h]

set_option maxHeartbeats 400000 in
theorem isDigit_any (n : Nat) (w : World) : Calls Try.prog 17 #[.int .u8 (n : Int)] w fun e w' => e = .returned (.bool (M.dig n)) ∧ w' = w := by
  go_enter Try.func17, Try.ntmps17
  go_wp2
  all_goals go_ret
  all_goals exact ⟨ret_bool (by rw [Bool.eq_iff_iff]; simp [M.dig]; omega), rfl⟩

set_option maxHeartbeats 400000 in
theorem isLetter_any (n : Nat) (w : World) : Calls Try.prog 19 #[.int .u8 (n : Int)] w fun e w' => e = .returned (.bool (M.let' n)) ∧ w' = w := by
  go_enter Try.func19, Try.ntmps19
  go_wp2
  all_goals go_ret
  all_goals exact ⟨ret_bool (by rw [Bool.eq_iff_iff]; simp [M.let']; omega), rfl⟩

set_option maxHeartbeats 400000 in
theorem refDigit_any (n : Nat) (w : World) : Calls Try.prog 12 #[.int .u8 (n : Int)] w fun e w' => e = .returned (.bool (M.dig n)) ∧ w' = w := by
  go_enter Try.func12, Try.ntmps12
  go_wp2
  all_goals go_ret
  all_goals exact ⟨ret_bool (by rw [Bool.eq_iff_iff]; simp [M.dig]; omega), rfl⟩

set_option maxHeartbeats 400000 in
theorem refLetter_any (n : Nat) (w : World) : Calls Try.prog 11 #[.int .u8 (n : Int)] w fun e w' => e = .returned (.bool (M.let' n)) ∧ w' = w := by
  go_enter Try.func11, Try.ntmps11
  go_wp2
  all_goals go_ret
  all_goals exact ⟨ret_bool (by rw [Bool.eq_iff_iff]; simp [M.let']; omega), rfl⟩

set_option maxHeartbeats 400000 in
theorem skip1_any (n : Nat) (w : World) : Calls Try.prog 16 #[.int .u8 (n : Int)] w fun e w' => e = .returned (.bool (M.blank n)) ∧ w' = w := by
  go_enter Try.func16, Try.ntmps16
  go_wp2
  all_goals go_ret
  all_goals exact ⟨ret_bool (by rw [Bool.eq_iff_iff]; simp [M.blank]; omega), rfl⟩

set_option maxHeartbeats 400000 in
theorem text1_any (n : Nat) (w : World) : Calls Try.prog 27 #[.int .u8 (n : Int)] w fun e w' => e = .returned (.bool (M.txt n)) ∧ w' = w := by
  go_enter Try.func27, Try.ntmps27
  go_wp2
  all_goals go_ret
  all_goals exact ⟨ret_bool (by rw [Bool.eq_iff_iff]; simp [M.txt]; omega), rfl⟩

set_option maxHeartbeats 400000 in
theorem number1_any (n : Nat) (w : World) : Calls Try.prog 23 #[.int .u8 (n : Int)] w fun e w' => e = .returned (.bool (M.dig n)) ∧ w' = w := by
  go_enter Try.func23, Try.ntmps23
  go_wp2_with (go_at_call 17; refine (isDigit_any _ _).mono ?_; rintro e w' ⟨rfl, rfl⟩)
  go_ret
  exact ⟨rfl, rfl⟩

set_option maxHeartbeats 400000 in
theorem name1_any (n : Nat) (w : World) : Calls Try.prog 25 #[.int .u8 (n : Int)] w fun e w' => e = .returned (.bool (M.nam n)) ∧ w' = w := by
  cases h : M.let' n
  all_goals
    go_enter Try.func25, Try.ntmps25
    go_wp2_with (first | (go_at_call 17; refine (isDigit_any _ _).mono ?_; rintro e w' ⟨rfl, rfl⟩) | (go_at_call 19; refine (isLetter_any _ _).mono ?_; rintro e w' ⟨rfl, rfl⟩))
    go_ret
    exact ⟨ret_bool (by simp [M.nam, h]), rfl⟩
end Go.Proofs.Ythaffghlalnjaaa
