/-
  The contracts of the small functions on one byte: each returns the plain function of the byte, and the world is as it was.
  The contracts of span, at each of the four functions that it is handed.
-/
import Derived.Test.YtkilicjjaljghaaGreatChecked
import Derived.Test.YtkilicjjaljghaaGreatPlainA
import Derived.WalkKit
import Derived.WalkSpells
import Derived.WalkLawsBesides
/- The contracts of the small functions on one byte: each returns the plain function of the byte, and the world is as it was. -/
namespace Go.Proofs.YtkilicjjaljghaaGreat
open Go.RowKit

theorem ret_bool {a b : Bool} (h : a = b) : Ending.returned (.bool a) = .returned (.bool b) := by rw [h]

set_option maxHeartbeats 400000 in
theorem isDigit_any (n : Nat) (w : World) : Calls Tryz.prog 87 #[.int .u8 (n : Int)] w fun e w' => e = .returned (.bool (M.dig n)) ∧ w' = w := by
  go_enter Tryz.func87, Tryz.ntmps87
  go_wp2
  all_goals go_ret
  all_goals exact ⟨ret_bool (by rw [Bool.eq_iff_iff]; simp [M.dig]; omega), rfl⟩

set_option maxHeartbeats 400000 in
theorem isLetter_any (n : Nat) (w : World) : Calls Tryz.prog 89 #[.int .u8 (n : Int)] w fun e w' => e = .returned (.bool (M.let' n)) ∧ w' = w := by
  go_enter Tryz.func89, Tryz.ntmps89
  go_wp2
  all_goals go_ret
  all_goals exact ⟨ret_bool (by rw [Bool.eq_iff_iff]; simp [M.let']; omega), rfl⟩

set_option maxHeartbeats 400000 in
theorem refDigit_any (n : Nat) (w : World) : Calls Tryz.prog 56 #[.int .u8 (n : Int)] w fun e w' => e = .returned (.bool (M.dig n)) ∧ w' = w := by
  go_enter Tryz.func56, Tryz.ntmps56
  go_wp2
  all_goals go_ret
  all_goals exact ⟨ret_bool (by rw [Bool.eq_iff_iff]; simp [M.dig]; omega), rfl⟩

set_option maxHeartbeats 400000 in
theorem refLetter_any (n : Nat) (w : World) : Calls Tryz.prog 55 #[.int .u8 (n : Int)] w fun e w' => e = .returned (.bool (M.let' n)) ∧ w' = w := by
  go_enter Tryz.func55, Tryz.ntmps55
  go_wp2
  all_goals go_ret
  all_goals exact ⟨ret_bool (by rw [Bool.eq_iff_iff]; simp [M.let']; omega), rfl⟩

set_option maxHeartbeats 400000 in
theorem skip1_any (n : Nat) (w : World) : Calls Tryz.prog 86 #[.int .u8 (n : Int)] w fun e w' => e = .returned (.bool (M.blank n)) ∧ w' = w := by
  go_enter Tryz.func86, Tryz.ntmps86
  go_wp2
  all_goals go_ret
  all_goals exact ⟨ret_bool (by rw [Bool.eq_iff_iff]; simp [M.blank]; omega), rfl⟩

set_option maxHeartbeats 400000 in
theorem text1_any (n : Nat) (w : World) : Calls Tryz.prog 112 #[.int .u8 (n : Int)] w fun e w' => e = .returned (.bool (M.txt n)) ∧ w' = w := by
  go_enter Tryz.func112, Tryz.ntmps112
  go_wp2
  all_goals go_ret
  all_goals exact ⟨ret_bool (by rw [Bool.eq_iff_iff]; simp [M.txt]; omega), rfl⟩

set_option maxHeartbeats 400000 in
theorem number1_any (n : Nat) (w : World) : Calls Tryz.prog 108 #[.int .u8 (n : Int)] w fun e w' => e = .returned (.bool (M.dig n)) ∧ w' = w := by
  go_enter Tryz.func108, Tryz.ntmps108
  go_wp2_with (go_at_call 87; refine (isDigit_any _ _).mono ?_; rintro e w' ⟨rfl, rfl⟩)
  go_ret
  exact ⟨rfl, rfl⟩

set_option maxHeartbeats 400000 in
theorem name1_any (n : Nat) (w : World) : Calls Tryz.prog 110 #[.int .u8 (n : Int)] w fun e w' => e = .returned (.bool (M.nam n)) ∧ w' = w := by
  cases h : M.let' n
  all_goals
    go_enter Tryz.func110, Tryz.ntmps110
    go_wp2_with (first | (go_at_call 87; refine (isDigit_any _ _).mono ?_; rintro e w' ⟨rfl, rfl⟩) | (go_at_call 89; refine (isLetter_any _ _).mono ?_; rintro e w' ⟨rfl, rfl⟩))
    go_ret
    exact ⟨ret_bool (by simp [M.nam, h]), rfl⟩
end Go.Proofs.YtkilicjjaljghaaGreat

/- The contracts of span, at each of the four functions that it is handed. -/
namespace Go.Proofs.YtkilicjjaljghaaGreat
open Go.RowKit

theorem ret_int {k : IntKind} {a b : Int} (h : a = b) : Ending.returned (.int k a) = .returned (.int k b) := by rw [h]
theorem bl (s : ByteArray) : s.data.toList.length = s.size := by rw [Array.length_toList]; rfl

set_option maxHeartbeats 400000 in
theorem span16_any (s : ByteArray) (w : World) (hs : s.size ≤ maxLen) : Calls Tryz.prog 85 #[.string s, .func (.func 86) #[] #[]] w fun e w' => e = .returned (.int .i64 (M.sp M.blank s.data.toList)) ∧ w' = w := by
  unfold maxLen at hs
  go_enter Tryz.func85, Tryz.ntmps85
  go_wp2
  go_loop [5] (fun i => ∃ k : Nat, k ≤ s.size ∧ i = .int .i64 k ∧ k ≤ M.sp M.blank s.data.toList) (fun i => s.size - (intOf i).toNat)
  case atStart => exact ⟨0, Nat.zero_le _, rfl, Nat.zero_le _⟩
  case round =>
    obtain ⟨k, hk, rfl, hq⟩ := hrel
    by_cases hlt : k < s.size
    · cases hp : M.blank s[k].toNat
      · go_wp2_with (go_at_call 86; refine (skip1_any _ _).mono ?_; rintro e w' ⟨rfl, rfl⟩)
        go_ret
        exact ⟨ret_int (by rw [M.sp_no M.blank s.data.toList k (by rw [bl]; exact hlt) hq hp]), rfl⟩
      · go_wp2_with (go_at_call 86; refine (skip1_any _ _).mono ?_; rintro e w' ⟨rfl, rfl⟩)
        go_round
        case rel => exact ⟨k + 1, by omega, by go_num, M.sp_yes M.blank s.data.toList k (by rw [bl]; exact hlt) hq hp⟩
        case measure => simp [intOf]; omega
    · go_wp2
      go_ret
      exact ⟨ret_int (by have := M.sp_le M.blank s.data.toList; rw [bl] at this; omega), rfl⟩

set_option maxHeartbeats 400000 in
theorem span23_any (s : ByteArray) (w : World) (hs : s.size ≤ maxLen) : Calls Tryz.prog 85 #[.string s, .func (.func 108) #[] #[]] w fun e w' => e = .returned (.int .i64 (M.sp M.dig s.data.toList)) ∧ w' = w := by
  unfold maxLen at hs
  go_enter Tryz.func85, Tryz.ntmps85
  go_wp2
  go_loop [5] (fun i => ∃ k : Nat, k ≤ s.size ∧ i = .int .i64 k ∧ k ≤ M.sp M.dig s.data.toList) (fun i => s.size - (intOf i).toNat)
  case atStart => exact ⟨0, Nat.zero_le _, rfl, Nat.zero_le _⟩
  case round =>
    obtain ⟨k, hk, rfl, hq⟩ := hrel
    by_cases hlt : k < s.size
    · cases hp : M.dig s[k].toNat
      · go_wp2_with (go_at_call 108; refine (number1_any _ _).mono ?_; rintro e w' ⟨rfl, rfl⟩)
        go_ret
        exact ⟨ret_int (by rw [M.sp_no M.dig s.data.toList k (by rw [bl]; exact hlt) hq hp]), rfl⟩
      · go_wp2_with (go_at_call 108; refine (number1_any _ _).mono ?_; rintro e w' ⟨rfl, rfl⟩)
        go_round
        case rel => exact ⟨k + 1, by omega, by go_num, M.sp_yes M.dig s.data.toList k (by rw [bl]; exact hlt) hq hp⟩
        case measure => simp [intOf]; omega
    · go_wp2
      go_ret
      exact ⟨ret_int (by have := M.sp_le M.dig s.data.toList; rw [bl] at this; omega), rfl⟩

set_option maxHeartbeats 400000 in
theorem span25_any (s : ByteArray) (w : World) (hs : s.size ≤ maxLen) : Calls Tryz.prog 85 #[.string s, .func (.func 110) #[] #[]] w fun e w' => e = .returned (.int .i64 (M.sp M.nam s.data.toList)) ∧ w' = w := by
  unfold maxLen at hs
  go_enter Tryz.func85, Tryz.ntmps85
  go_wp2
  go_loop [5] (fun i => ∃ k : Nat, k ≤ s.size ∧ i = .int .i64 k ∧ k ≤ M.sp M.nam s.data.toList) (fun i => s.size - (intOf i).toNat)
  case atStart => exact ⟨0, Nat.zero_le _, rfl, Nat.zero_le _⟩
  case round =>
    obtain ⟨k, hk, rfl, hq⟩ := hrel
    by_cases hlt : k < s.size
    · cases hp : M.nam s[k].toNat
      · go_wp2_with (go_at_call 110; refine (name1_any _ _).mono ?_; rintro e w' ⟨rfl, rfl⟩)
        go_ret
        exact ⟨ret_int (by rw [M.sp_no M.nam s.data.toList k (by rw [bl]; exact hlt) hq hp]), rfl⟩
      · go_wp2_with (go_at_call 110; refine (name1_any _ _).mono ?_; rintro e w' ⟨rfl, rfl⟩)
        go_round
        case rel => exact ⟨k + 1, by omega, by go_num, M.sp_yes M.nam s.data.toList k (by rw [bl]; exact hlt) hq hp⟩
        case measure => simp [intOf]; omega
    · go_wp2
      go_ret
      exact ⟨ret_int (by have := M.sp_le M.nam s.data.toList; rw [bl] at this; omega), rfl⟩

set_option maxHeartbeats 400000 in
theorem span27_any (s : ByteArray) (w : World) (hs : s.size ≤ maxLen) : Calls Tryz.prog 85 #[.string s, .func (.func 112) #[] #[]] w fun e w' => e = .returned (.int .i64 (M.sp M.txt s.data.toList)) ∧ w' = w := by
  unfold maxLen at hs
  go_enter Tryz.func85, Tryz.ntmps85
  go_wp2
  go_loop [5] (fun i => ∃ k : Nat, k ≤ s.size ∧ i = .int .i64 k ∧ k ≤ M.sp M.txt s.data.toList) (fun i => s.size - (intOf i).toNat)
  case atStart => exact ⟨0, Nat.zero_le _, rfl, Nat.zero_le _⟩
  case round =>
    obtain ⟨k, hk, rfl, hq⟩ := hrel
    by_cases hlt : k < s.size
    · cases hp : M.txt s[k].toNat
      · go_wp2_with (go_at_call 112; refine (text1_any _ _).mono ?_; rintro e w' ⟨rfl, rfl⟩)
        go_ret
        exact ⟨ret_int (by rw [M.sp_no M.txt s.data.toList k (by rw [bl]; exact hlt) hq hp]), rfl⟩
      · go_wp2_with (go_at_call 112; refine (text1_any _ _).mono ?_; rintro e w' ⟨rfl, rfl⟩)
        go_round
        case rel => exact ⟨k + 1, by omega, by go_num, M.sp_yes M.txt s.data.toList k (by rw [bl]; exact hlt) hq hp⟩
        case measure => simp [intOf]; omega
    · go_wp2
      go_ret
      exact ⟨ret_int (by have := M.sp_le M.txt s.data.toList; rw [bl] at this; omega), rfl⟩
end Go.Proofs.YtkilicjjaljghaaGreat
