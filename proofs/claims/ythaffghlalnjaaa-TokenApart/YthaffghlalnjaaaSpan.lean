/-
  The contracts of span, at each of the four functions that it is handed.
-/
import Derived.Test.YthaffghlalnjaaaChars
namespace Go.Proofs.Ythaffghlalnjaaa
open Go.RowKit

theorem ret_int {k : IntKind} {a b : Int} (h : a = b) : Ending.returned (.int k a) = .returned (.int k b) := by rw [h]
theorem bl (s : ByteArray) : s.data.toList.length = s.size := by rw [Array.length_toList]; rfl

set_option maxHeartbeats 400000 in
theorem span16_any (s : ByteArray) (w : World) (hs : s.size ≤ maxLen) : Calls Try.prog 15 #[.string s, .func (.func 16) #[] #[]] w fun e w' => e = .returned (.int .i64 (M.sp M.blank s.data.toList)) ∧ w' = w := by
  unfold maxLen at hs
  go_enter Try.func15, Try.ntmps15
  go_wp2
  go_loop [5] (fun i => ∃ k : Nat, k ≤ s.size ∧ i = .int .i64 k ∧ k ≤ M.sp M.blank s.data.toList) (fun i => s.size - (intOf i).toNat)
  case atStart => exact ⟨0, Nat.zero_le _, rfl, Nat.zero_le _⟩
  case round =>
    obtain ⟨k, hk, rfl, hq⟩ := hrel
    by_cases hlt : k < s.size
    · cases hp : M.blank s[k].toNat
      · go_wp2_with (go_at_call 16; refine (skip1_any _ _).mono ?_; rintro e w' ⟨rfl, rfl⟩)
        go_ret
        exact ⟨ret_int (by rw [M.sp_no M.blank s.data.toList k (by rw [bl]; exact hlt) hq hp]), rfl⟩
      · go_wp2_with (go_at_call 16; refine (skip1_any _ _).mono ?_; rintro e w' ⟨rfl, rfl⟩)
        go_round
        case rel => exact ⟨k + 1, by omega, by go_num, M.sp_yes M.blank s.data.toList k (by rw [bl]; exact hlt) hq hp⟩
        case measure => simp [intOf]; omega
    · go_wp2
      go_ret
      exact ⟨ret_int (by have := M.sp_le M.blank s.data.toList; rw [bl] at this; omega), rfl⟩

set_option maxHeartbeats 400000 in
theorem span23_any (s : ByteArray) (w : World) (hs : s.size ≤ maxLen) : Calls Try.prog 15 #[.string s, .func (.func 23) #[] #[]] w fun e w' => e = .returned (.int .i64 (M.sp M.dig s.data.toList)) ∧ w' = w := by
  unfold maxLen at hs
  go_enter Try.func15, Try.ntmps15
  go_wp2
  go_loop [5] (fun i => ∃ k : Nat, k ≤ s.size ∧ i = .int .i64 k ∧ k ≤ M.sp M.dig s.data.toList) (fun i => s.size - (intOf i).toNat)
  case atStart => exact ⟨0, Nat.zero_le _, rfl, Nat.zero_le _⟩
  case round =>
    obtain ⟨k, hk, rfl, hq⟩ := hrel
    by_cases hlt : k < s.size
    · cases hp : M.dig s[k].toNat
      · go_wp2_with (go_at_call 23; refine (number1_any _ _).mono ?_; rintro e w' ⟨rfl, rfl⟩)
        go_ret
        exact ⟨ret_int (by rw [M.sp_no M.dig s.data.toList k (by rw [bl]; exact hlt) hq hp]), rfl⟩
      · go_wp2_with (go_at_call 23; refine (number1_any _ _).mono ?_; rintro e w' ⟨rfl, rfl⟩)
        go_round
        case rel => exact ⟨k + 1, by omega, by go_num, M.sp_yes M.dig s.data.toList k (by rw [bl]; exact hlt) hq hp⟩
        case measure => simp [intOf]; omega
    · go_wp2
      go_ret
      exact ⟨ret_int (by have := M.sp_le M.dig s.data.toList; rw [bl] at this; omega), rfl⟩

set_option maxHeartbeats 400000 in
theorem span25_any (s : ByteArray) (w : World) (hs : s.size ≤ maxLen) : Calls Try.prog 15 #[.string s, .func (.func 25) #[] #[]] w fun e w' => e = .returned (.int .i64 (M.sp M.nam s.data.toList)) ∧ w' = w := by
  unfold maxLen at hs
  go_enter Try.func15, Try.ntmps15
  go_wp2
  go_loop [5] (fun i => ∃ k : Nat, k ≤ s.size ∧ i = .int .i64 k ∧ k ≤ M.sp M.nam s.data.toList) (fun i => s.size - (intOf i).toNat)
  case atStart => exact ⟨0, Nat.zero_le _, rfl, Nat.zero_le _⟩
  case round =>
    obtain ⟨k, hk, rfl, hq⟩ := hrel
    by_cases hlt : k < s.size
    · cases hp : M.nam s[k].toNat
      · go_wp2_with (go_at_call 25; refine (name1_any _ _).mono ?_; rintro e w' ⟨rfl, rfl⟩)
        go_ret
        exact ⟨ret_int (by rw [M.sp_no M.nam s.data.toList k (by rw [bl]; exact hlt) hq hp]), rfl⟩
      · go_wp2_with (go_at_call 25; refine (name1_any _ _).mono ?_; rintro e w' ⟨rfl, rfl⟩)
        go_round
        case rel => exact ⟨k + 1, by omega, by go_num, M.sp_yes M.nam s.data.toList k (by rw [bl]; exact hlt) hq hp⟩
        case measure => simp [intOf]; omega
    · go_wp2
      go_ret
      exact ⟨ret_int (by have := M.sp_le M.nam s.data.toList; rw [bl] at this; omega), rfl⟩

set_option maxHeartbeats 400000 in
theorem span27_any (s : ByteArray) (w : World) (hs : s.size ≤ maxLen) : Calls Try.prog 15 #[.string s, .func (.func 27) #[] #[]] w fun e w' => e = .returned (.int .i64 (M.sp M.txt s.data.toList)) ∧ w' = w := by
  unfold maxLen at hs
  go_enter Try.func15, Try.ntmps15
  go_wp2
  go_loop [5] (fun i => ∃ k : Nat, k ≤ s.size ∧ i = .int .i64 k ∧ k ≤ M.sp M.txt s.data.toList) (fun i => s.size - (intOf i).toNat)
  case atStart => exact ⟨0, Nat.zero_le _, rfl, Nat.zero_le _⟩
  case round =>
    obtain ⟨k, hk, rfl, hq⟩ := hrel
    by_cases hlt : k < s.size
    · cases hp : M.txt s[k].toNat
      · go_wp2_with (go_at_call 27; refine (text1_any _ _).mono ?_; rintro e w' ⟨rfl, rfl⟩)
        go_ret
        exact ⟨ret_int (by rw [M.sp_no M.txt s.data.toList k (by rw [bl]; exact hlt) hq hp]), rfl⟩
      · go_wp2_with (go_at_call 27; refine (text1_any _ _).mono ?_; rintro e w' ⟨rfl, rfl⟩)
        go_round
        case rel => exact ⟨k + 1, by omega, by go_num, M.sp_yes M.txt s.data.toList k (by rw [bl]; exact hlt) hq hp⟩
        case measure => simp [intOf]; omega
    · go_wp2
      go_ret
      exact ⟨ret_int (by have := M.sp_le M.txt s.data.toList; rw [bl] at this; omega), rfl⟩
end Go.Proofs.Ythaffghlalnjaaa
