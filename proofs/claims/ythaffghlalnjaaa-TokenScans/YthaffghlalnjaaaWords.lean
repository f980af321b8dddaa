/-
  The contracts of isWord, longest and HasText.
-/
import Derived.Test.YthaffghlalnjaaaMade
import Derived.Test.YthaffghlalnjaaaMathb
namespace Go.Proofs.Ythaffghlalnjaaa
open Go.RowKit

set_option maxHeartbeats 1000000 in
theorem isWord_any (s : ByteArray) (w : World) : Calls Try.prog 26 #[.string s] w fun e w' => e = .returned (.bool (M.isWord s.data.toList)) ∧ w' = w := by
  go_enter Try.func26, Try.ntmps26
  go_wp2
  all_goals first | (exfalso; simp_all; done) | skip
  all_goals go_ret
  all_goals refine ⟨ret_bool ?_, rfl⟩
  all_goals simp [M.isWord, M.has, M.words, ← ByteArray.toList_eq]
  all_goals simp_all

theorem longest_snoc (l : List UInt8) (gs : List (List UInt8)) (k : Nat) (h : k < gs.length) : M.longest l (gs.take (k + 1)) = if gs[k].isPrefixOf l then max (M.longest l (gs.take k)) gs[k].length else M.longest l (gs.take k) := by
  rw [List.take_succ_eq_append_getElem h, M.longest, List.foldl_append]; rfl

theorem longest_le (l : List UInt8) : ∀ (gs : List (List UInt8)) (m : Nat), (∀ g ∈ gs, g.length ≤ 2) → m ≤ 2 → gs.foldl (fun m g => if g.isPrefixOf l then max m g.length else m) m ≤ 2
  | [], m, _, hm => hm
  | g :: r, m, h, hm => by
    simp only [List.foldl_cons]
    refine longest_le l r _ (fun x hx => h x (List.mem_cons_of_mem _ hx)) ?_
    have := h g List.mem_cons_self
    split
    · exact Nat.max_le.2 ⟨hm, this⟩
    · exact hm

set_option maxHeartbeats 400000 in
theorem longest_any (s : ByteArray) (g c : Nat) (gs : List (List UInt8)) (w : World) (hn : gs.length ≤ 100) (hg : ∀ x ∈ gs, x.length ≤ 2)
    (hcell : ∀ i (h : i < gs.length), w.cell? ⟨g, i, none⟩ = some (.string ⟨gs[i].toArray⟩)) :
    Calls Try.prog 29 #[.string s, .slice (some ⟨g, 0, none⟩) gs.length c] w fun e w' => e = .returned (.int .i64 (M.longest s.data.toList gs)) ∧ w' = w := by
  go_enter Try.func29, Try.ntmps29
  go_wp2
  go_loop [5, 10] (fun z i => ∃ k : Nat, k ≤ gs.length ∧ i = .int .i64 k ∧ z = .int .i64 (M.longest s.data.toList (gs.take k))) (fun _ i => gs.length - (intOf i).toNat)
  case atStart => exact ⟨0, Nat.zero_le _, rfl, rfl⟩
  case round =>
    obtain ⟨k, hk, rfl, rfl⟩ := hrel
    by_cases hlt : k < gs.length
    · have hc := hcell k hlt
      have hl := hg gs[k] (List.getElem_mem _)
      have hm : M.longest s.data.toList (gs.take k) ≤ 2 := longest_le _ _ _ (fun x hx => hg x (List.mem_of_mem_take hx)) (by omega)
      have HS : Hid (M.longest s.data.toList (gs.take (k + 1)) = if gs[k].isPrefixOf s.data.toList then max (M.longest s.data.toList (gs.take k)) gs[k].length else M.longest s.data.toList (gs.take k)) := longest_snoc _ _ _ hlt
      clear hcell hg
      generalize M.longest s.data.toList (gs.take k) = m at *
      generalize gs[k] = x at *
      cases hp : Lib.hasPrefix s.data.toList x
      · go_wp2_with (go_at_call 28; refine (Try.strings_HasPrefix _ _ _).mono ?_; rintro e w' ⟨rfl, rfl⟩)
        go_round
        case rel => exact ⟨k + 1, by omega, by go_num, by rw [HS.out, if_neg (by have := hp; unfold Lib.hasPrefix at this; simp [this])]⟩
        case measure => simp [intOf]; omega
      · go_wp2_with (go_at_call 28; refine (Try.strings_HasPrefix _ _ _).mono ?_; rintro e w' ⟨rfl, rfl⟩)
        go_round
        case rel => exact ⟨k + 1, by omega, by go_num, by rw [HS.out, if_pos (by have := hp; unfold Lib.hasPrefix at this; simp [this])]; congr 1; omega⟩
        case measure => simp [intOf]; omega
    · go_wp2
      go_ret
      exact ⟨ret_int (by rw [List.take_of_length_le (by omega)]), rfl⟩

set_option maxHeartbeats 400000 in
theorem hasText_any (s : ByteArray) (g c : Nat) (gs : List (List UInt8)) (w : World) (hn : gs.length ≤ 100)
    (hcell : ∀ i (h : i < gs.length), w.cell? ⟨g, i, none⟩ = some (.string ⟨gs[i].toArray⟩)) :
    Calls Try.prog 13 #[.slice (some ⟨g, 0, none⟩) gs.length c, .string s] w fun e w' => e = .returned (.bool (M.has gs s.data.toList)) ∧ w' = w := by
  go_enter Try.func13, Try.ntmps13
  go_wp2
  go_loop [5] (fun i => ∃ k : Nat, k ≤ gs.length ∧ i = .int .i64 k ∧ Hid (M.has (gs.take k) s.data.toList = false)) (fun i => gs.length - (intOf i).toNat)
  case atStart => exact ⟨0, Nat.zero_le _, rfl, by simp [Hid, M.has]⟩
  case round =>
    obtain ⟨k, hk, rfl, hq⟩ := hrel
    by_cases hlt : k < gs.length
    · have hc := hcell k hlt
      have HS : Hid (M.has (gs.take (k + 1)) s.data.toList = (M.has (gs.take k) s.data.toList || s.data.toList == gs[k])) := M.has_snoc _ _ _ hlt
      have HM : Hid (∀ x, x = gs[k] → x ∈ gs) := fun x hx => hx ▸ List.getElem_mem _
      generalize hx : gs[k] = x at *
      have HX := HM.out x rfl
      clear hcell HM hx
      by_cases hp : x = s.data.toList
      · subst hp
        go_wp2
        go_ret
        exact ⟨ret_bool (M.has_mem HX).symm, rfl⟩
      · have hp' : (x == s.toList) = false := by rw [ByteArray.toList_eq]; simp [hp]
        go_wp2
        go_round
        case rel => exact ⟨k + 1, by omega, by go_num, by show _ = _; rw [HS.out, hq.out]; simp; exact fun h => hp h.symm⟩
        case measure => simp [intOf]; omega
    · go_wp2
      go_ret
      exact ⟨ret_bool (by have := hq.out; rw [List.take_of_length_le (by omega)] at this; rw [this]), rfl⟩
end Go.Proofs.Ythaffghlalnjaaa
