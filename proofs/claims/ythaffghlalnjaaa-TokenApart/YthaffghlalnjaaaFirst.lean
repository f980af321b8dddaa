/-
  The contracts of number, nameOrWord, text, sign and first.
-/
import Derived.Test.YthaffghlalnjaaaWords
namespace Go.Proofs.Ythaffghlalnjaaa
open Go.RowKit

/-- What number, nameOrWord, text, sign and first return: a token without its place, and its size. -/
def res (r : Int × List UInt8 × Nat) : Value := .tuple #[.agg #[.int .i64 r.1, .string ⟨r.2.1.toArray⟩, .int .i64 0], .int .i64 r.2.2]

theorem head_get (s : ByteArray) (h : 0 < s.size) : s.data.toList.head? = some s[0] := by
  rw [List.head?_eq_getElem?, List.getElem?_eq_getElem (by rw [bl]; exact h)]; rfl

theorem ret_res {r : Int × List UInt8 × Nat} {k : Int} {t : List UInt8} {n : Nat} {x : ByteArray} (h : r = (k, t, n)) (hx : x = ⟨t.toArray⟩) :
    Ending.returned (.tuple #[.agg #[.int .i64 k, .string x, .int .i64 0], .int .i64 n]) = .returned (res r) := by subst h; subst hx; rfl
theorem ret_no {r : Int × List UInt8 × Nat} (h : r = (0, [], 0)) :
    Ending.returned (.tuple #[.agg #[.int .i64 0, .string ⟨#[]⟩, .int .i64 0], .int .i64 0]) = .returned (res r) := by subst h; rfl
theorem ext_take (s : ByteArray) (n : Nat) : s.extract 0 n = ⟨(s.data.toList.take n).toArray⟩ := by rw [Lib.extract_eq]; simp
theorem ext_one (s : ByteArray) (n : Nat) : s.extract 1 (1 + n) = ⟨(s.data.toList.tail.take n).toArray⟩ := by rw [Lib.extract_eq, List.drop_one]; simp
theorem ext_size (s : ByteArray) (a b : Nat) : (s.extract a b).size ≤ s.size := by rw [ByteArray.size_extract]; omega
theorem byte_eq (c : UInt8) (n : Nat) (h : n < 256) : c = UInt8.ofNat n ↔ c.toNat = n := by
  constructor
  · rintro rfl; simp; omega
  · intro e; apply UInt8.toNat_inj.1; simp; omega

set_option maxHeartbeats 400000 in
theorem number_any (s : ByteArray) (w : World) (hs : s.size ≤ 4000) (h0 : 0 < s.size) : Calls Try.prog 18 #[.string s] w fun e w' => e = .returned (res (M.number s.data.toList)) ∧ Below w.heap.size w w' := by
  have hle := M.sp_le M.dig s.data.toList
  rw [bl] at hle
  have hr : Hid (M.number s.data.toList = if 9 < M.sp M.dig s.data.toList ∨ s[0].toNat = 48 ∧ 1 < M.sp M.dig s.data.toList then (0, [], 0) else (3, s.data.toList.take (M.sp M.dig s.data.toList), M.sp M.dig s.data.toList)) := by
    show _ = _; rw [M.number, head_get s h0]; simp only [Option.some.injEq]; simp only [show (s[0] = 48 ↔ s[0].toNat = 48) from byte_eq _ 48 (by omega)]
  generalize M.number s.data.toList = r at *
  go_enter Try.func18, Try.ntmps18
  go_wp2_with fail
  refine (span23_any _ _ (by simp only [maxLen]; omega)).mono ?_
  rintro e w1 ⟨rfl, rfl⟩
  generalize M.sp M.dig s.data.toList = n at *
  go_wp2_with fail
  · exact bodyPost_ret (v := .tuple #[.agg #[.int .i64 0, .string ⟨#[]⟩, .int .i64 0], .int .i64 0]) (by simp [results, Try.results18, go_sem]) rfl ⟨ret_no (by rw [hr.out, if_pos (by omega)]), (Below.refl _ _).alloc (Nat.le_refl _) _⟩
  all_goals first | exact bodyPost_ret (v := .tuple #[.agg #[.int .i64 0, .string ⟨#[]⟩, .int .i64 0], .int .i64 0]) (by simp [results, Try.results18, go_sem]) rfl ⟨ret_no (by rw [hr.out, if_pos (by omega)]), (Below.refl _ _).alloc (Nat.le_refl _) _⟩ | skip
  all_goals
    refine (made_any _ _ _ (Nat.le_trans (ext_size _ _ _) hs)).mono ?_
    rintro e w1 ⟨rfl, hb⟩
    obtain ⟨hc, hf⟩ := bcell hb
    have hz : w.heap.size < w1.heap.size := by have := hb.size; simp at this; omega
    go_wp2
    exact bodyPost_ret (v := .tuple #[.agg #[.int .i64 3, .string (s.extract 0 n), .int .i64 0], .int .i64 n]) (by simp [results, Try.results18, go_sem, hc]) rfl ⟨ret_res (by rw [hr.out, if_neg (by omega)]) (ext_take _ _), below3 hb _ _ _⟩

set_option maxHeartbeats 400000 in
theorem name_any (s : ByteArray) (w : World) (hs : s.size ≤ 4000) : Calls Try.prog 20 #[.string s] w fun e w' => e = .returned (res (M.name s.data.toList)) ∧ Below w.heap.size w w' := by
  have hle := M.sp_le M.nam s.data.toList
  rw [bl] at hle
  have hr : Hid (M.name s.data.toList = if 20 < M.sp M.nam s.data.toList then (0, [], 0) else (if M.isWord (s.data.toList.take (M.sp M.nam s.data.toList)) then 2 else 1, s.data.toList.take (M.sp M.nam s.data.toList), M.sp M.nam s.data.toList)) := rfl
  generalize M.name s.data.toList = r at *
  go_enter Try.func20, Try.ntmps20
  go_wp2_with fail
  refine (span25_any _ _ (by simp only [maxLen]; omega)).mono ?_
  rintro e w1 ⟨rfl, rfl⟩
  generalize M.sp M.nam s.data.toList = n at *
  by_cases hn : (20 : Int) < n
  · go_wp2_with fail
    exact bodyPost_ret (v := .tuple #[.agg #[.int .i64 0, .string ⟨#[]⟩, .int .i64 0], .int .i64 0]) (by simp [results, Try.results20, go_sem]) rfl ⟨ret_no (by rw [hr.out, if_pos (by omega)]), (Below.refl _ _).alloc (Nat.le_refl _) _⟩
  · go_wp2_with fail
    refine (isWord_any _ _).mono ?_
    rintro e w1 ⟨rfl, rfl⟩
    have hx : Hid (M.isWord (s.extract 0 n).data.toList = M.isWord (s.data.toList.take n)) := by show _ = _; rw [ext_take]
    cases hw : M.isWord (s.extract 0 n).data.toList
    all_goals
      go_wp2_with fail
      refine (made_any _ _ _ (Nat.le_trans (ext_size _ _ _) hs)).mono ?_
      rintro e w1 ⟨rfl, hb⟩
      obtain ⟨hc, hf⟩ := bcell hb
      have hz : w.heap.size < w1.heap.size := by have := hb.size; simp at this; omega
      go_wp2
    · exact bodyPost_ret (v := .tuple #[.agg #[.int .i64 1, .string (s.extract 0 n), .int .i64 0], .int .i64 n]) (by simp [results, Try.results20, go_sem, hc]) rfl ⟨ret_res (by rw [hr.out, if_neg (by omega), ← hx.out, hw]; rfl) (ext_take _ _), below3 hb _ _ _⟩
    · exact bodyPost_ret (v := .tuple #[.agg #[.int .i64 2, .string (s.extract 0 n), .int .i64 0], .int .i64 n]) (by simp [results, Try.results20, go_sem, hc]) rfl ⟨ret_res (by rw [hr.out, if_neg (by omega), ← hx.out, hw]; rfl) (ext_take _ _), below3 hb _ _ _⟩

theorem pre_one (l : List UInt8) : Lib.hasPrefix l [34] = true ↔ l.head? = some 34 := by
  cases l with
  | nil => simp [Lib.hasPrefix]
  | cons c r => simp only [Lib.hasPrefix, List.isPrefixOf, List.head?_cons, Option.some.injEq, Bool.and_true, beq_iff_eq]; exact eq_comm

set_option maxHeartbeats 400000 in
theorem text_any (s : ByteArray) (w : World) (hs : s.size ≤ 4000) (h0 : 0 < s.size) : Calls Try.prog 21 #[.string s] w fun e w' => e = .returned (res (M.text s.data.toList)) ∧ Below w.heap.size w w' := by
  have hle := M.sp_le M.txt s.data.toList.tail
  rw [List.length_tail, bl] at hle
  have hr : Hid (M.text s.data.toList = if 30 < M.sp M.txt s.data.toList.tail ∨ (s.data.toList.tail.drop (M.sp M.txt s.data.toList.tail)).head? ≠ some 34 then (0, [], 0) else (4, s.data.toList.tail.take (M.sp M.txt s.data.toList.tail), M.sp M.txt s.data.toList.tail + 2)) := rfl
  have he : Hid ((s.extract 1 s.size).data.toList = s.data.toList.tail) := by show _ = _; rw [ext_end, List.drop_one]
  generalize M.text s.data.toList = r at *
  go_enter Try.func21, Try.ntmps21
  go_wp2_with fail
  refine (span27_any _ _ (by simp only [maxLen]; have := ext_size s 1 s.size; omega)).mono ?_
  rintro e w1 ⟨rfl, rfl⟩
  rw [he.out]
  generalize hn0 : M.sp M.txt s.data.toList.tail = n at *
  clear hn0
  by_cases hn : (30 : Int) < n
  · go_wp2_with fail
    exact bodyPost_ret (v := .tuple #[.agg #[.int .i64 0, .string ⟨#[]⟩, .int .i64 0], .int .i64 0]) (by simp [results, Try.results21, go_sem]) rfl ⟨ret_no (by rw [hr.out, if_pos (by omega)]), (Below.refl _ _).alloc (Nat.le_refl _) _⟩
  · go_wp2_with fail
    refine (Try.strings_HasPrefix _ _ _).mono ?_
    rintro e w1 ⟨rfl, rfl⟩
    have hx : Hid (Lib.hasPrefix (s.extract (1 + n) s.size).data.toList (ByteArray.mk #[34]).data.toList = true ↔ (s.data.toList.tail.drop n).head? = some 34) := by
      show _ ↔ _; rw [ext_end, ← List.drop_one, List.drop_drop]; exact pre_one _
    cases hp : Lib.hasPrefix (s.extract (1 + n) s.size).data.toList (ByteArray.mk #[34]).data.toList
    · go_wp2_with fail
      exact bodyPost_ret (v := .tuple #[.agg #[.int .i64 0, .string ⟨#[]⟩, .int .i64 0], .int .i64 0]) (by simp [results, Try.results21, go_sem]) rfl ⟨ret_no (by rw [hr.out, if_pos (Or.inr (fun h => by have := hx.out.2 h; rw [hp] at this; cases this))]), (Below.refl _ _).alloc (Nat.le_refl _) _⟩
    · go_wp2_with fail
      refine (made_any _ _ _ (Nat.le_trans (ext_size _ _ _) hs)).mono ?_
      rintro e w1 ⟨rfl, hb⟩
      obtain ⟨hc, hf⟩ := bcell hb
      have hz : w.heap.size < w1.heap.size := by have := hb.size; simp at this; omega
      go_wp2
      exact bodyPost_ret (v := .tuple #[.agg #[.int .i64 4, .string (s.extract 1 (1 + n)), .int .i64 0], .int .i64 ((n + 2 : Nat) : Int)]) (by simp [results, Try.results21, go_sem, hc]) rfl ⟨ret_res (by rw [hr.out, if_neg (fun h => h.elim (fun h => by omega) (fun h => h (hx.out.1 hp)))]) (ext_one _ _), below3 hb _ _ _⟩

theorem longest_len (l : List UInt8) : ∀ (gs : List (List UInt8)) (m : Nat), m ≤ l.length → gs.foldl (fun m g => if g.isPrefixOf l then max m g.length else m) m ≤ l.length
  | [], m, hm => hm
  | g :: r, m, hm => by
    simp only [List.foldl_cons]
    refine longest_len l r _ ?_
    split
    · rename_i h
      exact Nat.max_le.2 ⟨hm, (List.isPrefixOf_iff_prefix.1 h).length_le⟩
    · exact hm

theorem below_aa {w : World} (a b : Obj) : Below w.heap.size w ((w.alloc a).alloc b) := ((Below.refl _ _).alloc (Nat.le_refl _) a).alloc (by simp) b
theorem below3a {w w1 : World} {o o2 : Obj} (hb : Below ((w.alloc o).alloc o2).heap.size ((w.alloc o).alloc o2) w1) (v0 v1 v2 : Value) :
    Below w.heap.size w (((w1.setCell ⟨w.heap.size, 0, none⟩ v0).setCell ⟨w.heap.size, 1, none⟩ v1).setCell ⟨w.heap.size, 2, none⟩ v2) :=
  ((((below_aa o o2).trans (hb.mono (by simp; omega))).setCell (by simp) _).setCell (by simp) _).setCell (by simp) _

theorem signs_cell (w : World) (i : Nat) (h : i < M.signs.length) : (w.alloc (.cells #[.string ⟨#[61, 61]⟩, .string ⟨#[61, 62]⟩, .string ⟨#[40]⟩, .string ⟨#[41]⟩, .string ⟨#[123]⟩, .string ⟨#[125]⟩, .string ⟨#[91]⟩, .string ⟨#[93]⟩, .string ⟨#[44]⟩, .string ⟨#[59]⟩, .string ⟨#[58]⟩, .string ⟨#[46]⟩, .string ⟨#[61]⟩, .string ⟨#[60]⟩, .string ⟨#[43]⟩, .string ⟨#[45]⟩, .string ⟨#[42]⟩, .string ⟨#[33]⟩, .string ⟨#[124]⟩] 9)).cell? ⟨w.heap.size, i, none⟩ = some (.string ⟨M.signs[i].toArray⟩) := by
  rw [cell_of_row _ _ _ _ _ _ (heap_alloc_new w _)]
  have h' : i < 19 := h
  have : i = 0 ∨ i = 1 ∨ i = 2 ∨ i = 3 ∨ i = 4 ∨ i = 5 ∨ i = 6 ∨ i = 7 ∨ i = 8 ∨ i = 9 ∨ i = 10 ∨ i = 11 ∨ i = 12 ∨ i = 13 ∨ i = 14 ∨ i = 15 ∨ i = 16 ∨ i = 17 ∨ i = 18 := by omega
  rcases this with rfl | rfl | rfl | rfl | rfl | rfl | rfl | rfl | rfl | rfl | rfl | rfl | rfl | rfl | rfl | rfl | rfl | rfl | rfl <;> rfl

set_option maxHeartbeats 400000 in
theorem sign_any (s : ByteArray) (w : World) (hs : s.size ≤ 4000) : Calls Try.prog 22 #[.string s] w fun e w' => e = .returned (res (M.sign s.data.toList)) ∧ Below w.heap.size w w' := by
  have h2 : M.longest s.data.toList M.signs ≤ 2 := longest_le _ _ _ (by decide) (by omega)
  have hle : M.longest s.data.toList M.signs ≤ s.size := by have := longest_len s.data.toList M.signs 0 (by omega); rw [bl] at this; exact this
  have hr : Hid (M.sign s.data.toList = if M.longest s.data.toList M.signs = 0 then (0, [], 0) else (5, s.data.toList.take (M.longest s.data.toList M.signs), M.longest s.data.toList M.signs)) := rfl
  generalize M.sign s.data.toList = r at *
  go_enter Try.func22, Try.ntmps22
  go_wp2_with fail
  refine (longest_any s (w.heap.size + 1) 19 M.signs _ (by decide) (by decide) (fun i h => by have := signs_cell (w.alloc (Obj.cells #[Value.int IntKind.i64 0, Value.string { data := #[] }, Value.int IntKind.i64 0] 32)) i h; rw [World.size_alloc] at this; exact this)).mono ?_
  rintro e w1 ⟨rfl, rfl⟩
  generalize M.longest s.data.toList M.signs = n at *
  by_cases hn : n = 0
  · subst hn
    go_wp2_with fail
    exact bodyPost_ret (v := .tuple #[.agg #[.int .i64 0, .string ⟨#[]⟩, .int .i64 0], .int .i64 0]) (by simp [results, Try.results22, go_sem]) rfl ⟨ret_no (by rw [hr.out]; simp), below_aa _ _⟩
  · have hn' : ((n : Int) == 0) = false := by simp; omega
    go_wp2_with fail
    refine (made_any _ _ _ (Nat.le_trans (ext_size _ _ _) hs)).mono ?_
    rintro e w1 ⟨rfl, hb⟩
    obtain ⟨hc, hf⟩ := bcell hb
    have hz : w.heap.size + 1 < w1.heap.size := by have := hb.size; simp at this; omega
    go_wp2
    have hc0 := fun o => hc w.heap.size o (by simp; omega)
    exact bodyPost_ret (v := .tuple #[.agg #[.int .i64 5, .string (s.extract 0 n), .int .i64 0], .int .i64 n]) (by simp [results, Try.results22, go_sem, hc0]) rfl ⟨ret_res (by rw [hr.out, if_neg hn]) (ext_take _ _), below3a hb _ _ _⟩

set_option maxHeartbeats 400000 in
theorem first_any (s : ByteArray) (w : World) (hs : s.size ≤ 4000) (h0 : 0 < s.size) : Calls Try.prog 10 #[.string s] w fun e w' => e = .returned (res (M.first s.data.toList)) ∧ Below w.heap.size w w' := by
  have hr : Hid (M.first s.data.toList = if M.dig s[0].toNat then M.number s.data.toList else if M.let' s[0].toNat then M.name s.data.toList else if s[0].toNat = 34 then M.text s.data.toList else M.sign s.data.toList) := by
    show _ = _; rw [M.first, head_get s h0]
  have hp : (0 : Int) < s.size := by omega
  generalize M.first s.data.toList = r at *
  cases hd : M.dig s[0].toNat
  · cases hl : M.let' s[0].toNat
    · by_cases h34 : s[0].toNat = 34
      · rw [hd, hl, if_neg (by simp), if_neg (by simp), if_pos h34] at hr
        have hq : (((s[0].toNat : Nat) : Int) == 34) = true := by rw [h34]; rfl
        clear h34
        go_enter Try.func10, Try.ntmps10
        go_wp2_with (first | (go_at_call 17; refine (isDigit_any _ _).mono ?_; rintro e w' ⟨rfl, rfl⟩) | (go_at_call 19; refine (isLetter_any _ _).mono ?_; rintro e w' ⟨rfl, rfl⟩))
        refine (text_any _ _ hs h0).mono ?_
        rintro e w1 ⟨rfl, hb⟩
        rw [← hr.out]
        unfold res
        obtain ⟨k, t, n⟩ := r
        obtain ⟨hc, hf⟩ := bcell hb
        have hz : w.heap.size < w1.heap.size := by have := hb.size; simp at this; omega
        go_wp2
        exact bodyPost_ret (v := res (k, t, n)) (by simp [results, Try.results10, go_sem, hc, res]) rfl ⟨rfl, below3 hb _ _ _⟩
      · rw [hd, hl, if_neg (by simp), if_neg (by simp), if_neg h34] at hr
        have hq : (((s[0].toNat : Nat) : Int) == 34) = false := by simp; omega
        clear h34
        go_enter Try.func10, Try.ntmps10
        go_wp2_with (first | (go_at_call 17; refine (isDigit_any _ _).mono ?_; rintro e w' ⟨rfl, rfl⟩) | (go_at_call 19; refine (isLetter_any _ _).mono ?_; rintro e w' ⟨rfl, rfl⟩))
        refine (sign_any _ _ hs).mono ?_
        rintro e w1 ⟨rfl, hb⟩
        rw [← hr.out]
        unfold res
        obtain ⟨k, t, n⟩ := r
        obtain ⟨hc, hf⟩ := bcell hb
        have hz : w.heap.size < w1.heap.size := by have := hb.size; simp at this; omega
        go_wp2
        exact bodyPost_ret (v := res (k, t, n)) (by simp [results, Try.results10, go_sem, hc, res]) rfl ⟨rfl, below3 hb _ _ _⟩
    · rw [hd, hl, if_neg (by simp), if_pos rfl] at hr
      go_enter Try.func10, Try.ntmps10
      go_wp2_with (first | (go_at_call 17; refine (isDigit_any _ _).mono ?_; rintro e w' ⟨rfl, rfl⟩) | (go_at_call 19; refine (isLetter_any _ _).mono ?_; rintro e w' ⟨rfl, rfl⟩))
      refine (name_any _ _ hs).mono ?_
      rintro e w1 ⟨rfl, hb⟩
      rw [← hr.out]
      unfold res
      obtain ⟨k, t, n⟩ := r
      obtain ⟨hc, hf⟩ := bcell hb
      have hz : w.heap.size < w1.heap.size := by have := hb.size; simp at this; omega
      go_wp2
      exact bodyPost_ret (v := res (k, t, n)) (by simp [results, Try.results10, go_sem, hc, res]) rfl ⟨rfl, below3 hb _ _ _⟩
  · rw [hd, if_pos rfl] at hr
    go_enter Try.func10, Try.ntmps10
    go_wp2_with (go_at_call 17; refine (isDigit_any _ _).mono ?_; rintro e w' ⟨rfl, rfl⟩)
    refine (number_any _ _ hs h0).mono ?_
    rintro e w1 ⟨rfl, hb⟩
    rw [← hr.out]
    unfold res
    obtain ⟨k, t, n⟩ := r
    obtain ⟨hc, hf⟩ := bcell hb
    have hz : w.heap.size < w1.heap.size := by have := hb.size; simp at this; omega
    go_wp2
    exact bodyPost_ret (v := res (k, t, n)) (by simp [results, Try.results10, go_sem, hc, res]) rfl ⟨rfl, below3 hb _ _ _⟩
end Go.Proofs.Ythaffghlalnjaaa
