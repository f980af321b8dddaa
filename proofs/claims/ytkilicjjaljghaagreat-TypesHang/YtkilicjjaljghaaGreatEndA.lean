/-
  The reference's Common.
  The statement's own walk: typesBegun, and TypesHang.
-/
import Derived.Test.YtkilicjjaljghaaGreatTfi
import Derived.Test.YtkilicjjaljghaaGreatRtf
import Derived.Test.YtkilicjjaljghaaGreatPlainC
/- The reference's Common. -/
namespace Go.Proofs.YtkilicjjaljghaaGreat
open Go.RowKit

/-- Tags of one and the other, the lower ones. -/
def cmn (a b : Nat) : Nat → Nat
  | 0 => 0
  | k + 1 => cmn a b k + if a / 2 ^ k % 2 = 1 ∧ b / 2 ^ k % 2 = 1 then 2 ^ k else 0
theorem cmn_lt (a b : Nat) : ∀ k, cmn a b k < 2 ^ k
  | 0 => by simp [cmn]
  | k + 1 => by
    have := cmn_lt a b k
    rw [cmn, Nat.pow_succ]
    split <;> omega
theorem cmn_sub (a b : Nat) (h : a ||| b = b) : ∀ k, cmn a b k = a % 2 ^ k
  | 0 => by simp [cmn, Nat.mod_one]
  | k + 1 => by
    rw [cmn, cmn_sub a b h k, Nat.pow_succ, Nat.mod_mul]
    have hb : a / 2 ^ k % 2 = 1 → b / 2 ^ k % 2 = 1 := by
      intro ha
      have h1 : a.testBit k = true := by rw [Nat.testBit_eq_decide_div_mod_eq]; simpa using ha
      have h2 : b.testBit k = true := by rw [← h, Nat.testBit_or, h1]; rfl
      rw [Nat.testBit_eq_decide_div_mod_eq] at h2
      simpa using h2
    have hm : a / 2 ^ k % 2 = 0 ∨ a / 2 ^ k % 2 = 1 := by omega
    rcases hm with hm | hm
    · rw [if_neg (by omega), hm]; simp
    · rw [if_pos ⟨hm, hb hm⟩, hm]; simp

theorem wq_all (q : Nat) (h : q < 128) : (wrap64 (q : Int)).tmod 2 = ((q % 2 : Nat) : Int) := by
  have e : wrap64 (q : Int) = (q : Int) := by unfold wrap64; omega
  rw [e, Int.tmod_eq_emod_of_nonneg (by omega)]
  simp
theorem wq (a T : Nat) (ha : a < 128) : (wrap64 ((a : Int) / (T : Int))).tmod 2 = ((a / T % 2 : Nat) : Int) := by
  have e : (a : Int) / (T : Int) = ((a / T : Nat) : Int) := by simp
  rw [e]
  exact wq_all (a / T) (Nat.lt_of_le_of_lt (Nat.div_le_self a T) ha)

set_option maxHeartbeats 1000000 in
set_option maxRecDepth 100000 in
theorem common_any (a b : Nat) (ha : a < 128) (hb : b < 128) (w : World) : Calls Tryz.prog 16 #[.int .i64 (a : Int), .int .i64 (b : Int)] w fun e w' => e = .returned (.int .i64 (cmn a b 7 : Int)) ∧ w' = w := by
  go_enter Tryz.func16, Tryz.ntmps16
  go_wp2
  go_loop [6, 5] (fun t o => ∃ k : Nat, k ≤ 7 ∧ t = .int .i64 ((2 ^ k : Nat) : Int) ∧ o = .int .i64 (cmn a b k : Int)) (fun t _ => 128 - (intOf t).toNat)
  case atStart => exact ⟨0, Nat.zero_le _, rfl, rfl⟩
  case round =>
    obtain ⟨k, hk, rfl, rfl⟩ := hrel
    have hc := cmn_lt a b k
    by_cases hk7 : k = 7
    · subst hk7
      go_wp2
      go_ret
      exact ⟨rfl, rfl⟩
    · have HS : Hid (cmn a b (k + 1) = cmn a b k + if a / 2 ^ k % 2 = 1 ∧ b / 2 ^ k % 2 = 1 then 2 ^ k else 0) := rfl
      have hp : 2 ^ k ≤ 64 ∧ 1 ≤ 2 ^ k := by
        have : k = 0 ∨ k = 1 ∨ k = 2 ∨ k = 3 ∨ k = 4 ∨ k = 5 ∨ k = 6 := by omega
        rcases this with rfl | rfl | rfl | rfl | rfl | rfl | rfl <;> decide
      have HN : Hid ((2 ^ (k + 1) : Nat) = 2 * 2 ^ k) := by show _ = _; rw [Nat.pow_succ]; omega
      generalize hT : 2 ^ k = T at *
      generalize cmn a b k = ck at *
      have wa := wq a T ha
      have wb := wq b T hb
      generalize a / T % 2 = qa at *
      generalize b / T % 2 = qb at *
      go_wp2
      all_goals
        simp only [wa, wb, beq_iff_eq, beq_eq_false_iff_ne, ne_eq] at *
        go_round
        case rel =>
          refine ⟨k + 1, by omega, ?_, ?_⟩
          · rw [HN.out]
            simp
          · rw [HS.out]
            first
              | (rw [if_pos (by omega)]; simp; done)
              | (rw [if_neg (by omega)]; simp; done)
        case measure => simp [intOf]; omega
end Go.Proofs.YtkilicjjaljghaaGreat

/- The statement's own walk: typesBegun, and TypesHang. -/
namespace Go.Proofs.YtkilicjjaljghaaGreat
open Go.RowKit

theorem blk_keep {w w' : World} (hb : Below w.heap.size w w') {q : Nat} {o : Obj} (h : w.heap[q]? = some o) : w'.heap[q]? = some o := (hb.block q (Array.getElem?_eq_some_iff.1 h).1).trans h
theorem blk_old {w : World} {q : Nat} {o o' : Obj} (h : w.heap[q]? = some o) : (w.alloc o').heap[q]? = some o := (Below.heap_alloc w o' q (Array.getElem?_eq_some_iff.1 h).1).trans h

/-- What Fits answers, where the types are known. -/
theorem fitsX {a b : ByteArray} (w : World) (ha : a.size ≤ maxLen) (hb : b.size ≤ maxLen) {X Y : List M.Ty} (hX : M.TRes a.data.toList (.inr X)) (hY : M.TRes b.data.toList (.inr Y)) :
    Calls Tryz.prog 7 #[.string a, .string b] w fun e w' => e = .returned (.tuple #[.bool (M.fits (root X) (root Y)), .agg #[.int .i64 0, .int .i64 0]]) ∧ Below w.heap.size w w' := by
  refine (fitsT_any w a b ha hb).mono ?_
  rintro e w' ⟨h1, ⟨er, p, ⟨hne, s, hs, hf⟩, rfl⟩ | ⟨X', Y', hX', hY', rfl⟩⟩
  · simp only [List.mem_cons, List.not_mem_nil, or_false] at hs
    rcases hs with rfl | rfl
    · exact (M.tres_excl hf hX).elim
    · exact (M.tres_excl hf hY).elim
  · rw [M.tres_one hX hX', M.tres_one hY hY']
    exact ⟨rfl, h1⟩
theorem tagsX {a : ByteArray} (w : World) (ha : a.size ≤ maxLen) {X : List M.Ty} (hX : M.TRes a.data.toList (.inr X)) :
    Calls Tryz.prog 14 #[.string a] w fun e w' => e = .returned (.tuple #[.int .i64 (M.tags (root X) : Int), .agg #[.int .i64 0, .int .i64 0]]) ∧ Below w.heap.size w w' := by
  refine (tagsT_any w a ha).mono ?_
  rintro e w' ⟨h1, ⟨er, p, ⟨hne, s, hs, hf⟩, rfl⟩ | ⟨X', hX', rfl⟩⟩
  · simp only [List.mem_cons, List.not_mem_nil, or_false] at hs
    subst hs
    exact (M.tres_excl hf hX).elim
  · rw [M.tres_one hX hX']
    exact ⟨rfl, h1⟩
theorem unionX {s t : List UInt8} (w : World) (b c : Nat) (hst : Strs w b [s, t]) (hs : s.length ≤ maxLen) (ht : t.length ≤ maxLen) {X Y : List M.Ty} (hX : M.TRes s (.inr X)) (hY : M.TRes t (.inr Y)) :
    Calls Tryz.prog 12 #[.slice (some ⟨b, 0, none⟩) 2 c] w fun e w' => e = .returned (.tuple #[.string ⟨(M.txt' (M.unite [root X, root Y])).toArray⟩, .agg #[.int .i64 0, .int .i64 0]]) ∧ Below w.heap.size w w' := by
  refine (unionT_any w b c s t hst hs ht).mono ?_
  rintro e w' ⟨h1, ⟨er, p, ⟨hne, u, hu, hf⟩, rfl⟩ | ⟨X', Y', hX', hY', rfl⟩⟩
  · simp only [List.mem_cons, List.not_mem_nil, or_false] at hu
    rcases hu with rfl | rfl
    · exact (M.tres_excl hf hX).elim
    · exact (M.tres_excl hf hY).elim
  · rw [M.tres_one hX hX', M.tres_one hY hY']
    exact ⟨rfl, h1⟩
/-- Where one of them is no type. -/
theorem fitsN {a b : ByteArray} (w : World) (ha : a.size ≤ maxLen) (hb : b.size ≤ maxLen) (hN : ∀ X Y, M.TRes a.data.toList (.inr X) → M.TRes b.data.toList (.inr Y) → False) :
    Calls Tryz.prog 7 #[.string a, .string b] w fun e w' => (∃ er p, er ≠ 0 ∧ e = .returned (.tuple #[.bool false, .agg #[.int .i64 er, .int .i64 p]])) ∧ Below w.heap.size w w' := by
  refine (fitsT_any w a b ha hb).mono ?_
  rintro e w' ⟨h1, ⟨er, p, ⟨hne, s, hs, hf⟩, rfl⟩ | ⟨X', Y', hX', hY', rfl⟩⟩
  · exact ⟨⟨er, p, hne, rfl⟩, h1⟩
  · exact (hN X' Y' hX' hY').elim
/-- Of whatever is written of a union, what it is of fits it. -/
theorem fitsU {a : ByteArray} (w : World) (ha : a.size ≤ maxLen) {X Y Z : List M.Ty} (hX : M.TRes a.data.toList (.inr X)) (hZ : root X ∈ [root Y, root Z]) (hW : ∀ t ∈ [root Y, root Z], M.Wf t) (u : List UInt8) (hu : u = M.txt' (M.unite [root Y, root Z])) (hul : u.length ≤ maxLen) :
    Calls Tryz.prog 7 #[.string a, .string ⟨u.toArray⟩] w fun e w' => (∃ er p x, e = .returned (.tuple #[.bool x, .agg #[.int .i64 er, .int .i64 p]]) ∧ (er = 0 → x = true)) ∧ Below w.heap.size w w' := by
  refine (fitsT_any w a ⟨u.toArray⟩ ha (by simpa [ByteArray.size] using hul)).mono ?_
  rintro e w' ⟨h1, ⟨er, p, ⟨hne, s, hs, hf⟩, rfl⟩ | ⟨X', U, hX', hU, rfl⟩⟩
  · exact ⟨⟨er, p, false, rfl, fun hx => absurd hx hne⟩, h1⟩
  · have hU' : M.TRes u (.inr U) := by simpa using hU
    have e1 : root U = M.unite [root Y, root Z] := M.tres_txt (M.unite_wf _ hW) hu hU'
    rw [M.tres_one hX' hX, e1]
    exact ⟨⟨0, 0, _, rfl, fun _ => M.fits_unite _ hW _ hZ⟩, h1⟩

set_option maxHeartbeats 2000000 in
set_option maxRecDepth 100000 in
theorem typesBegun_any (w : World) : Calls Tryz.prog 11 #[] w fun e w' => e = .returned (.bool true) ∧ Below w.heap.size w w' := by
  obtain ⟨X1, hX1⟩ := M.tres_num
  obtain ⟨X2, hX2⟩ := M.tres_num_text
  obtain ⟨X3, hX3⟩ := M.tres_text
  obtain ⟨X4, hX4⟩ := M.tres_num_null
  have H1 := fun a => fitsX (a := ⟨#[110, 117, 109]⟩) (b := ⟨#[110, 117, 109, 32, 124, 32, 116, 101, 120, 116]⟩) a (by decide) (by decide) hX1 hX2
  have H2 := fun a => fitsX (a := ⟨#[116, 101, 120, 116]⟩) (b := ⟨#[110, 117, 109]⟩) a (by decide) (by decide) hX3 hX1
  have H3 := fun a => tagsX (a := ⟨#[110, 117, 109, 32, 124, 32, 110, 117, 108, 108]⟩) a (by decide) hX4
  have e1 : M.fits (root X1) (root X2) = true := by unfold root; rw [M.root_num hX1, M.root_num_text hX2]; exact M.fit_yes
  have e2 : M.fits (root X3) (root X1) = false := by unfold root; rw [M.root_num hX1, M.root_text hX3]; exact M.fit_no
  have e3 : M.tags (root X4) = 9 := by unfold root; rw [M.root_num_null hX4]; exact M.tags_nn
  simp only [e1] at H1
  simp only [e2] at H2
  simp only [e3] at H3
  have HH1 := hide H1
  have HH2 := hide H2
  have HH3 := hide H3
  clear H1 H2 H3 e1 e2 e3 hX1 hX2 hX3 hX4
  go_enter Tryz.func11, Tryz.ntmps11
  go_wp2_with fail
  refine (HH1.out _).mono ?_
  rintro e w1 ⟨rfl, b1⟩
  have B1 := hide b1
  have Q1 := hide (heap_alloc_new w1 (.cells #[.int .i64 0, .int .i64 0] 24))
  clear b1
  go_wp2_with fail
  refine (HH2.out _).mono ?_
  rintro e w2 ⟨rfl, b2⟩
  have B2 := hide ((B1.out.alloc B1.out.size (.cells #[.int .i64 0, .int .i64 0] 24)).trans (b2.mono (by simp; have := B1.out.size; omega)))
  have P1 := hide (blk_keep b2 Q1.out)
  have Q2 := hide (heap_alloc_new w2 (.cells #[.int .i64 0, .int .i64 0] 24))
  have P1' := hide (blk_old (o' := .cells #[.int .i64 0, .int .i64 0] 24) P1.out)
  clear b2
  go_wp2_with fail
  refine (HH3.out _).mono ?_
  rintro e w3 ⟨rfl, b3⟩
  have B3 := hide ((B2.out.alloc B2.out.size (.cells #[.int .i64 0, .int .i64 0] 24)).trans (b3.mono (by simp; have := B2.out.size; omega)))
  have R1 := hide (blk_keep b3 P1'.out)
  have R2 := hide (blk_keep b3 Q2.out)
  have c1 : w3.cell? ⟨w1.heap.size, 0, none⟩ = some (.int .i64 0) := by rw [cell_of_row w3 _ 0 _ _ _ R1.out]; rfl
  have c2 : w3.cell? ⟨w2.heap.size, 0, none⟩ = some (.int .i64 0) := by rw [cell_of_row w3 _ 0 _ _ _ R2.out]; rfl
  have l1 := (Array.getElem?_eq_some_iff.1 R1.out).1
  have l2 := (Array.getElem?_eq_some_iff.1 R2.out).1
  have HB := hide (B3.out.alloc B3.out.size (.cells #[.int .i64 0, .int .i64 0] 24))
  clear b3
  go_wp2
  go_ret
  exact ⟨rfl, HB.out⟩
end Go.Proofs.YtkilicjjaljghaaGreat
