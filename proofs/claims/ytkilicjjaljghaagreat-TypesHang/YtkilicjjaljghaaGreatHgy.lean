/-
  The statement's own walk: TypesHang answers true, whatever it is handed.
-/
import Derived.Test.YtkilicjjaljghaaGreatEndA
namespace Go.Proofs.YtkilicjjaljghaaGreat
open Go.RowKit

theorem sameX {a b : ByteArray} (w : World) (ha : a.size ≤ maxLen) (hb : b.size ≤ maxLen) {X Y : List M.Ty} (hX : M.TRes a.data.toList (.inr X)) (hY : M.TRes b.data.toList (.inr Y)) :
    Calls Tryz.prog 6 #[.string a, .string b] w fun e w' => e = .returned (.tuple #[.bool (M.key (root X) == M.key (root Y)), .agg #[.int .i64 0, .int .i64 0]]) ∧ Below w.heap.size w w' := by
  refine (sameT_any w a b ha hb).mono ?_
  rintro e w' ⟨h1, ⟨er, p, ⟨hne, s, hs, hf⟩, rfl⟩ | ⟨X', Y', hX', hY', rfl⟩⟩
  · simp only [List.mem_cons, List.not_mem_nil, or_false] at hs
    rcases hs with rfl | rfl
    · exact (M.tres_excl hf hX).elim
    · exact (M.tres_excl hf hY).elim
  · rw [M.tres_one hX hX', M.tres_one hY hY']
    exact ⟨rfl, h1⟩
theorem sameN {a b : ByteArray} (w : World) (ha : a.size ≤ maxLen) (hb : b.size ≤ maxLen) (hN : ∀ X Y, M.TRes a.data.toList (.inr X) → M.TRes b.data.toList (.inr Y) → False) :
    Calls Tryz.prog 6 #[.string a, .string b] w fun e w' => (∃ er p, er ≠ 0 ∧ e = .returned (.tuple #[.bool false, .agg #[.int .i64 er, .int .i64 p]])) ∧ Below w.heap.size w w' := by
  refine (sameT_any w a b ha hb).mono ?_
  rintro e w' ⟨h1, ⟨er, p, ⟨hne, s, hs, hf⟩, rfl⟩ | ⟨X', Y', hX', hY', rfl⟩⟩
  · exact ⟨⟨er, p, hne, rfl⟩, h1⟩
  · exact (hN X' Y' hX' hY').elim

/-- Two stores into a block of two, and what they leave as it was. -/
theorem fst2 {w : World} {q : Nat} {x y : Value} {t : TypeId} (h : w.heap[q]? = some (.cells #[x, y] t (0, 0))) (a b : Value) : ((w.setCell ⟨q, 0, none⟩ a).setCell ⟨q, 1, none⟩ b).heap[q]? = some (.cells #[a, b] t (0, 0)) := by
  have h1 := heap_setCell_same w q 0 _ _ a h
  rw [heap_setCell_same _ q 1 _ _ b h1]
  rfl
theorem oth2 {w : World} {q q' : Nat} {o : Obj} (h : w.heap[q']? = some o) (a b : Value) (hne : q' ≠ q) : ((w.setCell ⟨q, 0, none⟩ a).setCell ⟨q, 1, none⟩ b).heap[q']? = some o := by
  rw [heap_setCell_other _ _ _ _ (by exact hne), heap_setCell_other _ _ _ _ (by exact hne)]
  exact h

set_option maxHeartbeats 4000000 in
set_option maxRecDepth 100000 in
theorem hang_no (a b : ByteArray) (w : World) (ha : a.size ≤ maxLen) (hb : b.size ≤ maxLen) (hN : ∀ X Y, M.TRes a.data.toList (.inr X) → M.TRes b.data.toList (.inr Y) → False) :
    Calls Tryz.prog 5 #[.string a, .string b] w fun e w' => e = .returned (.bool true) ∧ Below w.heap.size w w' := by
  have H0 := hide (fun w => typesBegun_any w)
  have H1 := hide (fun w => sameN w ha hb hN)
  have H2 := hide (fun w => fitsN w ha hb hN)
  have H3 := hide (fun w => fitsN w hb ha (fun Y X hY hX => hN X Y hX hY))
  clear hN
  go_enter Tryz.func5, Tryz.ntmps5
  go_wp2_with fail
  refine (H0.out _).mono ?_
  rintro e w0 ⟨rfl, b0⟩
  have B0 := hide b0
  clear b0
  go_wp2_with fail
  refine (H1.out _).mono ?_
  rintro e w1 ⟨⟨er1, p1, hn1, rfl⟩, b1⟩
  have B1 := hide (B0.out.trans (b1.mono B0.out.size))
  have Q1 := hide (heap_alloc_new w1 (.cells #[.int .i64 er1, .int .i64 p1] 24))
  have hn1' : (er1 != 0) = true := by simp [hn1]
  clear b1
  go_wp2_with fail
  refine (H2.out _).mono ?_
  rintro e w2 ⟨⟨er2, p2, hn2, rfl⟩, b2⟩
  have B2 := hide ((B1.out.alloc B1.out.size (.cells #[.int .i64 er1, .int .i64 p1] 24)).trans (b2.mono (by simp; have := B1.out.size; omega)))
  have P1 := hide (blk_old (o' := .cells #[.int .i64 er2, .int .i64 p2] 24) (blk_keep b2 Q1.out))
  clear b2
  go_wp2_with fail
  refine (H3.out _).mono ?_
  rintro e w3 ⟨⟨er3, p3, hn3, rfl⟩, b3⟩
  have B3 := hide ((B2.out.alloc B2.out.size (.cells #[.int .i64 er2, .int .i64 p2] 24)).trans (b3.mono (by simp; have := B2.out.size; omega)))
  have R1 := hide (blk_keep b3 P1.out)
  have c1 : w3.cell? ⟨w1.heap.size, 0, none⟩ = some (.int .i64 er1) := by rw [cell_of_row w3 _ 0 _ _ _ R1.out]; rfl
  have l1 := (Array.getElem?_eq_some_iff.1 R1.out).1
  have HB := hide (B3.out.alloc B3.out.size (.cells #[.int .i64 er3, .int .i64 p3] 24))
  clear b3
  go_wp2
  go_ret
  exact ⟨rfl, HB.out⟩

set_option maxHeartbeats 8000000 in
set_option maxRecDepth 100000 in
theorem hang_yes (a b : ByteArray) (w : World) (ha : a.size ≤ maxLen) (hb : b.size ≤ maxLen) {X Y : List M.Ty} (hX : M.TRes a.data.toList (.inr X)) (hY : M.TRes b.data.toList (.inr Y)) :
    Calls Tryz.prog 5 #[.string a, .string b] w fun e w' => e = .returned (.bool true) ∧ Below w.heap.size w w' := by
  have oX := M.tres_ok hX
  have oY := M.tres_ok hY
  have wX : M.Wf (root X) := M.wf_tr oX.1 _ (by have := oX.2.1; omega)
  have wY : M.Wf (root Y) := M.wf_tr oY.1 _ (by have := oY.2.1; omega)
  have hW : ∀ t ∈ [root X, root Y], M.Wf t := by
    intro t ht
    simp only [List.mem_cons, List.not_mem_nil, or_false] at ht
    rcases ht with rfl | rfl
    · exact wX
    · exact wY
  have hul : (M.txt' (M.unite [root X, root Y])).length ≤ 200000 := by
    have e1 := M.len_txt (M.unite [root X, root Y])
    have e2 := M.wg_unite [root X, root Y]
    have e3 := M.tres_wg hX
    have e4 := M.tres_wg hY
    have e5 : M.wgL [root X, root Y] = M.wg (root X) + 5 + (M.wg (root Y) + 5 + 0) := rfl
    unfold root at *
    omega
  have H0 := hide (fun w => typesBegun_any w)
  have H1 := hide (fun w => sameX w ha hb hX hY)
  have H2 := hide (fun w => fitsX w ha hb hX hY)
  have H3 := hide (fun w => fitsX w hb ha hY hX)
  have H4 := hide (fun w bb c (hst : Strs w bb [a.data.toList, b.data.toList]) => unionX w bb c hst (by rw [Array.length_toList]; exact ha) (by rw [Array.length_toList]; exact hb) hX hY)
  have H5 := hide (fun w u hu hl => fitsU w ha hX (Y := X) (Z := Y) (by simp) hW u hu hl)
  have H6 := hide (fun w u hu hl => fitsU w hb hY (Y := X) (Z := Y) (by simp) hW u hu hl)
  have H7 := hide (fun w => tagsX w ha hX)
  have H8 := hide (fun w => tagsX w hb hY)
  have H9 := hide (fun w => hasWild_any a w ha X hX)
  have H10 := hide (fun w => hasWild_any b w hb Y hY)
  have HC := hide (fun w => common_any (M.tags (root X)) (M.tags (root Y)) (M.tags_lt _) (M.tags_lt _) w)
  have FS : Hid ((M.key (root X) == M.key (root Y)) = true → M.fits (root X) (root Y) = true ∧ M.fits (root Y) (root X) = true) := by
    intro he
    have he2 : M.key (root X) = M.key (root Y) := by simpa using he
    have hs := M.key_srt wX wY he2
    exact ⟨M.fits_same _ wX _ wY hs, M.fits_same _ wY _ wX hs.symm⟩
  have FT : Hid (M.fits (root X) (root Y) = true → wildL X = false → wildL Y = false → cmn (M.tags (root X)) (M.tags (root Y)) 7 = M.tags (root X)) := by
    intro hfi h1 h2
    have e : M.tags (root X) ||| M.tags (root Y) = M.tags (root Y) := M.tags_fit _ _ (noW_of oX.1 h1 _ (by have := oX.2.1; omega)) (noW_of oY.1 h2 _ (by have := oY.2.1; omega)) hfi
    have hlt := M.tags_lt (root X)
    rw [cmn_sub _ _ e 7]
    exact Nat.mod_eq_of_lt hlt
  have htx := hide (rfl : M.txt' (M.unite [root X, root Y]) = M.txt' (M.unite [root X, root Y]))
  clear hX hY wX wY hW oX oY
  generalize hu : M.txt' (M.unite [root X, root Y]) = u at *
  clear hu htx
  have hum : u.length ≤ maxLen := by unfold maxLen; omega
  have H5' := hide (fun w => H5.out w u rfl hum)
  have H6' := hide (fun w => H6.out w u rfl hum)
  clear H5 H6
  generalize (M.key (root X) == M.key (root Y)) = sm at *
  generalize M.fits (root X) (root Y) = ft at *
  generalize M.fits (root Y) (root X) = bk at *
  generalize wildL X = wa at *
  generalize wildL Y = wb at *
  generalize M.tags (root X) = ta at *
  generalize M.tags (root Y) = tb at *
  generalize cmn ta tb 7 = cm at *
  clear X Y
  go_enter Tryz.func5, Tryz.ntmps5
  go_wp2_with fail
  refine (H0.out _).mono ?_
  rintro e w0 ⟨rfl, b0⟩
  have B0 := hide b0
  clear b0 H0
  go_wp2_with fail
  refine (H1.out _).mono ?_
  rintro e w1 ⟨rfl, b1⟩
  have B1 := hide (B0.out.trans (b1.mono B0.out.size))
  have Q1 := hide (heap_alloc_new w1 (.cells #[.int .i64 0, .int .i64 0] 24))
  have HQ1 : Hid (w.heap.size ≤ w1.heap.size) := B1.out.size
  clear b1 H1 B0
  go_wp2_with fail
  refine (H2.out _).mono ?_
  rintro e w2 ⟨rfl, b2⟩
  have B2 := hide ((B1.out.alloc B1.out.size (.cells #[.int .i64 0, .int .i64 0] 24)).trans (b2.mono (by simp; have := B1.out.size; omega)))
  have P1 := hide (blk_old (o' := .cells #[.int .i64 0, .int .i64 0] 24) (blk_keep b2 Q1.out))
  have P2 := hide (heap_alloc_new w2 (.cells #[.int .i64 0, .int .i64 0] 24))
  have HQ2 : Hid (w.heap.size ≤ w2.heap.size) := B2.out.size
  have HL2 : w1.heap.size < w2.heap.size := by have := b2.size; simp at this; omega
  clear b2 H2 B1 Q1
  go_wp2_with fail
  refine (H3.out _).mono ?_
  rintro e w3 ⟨rfl, b3⟩
  have B3 := hide ((B2.out.alloc B2.out.size (.cells #[.int .i64 0, .int .i64 0] 24)).trans (b3.mono (by simp; have := B2.out.size; omega)))
  have R1 := hide (blk_old (o' := .cells #[.string a, .string b] 9) (blk_old (o' := .cells #[.int .i64 0, .int .i64 0] 24) (blk_keep b3 P1.out)))
  have R2 := hide (blk_old (o' := .cells #[.string a, .string b] 9) (blk_old (o' := .cells #[.int .i64 0, .int .i64 0] 24) (blk_keep b3 P2.out)))
  have R3 := hide (blk_old (o' := .cells #[.string a, .string b] 9) (heap_alloc_new w3 (.cells #[.int .i64 0, .int .i64 0] 24)))
  have c1 : w3.cell? ⟨w1.heap.size, 0, none⟩ = some (.int .i64 0) := by rw [cell_of_row w3 _ 0 _ _ _ (blk_keep b3 P1.out)]; rfl
  have c2 : w3.cell? ⟨w2.heap.size, 0, none⟩ = some (.int .i64 0) := by rw [cell_of_row w3 _ 0 _ _ _ (blk_keep b3 P2.out)]; rfl
  have l1 := (Array.getElem?_eq_some_iff.1 (blk_keep b3 P1.out)).1
  have l2 := (Array.getElem?_eq_some_iff.1 (blk_keep b3 P2.out)).1
  have hst : Strs ((w3.alloc (.cells #[.int .i64 0, .int .i64 0] 24)).alloc (.cells #[.string a, .string b] 9)) (w3.heap.size + 1) [a.data.toList, b.data.toList] := by
    have := strs_next w3 (.cells #[.int .i64 0, .int .i64 0] 24) [a.data.toList, b.data.toList] 9
    simpa [strV] using this
  have B3' := hide ((B3.out.alloc B3.out.size (.cells #[.int .i64 0, .int .i64 0] 24)).alloc (by simp; have := B3.out.size; omega) (.cells #[.string a, .string b] 9))
  have H4' := hide (H4.out _ _ 2 hst)
  have HQ3 : Hid (w.heap.size ≤ w3.heap.size) := B3.out.size
  have HL3 : w2.heap.size < w3.heap.size := by have := b3.size; simp at this; omega
  clear b3 H3 B2 P1 P2 hst H4 B3
  have hsame : (sm = false ∨ (sm = true ∧ ft = true ∧ bk = true)) := by
    cases sm
    · exact .inl rfl
    · exact .inr ⟨rfl, FS.out rfl⟩
  clear FS
  have hq1 : w.heap.size ≤ w1.heap.size := HQ1.out
  have hq2 : w.heap.size ≤ w2.heap.size := HQ2.out
  have hq3 : w.heap.size ≤ w3.heap.size := HQ3.out
  rcases hsame with rfl | ⟨rfl, rfl, rfl⟩
  · go_wp2_with fail
    refine H4'.out.mono ?_
    rintro e w4 ⟨rfl, b4⟩
    have B4 := hide (B3'.out.trans (b4.mono B3'.out.size))
    have S1 := hide (blk_keep b4 R1.out)
    have S2 := hide (blk_keep b4 R2.out)
    have S3 := hide (blk_keep b4 R3.out)
    have T1 := hide (fst2 S1.out (.int .i64 0) (.int .i64 0))
    have T2 := hide (oth2 S2.out (q := w1.heap.size) (.int .i64 0) (.int .i64 0) (by omega))
    have T3 := hide (oth2 S3.out (q := w1.heap.size) (.int .i64 0) (.int .i64 0) (by omega))
    have B5 := hide ((B4.out.setCell (p := ⟨w1.heap.size, 0, none⟩) hq1 (.int .i64 0)).setCell (p := ⟨w1.heap.size, 1, none⟩) hq1 (.int .i64 0))
    have d1 : w4.cell? ⟨w1.heap.size, 0, none⟩ = some (.int .i64 0) := by rw [cell_of_row w4 _ 0 _ _ _ S1.out]; rfl
    have d2 : w4.cell? ⟨w1.heap.size, 1, none⟩ = some (.int .i64 0) := by rw [cell_of_row w4 _ 1 _ _ _ S1.out]; rfl
    have d3 := frozen_of_row w4 w1.heap.size 0 _ _ S1.out
    have d4 := frozen_of_row w4 w1.heap.size 1 _ _ S1.out
    have d5 := (Array.getElem?_eq_some_iff.1 S1.out).1
    clear b4 S1 S2 S3 B4 B3' R1 R2 R3 H4'
    go_wp2_with fail
    refine (H5'.out _).mono ?_
    rintro e w5 ⟨⟨er5, p5, x5, rfl, hx5⟩, b5⟩
    have S1 := hide (blk_keep b5 T1.out)
    have S2 := hide (blk_keep b5 T2.out)
    have S3 := hide (blk_keep b5 T3.out)
    have U1 := hide (oth2 S1.out (q := w2.heap.size) (.int .i64 er5) (.int .i64 p5) (by omega))
    have U2 := hide (fst2 S2.out (.int .i64 er5) (.int .i64 p5))
    have U3 := hide (oth2 S3.out (q := w2.heap.size) (.int .i64 er5) (.int .i64 p5) (by omega))
    have B6 := hide (((B5.out.trans (b5.mono B5.out.size)).setCell (p := ⟨w2.heap.size, 0, none⟩) hq2 (.int .i64 er5)).setCell (p := ⟨w2.heap.size, 1, none⟩) hq2 (.int .i64 p5))
    have f1 : w5.cell? ⟨w2.heap.size, 0, none⟩ = some (.int .i64 0) := by rw [cell_of_row w5 _ 0 _ _ _ S2.out]; rfl
    have f2 : w5.cell? ⟨w2.heap.size, 1, none⟩ = some (.int .i64 0) := by rw [cell_of_row w5 _ 1 _ _ _ S2.out]; rfl
    have f3 := frozen_of_row w5 w2.heap.size 0 _ _ S2.out
    have f4 := frozen_of_row w5 w2.heap.size 1 _ _ S2.out
    have f5 := (Array.getElem?_eq_some_iff.1 S2.out).1
    clear b5 S1 S2 S3 B5 T1 T2 T3 d1 d2 d3 d4 d5 H5'
    go_wp2_with fail
    refine (H6'.out _).mono ?_
    rintro e w6 ⟨⟨er6, p6, x6, rfl, hx6⟩, b6⟩
    have S1 := hide (blk_keep b6 U1.out)
    have S2 := hide (blk_keep b6 U2.out)
    have S3 := hide (blk_keep b6 U3.out)
    have V1 := hide (oth2 S1.out (q := w3.heap.size) (.int .i64 er6) (.int .i64 p6) (by omega))
    have V2 := hide (oth2 S2.out (q := w3.heap.size) (.int .i64 er6) (.int .i64 p6) (by omega))
    have B7 := hide (((B6.out.trans (b6.mono B6.out.size)).setCell (p := ⟨w3.heap.size, 0, none⟩) hq3 (.int .i64 er6)).setCell (p := ⟨w3.heap.size, 1, none⟩) hq3 (.int .i64 p6))
    have g1 : w6.cell? ⟨w3.heap.size, 0, none⟩ = some (.int .i64 0) := by rw [cell_of_row w6 _ 0 _ _ _ S3.out]; rfl
    have g2 : w6.cell? ⟨w3.heap.size, 1, none⟩ = some (.int .i64 0) := by rw [cell_of_row w6 _ 1 _ _ _ S3.out]; rfl
    have g3 := frozen_of_row w6 w3.heap.size 0 _ _ S3.out
    have g4 := frozen_of_row w6 w3.heap.size 1 _ _ S3.out
    have g5 := (Array.getElem?_eq_some_iff.1 S3.out).1
    have g6 : w6.cell? ⟨w2.heap.size, 0, none⟩ = some (.int .i64 er5) := by rw [cell_of_row w6 _ 0 _ _ _ S2.out]; rfl
    have g7 := (Array.getElem?_eq_some_iff.1 S2.out).1
    have n32 : w3.heap.size ≠ w2.heap.size := by omega
    have n23 : w2.heap.size ≠ w3.heap.size := by omega
    have h5 : (er5 = 0 ∧ x5 = true) ∨ (er5 == 0) = false := by
      by_cases he : er5 = 0
      · exact .inl ⟨he, hx5 he⟩
      · exact .inr (by simp [he])
    have h6 : (er6 = 0 ∧ x6 = true) ∨ (er6 == 0) = false := by
      by_cases he : er6 = 0
      · exact .inl ⟨he, hx6 he⟩
      · exact .inr (by simp [he])
    clear b6 S1 S2 S3 B6 U1 U2 U3 f1 f2 f3 f4 f5 H6' hx5 hx6
    rcases h5 with ⟨rfl, rfl⟩ | hne5 <;> rcases h6 with ⟨rfl, rfl⟩ | hne6 <;> by_cases hul2 : u.length ≤ 1000
    all_goals
      go_wp2_with fail
      refine (H7.out _).mono ?_
      rintro e w7 ⟨rfl, b7⟩
      have S1 := hide (blk_keep b7 V1.out)
      have S2 := hide (blk_keep b7 V2.out)
      have W1 := hide (fst2 S1.out (.int .i64 0) (.int .i64 0))
      have W2 := hide (oth2 S2.out (q := w1.heap.size) (.int .i64 0) (.int .i64 0) (by omega))
      have B8 := hide (((B7.out.trans (b7.mono B7.out.size)).setCell (p := ⟨w1.heap.size, 0, none⟩) hq1 (.int .i64 0)).setCell (p := ⟨w1.heap.size, 1, none⟩) hq1 (.int .i64 0))
      have i1 : w7.cell? ⟨w1.heap.size, 0, none⟩ = some (.int .i64 0) := by rw [cell_of_row w7 _ 0 _ _ _ S1.out]; rfl
      have i2 : w7.cell? ⟨w1.heap.size, 1, none⟩ = some (.int .i64 0) := by rw [cell_of_row w7 _ 1 _ _ _ S1.out]; rfl
      have i3 := frozen_of_row w7 w1.heap.size 0 _ _ S1.out
      have i4 := frozen_of_row w7 w1.heap.size 1 _ _ S1.out
      have i5 := (Array.getElem?_eq_some_iff.1 S1.out).1
      clear b7 S1 S2 B7 V1 V2 g1 g2 g3 g4 g5 g6 g7 H7
      go_wp2_with fail
      refine (H8.out _).mono ?_
      rintro e w8 ⟨rfl, b8⟩
      have S1 := hide (blk_keep b8 W1.out)
      have S2 := hide (blk_keep b8 W2.out)
      have B9 := hide (((B8.out.trans (b8.mono B8.out.size)).setCell (p := ⟨w2.heap.size, 0, none⟩) hq2 (.int .i64 0)).setCell (p := ⟨w2.heap.size, 1, none⟩) hq2 (.int .i64 0))
      obtain ⟨ea, eb, j1, j2⟩ : ∃ ea eb, w8.cell? ⟨w2.heap.size, 0, none⟩ = some ea ∧ w8.cell? ⟨w2.heap.size, 1, none⟩ = some eb := ⟨_, _, by rw [cell_of_row w8 _ 0 _ _ _ S2.out]; rfl, by rw [cell_of_row w8 _ 1 _ _ _ S2.out]; rfl⟩
      have j3 := frozen_of_row w8 w2.heap.size 0 _ _ S2.out
      have j4 := frozen_of_row w8 w2.heap.size 1 _ _ S2.out
      have j5 := (Array.getElem?_eq_some_iff.1 S2.out).1
      have j6 : w8.cell? ⟨w1.heap.size, 0, none⟩ = some (.int .i64 0) := by rw [cell_of_row w8 _ 0 _ _ _ S1.out]; rfl
      have j7 := (Array.getElem?_eq_some_iff.1 S1.out).1
      have n12 : w1.heap.size ≠ w2.heap.size := by omega
      have n21 : w2.heap.size ≠ w1.heap.size := by omega
      clear b8 S1 S2 B8 W1 W2 i1 i2 i3 i4 i5 H8
      cases ft
      · go_wp2
        go_ret
        exact ⟨rfl, B9.out⟩
      · cases wa
        · cases wb
          · have hcm := FT.out (by simp) (by simp) (by simp)
            subst hcm
            go_wp2_with fail
            refine (H9.out _).mono ?_
            rintro e w9 ⟨rfl, b9⟩
            have B10 := hide (B9.out.trans (b9.mono B9.out.size))
            clear b9
            go_wp2_with fail
            refine (H10.out _).mono ?_
            rintro e w10 ⟨rfl, b10⟩
            have B11 := hide (B10.out.trans (b10.mono B10.out.size))
            clear b10
            go_wp2_with fail
            refine (HC.out _).mono ?_
            rintro e w11 ⟨rfl, rfl⟩
            go_wp2
            go_ret
            exact ⟨rfl, B11.out⟩
          · go_wp2_with fail
            refine (H9.out _).mono ?_
            rintro e w9 ⟨rfl, b9⟩
            have B10 := hide (B9.out.trans (b9.mono B9.out.size))
            clear b9
            go_wp2_with fail
            refine (H10.out _).mono ?_
            rintro e w10 ⟨rfl, b10⟩
            have B11 := hide (B10.out.trans (b10.mono B10.out.size))
            clear b10
            go_wp2
            go_ret
            exact ⟨rfl, B11.out⟩
        · go_wp2_with fail
          refine (H9.out _).mono ?_
          rintro e w9 ⟨rfl, b9⟩
          have B10 := hide (B9.out.trans (b9.mono B9.out.size))
          clear b9
          go_wp2
          go_ret
          exact ⟨rfl, B10.out⟩
  · go_wp2_with fail
    refine H4'.out.mono ?_
    rintro e w4 ⟨rfl, b4⟩
    have B4 := hide (B3'.out.trans (b4.mono B3'.out.size))
    have S1 := hide (blk_keep b4 R1.out)
    have S2 := hide (blk_keep b4 R2.out)
    have S3 := hide (blk_keep b4 R3.out)
    have T1 := hide (fst2 S1.out (.int .i64 0) (.int .i64 0))
    have T2 := hide (oth2 S2.out (q := w1.heap.size) (.int .i64 0) (.int .i64 0) (by omega))
    have T3 := hide (oth2 S3.out (q := w1.heap.size) (.int .i64 0) (.int .i64 0) (by omega))
    have B5 := hide ((B4.out.setCell (p := ⟨w1.heap.size, 0, none⟩) hq1 (.int .i64 0)).setCell (p := ⟨w1.heap.size, 1, none⟩) hq1 (.int .i64 0))
    have d1 : w4.cell? ⟨w1.heap.size, 0, none⟩ = some (.int .i64 0) := by rw [cell_of_row w4 _ 0 _ _ _ S1.out]; rfl
    have d2 : w4.cell? ⟨w1.heap.size, 1, none⟩ = some (.int .i64 0) := by rw [cell_of_row w4 _ 1 _ _ _ S1.out]; rfl
    have d3 := frozen_of_row w4 w1.heap.size 0 _ _ S1.out
    have d4 := frozen_of_row w4 w1.heap.size 1 _ _ S1.out
    have d5 := (Array.getElem?_eq_some_iff.1 S1.out).1
    clear b4 S1 S2 S3 B4 B3' R1 R2 R3 H4'
    go_wp2_with fail
    refine (H5'.out _).mono ?_
    rintro e w5 ⟨⟨er5, p5, x5, rfl, hx5⟩, b5⟩
    have S1 := hide (blk_keep b5 T1.out)
    have S2 := hide (blk_keep b5 T2.out)
    have S3 := hide (blk_keep b5 T3.out)
    have U1 := hide (oth2 S1.out (q := w2.heap.size) (.int .i64 er5) (.int .i64 p5) (by omega))
    have U2 := hide (fst2 S2.out (.int .i64 er5) (.int .i64 p5))
    have U3 := hide (oth2 S3.out (q := w2.heap.size) (.int .i64 er5) (.int .i64 p5) (by omega))
    have B6 := hide (((B5.out.trans (b5.mono B5.out.size)).setCell (p := ⟨w2.heap.size, 0, none⟩) hq2 (.int .i64 er5)).setCell (p := ⟨w2.heap.size, 1, none⟩) hq2 (.int .i64 p5))
    have f1 : w5.cell? ⟨w2.heap.size, 0, none⟩ = some (.int .i64 0) := by rw [cell_of_row w5 _ 0 _ _ _ S2.out]; rfl
    have f2 : w5.cell? ⟨w2.heap.size, 1, none⟩ = some (.int .i64 0) := by rw [cell_of_row w5 _ 1 _ _ _ S2.out]; rfl
    have f3 := frozen_of_row w5 w2.heap.size 0 _ _ S2.out
    have f4 := frozen_of_row w5 w2.heap.size 1 _ _ S2.out
    have f5 := (Array.getElem?_eq_some_iff.1 S2.out).1
    clear b5 S1 S2 S3 B5 T1 T2 T3 d1 d2 d3 d4 d5 H5'
    go_wp2_with fail
    refine (H6'.out _).mono ?_
    rintro e w6 ⟨⟨er6, p6, x6, rfl, hx6⟩, b6⟩
    have S1 := hide (blk_keep b6 U1.out)
    have S2 := hide (blk_keep b6 U2.out)
    have S3 := hide (blk_keep b6 U3.out)
    have V1 := hide (oth2 S1.out (q := w3.heap.size) (.int .i64 er6) (.int .i64 p6) (by omega))
    have V2 := hide (oth2 S2.out (q := w3.heap.size) (.int .i64 er6) (.int .i64 p6) (by omega))
    have B7 := hide (((B6.out.trans (b6.mono B6.out.size)).setCell (p := ⟨w3.heap.size, 0, none⟩) hq3 (.int .i64 er6)).setCell (p := ⟨w3.heap.size, 1, none⟩) hq3 (.int .i64 p6))
    have g1 : w6.cell? ⟨w3.heap.size, 0, none⟩ = some (.int .i64 0) := by rw [cell_of_row w6 _ 0 _ _ _ S3.out]; rfl
    have g2 : w6.cell? ⟨w3.heap.size, 1, none⟩ = some (.int .i64 0) := by rw [cell_of_row w6 _ 1 _ _ _ S3.out]; rfl
    have g3 := frozen_of_row w6 w3.heap.size 0 _ _ S3.out
    have g4 := frozen_of_row w6 w3.heap.size 1 _ _ S3.out
    have g5 := (Array.getElem?_eq_some_iff.1 S3.out).1
    have g6 : w6.cell? ⟨w2.heap.size, 0, none⟩ = some (.int .i64 er5) := by rw [cell_of_row w6 _ 0 _ _ _ S2.out]; rfl
    have g7 := (Array.getElem?_eq_some_iff.1 S2.out).1
    have n32 : w3.heap.size ≠ w2.heap.size := by omega
    have n23 : w2.heap.size ≠ w3.heap.size := by omega
    have h5 : (er5 = 0 ∧ x5 = true) ∨ (er5 == 0) = false := by
      by_cases he : er5 = 0
      · exact .inl ⟨he, hx5 he⟩
      · exact .inr (by simp [he])
    have h6 : (er6 = 0 ∧ x6 = true) ∨ (er6 == 0) = false := by
      by_cases he : er6 = 0
      · exact .inl ⟨he, hx6 he⟩
      · exact .inr (by simp [he])
    clear b6 S1 S2 S3 B6 U1 U2 U3 f1 f2 f3 f4 f5 H6' hx5 hx6
    rcases h5 with ⟨rfl, rfl⟩ | hne5 <;> rcases h6 with ⟨rfl, rfl⟩ | hne6 <;> by_cases hul2 : u.length ≤ 1000
    all_goals
      go_wp2_with fail
      refine (H7.out _).mono ?_
      rintro e w7 ⟨rfl, b7⟩
      have S1 := hide (blk_keep b7 V1.out)
      have S2 := hide (blk_keep b7 V2.out)
      have W1 := hide (fst2 S1.out (.int .i64 0) (.int .i64 0))
      have W2 := hide (oth2 S2.out (q := w1.heap.size) (.int .i64 0) (.int .i64 0) (by omega))
      have B8 := hide (((B7.out.trans (b7.mono B7.out.size)).setCell (p := ⟨w1.heap.size, 0, none⟩) hq1 (.int .i64 0)).setCell (p := ⟨w1.heap.size, 1, none⟩) hq1 (.int .i64 0))
      have i1 : w7.cell? ⟨w1.heap.size, 0, none⟩ = some (.int .i64 0) := by rw [cell_of_row w7 _ 0 _ _ _ S1.out]; rfl
      have i2 : w7.cell? ⟨w1.heap.size, 1, none⟩ = some (.int .i64 0) := by rw [cell_of_row w7 _ 1 _ _ _ S1.out]; rfl
      have i3 := frozen_of_row w7 w1.heap.size 0 _ _ S1.out
      have i4 := frozen_of_row w7 w1.heap.size 1 _ _ S1.out
      have i5 := (Array.getElem?_eq_some_iff.1 S1.out).1
      clear b7 S1 S2 B7 V1 V2 g1 g2 g3 g4 g5 g6 g7 H7
      go_wp2_with fail
      refine (H8.out _).mono ?_
      rintro e w8 ⟨rfl, b8⟩
      have S1 := hide (blk_keep b8 W1.out)
      have S2 := hide (blk_keep b8 W2.out)
      have B9 := hide (((B8.out.trans (b8.mono B8.out.size)).setCell (p := ⟨w2.heap.size, 0, none⟩) hq2 (.int .i64 0)).setCell (p := ⟨w2.heap.size, 1, none⟩) hq2 (.int .i64 0))
      obtain ⟨ea, eb, j1, j2⟩ : ∃ ea eb, w8.cell? ⟨w2.heap.size, 0, none⟩ = some ea ∧ w8.cell? ⟨w2.heap.size, 1, none⟩ = some eb := ⟨_, _, by rw [cell_of_row w8 _ 0 _ _ _ S2.out]; rfl, by rw [cell_of_row w8 _ 1 _ _ _ S2.out]; rfl⟩
      have j3 := frozen_of_row w8 w2.heap.size 0 _ _ S2.out
      have j4 := frozen_of_row w8 w2.heap.size 1 _ _ S2.out
      have j5 := (Array.getElem?_eq_some_iff.1 S2.out).1
      have j6 : w8.cell? ⟨w1.heap.size, 0, none⟩ = some (.int .i64 0) := by rw [cell_of_row w8 _ 0 _ _ _ S1.out]; rfl
      have j7 := (Array.getElem?_eq_some_iff.1 S1.out).1
      have n12 : w1.heap.size ≠ w2.heap.size := by omega
      have n21 : w2.heap.size ≠ w1.heap.size := by omega
      clear b8 S1 S2 B8 W1 W2 i1 i2 i3 i4 i5 H8
      cases wa
      · cases wb
        · have hcm := FT.out (by simp) (by simp) (by simp)
          subst hcm
          go_wp2_with fail
          refine (H9.out _).mono ?_
          rintro e w9 ⟨rfl, b9⟩
          have B10 := hide (B9.out.trans (b9.mono B9.out.size))
          clear b9
          go_wp2_with fail
          refine (H10.out _).mono ?_
          rintro e w10 ⟨rfl, b10⟩
          have B11 := hide (B10.out.trans (b10.mono B10.out.size))
          clear b10
          go_wp2_with fail
          refine (HC.out _).mono ?_
          rintro e w11 ⟨rfl, rfl⟩
          go_wp2
          go_ret
          exact ⟨rfl, B11.out⟩
        · go_wp2_with fail
          refine (H9.out _).mono ?_
          rintro e w9 ⟨rfl, b9⟩
          have B10 := hide (B9.out.trans (b9.mono B9.out.size))
          clear b9
          go_wp2_with fail
          refine (H10.out _).mono ?_
          rintro e w10 ⟨rfl, b10⟩
          have B11 := hide (B10.out.trans (b10.mono B10.out.size))
          clear b10
          go_wp2
          go_ret
          exact ⟨rfl, B11.out⟩
      · go_wp2_with fail
        refine (H9.out _).mono ?_
        rintro e w9 ⟨rfl, b9⟩
        have B10 := hide (B9.out.trans (b9.mono B9.out.size))
        clear b9
        go_wp2
        go_ret
        exact ⟨rfl, B10.out⟩
end Go.Proofs.YtkilicjjaljghaaGreat
