/-
  The contract of types.Same.
-/
import Derived.Test.YtkilicjjaljghaaGreatUno
import Derived.Test.YtkilicjjaljghaaGreatTfi
namespace Go.Proofs.YtkilicjjaljghaaGreat
open Go.RowKit Go.Maps

theorem rd_few {ss : List (List UInt8)} {j : Nat} {T : List M.Ty} {rs : List Int} (h : Rd ss j T rs) : Few T := by
  induction h with
  | zero => intro i hi; simp at hi
  | succ hj h1 hx ih =>
    rename_i j T X rs
    have key : ∀ t ∈ M.behind T X, t.list.length ≤ 100000 ∧ t.fields.length ≤ 1001 := by
      intro t ht
      unfold M.behind at ht
      rcases List.mem_append.1 ht with ht | ht
      · obtain ⟨i, hi, rfl⟩ := List.getElem_of_mem ht
        exact ih i hi
      · obtain ⟨u, hu, rfl⟩ := List.mem_map.1 ht
        have hq := (M.tres_ok hx).2.2.2.1 u hu
        simp only [M.mvT, List.length_map]
        omega
    intro i hi
    exact key _ (List.getElem_mem hi)

def StAns (a b : List UInt8) (w : World) (e : Ending) (w' : World) : Prop := Below w.heap.size w w' ∧
  ((∃ er p, Flt [a, b] er p ∧ e = .returned (.tuple #[.bool false, .agg #[.int .i64 er, .int .i64 p]])) ∨ ∃ X Y, M.TRes a (.inr X) ∧ M.TRes b (.inr Y) ∧ e = .returned (.tuple #[.bool (M.key (root X) == M.key (root Y)), .agg #[.int .i64 0, .int .i64 0]]))

set_option maxRecDepth 10000 in
set_option maxHeartbeats 2000000 in
theorem sameT_any (w : World) (s t : ByteArray) (hs : s.size ≤ maxLen) (ht : t.size ≤ maxLen) : Calls Tryz.prog 6 #[.string s, .string t] w (StAns s.data.toList t.data.toList w) := by
  have HR := read_any ((w.alloc (.cells #[.int .i64 0, .int .i64 0] 24)).alloc (.cells (strV [s.data.toList, t.data.toList]) 9)) (w.heap.size + 1) 2 [s.data.toList, t.data.toList] (strs_next w _ _ _) (by simp) (fun x hx => by
    simp only [List.mem_cons, List.not_mem_nil, or_false] at hx
    rcases hx with rfl | rfl
    · rw [Array.length_toList]; exact hs
    · rw [Array.length_toList]; exact ht)
  have ev : strV [s.data.toList, t.data.toList] = #[.string s, .string t] := by simp [strV]
  rw [ev] at HR
  have B0 := hide (((Below.refl w.heap.size w).alloc (Nat.le_refl _) (.cells #[.int .i64 0, .int .i64 0] 24)).alloc (by simp) (.cells #[.string s, .string t] 9))
  have F0 : Hid (((w.alloc (.cells #[.int .i64 0, .int .i64 0] 24)).alloc (.cells #[.string s, .string t] 9)).heap[w.heap.size]? = some (.cells #[.int .i64 0, .int .i64 0] 24 (0, 0))) := (Below.heap_alloc _ _ _ (by simp)).trans (heap_alloc_new w _)
  clear ev
  go_enter Tryz.func6, Tryz.ntmps6
  go_wp2_with fail
  refine HR.mono ?_
  clear HR
  rintro e w1 ⟨hb1, hans⟩
  have B1 := hide (B0.out.trans (hb1.mono (by simp; omega)))
  have F1 : Hid (w1.heap[w.heap.size]? = some (.cells #[.int .i64 0, .int .i64 0] 24 (0, 0))) := (hb1.block w.heap.size (by simp; omega)).trans F0.out
  have f0 : w1.cell? ⟨w.heap.size, 0, none⟩ = some (.int .i64 0) := by rw [cell_of_row w1 _ 0 _ _ _ F1.out]; rfl
  have f1 : w1.cell? ⟨w.heap.size, 1, none⟩ = some (.int .i64 0) := by rw [cell_of_row w1 _ 1 _ _ _ F1.out]; rfl
  have hz := (Array.getElem?_eq_some_iff.1 F1.out).1
  have ff : ∀ o, w1.frozen? ⟨w.heap.size, o, none⟩ = false := fun o => frozen_of_row w1 _ o _ _ F1.out
  have hz2 : w.heap.size + 2 ≤ w1.heap.size := by have := hb1.size; simp at this; omega
  clear hb1 B0 F0
  rcases hans with ⟨j, T, rs, er, p, hj, -, htr, rfl⟩ | ⟨T, rs, lb, mb, ad, c, hrd, rfl, hsh, hlb, hmb, hown, -⟩
  · have hne : er ≠ 0 := htr.1
    have hne' : (er != 0) = true := by simp [hne]
    have HX : Hid (Flt [s.data.toList, t.data.toList] er p) := ⟨hne, _, List.getElem_mem hj, htr⟩
    clear htr
    go_wp2_with fail
    go_region
    go_wp2
    exact bodyPost_ret (v := .tuple #[.bool false, .agg #[.int .i64 er, .int .i64 p]]) (by simp [results, Tryz.results6, go_sem, f0, f1, hz]) rfl
      ⟨(((B1.out.setCell (by simp) _).setCell (by simp) _).alloc (by simp; omega) _).drew, .inl ⟨er, p, HX.out, rfl⟩⟩
  · obtain ⟨X, Y, hX, hY, hp, hq, hTl, rfl, htr1, htr2⟩ := rd_two hrd
    obtain ⟨g, rfl, hg, hl1, hl2, y0⟩ := ints_cell (ls := [(X.length : Int) - 1, (X.length : Int) + Y.length - 1]) (owns_base hown (Nat.zero_le _)) (j := 0) (by simp)
    obtain ⟨g', hgg, -, -, -, y1⟩ := ints_cell (ls := [(X.length : Int) - 1, (X.length : Int) + Y.length - 1]) (owns_base hown (Nat.zero_le _)) (j := 1) (by simp)
    simp only [Option.some.injEq, Addr.mk.injEq, and_true] at hgg
    subst hgg
    have z0 : w1.cell? ⟨g, 0, none⟩ = some (.int .i64 ((X.length - 1 : Nat) : Int)) := by
      rw [y0]
      simp
      omega
    have z1 : w1.cell? ⟨g, 1, none⟩ = some (.int .i64 ((X.length + Y.length - 1 : Nat) : Int)) := by
      rw [y1]
      simp
      omega
    have hgl : g < w1.heap.size := hg
    have hgm : g ≠ mb := by
      rintro rfl
      obtain ⟨_, cur, hh⟩ := owns_tag hown g rfl
      exact hsh.mst.tag _ _ _ hh
    have hgn : g ≠ w.heap.size := by
      rintro rfl
      obtain ⟨_, cur, hh⟩ := owns_tag hown _ rfl
      have := F1.out
      rw [hh] at this
      simp only [Option.some.injEq, Obj.cells.injEq] at this
      exact absurd this.2.1 (by decide)
    have hnm : w.heap.size ≠ mb := by
      intro hx
      have := F1.out
      rw [hx] at this
      exact hsh.mst.tag _ _ _ this
    have HFW := rd_few hrd
    have FM : ∀ a, (∃ D, Shp a lb mb 1000 T D) → Calls Tryz.prog 18 #[.pointer (some ⟨lb, 0, none⟩), .int .i64 ((X.length - 1 : Nat) : Int), .int .i64 ((X.length + Y.length - 1 : Nat) : Int)] a fun e w' => e = .returned (.bool ((M.key (root X) == M.key (root Y)))) ∧ Chg (fun k => k = mb) a w' ∧ ∃ D, Shp w' lb mb 1000 T D := by
      rintro a ⟨D, hD⟩
      have e1 : wtx true T (X.length - 1) = M.key (root X) := by rw [← htr1]; rfl
      have e2 : wtx true T (X.length + Y.length - 1) = M.key (root Y) := by rw [← htr2]; rfl
      have := same_any a hD HFW (X.length - 1) (X.length + Y.length - 1) (by omega) (by omega) (by rw [htr1]; have := M.tres_wg hX; unfold root; omega) (by rw [htr2]; have := M.tres_wg hY; unfold root; omega)
      rw [e1, e2] at this
      refine this.mono ?_
      rintro e w' ⟨h1, h2⟩
      exact ⟨h1, h2.mono (fun _ _ x => x.elim), D, hD.still h2⟩
    have c0 := cell_old (o := .cells #[.int .i64 0, .int .i64 0] 24) hgl z0
    have c1 := cell_old (o := .cells #[.int .i64 0, .int .i64 0] 24) hgl z1
    have A0 : Hid (Al lb mb w.heap.size g T w1 (w1.alloc (.cells #[.int .i64 0, .int .i64 0] 24)).drew) := ⟨⟨_, (hsh.alloc _).still (Chg.drewN (fun _ => False) _ 1)⟩, (Chg.alloc _ _ _).trans (Chg.drewN (fun _ => False) _ 1) (fun _ _ x => x.elim), ⟨_, (Below.heap_alloc _ _ _ hz).trans F1.out, rfl⟩, hgm, hgn, hnm⟩
    have d0 := cell_old (o := .cells #[.int .i64 0, .int .i64 0] 24) hz f0
    have d1 := cell_old (o := .cells #[.int .i64 0, .int .i64 0] 24) hz f1
    have d2 := frz_old (o := .cells #[.int .i64 0, .int .i64 0] 24) hz (ff 0)
    have d3 := frz_old (o := .cells #[.int .i64 0, .int .i64 0] 24) hz (ff 1)
    have HX := hide hX
    have HY := hide hY
    have hmbw := hide (⟨hlb, hmb⟩ : _ ∧ _)
    unfold maxLen at hl2
    clear hsh hown hrd hX hY htr1 htr2 y0 y1 z0 z1
    generalize hR : (M.key (root X) == M.key (root Y)) = R at *
    have HR := hide hR
    clear hR
    generalize ((X.length - 1 : Nat) : Int) = ix at *
    generalize ((X.length + Y.length - 1 : Nat) : Int) = iy at *
    have S0 : Hid (Sf lb mb w.heap.size g T w1 (.int .i64 ix) (.int .i64 iy) (w1.alloc (.cells #[.int .i64 0, .int .i64 0] 24)).drew) := ⟨c0, c1, d0, d1, d2, d3, A0⟩
    clear d0 d1 d2 d3 A0 c0 c1
    go_wp2_with fail
    go_region_held3 (fun w' => w'.cell? ⟨g, 0, none⟩ = some (.int .i64 ix) ∧ w'.cell? ⟨g, 1, none⟩ = some (.int .i64 iy) ∧ w'.cell? ⟨w.heap.size, 0, none⟩ = some (.int .i64 0) ∧ w'.cell? ⟨w.heap.size, 1, none⟩ = some (.int .i64 0) ∧ w'.frozen? ⟨w.heap.size, 0, none⟩ = false ∧ w'.frozen? ⟨w.heap.size, 1, none⟩ = false ∧ Hid (Al lb mb w.heap.size g T w1 w'))
      (first
        | exact S0.out
        | exact keepF hcf hmf ⟨by assumption, by assumption, by assumption, by assumption, by assumption, by assumption, by assumption⟩
        | exact keepG ⟨by assumption, by assumption, by assumption, by assumption, by assumption, by assumption, by assumption⟩
        | exact keepG (by assumption)
        | (go_split_ands; exact keepG ⟨by assumption, by assumption, by assumption, by assumption, by assumption, by assumption, by assumption⟩)
        | (go_split_ands; exact ⟨by assumption, by assumption, by assumption, by assumption, by assumption, by assumption, by assumption⟩))
      (first
        | ((go_at_call 18; go_split_ands; refine (FM _ (Hid.out (p := Al lb mb w.heap.size g T w1 _) (by assumption)).1).mono ?_; rintro e w' ⟨rfl, hcf, hmf⟩)))
    have SF := hide (keepF hcf hmf S0.out)
    have e0 := SF.out.2.2.1
    have e1 := SF.out.2.2.2.1
    have hA := SF.out.2.2.2.2.2.2
    have HBB : Hid (Below w.heap.size w ((w'.setCell ⟨w.heap.size, 0, none⟩ (.int .i64 0)).setCell ⟨w.heap.size, 1, none⟩ (.int .i64 0))) := by
      have h1 := ((hA.out.store (o := 0) (.int .i64 0)).store (o := 1) (.int .i64 0)).2.1
      refine B1.out.trans (h1.toBelow (fun k _ hx => ?_) (by omega))
      have h2 := hmbw.out.2
      simp only [World.size_alloc] at h2
      rcases hx with hx | hx <;> omega
    go_wp2_with fail
    exact bodyPost_ret (v := .tuple #[.bool R, .agg #[.int .i64 0, .int .i64 0]]) (by simp [results, Tryz.results6, go_sem, e0, e1]) rfl
      ⟨HBB.out, .inr ⟨X, Y, HX.out, HY.out, by rw [HR.out]⟩⟩
end Go.Proofs.YtkilicjjaljghaaGreat
