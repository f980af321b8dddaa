/-
  The contracts of types.Tags and types.Fits.
-/
import Derived.Test.YtkilicjjaljghaaGreatRed
namespace Go.Proofs.YtkilicjjaljghaaGreat
open Go.RowKit Go.Maps

/-- The tree of a text's type. -/
def root (T : List M.Ty) : M.Tr := M.tr T (T.length - 1)

theorem rd_zero {ss : List (List UInt8)} {T : List M.Ty} {rs : List Int} (h : Rd ss 0 T rs) : T = [] ∧ rs = [] := by
  cases h
  exact ⟨rfl, rfl⟩
theorem rd_succ {ss : List (List UInt8)} {j : Nat} {T : List M.Ty} {rs : List Int} (h : Rd ss (j + 1) T rs) : ∃ (hj : j < ss.length) (T0 X : List M.Ty) (rs0 : List Int), Rd ss j T0 rs0 ∧ M.TRes ss[j] (.inr X) ∧ T = M.behind T0 X ∧ rs = rs0 ++ [(T0.length : Int) + X.length - 1] := by
  cases h with
  | succ hj h1 h2 => exact ⟨hj, _, _, _, h1, h2, rfl, rfl⟩

theorem behind_nil (X : List M.Ty) (hX : M.TsOk X) : M.TsOk (M.behind [] X) ∧ (M.behind [] X).length = X.length ∧ ∀ i, i < X.length → M.tr (M.behind [] X) i = M.tr X i := by
  have h0 : M.TsOk [] := by intro i hi; simp at hi
  refine ⟨h0.behind hX, by simp [M.behind], fun i hi => ?_⟩
  have := M.tr_mv h0 hX i hi
  simpa using this

theorem rd_one {a : List UInt8} {T : List M.Ty} {rs : List Int} (h : Rd [a] 1 T rs) : ∃ X, M.TRes a (.inr X) ∧ 0 < X.length ∧ T.length = X.length ∧ rs = [(X.length : Int) - 1] ∧ M.tr T (X.length - 1) = root X := by
  obtain ⟨hj, T0, X, rs0, h1, h2, rfl, rfl⟩ := rd_succ h
  obtain ⟨rfl, rfl⟩ := rd_zero h1
  have h2 : M.TRes a (.inr X) := h2
  obtain ⟨hX, hp, -⟩ := M.tres_ok h2
  obtain ⟨_, hl, ht⟩ := behind_nil X hX
  exact ⟨X, h2, hp, hl, by simp, ht _ (by omega)⟩

theorem rd_two {a b : List UInt8} {T : List M.Ty} {rs : List Int} (h : Rd [a, b] 2 T rs) : ∃ X Y, M.TRes a (.inr X) ∧ M.TRes b (.inr Y) ∧ 0 < X.length ∧ 0 < Y.length ∧ T.length = X.length + Y.length ∧ rs = [(X.length : Int) - 1, (X.length : Int) + Y.length - 1] ∧ M.tr T (X.length - 1) = root X ∧ M.tr T (X.length + Y.length - 1) = root Y := by
  obtain ⟨hj, T1, Y, rs1, h1, hY, rfl, rfl⟩ := rd_succ h
  obtain ⟨hj0, T0, X, rs0, h0, hX, rfl, rfl⟩ := rd_succ h1
  obtain ⟨rfl, rfl⟩ := rd_zero h0
  have hX : M.TRes a (.inr X) := hX
  have hY : M.TRes b (.inr Y) := hY
  obtain ⟨oX, pX, -⟩ := M.tres_ok hX
  obtain ⟨oY, pY, -⟩ := M.tres_ok hY
  obtain ⟨ob, hl, ht⟩ := behind_nil X oX
  refine ⟨X, Y, hX, hY, pX, pY, by simp [M.behind], by simp [hl], ?_, ?_⟩
  · rw [M.tr_old ob (by omega)]
    exact ht _ (by omega)
  · have := M.tr_mv ob oY (Y.length - 1) (by omega)
    rw [hl, show X.length + (Y.length - 1) = X.length + Y.length - 1 by omega] at this
    exact this

/-- A fault of one of some texts. -/
def Flt (ss : List (List UInt8)) (er p : Int) : Prop := er ≠ 0 ∧ ∃ s ∈ ss, M.TRes s (.inl (er, p))

def TgAns (a : List UInt8) (w : World) (e : Ending) (w' : World) : Prop := Below w.heap.size w w' ∧
  ((∃ er p, Flt [a] er p ∧ e = .returned (.tuple #[.int .i64 0, .agg #[.int .i64 er, .int .i64 p]])) ∨ ∃ X, M.TRes a (.inr X) ∧ e = .returned (.tuple #[.int .i64 (M.tags (root X) : Int), .agg #[.int .i64 0, .int .i64 0]]))

theorem strs_next (w : World) (o : Obj) (ms : List (List UInt8)) (t : TypeId) : Strs ((w.alloc o).alloc (.cells (strV ms) t)) (w.heap.size + 1) ms := by
  have := strs_many (w.alloc o) ms t
  rw [show (w.alloc o).heap.size = w.heap.size + 1 from by simp] at this
  exact this
theorem strs_size {w : World} {b : Nat} {ss : List (List UInt8)} (h : Strs w b ss) (o : Obj) : Strs (w.alloc o) b ss := h.still (Chg.alloc _ _ _)

set_option maxRecDepth 10000 in
set_option maxHeartbeats 2000000 in
theorem tagsT_any (w : World) (s : ByteArray) (hs : s.size ≤ maxLen) : Calls Tryz.prog 14 #[.string s] w (TgAns s.data.toList w) := by
  have es : s = ⟨s.data.toList.toArray⟩ := by simp
  have HR := read_any ((w.alloc (.cells #[.int .i64 0, .int .i64 0] 24)).alloc (.cells (strV [s.data.toList]) 9)) (w.heap.size + 1) 1 [s.data.toList] (strs_next w _ _ _) (by simp) (fun x hx => by rw [List.mem_singleton] at hx; rw [hx, Array.length_toList]; exact hs)
  have ev : strV [s.data.toList] = #[.string s] := by simp [strV]
  rw [ev] at HR
  have B0 := hide (((Below.refl w.heap.size w).alloc (Nat.le_refl _) (.cells #[.int .i64 0, .int .i64 0] 24)).alloc (by simp) (.cells #[.string s] 9))
  have F0 : Hid (((w.alloc (.cells #[.int .i64 0, .int .i64 0] 24)).alloc (.cells #[.string s] 9)).heap[w.heap.size]? = some (.cells #[.int .i64 0, .int .i64 0] 24 (0, 0))) := (Below.heap_alloc _ _ _ (by simp)).trans (heap_alloc_new w _)
  clear es ev
  go_enter Tryz.func14, Tryz.ntmps14
  go_wp2_with fail
  refine HR.mono ?_
  clear HR
  rintro e w1 ⟨hb1, hans⟩
  have B1 := hide (B0.out.trans (hb1.mono (by simp; omega)))
  have F1 : Hid (w1.heap[w.heap.size]? = some (.cells #[.int .i64 0, .int .i64 0] 24 (0, 0))) := (hb1.block w.heap.size (by simp; omega)).trans F0.out
  have f0 : w1.cell? ⟨w.heap.size, 0, none⟩ = some (.int .i64 0) := by rw [cell_of_row w1 _ 0 _ _ _ F1.out]; rfl
  have f1 : w1.cell? ⟨w.heap.size, 1, none⟩ = some (.int .i64 0) := by rw [cell_of_row w1 _ 1 _ _ _ F1.out]; rfl
  have hz := (Array.getElem?_eq_some_iff.1 F1.out).1
  have ff : ∀ o, w1.frozen? ⟨w.heap.size, o, none⟩ = false := fun o => frozen_of_row w1 _ o _ _ F1.out
  have hz2 : w.heap.size + 2 ≤ w1.heap.size := by have := hb1.size; simp at this; omega
  clear hb1 B0 F0
  rcases hans with ⟨j, T, rs, er, p, hj, -, htr, rfl⟩ | ⟨T, rs, lb, mb, ad, c, hrd, rfl, hsh, hlb, hmb, hown, -⟩
  · have hne : er ≠ 0 := htr.1
    have hne' : (er != 0) = true := by simp [hne]
    have HX : Hid (Flt [s.data.toList] er p) := ⟨hne, _, List.getElem_mem hj, htr⟩
    clear htr
    go_wp2_with fail
    go_region
    go_wp2
    exact bodyPost_ret (v := .tuple #[.int .i64 0, .agg #[.int .i64 er, .int .i64 p]]) (by simp [results, Tryz.results14, go_sem, f0, f1, hz]) rfl
      ⟨(((B1.out.setCell (by simp) _).setCell (by simp) _).alloc (by simp; omega) _).drew, .inl ⟨er, p, HX.out, rfl⟩⟩
  · obtain ⟨X, hX, hp, hTl, rfl, htr⟩ := rd_one hrd
    have SH := hide hsh
    obtain ⟨g, rfl, hg, hl1, hl2, y0⟩ := ints_cell (ls := [(X.length : Int) - 1]) (owns_base hown (Nat.zero_le _)) (j := 0) (by simp)
    have y1 : w1.cell? ⟨g, 0, none⟩ = some (.int .i64 ((X.length - 1 : Nat) : Int)) := by
      rw [y0]
      simp
      omega
    have HC := tags_any (X.length - 1) (w1.alloc (.cells #[.int .i64 0, .int .i64 0] 24)) (by omega) (SH.out.alloc _)
    rw [htr] at HC
    have HX := hide hX
    unfold maxLen at hl2
    clear hsh hown hrd htr hX y0 SH
    generalize htg : M.tags (root X) = tg at *
    have HTG := hide htg
    clear htg
    go_wp2_with fail
    refine HC.mono ?_
    clear HC
    rintro e w2 ⟨rfl, hc2⟩
    have B2 := hide ((B1.out.alloc (by omega) (.cells #[.int .i64 0, .int .i64 0] 24)).trans (hc2.toBelow (fun _ _ x => x.elim) (by simp; omega)))
    have F2 : Hid (w2.heap[w.heap.size]? = some (.cells #[.int .i64 0, .int .i64 0] 24 (0, 0))) := by
      show _ = _
      rw [hc2.block w.heap.size (by simp; omega) (fun x => x), Below.heap_alloc _ _ _ hz]
      exact F1.out
    have g0 : w2.cell? ⟨w.heap.size, 0, none⟩ = some (.int .i64 0) := by rw [cell_of_row w2 _ 0 _ _ _ F2.out]; rfl
    have g1 : w2.cell? ⟨w.heap.size, 1, none⟩ = some (.int .i64 0) := by rw [cell_of_row w2 _ 1 _ _ _ F2.out]; rfl
    have gz := (Array.getElem?_eq_some_iff.1 F2.out).1
    have gf : ∀ o, w2.frozen? ⟨w.heap.size, o, none⟩ = false := fun o => frozen_of_row w2 _ o _ _ F2.out
    clear hc2
    go_wp2_with fail
    exact bodyPost_ret (v := .tuple #[.int .i64 (tg : Int), .agg #[.int .i64 0, .int .i64 0]]) (by simp [results, Tryz.results14, go_sem, g0, g1]) rfl
      ⟨(B2.out.setCell (by simp) _).setCell (by simp) _, .inr ⟨X, HX.out, by rw [HTG.out]⟩⟩

def FtAns (a b : List UInt8) (w : World) (e : Ending) (w' : World) : Prop := Below w.heap.size w w' ∧
  ((∃ er p, Flt [a, b] er p ∧ e = .returned (.tuple #[.bool false, .agg #[.int .i64 er, .int .i64 p]])) ∨ ∃ X Y, M.TRes a (.inr X) ∧ M.TRes b (.inr Y) ∧ e = .returned (.tuple #[.bool (M.fits (root X) (root Y)), .agg #[.int .i64 0, .int .i64 0]]))

/-- What holds all along a region that asks Fits and stores into the result. -/
def Al (lb mb n0 g : Nat) (T : List M.Ty) (wc w' : World) : Prop := (∃ D, Shp w' lb mb 1000 T D) ∧ Chg (fun k => k = mb ∨ k = n0) wc w' ∧ (∃ cs, w'.heap[n0]? = some (.cells cs 24 (0, 0)) ∧ cs.size = 2) ∧ g ≠ mb ∧ g ≠ n0 ∧ n0 ≠ mb

theorem Al.call {lb mb n0 g : Nat} {T : List M.Ty} {wc a b : World} (h : Al lb mb n0 g T wc a) (hc : Chg (fun k => k = mb) a b) (hs : ∃ D, Shp b lb mb 1000 T D) : Al lb mb n0 g T wc b := by
  obtain ⟨_, h2, ⟨cs, h3, h4⟩, h5, h6, h7⟩ := h
  exact ⟨hs, h2.trans hc (fun _ _ x => .inl x), ⟨cs, by rw [hc.block n0 (Array.getElem?_eq_some_iff.1 h3).1 h7]; exact h3, h4⟩, h5, h6, h7⟩
theorem Al.store {lb mb n0 g o : Nat} {T : List M.Ty} {wc a : World} (h : Al lb mb n0 g T wc a) (v : Value) : Al lb mb n0 g T wc (a.setCell ⟨n0, o, none⟩ v) := by
  obtain ⟨⟨D, h1⟩, h2, ⟨cs, h3, h4⟩, h5, h6, h7⟩ := h
  have hc : Chg (fun k => k = n0) a (a.setCell ⟨n0, o, none⟩ v) := Chg.set a ⟨n0, o, none⟩ v
  refine ⟨⟨D, h1.chg hc (h1.mst.chg hc (fun x => h7 x.symm)) (fun k cur e hk he hx => ?_)⟩, h2.trans hc (fun _ _ x => .inr x), ⟨_, heap_setCell_same a n0 o _ _ v h3, by simpa using h4⟩, h5, h6, h7⟩
  have hx' : k = n0 := hx
  subst hx'
  rw [h3] at hk
  simp only [Option.some.injEq, Obj.cells.injEq] at hk
  obtain ⟨_, rfl, _⟩ := hk
  rcases he with h | h | h | h <;> exact absurd h (by decide)
theorem Al.cell {lb mb n0 g o : Nat} {T : List M.Ty} {wc a b : World} {v : Value} {S : Nat → Prop} (h : Al lb mb n0 g T wc a) (hc : Chg S a b) (hS : ∀ k, S k → k = mb ∨ k = n0) (hv : a.cell? ⟨g, o, none⟩ = some v) : b.cell? ⟨g, o, none⟩ = some v := by
  rw [World.cell?_of_block (hc.block g (World.block_lt_of_cell? a _ hv) (fun hx => by rcases hS g hx with hx | hx; exact h.2.2.2.1 hx; exact h.2.2.2.2.1 hx))]
  exact hv
def Sf (lb mb n0 g : Nat) (T : List M.Ty) (wc : World) (x y : Value) (a : World) : Prop := a.cell? ⟨g, 0, none⟩ = some x ∧ a.cell? ⟨g, 1, none⟩ = some y ∧ a.cell? ⟨n0, 0, none⟩ = some (.int .i64 0) ∧ a.cell? ⟨n0, 1, none⟩ = some (.int .i64 0) ∧ a.frozen? ⟨n0, 0, none⟩ = false ∧ a.frozen? ⟨n0, 1, none⟩ = false ∧ Hid (Al lb mb n0 g T wc a)
theorem keepF {lb mb n0 g : Nat} {T : List M.Ty} {wc a b : World} {x y : Value} (hc : Chg (fun k => k = mb) a b) (hs : ∃ D, Shp b lb mb 1000 T D) (h : Sf lb mb n0 g T wc x y a) : Sf lb mb n0 g T wc x y b := by
  obtain ⟨h1, h2, h3, h4, h5, h6, h7⟩ := h
  have hn := h7.out.2.2.2.2.2
  have hb := hc.block n0 (World.block_lt_of_cell? a _ h3) hn
  exact ⟨h7.out.cell hc (fun _ x => .inl x) h1, h7.out.cell hc (fun _ x => .inl x) h2, by rw [World.cell?_of_block hb]; exact h3, by rw [World.cell?_of_block hb]; exact h4, by rw [World.frozen?_of_block hb]; exact h5, by rw [World.frozen?_of_block hb]; exact h6, h7.out.call hc hs⟩
theorem keepG {lb mb n0 g : Nat} {T : List M.Ty} {wc a : World} {x y : Value} (h : Sf lb mb n0 g T wc x y a) : Sf lb mb n0 g T wc x y ((a.setCell ⟨n0, 0, none⟩ (.int .i64 0)).setCell ⟨n0, 1, none⟩ (.int .i64 0)) := by
  obtain ⟨h1, h2, h3, h4, h5, h6, h7⟩ := h
  have A1 := h7.out.store (o := 0) (.int .i64 0)
  have A2 := A1.store (o := 1) (.int .i64 0)
  refine ⟨A1.cell (Chg.set _ ⟨n0, 1, none⟩ _) (fun _ x => .inr x) (h7.out.cell (Chg.set a ⟨n0, 0, none⟩ _) (fun _ x => .inr x) h1), A1.cell (Chg.set _ ⟨n0, 1, none⟩ _) (fun _ x => .inr x) (h7.out.cell (Chg.set a ⟨n0, 0, none⟩ _) (fun _ x => .inr x) h2), by simp [go_sem, h3], by simp [go_sem, h4], by simp [go_sem, h5], by simp [go_sem, h6], A2⟩

set_option maxRecDepth 10000 in
set_option maxHeartbeats 2000000 in
theorem fitsT_any (w : World) (s t : ByteArray) (hs : s.size ≤ maxLen) (ht : t.size ≤ maxLen) : Calls Tryz.prog 7 #[.string s, .string t] w (FtAns s.data.toList t.data.toList w) := by
  have HR := read_any ((w.alloc (.cells #[.int .i64 0, .int .i64 0] 24)).alloc (.cells (strV [s.data.toList, t.data.toList]) 9)) (w.heap.size + 1) 2 [s.data.toList, t.data.toList] (strs_next w _ _ _) (by simp) (fun x hx => by
    simp only [List.mem_cons, List.not_mem_nil, or_false] at hx
    rcases hx with rfl | rfl
    · rw [Array.length_toList]; exact hs
    · rw [Array.length_toList]; exact ht)
  have ev : strV [s.data.toList, t.data.toList] = #[.string s, .string t] := by simp [strV]
  rw [ev] at HR
  have B0 := hide (((Below.refl w.heap.size w).alloc (Nat.le_refl _) (.cells #[.int .i64 0, .int .i64 0] 24)).alloc (by simp) (.cells #[.string s, .string t] 9))
  have F0 : Hid (((w.alloc (.cells #[.int .i64 0, .int .i64 0] 24)).alloc (.cells #[.string s, .string t] 9)).heap[w.heap.size]? = some (.cells #[.int .i64 0, .int .i64 0] 24 (0, 0))) := (Below.heap_alloc _ _ _ (by simp)).trans (heap_alloc_new w _)
  clear ev
  go_enter Tryz.func7, Tryz.ntmps7
  go_wp2_with fail
  refine HR.mono ?_
  clear HR
  rintro e w1 ⟨hb1, hans⟩
  have B1 := hide (B0.out.trans (hb1.mono (by simp; omega)))
  have F1 : Hid (w1.heap[w.heap.size]? = some (.cells #[.int .i64 0, .int .i64 0] 24 (0, 0))) := (hb1.block w.heap.size (by simp; omega)).trans F0.out
  have f0 : w1.cell? ⟨w.heap.size, 0, none⟩ = some (.int .i64 0) := by rw [cell_of_row w1 _ 0 _ _ _ F1.out]; rfl
  have f1 : w1.cell? ⟨w.heap.size, 1, none⟩ = some (.int .i64 0) := by rw [cell_of_row w1 _ 1 _ _ _ F1.out]; rfl
  have hz := (Array.getElem?_eq_some_iff.1 F1.out).1
  have ff : ∀ o, w1.frozen? ⟨w.heap.size, o, none⟩ = false := fun o => frozen_of_row w1 _ o _ _ F1.out
  have hz2 : w.heap.size + 2 ≤ w1.heap.size := by have := hb1.size; simp at this; omega
  clear hb1 B0 F0
  rcases hans with ⟨j, T, rs, er, p, hj, -, htr, rfl⟩ | ⟨T, rs, lb, mb, ad, c, hrd, rfl, hsh, hlb, hmb, hown, -⟩
  · have hne : er ≠ 0 := htr.1
    have hne' : (er != 0) = true := by simp [hne]
    have HX : Hid (Flt [s.data.toList, t.data.toList] er p) := ⟨hne, _, List.getElem_mem hj, htr⟩
    clear htr
    go_wp2_with fail
    go_region
    go_wp2
    exact bodyPost_ret (v := .tuple #[.bool false, .agg #[.int .i64 er, .int .i64 p]]) (by simp [results, Tryz.results7, go_sem, f0, f1, hz]) rfl
      ⟨(((B1.out.setCell (by simp) _).setCell (by simp) _).alloc (by simp; omega) _).drew, .inl ⟨er, p, HX.out, rfl⟩⟩
  · obtain ⟨X, Y, hX, hY, hp, hq, hTl, rfl, htr1, htr2⟩ := rd_two hrd
    obtain ⟨g, rfl, hg, hl1, hl2, y0⟩ := ints_cell (ls := [(X.length : Int) - 1, (X.length : Int) + Y.length - 1]) (owns_base hown (Nat.zero_le _)) (j := 0) (by simp)
    obtain ⟨g', hgg, -, -, -, y1⟩ := ints_cell (ls := [(X.length : Int) - 1, (X.length : Int) + Y.length - 1]) (owns_base hown (Nat.zero_le _)) (j := 1) (by simp)
    simp only [Option.some.injEq, Addr.mk.injEq, and_true] at hgg
    subst hgg
    have z0 : w1.cell? ⟨g, 0, none⟩ = some (.int .i64 ((X.length - 1 : Nat) : Int)) := by
      rw [y0]
      simp
      omega
    have z1 : w1.cell? ⟨g, 1, none⟩ = some (.int .i64 ((X.length + Y.length - 1 : Nat) : Int)) := by
      rw [y1]
      simp
      omega
    have hgl : g < w1.heap.size := hg
    have hgm : g ≠ mb := by
      rintro rfl
      obtain ⟨_, cur, hh⟩ := owns_tag hown g rfl
      exact hsh.mst.tag _ _ _ hh
    have hgn : g ≠ w.heap.size := by
      rintro rfl
      obtain ⟨_, cur, hh⟩ := owns_tag hown _ rfl
      have := F1.out
      rw [hh] at this
      simp only [Option.some.injEq, Obj.cells.injEq] at this
      exact absurd this.2.1 (by decide)
    have hnm : w.heap.size ≠ mb := by
      intro hx
      have := F1.out
      rw [hx] at this
      exact hsh.mst.tag _ _ _ this
    have FM : ∀ a, (∃ D, Shp a lb mb 1000 T D) → Calls Tryz.prog 19 #[.pointer (some ⟨lb, 0, none⟩), .int .i64 ((X.length - 1 : Nat) : Int), .int .i64 ((X.length + Y.length - 1 : Nat) : Int)] a fun e w' => e = .returned (.bool (M.fits (root X) (root Y))) ∧ Chg (fun k => k = mb) a w' ∧ ∃ D, Shp w' lb mb 1000 T D := by
      rintro a ⟨D, hD⟩
      have := fits_con (lb := lb) (mb := mb) (N := 1000) (T := T) _ (X.length - 1) (X.length + Y.length - 1) a D (Nat.le_refl _) (by omega) (by omega) hD
      rw [htr1, htr2] at this
      refine this.mono ?_
      rintro e w' ⟨h1, h2, D', h3, -⟩
      exact ⟨h1, h2, D', hD.memo h2 h3⟩
    have c0 := cell_old (o := .cells #[.int .i64 0, .int .i64 0] 24) hgl z0
    have c1 := cell_old (o := .cells #[.int .i64 0, .int .i64 0] 24) hgl z1
    have A0 : Hid (Al lb mb w.heap.size g T w1 (w1.alloc (.cells #[.int .i64 0, .int .i64 0] 24)).drew) := ⟨⟨_, (hsh.alloc _).still (Chg.drewN (fun _ => False) _ 1)⟩, (Chg.alloc _ _ _).trans (Chg.drewN (fun _ => False) _ 1) (fun _ _ x => x.elim), ⟨_, (Below.heap_alloc _ _ _ hz).trans F1.out, rfl⟩, hgm, hgn, hnm⟩
    have d0 := cell_old (o := .cells #[.int .i64 0, .int .i64 0] 24) hz f0
    have d1 := cell_old (o := .cells #[.int .i64 0, .int .i64 0] 24) hz f1
    have d2 := frz_old (o := .cells #[.int .i64 0, .int .i64 0] 24) hz (ff 0)
    have d3 := frz_old (o := .cells #[.int .i64 0, .int .i64 0] 24) hz (ff 1)
    have HX := hide hX
    have HY := hide hY
    have hmbw := hide (⟨hlb, hmb⟩ : _ ∧ _)
    unfold maxLen at hl2
    clear hsh hown hrd hX hY htr1 htr2 y0 y1 z0 z1
    generalize hR : M.fits (root X) (root Y) = R at *
    have HR := hide hR
    clear hR
    generalize ((X.length - 1 : Nat) : Int) = ix at *
    generalize ((X.length + Y.length - 1 : Nat) : Int) = iy at *
    have S0 : Hid (Sf lb mb w.heap.size g T w1 (.int .i64 ix) (.int .i64 iy) (w1.alloc (.cells #[.int .i64 0, .int .i64 0] 24)).drew) := ⟨c0, c1, d0, d1, d2, d3, A0⟩
    clear d0 d1 d2 d3 A0 c0 c1
    go_wp2_with fail
    go_region_held3 (fun w' => w'.cell? ⟨g, 0, none⟩ = some (.int .i64 ix) ∧ w'.cell? ⟨g, 1, none⟩ = some (.int .i64 iy) ∧ w'.cell? ⟨w.heap.size, 0, none⟩ = some (.int .i64 0) ∧ w'.cell? ⟨w.heap.size, 1, none⟩ = some (.int .i64 0) ∧ w'.frozen? ⟨w.heap.size, 0, none⟩ = false ∧ w'.frozen? ⟨w.heap.size, 1, none⟩ = false ∧ Hid (Al lb mb w.heap.size g T w1 w'))
      (first
        | exact S0.out
        | exact keepF hcf hmf ⟨by assumption, by assumption, by assumption, by assumption, by assumption, by assumption, by assumption⟩
        | exact keepG ⟨by assumption, by assumption, by assumption, by assumption, by assumption, by assumption, by assumption⟩
        | exact keepG (by assumption)
        | (go_split_ands; exact keepG ⟨by assumption, by assumption, by assumption, by assumption, by assumption, by assumption, by assumption⟩)
        | (go_split_ands; exact ⟨by assumption, by assumption, by assumption, by assumption, by assumption, by assumption, by assumption⟩))
      (first
        | ((go_at_call 19; go_split_ands; refine (FM _ (Hid.out (p := Al lb mb w.heap.size g T w1 _) (by assumption)).1).mono ?_; rintro e w' ⟨rfl, hcf, hmf⟩)))
    have SF := hide (keepF hcf hmf S0.out)
    have e0 := SF.out.2.2.1
    have e1 := SF.out.2.2.2.1
    have hA := SF.out.2.2.2.2.2.2
    have HBB : Hid (Below w.heap.size w ((w'.setCell ⟨w.heap.size, 0, none⟩ (.int .i64 0)).setCell ⟨w.heap.size, 1, none⟩ (.int .i64 0))) := by
      have h1 := ((hA.out.store (o := 0) (.int .i64 0)).store (o := 1) (.int .i64 0)).2.1
      refine B1.out.trans (h1.toBelow (fun k _ hx => ?_) (by omega))
      have h2 := hmbw.out.2
      simp only [World.size_alloc] at h2
      rcases hx with hx | hx <;> omega
    go_wp2_with fail
    exact bodyPost_ret (v := .tuple #[.bool R, .agg #[.int .i64 0, .int .i64 0]]) (by simp [results, Tryz.results7, go_sem, e0, e1]) rfl
      ⟨HBB.out, .inr ⟨X, Y, HX.out, HY.out, by rw [HR.out]⟩⟩
end Go.Proofs.YtkilicjjaljghaaGreat
