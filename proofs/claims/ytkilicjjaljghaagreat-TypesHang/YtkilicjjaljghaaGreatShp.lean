/-
  A list of types, in memory; New, Put, Get.
-/
import Derived.Test.YtkilicjjaljghaaGreatMmo
import Derived.BigRegion
namespace Go.Proofs.YtkilicjjaljghaaGreat
open Go.RowKit Go.Maps

/-- What a list of types holds. -/
structure Shp (w : World) (lb mb N : Nat) (T : List M.Ty) (D : Dt) : Prop where
  ok : M.TsOk T
  mst : Mst w mb N T D
  blk : ∃ yv yx, w.heap[lb]? = some (.cells #[yv, .map (some mb)] 65 (0, 0)) ∧ w.ownsRow 0 52 4 yv T.length yx ∧ Rws (TyV w (fun _ => True)) T yx

/-- Nothing of it has changed. -/
theorem Shp.chg {S : Nat → Prop} {w w' : World} {lb mb N : Nat} {T : List M.Ty} {D D' : Dt} (h : Shp w lb mb N T D) (hc : Chg S w w') (hm : Mst w' mb N T D')
    (hs : ∀ k cur e, w.heap[k]? = some (.cells cur e (0, 0)) → (e = 65 ∨ e = 52 ∨ e = 55 ∨ e = 3) → ¬ S k) : Shp w' lb mb N T D' := by
  obtain ⟨h1, _, yv, yx, hb, hy, hr⟩ := h
  refine ⟨h1, hm, yv, yx, ?_, owns_chg hy hc fun g hg x => ?_, hr.imp (TyV.chg hc (fun g _ _ hx hh => ?_) (fun _ _ _ => trivial))⟩
  · rw [hc.block lb (Array.getElem?_eq_some_iff.1 hb).1 (hs lb _ _ hb (.inl rfl))]
    exact hb
  · obtain ⟨_, cur, hh⟩ := owns_tag hy g hg
    exact hs g cur _ hh (.inr (.inl rfl)) x
  · obtain ⟨cur, e, hh, he⟩ := hh
    rcases he with rfl | rfl
    · exact hs g cur _ hh (.inr (.inr (.inl rfl))) hx
    · exact hs g cur _ hh (.inr (.inr (.inr rfl))) hx

theorem Shp.still {w w' : World} {lb mb N : Nat} {T : List M.Ty} {D : Dt} (h : Shp w lb mb N T D) (hc : Chg (fun _ => False) w w') : Shp w' lb mb N T D := h.chg hc (h.mst.chg hc (fun x => x)) (fun _ _ _ _ _ x => x)
theorem Shp.alloc {w : World} {lb mb N : Nat} {T : List M.Ty} {D : Dt} (h : Shp w lb mb N T D) (o : Obj) : Shp (w.alloc o) lb mb N T D := h.still (Chg.alloc _ _ _)
/-- The map alone has changed. -/
theorem Shp.memo {w w' : World} {lb mb N : Nat} {T : List M.Ty} {D D' : Dt} (h : Shp w lb mb N T D) (hc : Chg (fun k => k = mb) w w') (hm : Mst w' mb N T D') : Shp w' lb mb N T D' :=
  h.chg hc hm (fun k cur e hk _ x => by have x' : k = mb := x; subst x'; exact h.mst.tag _ _ _ hk)

theorem Shp.few {w : World} {lb mb N : Nat} {T : List M.Ty} {D : Dt} (h : Shp w lb mb N T D) : T.length ≤ 1000 := Nat.le_trans h.mst.len h.mst.few

/-- The cells of one type. -/
theorem Shp.cell {w : World} {lb mb N : Nat} {T : List M.Ty} {D : Dt} (h : Shp w lb mb N T D) : ∃ ad c, w.cell? ⟨lb, 0, none⟩ = some (.slice ad T.length c) ∧ w.cell? ⟨lb, 1, none⟩ = some (.map (some mb)) ∧ lb < w.heap.size ∧ (∀ o, w.frozen? ⟨lb, o, none⟩ = false) ∧
    ∀ i (hi : i < T.length), ∃ g fa fc la lc, ad = some ⟨g, 0, none⟩ ∧ g < w.heap.size ∧ T.length ≤ c ∧ c ≤ maxLen ∧ w.cell? ⟨g, i * 4, none⟩ = some (.int .i64 T[i].kind) ∧ w.cell? ⟨g, i * 4 + 1, none⟩ = some (.slice fa T[i].fields.length fc) ∧ w.cell? ⟨g, i * 4 + 2, none⟩ = some (.slice la T[i].list.length lc) ∧
      w.cell? ⟨g, i * 4 + 3, none⟩ = some (.int .i64 T[i].of') ∧ w.ownsRow 0 55 2 (.slice fa T[i].fields.length fc) T[i].fields.length (frows T[i].fields) ∧ w.ownsRow 0 3 1 (.slice la T[i].list.length lc) T[i].list.length (ints T[i].list) := by
  obtain ⟨h1, _, yv, yx, hb, hy, hr⟩ := h
  obtain ⟨ad, c, rfl⟩ := owns_form hy
  have hlt := (Array.getElem?_eq_some_iff.1 hb).1
  refine ⟨ad, c, by rw [cell_of_row w lb 0 _ _ _ hb]; rfl, by rw [cell_of_row w lb 1 _ _ _ hb]; rfl, hlt, fun o => frozen_of_row w lb o _ _ hb, fun i hi => ?_⟩
  obtain ⟨g, rfl, _, hg, hc1, hc2, hcell⟩ := owns_cell hy (by omega)
  obtain ⟨xs, ht, hx⟩ := Rws.at (z := 4) (fun _ _ h => h.len) i hi hr
  obtain ⟨fv, lv, rfl, ho1, ho2, _⟩ := ht
  obtain ⟨fa, fc, rfl⟩ := owns_form ho1
  obtain ⟨la, lc, rfl⟩ := owns_form ho2
  refine ⟨g, fa, fc, la, lc, rfl, hg, hc1, hc2, hcell _ _ ?_, hcell _ _ ?_, hcell _ _ ?_, hcell _ _ ?_, ho1, ho2⟩
  · have := hx 0 (by omega); simpa using this
  · have := hx 1 (by omega); simpa using this
  · have := hx 2 (by omega); simpa using this
  · have := hx 3 (by omega); simpa using this

/-- What a method that changes the map alone answers. -/
def FitP (w : World) (mb N : Nat) (T : List M.Ty) (D : Dt) (m : Nat) (r : Bool) (e : Ending) (w' : World) : Prop :=
  e = .returned (.bool r) ∧ Chg (fun k => k = mb) w w' ∧ ∃ D', Mst w' mb N T D' ∧ ∀ p q, p < N → q < N → m < p + q → at2 D' p q = at2 D p q

end Go.Proofs.YtkilicjjaljghaaGreat
