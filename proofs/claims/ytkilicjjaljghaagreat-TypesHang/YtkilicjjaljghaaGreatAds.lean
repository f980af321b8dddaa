/-
  The contract of Add: types go behind those that are there.
-/
import Derived.Test.YtkilicjjaljghaaGreatMov
namespace Go.Proofs.YtkilicjjaljghaaGreat
open Go.RowKit Go.Maps

section
variable {lb mb N : Nat}

theorem behind_snoc (T X : List M.Ty) {j : Nat} (hj : j < X.length) : M.behind T (X.take (j + 1)) = M.behind T (X.take j) ++ [M.mvT T.length X[j]] := by
  unfold M.behind
  rw [List.take_succ_eq_append_getElem hj, List.map_append]
  simp

/-- What may change while types go behind others. -/
def AddS (lb : Nat) (v : Value) (k : Nat) : Prop := k = lb ∨ some k = v.ownBlock

/-- What a list of types holds, what its types lead to lying in blocks that are ok. -/
structure Sho (w : World) (lb mb N : Nat) (T : List M.Ty) (D : Dt) (ok : Nat → Prop) : Prop where
  tsok : M.TsOk T
  mst : Mst w mb N T D
  blk : ∃ yv yx, w.heap[lb]? = some (.cells #[yv, .map (some mb)] 65 (0, 0)) ∧ w.ownsRow 0 52 4 yv T.length yx ∧ Rws (TyV w ok) T yx
theorem TyV.mono {w : World} {ok ok' : Nat → Prop} (ho : ∀ g, ok g → g < w.heap.size → ok' g) (t : M.Ty) (xs : List Value) (h : TyV w ok t xs) : TyV w ok' t xs := TyV.chg (Chg.refl (fun _ => False) w) (fun _ _ _ x => x.elim) ho t xs h
theorem Sho.shp {w : World} {T : List M.Ty} {D : Dt} {ok : Nat → Prop} (h : Sho w lb mb N T D ok) : Shp w lb mb N T D := by
  obtain ⟨h1, h2, yv, yx, h3, h4, h5⟩ := h
  exact ⟨h1, h2, yv, yx, h3, h4, h5.imp (TyV.mono fun _ _ _ => trivial)⟩
theorem Shp.sho {w : World} {T : List M.Ty} {D : Dt} (h : Shp w lb mb N T D) : Sho w lb mb N T D (fun _ => True) := ⟨h.ok, h.mst, h.blk⟩
theorem Sho.chg {S : Nat → Prop} {w w' : World} {T : List M.Ty} {D D' : Dt} {ok ok' : Nat → Prop} (h : Sho w lb mb N T D ok) (hc : Chg S w w') (hm : Mst w' mb N T D')
    (hs : ∀ k cur e, w.heap[k]? = some (.cells cur e (0, 0)) → (e = 65 ∨ e = 52 ∨ ((e = 55 ∨ e = 3) ∧ ok k)) → ¬ S k) (ho : ∀ g, ok g → g < w.heap.size → ok' g) : Sho w' lb mb N T D' ok' := by
  obtain ⟨h1, _, yv, yx, hb, hy, hr⟩ := h
  refine ⟨h1, hm, yv, yx, ?_, owns_chg hy hc fun g hg x => ?_, hr.imp (TyV.chg hc (fun g hok _ hx hh => ?_) ho)⟩
  · rw [hc.block lb (Array.getElem?_eq_some_iff.1 hb).1 (hs lb _ _ hb (.inl rfl))]
    exact hb
  · obtain ⟨_, cur, hh⟩ := owns_tag hy g hg
    exact hs g cur _ hh (.inr (.inl rfl)) x
  · obtain ⟨cur, e, hh, he⟩ := hh
    exact hs g cur _ hh (.inr (.inr ⟨he, hok⟩)) hx
theorem Sho.still {w w' : World} {T : List M.Ty} {D : Dt} {ok : Nat → Prop} (h : Sho w lb mb N T D ok) (hc : Chg (fun _ => False) w w') : Sho w' lb mb N T D ok := h.chg hc (h.mst.chg hc (fun x => x)) (fun _ _ _ _ _ x => x) (fun _ x _ => x)

/-- Behind the append of a type, and the store of what it gave into the list. -/
theorem Sho.push {ok : Nat → Prop} {wr w4 w5 : World} {T : List M.Ty} {D : Dt} {ad : Option Addr} {c gg cap : Nat} {yx : List Value} {t : M.Ty} {fv lv : Value} (hb : wr.heap[lb]? = some (.cells #[.slice ad T.length c, .map (some mb)] 65 (0, 0))) (hT : M.TsOk T) (ht : M.TyOk t T.length) (hm : Mst wr mb N T D) (hN : T.length + 1 ≤ N)
    (ho : wr.ownsRow 0 52 4 (.slice ad T.length c) T.length yx) (hr : Rws (TyV wr ok) T yx) (h1 : Chg (fun _ => False) wr w4) (hty : TyV w4 ok t [.int .i64 t.kind, fv, lv, .int .i64 t.of'])
    (hg : w4.grownBy w5 (Value.ownBlock (.slice ad T.length c))) (ho5 : w5.ownsRow 0 52 4 (.slice (some ⟨gg, 0, none⟩) (T.length + 1) cap) (T.length + 1) (yx ++ [.int .i64 t.kind, fv, lv, .int .i64 t.of'])) :
    w5.cell? ⟨lb, 0, none⟩ = some (.slice ad T.length c) ∧ w5.frozen? ⟨lb, 0, none⟩ = false ∧ lb < w5.heap.size ∧ Chg (AddS lb (.slice ad T.length c)) wr (w5.setCell ⟨lb, 0, none⟩ (.slice (some ⟨gg, 0, none⟩) (T.length + 1) cap)) ∧ Sho (w5.setCell ⟨lb, 0, none⟩ (.slice (some ⟨gg, 0, none⟩) (T.length + 1) cap)) lb mb N (T ++ [t]) D ok ∧
      (w5.setCell ⟨lb, 0, none⟩ (.slice (some ⟨gg, 0, none⟩) (T.length + 1) cap)).cell? ⟨lb, 0, none⟩ = some (.slice (some ⟨gg, 0, none⟩) (T.length + 1) cap) := by
  have ho4 : w4.ownsRow 0 52 4 (.slice ad T.length c) T.length yx := owns_chg ho h1 (fun _ _ x => x)
  have hb4 : w4.heap[lb]? = some (.cells #[.slice ad T.length c, .map (some mb)] 65 (0, 0)) := by rw [h1.block lb (Array.getElem?_eq_some_iff.1 hb).1 (fun x => x)]; exact hb
  have hne : some lb ≠ Value.ownBlock (.slice ad T.length c) := by
    intro hx
    obtain ⟨_, cur, hh⟩ := owns_tag ho4 lb hx.symm
    rw [hb4] at hh
    simp only [Option.some.injEq, Obj.cells.injEq] at hh
    exact absurd hh.2.1 (by decide)
  have hb5 : w5.heap[lb]? = some (.cells #[.slice ad T.length c, .map (some mb)] 65 (0, 0)) := by rw [hg.block lb (Array.getElem?_eq_some_iff.1 hb4).1 hne]; exact hb4
  have hC45 : Chg (AddS lb (.slice ad T.length c)) w4 (w5.setCell ⟨lb, 0, none⟩ (.slice (some ⟨gg, 0, none⟩) (T.length + 1) cap)) := ((Chg.grown hg).mono fun _ _ x => .inr x).trans (Chg.set _ _ _) (fun _ _ x => .inl x)
  have hC : Chg (AddS lb (.slice ad T.length c)) wr (w5.setCell ⟨lb, 0, none⟩ (.slice (some ⟨gg, 0, none⟩) (T.length + 1) cap)) := (h1.mono fun _ _ x => x.elim).trans hC45 (fun _ _ x => x)
  have hb6 : (w5.setCell ⟨lb, 0, none⟩ (.slice (some ⟨gg, 0, none⟩) (T.length + 1) cap)).heap[lb]? = some (.cells #[.slice (some ⟨gg, 0, none⟩) (T.length + 1) cap, .map (some mb)] 65 (0, 0)) := by rw [heap_setCell_same w5 lb 0 _ _ _ hb5]; rfl
  have hmb : ¬ AddS lb (.slice ad T.length c) mb := by
    rintro (hx | hx)
    · subst hx; exact hm.tag _ _ _ hb
    · obtain ⟨_, cur, hh⟩ := owns_tag ho mb hx.symm
      exact hm.tag _ _ _ hh
  have key : ∀ g, ok g → g < w4.heap.size → AddS lb (.slice ad T.length c) g → (∃ cur e, w4.heap[g]? = some (.cells cur e (0, 0)) ∧ (e = 55 ∨ e = 3)) → False := by
    rintro g _ _ (hx | hx) ⟨cur, e, hh, he⟩
    · subst hx
      rw [hb4] at hh
      simp only [Option.some.injEq, Obj.cells.injEq] at hh
      rcases he with rfl | rfl <;> exact absurd hh.2.1 (by decide)
    · obtain ⟨_, cur2, hh2⟩ := owns_tag ho4 g hx.symm
      rw [hh] at hh2
      simp only [Option.some.injEq, Obj.cells.injEq] at hh2
      rcases he with rfl | rfl <;> exact absurd hh2.2.1 (by decide)
  have hr4 : Rws (TyV w4 ok) T yx := hr.imp (TyV.chg h1 (fun _ _ _ x => x.elim) (fun _ x _ => x))
  refine ⟨by rw [cell_of_row w5 lb 0 _ _ _ hb5]; rfl, frozen_of_row w5 lb 0 _ _ hb5, (Array.getElem?_eq_some_iff.1 hb5).1, hC, ⟨hT.snoc ht, (hm.chg hC hmb).more hT [t] (by simp; omega), _, _, hb6, ?_, (hr4.imp (TyV.chg hC45 key (fun _ x _ => x))).snoc (TyV.chg hC45 key (fun _ x _ => x) _ _ hty)⟩, by rw [cell_of_row _ lb 0 _ _ _ hb6]; rfl⟩
  have := owns_chg ho5 (Chg.set w5 ⟨lb, 0, none⟩ (.slice (some ⟨gg, 0, none⟩) (T.length + 1) cap)) (fun k hk hx => by
    have hx' : k = lb := hx
    subst hx'
    obtain ⟨_, cur2, hh2⟩ := owns_tag ho5 k hk
    rw [hb5] at hh2
    simp only [Option.some.injEq, Obj.cells.injEq] at hh2
    exact absurd hh2.2.1 (by decide))
  simpa using this

set_option maxRecDepth 100000 in
set_option maxHeartbeats 3200000 in
theorem put_any {T : List M.Ty} {D : Dt} (w : World) (h : Shp w lb mb N T D) (t : M.Ty) (fa la : Option Addr) (fn fc ln lc : Nat) (ht : TyV w (fun _ => True) t [.int .i64 t.kind, .slice fa fn fc, .slice la ln lc, .int .i64 t.of']) (hk : M.TyOk t T.length) (hN : T.length + 1 ≤ N) :
    Calls Tryz.prog 43 #[.pointer (some ⟨lb, 0, none⟩), .agg #[.int .i64 t.kind, .slice fa fn fc, .slice la ln lc, .int .i64 t.of']] w fun e w' => e = .returned (.int .i64 (T.length : Int)) ∧ (∃ v, w.cell? ⟨lb, 0, none⟩ = some v ∧ Chg (AddS lb v) w w') ∧ Shp w' lb mb N (T ++ [t]) D := by
  have hfew := h.few
  obtain ⟨hT, hm, yv, yx, hb, ho, hr⟩ := h
  obtain ⟨ad, c, rfl⟩ := owns_form ho
  have hlt := (Array.getElem?_eq_some_iff.1 hb).1
  have c0 : w.cell? ⟨lb, 0, none⟩ = some (.slice ad T.length c) := by rw [cell_of_row w lb 0 _ _ _ hb]; rfl
  have fz : w.frozen? ⟨lb, 0, none⟩ = false := frozen_of_row w lb 0 _ _ hb
  have HP := hide (fun (w4 w5 : World) (gg cap : Nat) (h1 : Chg (fun _ => False) w w4) => Sho.push (ok := fun _ => True) (w4 := w4) (w5 := w5) (gg := gg) (cap := cap) hb hT hk hm hN ho hr h1 (TyV.chg h1 (fun _ _ _ x => x.elim) (fun _ _ _ => trivial) _ _ ht))
  have hne : Value.ownBlock (.slice ad T.length c) ≠ some lb := by
    intro hx
    obtain ⟨_, cur, hh⟩ := owns_tag ho lb hx
    rw [hb] at hh
    simp only [Option.some.injEq, Obj.cells.injEq] at hh
    exact absurd hh.2.1 (by decide)
  have HV : Hid (w.cell? ⟨lb, 0, none⟩ = some (.slice ad T.length c)) := c0
  have HY := hide ho
  obtain ⟨i0, hi, hz0, hz1, hz2⟩ := info_parts Tryz.infoTy
  clear ht hb ho hr hm
  go_enter Tryz.func43, Tryz.ntmps43
  go_wp2_with fail
  go_region_law ((refine step_append_lies _ (by rfl) _ _ _ (by rfl) 0 52 i0 _ 4 64 Tryz.underlying27 hi hz0 hz1 hz2 rfl (by omega) (.slice ad T.length c) T.length yx (by rfl) (((HY.out.alloc _).alloc _).drew) ⟨w.heap.size + 1, 0, none⟩ 1 1 [.int .i64 t.kind, .slice fa fn fc, .slice la ln lc, .int .i64 t.of'] (by rfl) (by rfl) (World.news_of_block (cs := #[.int .i64 t.kind, .slice fa fn fc, .slice la ln lc, .int .i64 t.of']) (t := 52) (fr := (0, 0)) (heap_alloc2 w _ _)) (by simp [Value.oneCell']) (by omega) (by simp only [maxLen]; omega) (by omega) (by simp) (w.heap.size + 2) (by simp) ?_
                  intro gg cap w1 hown1 hgrow hat1 hlt1
                  have z4 : w1.cell? ⟨lb, 0, none⟩ = some (.slice ad T.length c) := by rw [hgrow.cell_far _ (by simp; omega) (Ne.symm hne)]; exact cell_old (by simp; omega) (cell_old hlt c0)
                  have y4 : w1.frozen? ⟨lb, 0, none⟩ = false := by rw [hgrow.frozen_far _ (by simp; omega) (Ne.symm hne)]; exact frz_old (by simp; omega) (frz_old hlt fz)))
  all_goals
    have HQ := hide (HP.out _ _ gg cap (((Chg.alloc (fun _ => False) w _).trans (Chg.alloc (fun _ => False) _ _) (fun _ _ x => x)).trans (Chg.drewN (fun _ => False) _ 1) (fun _ _ x => x)) hgrow hown1)
    clear hgrow hown1 HP HY
    go_wp2
    go_ret
    exact ⟨ret_int (by omega), ⟨_, HV.out, HQ.out.2.2.2.1⟩, HQ.out.2.2.2.2.1.shp⟩
end
end Go.Proofs.YtkilicjjaljghaaGreat
