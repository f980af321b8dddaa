/-
  The contracts of text, key, Text and Same.
-/
import Derived.Test.YtkilicjjaljghaaGreatWob
import Derived.Test.YtkilicjjaljghaaGreatWst
import Derived.Test.YtkilicjjaljghaaGreatPlainC
namespace Go.Proofs.YtkilicjjaljghaaGreat
open Go.RowKit Go.Maps

/-- A list that holds little enough to be written. -/
def Few (T : List M.Ty) : Prop := ∀ i (hi : i < T.length), T[i].list.length ≤ 100000 ∧ T[i].fields.length ≤ 1001

theorem wtx_ne {bn : Bool} {T : List M.Ty} {i : Nat} (hT : M.TsOk T) (hi : i < T.length) : wtx bn T i ≠ [] := by
  unfold wtx wtr
  split
  · exact M.txt_ne _ (M.wf_srt _ (M.wf_tr hT i hi))
  · exact M.txt_ne _ (M.wf_tr hT i hi)
theorem wtx_len {bn : Bool} {T : List M.Ty} {i : Nat} : (wtx bn T i).length ≤ M.wg (M.tr T i) := by
  unfold wtx wtr
  split
  · exact Nat.le_trans (M.len_txt _) (M.wg_srt _)
  · exact M.len_txt _

section
variable {lb mb N : Nat} {T : List M.Ty} {D : Dt}

set_option maxHeartbeats 1000000 in
set_option maxRecDepth 100000 in
theorem ltx_any (w : World) (h : Shp w lb mb N T D) (hf : Few T) (bn : Bool) (wb : Nat) (hwb : w.heap[wb]? = some (.cells #[.pointer none, .slice none 0 0, .slice none 0 0, .bool bn] 89 (0, 0))) (i : Nat) (hi : i < T.length) (hl : M.wg (M.tr T i) ≤ 1000000) :
    Calls Tryz.prog 41 #[.pointer (some ⟨lb, 0, none⟩), .pointer (some ⟨wb, 0, none⟩), .int .i64 (i : Int)] w fun e w' => e = .returned (.string ⟨(wtx bn T i).toArray⟩) ∧ Below wb w w' := by
  have hT := h.ok
  obtain ⟨_, _, yv, yx, hb, ho, hr⟩ := h
  obtain ⟨ad, c, rfl⟩ := owns_form ho
  have hlt := (Array.getElem?_eq_some_iff.1 hwb).1
  have hlb := (Array.getElem?_eq_some_iff.1 hb).1
  have c0 : w.cell? ⟨lb, 0, none⟩ = some (.slice ad T.length c) := by rw [cell_of_row w lb 0 _ _ _ hb]; rfl
  have c2 : w.cell? ⟨wb, 2, none⟩ = some (.slice none 0 0) := by rw [cell_of_row w wb 2 _ _ _ hwb]; rfl
  have f2 : w.frozen? ⟨wb, 2, none⟩ = false := frozen_of_row w wb 2 _ _ hwb
  have hc1 := Chg.set w ⟨wb, 2, none⟩ (.slice ad T.length c)
  have ne : ∀ g cur e, w.heap[g]? = some (.cells cur e (0, 0)) → e ≠ 89 → ¬ g = wb := by
    rintro g cur e hg he rfl
    rw [hwb] at hg
    simp only [Option.some.injEq, Obj.cells.injEq] at hg
    exact he hg.2.1.symm
  have hw1 : Wrt (w.setCell ⟨wb, 2, none⟩ (.slice ad T.length c)) wb wb (.slice ad T.length c) bn [] := ⟨Nat.le_refl _, .pointer none, .slice none 0 0, by rw [heap_setCell_same w wb 2 _ _ _ hwb]; rfl, .inl rfl, World.ownsRow_nil _ _ _ _⟩
  have hs1 : Wsp (w.setCell ⟨wb, 2, none⟩ (.slice ad T.length c)) wb wb (.slice ad T.length c) bn T [] := by
    refine ⟨hw1, hT, yx, owns_chg ho hc1 fun g hg x => ?_, hr.imp (TyV.chg hc1 (fun g _ _ hx hh => ?_) (fun _ _ _ => trivial))⟩
    · obtain ⟨_, cur, hh⟩ := owns_tag ho g hg
      exact ne g cur _ hh (by decide) x
    · obtain ⟨cur, e, hh, he⟩ := hh
      exact ne g cur _ hh (by rcases he with rfl | rfl <;> decide) hx
  have hlen := wtx_len (bn := bn) (T := T) (i := i)
  have HT := hide (wcon_any (B := wb) (wb := wb) (tv := (.slice ad T.length c)) (bn := bn) hf (i + 1) i _ [] (Nat.le_refl _) hi hs1 (by simp; omega) (by simp; omega))
  have HN := hide (wtx_ne (bn := bn) hT hi)
  have HC1 := hide (hc1.toBelow (B := wb) (fun k _ x => by have x' : k = wb := x; omega) (by omega))
  clear hs1 hw1 hc1 ho hr hb hwb ne
  go_enter Tryz.func41, Tryz.ntmps41
  go_wp2_with fail
  refine HT.out.mono ?_
  rintro e w2 ⟨rfl, h2, h3⟩
  have hw2 : wb < w2.heap.size := h3.tys.2.2
  rw [List.nil_append] at h3
  have HS := hide (bstring_any h3 HN.out)
  have HC2 := hide (HC1.out.trans (h2.below (by simp; omega)))
  clear h2 h3 HT
  go_wp2_with fail
  refine HS.out.mono ?_
  rintro e w3 ⟨rfl, h4⟩
  have HC3 := hide (HC2.out.trans h4)
  clear h4
  go_wp2
  go_ret
  exact ⟨rfl, HC3.out⟩

set_option maxHeartbeats 400000 in
theorem key_any (w : World) (h : Shp w lb mb N T D) (hf : Few T) (i : Nat) (hi : i < T.length) (hl : M.wg (M.tr T i) ≤ 1000000) :
    Calls Tryz.prog 31 #[.pointer (some ⟨lb, 0, none⟩), .int .i64 (i : Int)] w fun e w' => e = .returned (.string ⟨(wtx true T i).toArray⟩) ∧ Chg (fun _ => False) w w' := by
  have HT := hide (ltx_any _ (h.alloc (.cells #[.pointer none, .slice none 0 0, .slice none 0 0, .bool true] 89)) hf true w.heap.size (heap_alloc_new w _) i hi hl)
  clear h
  go_enter Tryz.func31, Tryz.ntmps31
  go_wp2_with fail
  refine HT.out.mono ?_
  rintro e w2 ⟨rfl, h2⟩
  have HC := hide (((Chg.alloc (fun k => w.heap.size ≤ k) w _).trans (Chg.below h2) (fun _ _ x => x)).mono (S' := fun _ => False) (fun k hk x => by omega))
  clear h2
  go_wp2
  go_ret
  exact ⟨rfl, HC.out⟩

set_option maxHeartbeats 400000 in
theorem ltext_any (w : World) (h : Shp w lb mb N T D) (hf : Few T) (i : Nat) (hi : i < T.length) (hl : M.wg (M.tr T i) ≤ 1000000) :
    Calls Tryz.prog 23 #[.pointer (some ⟨lb, 0, none⟩), .int .i64 (i : Int)] w fun e w' => e = .returned (.string ⟨(wtx false T i).toArray⟩) ∧ Chg (fun _ => False) w w' := by
  have HT := hide (ltx_any _ (h.alloc (.cells #[.pointer none, .slice none 0 0, .slice none 0 0, .bool false] 89)) hf false w.heap.size (heap_alloc_new w _) i hi hl)
  clear h
  go_enter Tryz.func23, Tryz.ntmps23
  go_wp2_with fail
  refine HT.out.mono ?_
  rintro e w2 ⟨rfl, h2⟩
  have HC := hide (((Chg.alloc (fun k => w.heap.size ≤ k) w _).trans (Chg.below h2) (fun _ _ x => x)).mono (S' := fun _ => False) (fun k hk x => by omega))
  clear h2
  go_wp2
  go_ret
  exact ⟨rfl, HC.out⟩

set_option maxHeartbeats 400000 in
theorem same_any (w : World) (h : Shp w lb mb N T D) (hf : Few T) (i j : Nat) (hi : i < T.length) (hj : j < T.length) (hl : M.wg (M.tr T i) ≤ 1000000) (hm : M.wg (M.tr T j) ≤ 1000000) :
    Calls Tryz.prog 18 #[.pointer (some ⟨lb, 0, none⟩), .int .i64 (i : Int), .int .i64 (j : Int)] w fun e w' => e = .returned (.bool (wtx true T i == wtx true T j)) ∧ Chg (fun _ => False) w w' := by
  have H1 := hide (key_any w h hf i hi hl)
  have FS : Hid (∀ a, Chg (fun _ => False) w a → Shp a lb mb N T D) := fun a ha => h.still ha
  clear h
  go_enter Tryz.func18, Tryz.ntmps18
  go_wp2_with fail
  refine H1.out.mono ?_
  rintro e w1 ⟨rfl, h1⟩
  have H2 := hide (key_any w1 (FS.out w1 h1) hf j hj hm)
  have HC1 := hide h1
  clear h1 H1
  go_wp2_with fail
  refine H2.out.mono ?_
  rintro e w2 ⟨rfl, h2⟩
  have HC2 := hide (HC1.out.trans h2 (fun _ _ x => x))
  clear h2
  go_wp2
  go_ret
  exact ⟨rfl, HC2.out⟩
end
end Go.Proofs.YtkilicjjaljghaaGreat
