/-
  The reference's TypeOf, where nothing is wrong; hasWild.
-/
import Derived.Test.YtkilicjjaljghaaGreatRoy
namespace Go.Proofs.YtkilicjjaljghaaGreat
open Go.RowKit

theorem tyk_cell {w : World} {base : Nat} {ad : Option Addr} {c : Nat} {X : List M.Ty} {yx : List Value} (ho : w.ownsRow base 52 4 (.slice ad X.length c) X.length yx) (hr : Rws TyK X yx) {i : Nat} (hi : i < X.length) :
    ∃ g, ad = some ⟨g, 0, none⟩ ∧ g < w.heap.size ∧ X.length ≤ c ∧ c ≤ maxLen ∧ w.cell? ⟨g, i * 4, none⟩ = some (.int .i64 X[i].kind) := by
  obtain ⟨g, rfl, _, hg, h1, h2, hcell⟩ := owns_cell ho (by omega)
  obtain ⟨xs, ⟨a, b, d, rfl⟩, hx⟩ := Rws.at (z := 4) (fun _ _ h => h.len) i hi hr
  refine ⟨g, rfl, hg, h1, h2, hcell _ _ ?_⟩
  have := hx 0 (by omega)
  simpa using this

set_option maxHeartbeats 2000000 in
set_option maxRecDepth 100000 in
theorem typeOf_any (s : ByteArray) (w : World) (hs : s.size ≤ maxLen) (X : List M.Ty) (hX : M.TRes s.data.toList (.inr X)) :
    Calls Tryz.prog 20 #[.string s] w fun e w' => ∃ ad c yx, e = .returned (.tuple #[.slice ad X.length c, .agg #[.int .i64 0, .int .i64 0]]) ∧ Below w.heap.size w w' ∧ w'.ownsRow w.heap.size 52 4 (.slice ad X.length c) X.length yx ∧ Rws TyK X yx := by
  obtain ⟨he, s', x, ⟨f0, hf0⟩, hk6, -, hl300, rfl⟩ := hX
  have hf := hf0 f0 (Nat.le_refl _)
  obtain ⟨hl1, hl0, hl2⟩ := M.scan_last _ he
  have HS := hide (tokens_any s (w.alloc (.cells #[.int .i64 0, .int .i64 0] 24)) hs)
  have B0 := hide ((Below.refl w.heap.size w).alloc (Nat.le_refl _) (.cells #[.int .i64 0, .int .i64 0] 24))
  have F0 : Hid ((w.alloc (.cells #[.int .i64 0, .int .i64 0] 24)).heap[w.heap.size]? = some (.cells #[.int .i64 0, .int .i64 0] 24 (0, 0))) := heap_alloc_new w _
  clear hf0
  generalize M.scan s.data.toList = R at *
  obtain ⟨L, er, ep⟩ := R
  simp only at he hf hk6 hl1 hl0 hl2
  subst he
  have hL : LOk L := ⟨hl1, hl2⟩
  go_enter Tryz.func20, Tryz.ntmps20
  go_wp2_with fail
  refine HS.out.mono ?_
  rintro e w1 ⟨ad, c, rfl, ho, hb⟩
  simp only at ho ⊢
  have B1 := hide (B0.out.trans (hb.mono (by simp)))
  have F1 : Hid (w1.heap[w.heap.size]? = some (.cells #[.int .i64 0, .int .i64 0] 24 (0, 0))) := (hb.block w.heap.size (by simp)).trans F0.out
  have hz := (Array.getElem?_eq_some_iff.1 F1.out).1
  have hzs : w.heap.size + 1 ≤ w1.heap.size := by omega
  have O1 := hide (owns_base ho (Nat.zero_le _))
  clear hb ho HS B0 F0
  have R1 : Rst ((w1.alloc (.cells #[.int .i64 0, .int .i64 (ep : Int)] 24)).alloc (.cells #[.slice ad L.length c, .int .i64 0, .int .i64 0, .slice none 0 0, .slice none 0 0, .int .i64 0, .int .i64 0, .int .i64 0] 77)) (w1.heap.size + 1) (w1.heap.size + 1) (.slice ad L.length c) L 0 ⟨0, [], []⟩ := by
    refine ⟨Nat.le_refl _, hl0, Nat.le_refl _, (O1.out.alloc _).alloc _, .slice none 0 0, .slice none 0 0, .int .i64 0, [], ?_, World.ownsRow_nil _ _ _ _, rfl⟩
    have := heap_alloc_new (w1.alloc (.cells #[.int .i64 0, .int .i64 (ep : Int)] 24)) (.cells #[.slice ad L.length c, .int .i64 0, .int .i64 0, .slice none 0 0, .slice none 0 0, .int .i64 0, .int .i64 0, .int .i64 0] 77)
    simpa using this
  have HR := hide ((reader_con (B := w1.heap.size + 1) (rb := w1.heap.size + 1) (tv := .slice ad L.length c) hL f0).1 _ _ _ _ hf _ (by simp) R1)
  have F2 : Hid (((w1.alloc (.cells #[.int .i64 0, .int .i64 (ep : Int)] 24)).alloc (.cells #[.slice ad L.length c, .int .i64 0, .int .i64 0, .slice none 0 0, .slice none 0 0, .int .i64 0, .int .i64 0, .int .i64 0] 77)).heap[w.heap.size]? = some (.cells #[.int .i64 0, .int .i64 0] 24 (0, 0))) := by
    show _ = _
    rw [Below.heap_alloc _ _ _ (by simp; omega), Below.heap_alloc _ _ _ hz]
    exact F1.out
  have B2 := hide ((B1.out.alloc (by omega) (.cells #[.int .i64 0, .int .i64 (ep : Int)] 24)).alloc (by simp; omega) (.cells #[.slice ad L.length c, .int .i64 0, .int .i64 0, .slice none 0 0, .slice none 0 0, .int .i64 0, .int .i64 0, .int .i64 0] 77))
  clear R1 B1 F1 O1
  go_wp2_with fail
  refine HR.out.mono ?_
  rintro e w2 ⟨⟨z, rfl⟩, k2, r2⟩
  have F3 := hide (k2.other F2.out (by decide))
  have B3 := hide (B2.out.trans ((k2.below (by simp)).mono (by omega)))
  have RB := hide (rbad_any (r2.still (Chg.drewN (fun _ => False) w2 1)))
  obtain ⟨tg, tc, etv, ht1, ht2, htg, hrl, c0, c1, c2, c6, c7, fz, hcell⟩ := r2.cell
  cases etv
  obtain ⟨x0, x1, x2⟩ := tk_cells r2.at' hcell
  rw [hk6] at x0
  have hi2 := r2.at'
  obtain ⟨nv, yv, mv, yx, hbk, hyo, hyr⟩ := r2.blk
  obtain ⟨ya, yc, rfl⟩ := owns_form hyo
  have c4 : w2.cell? ⟨w1.heap.size + 1, 4, none⟩ = some (.slice ya s'.T.length yc) := by rw [cell_of_row w2 _ 4 _ _ _ hbk]; rfl
  have g0 : w2.cell? ⟨w.heap.size, 0, none⟩ = some (.int .i64 0) := by rw [cell_of_row w2 _ 0 _ _ _ F3.out]; rfl
  have g1 : w2.cell? ⟨w.heap.size, 1, none⟩ = some (.int .i64 0) := by rw [cell_of_row w2 _ 1 _ _ _ F3.out]; rfl
  have gz := (Array.getElem?_eq_some_iff.1 F3.out).1
  have gf : ∀ o, w2.frozen? ⟨w.heap.size, o, none⟩ = false := fun o => frozen_of_row w2 _ o _ _ F3.out
  have HYO := hide (owns_base hyo (show w.heap.size ≤ w1.heap.size + 1 by omega))
  have HYR := hide hyr
  have hch : Chg (fun k => k = w.heap.size) w2 (((w2.drewN 1).setCell ⟨w.heap.size, 0, none⟩ (.int .i64 0)).setCell ⟨w.heap.size, 1, none⟩ (.int .i64 0)) := ((Chg.drewN (fun k => k = w.heap.size) w2 1).trans (Chg.set _ ⟨w.heap.size, 0, none⟩ _) (fun _ _ x => x)).trans (Chg.set _ ⟨w.heap.size, 1, none⟩ _) (fun _ _ x => x)
  have HOW := hide (owns_chg HYO.out hch (fun g hg hx => by
    have hx' : g = w.heap.size := hx
    obtain ⟨_, cur, hh⟩ := owns_tag HYO.out g hg
    rw [hx', F3.out] at hh
    simp only [Option.some.injEq, Obj.cells.injEq] at hh
    exact absurd hh.2.1 (by decide)))
  have HBB := hide (B3.out.trans (hch.toBelow (B := w.heap.size) (fun k _ x => by have x' : k = w.heap.size := x; omega) (by omega)))
  clear hch
  unfold maxLen at ht2
  generalize s'.i = si at *
  clear k2 r2 hbk hyo hyr hcell HR F2 B2
  go_wp2_with fail
  go_region_with ((go_at_call 39; refine (RB.out).mono ?_; rintro e w' ⟨rfl, rfl⟩))
  all_goals
    go_wp2_with fail
    refine RB.out.mono ?_
    rintro e w3 ⟨rfl, rfl⟩
    go_wp2_with fail
    exact bodyPost_ret (v := .tuple #[.slice ya s'.T.length yc, .agg #[.int .i64 0, .int .i64 0]]) (by simp [results, Tryz.results20, go_sem, g0, g1]) rfl ⟨ya, yc, yx, rfl, HBB.out, HOW.out, HYR.out⟩

/-- Has a list any, or unknown, in it? -/
def wildL (X : List M.Ty) : Bool := X.any fun t => t.kind == 5 || t.kind == 6

set_option maxHeartbeats 1000000 in
set_option maxRecDepth 100000 in
theorem hasWild_any (s : ByteArray) (w : World) (hs : s.size ≤ maxLen) (X : List M.Ty) (hX : M.TRes s.data.toList (.inr X)) :
    Calls Tryz.prog 15 #[.string s] w fun e w' => e = .returned (.bool (wildL X)) ∧ Below w.heap.size w w' := by
  have HT := hide (typeOf_any s w hs X hX)
  have h300 := (M.tres_ok hX).2.2.1
  clear hX
  go_enter Tryz.func15, Tryz.ntmps15
  go_wp2_with fail
  refine HT.out.mono ?_
  rintro e w1 ⟨ad, c, yx, rfl, hb, ho, hr⟩
  have HC : Hid (∀ i (hi : i < X.length), ∃ g, ad = some ⟨g, 0, none⟩ ∧ g < w1.heap.size ∧ X.length ≤ c ∧ c ≤ maxLen ∧ w1.cell? ⟨g, i * 4, none⟩ = some (.int .i64 X[i].kind)) := fun i hi => tyk_cell ho hr hi
  have HB := hide (hb.alloc hb.size (.cells #[.int .i64 0, .int .i64 0] 24))
  clear hb ho hr HT
  go_wp2_with fail
  go_loop [5] (fun i => ∃ k : Nat, k ≤ X.length ∧ i = .int .i64 k ∧ Hid (wildL (X.take k) = false)) (fun i => X.length - (intOf i).toNat)
  case atStart => exact ⟨0, Nat.zero_le _, rfl, by simp [Hid, wildL]⟩
  case round =>
    obtain ⟨k, hk, rfl, hq⟩ := hrel
    by_cases hlt : k < X.length
    · obtain ⟨g, rfl, hg, hg1, hg2, hc0⟩ := HC.out k hlt
      have hc := cell_old (o := .cells #[.int .i64 0, .int .i64 0] 24) hg hc0
      unfold maxLen at hg2
      have HS : Hid (wildL (X.take (k + 1)) = (wildL (X.take k) || (X[k].kind == 5 || X[k].kind == 6))) := by
        show _ = _
        unfold wildL
        rw [List.take_succ_eq_append_getElem hlt, List.any_append]
        simp
      have HM : Hid ((X[k].kind == 5 || X[k].kind == 6) = true → wildL X = true) := fun hx => List.any_eq_true.2 ⟨X[k], List.getElem_mem hlt, hx⟩
      generalize X[k].kind = kd at *
      clear HC hc0
      by_cases h5 : kd = 5
      · subst h5
        go_wp2
        go_ret
        exact ⟨ret_bool (HM.out rfl).symm, HB.out⟩
      · by_cases h6 : kd = 6
        · subst h6
          go_wp2
          go_ret
          exact ⟨ret_bool (HM.out rfl).symm, HB.out⟩
        · have h5' : (kd == 5) = false := by simp [h5]
          have h6' : (kd == 6) = false := by simp [h6]
          go_wp2
          go_round
          case rel => exact ⟨k + 1, by omega, by go_num, by show _ = _; rw [HS.out, hq.out, h5', h6']; rfl⟩
          case measure => simp [intOf]; omega
    · go_wp2
      go_ret
      exact ⟨ret_bool (by have := hq.out; rw [List.take_of_length_le (by omega)] at this; rw [this]), HB.out⟩

/-- What has no such kind in it is a tree without. -/
theorem noW_of {X : List M.Ty} (hT : M.TsOk X) (h : wildL X = false) (i : Nat) : i < X.length → M.noW (M.tr X i) = true := by
  have hk : ∀ t ∈ X, t.kind ≠ 5 ∧ t.kind ≠ 6 := by
    intro t ht
    unfold wildL at h
    rw [List.any_eq_false] at h
    have := h t ht
    simpa using this
  have hl : ∀ l : List M.Tr, (∀ t ∈ l, M.noW t = true) → M.noWL l = true := by
    intro l
    induction l with
    | nil => intro _; rfl
    | cons t r ih => intro hh; rw [M.noWL, hh t (by simp), ih (fun x hx => hh x (by simp [hx]))]; rfl
  induction i using Nat.strongRecOn with
  | ind i ih =>
    intro hi
    have ho := hT i hi
    rw [M.tr_eq hT hi, M.noW]
    have hkk := hk X[i] (List.getElem_mem hi)
    simp only [Bool.and_eq_true, bne_iff_ne, ne_eq]
    refine ⟨⟨hkk.1, hkk.2⟩, hl _ fun t ht => ?_⟩
    rcases List.mem_append.1 ht with ht | ht
    · rcases List.mem_append.1 ht with ht | ht
      · split at ht
        · rename_i hq
          simp at ht
          subst ht
          have := ho.of hq
          exact ih _ (by omega) (by omega)
        · simp at ht
      · obtain ⟨p, hp, rfl⟩ := List.mem_map.1 ht
        have := ho.fld p hp
        exact ih _ (by omega) (by omega)
    · obtain ⟨y, hy, rfl⟩ := List.mem_map.1 ht
      have := ho.lst y hy
      exact ih _ (by omega) (by omega)
end Go.Proofs.YtkilicjjaljghaaGreat
