/-
  The reference's reader: names, plain types, and a type that is added.
-/
import Derived.Test.YtkilicjjaljghaaGreatRrd
namespace Go.Proofs.YtkilicjjaljghaaGreat
open Go.RowKit

section
variable {w : World} {B rb : Nat} {tv : Value} {L : List M.Tk} {d : Nat} {s : M.St}

set_option maxHeartbeats 400000 in
theorem hasText2_any (x : List UInt8) (ad : Option Addr) (c : Nat) (gs : List (List UInt8)) (w : World) (hn : gs.length ≤ 100000) (ho : w.ownsRow 0 9 1 (.slice ad gs.length c) gs.length (svals gs)) :
    Calls Tryz.prog 57 #[.slice ad gs.length c, .string ⟨x.toArray⟩] w fun e w' => e = .returned (.bool (M.has gs x)) ∧ w' = w := by
  have HC : Hid (∀ k (h : k < gs.length), ∃ g, ad = some ⟨g, 0, none⟩ ∧ g < w.heap.size ∧ gs.length ≤ c ∧ c ≤ maxLen ∧ w.cell? ⟨g, k, none⟩ = some (.string ⟨gs[k].toArray⟩)) := by
    intro k hk
    obtain ⟨g, rfl, _, hg, h1, h2, hcell⟩ := owns_cell ho (by omega)
    exact ⟨g, rfl, hg, h1, h2, hcell k _ (by simp [svals, hk])⟩
  clear ho
  go_enter Tryz.func57, Tryz.ntmps57
  go_wp2
  go_loop [5] (fun i => ∃ k : Nat, k ≤ gs.length ∧ i = .int .i64 k ∧ Hid (M.has (gs.take k) x = false)) (fun i => gs.length - (intOf i).toNat)
  case atStart => exact ⟨0, Nat.zero_le _, rfl, by simp [Hid, M.has]⟩
  case round =>
    obtain ⟨k, hk, rfl, hq⟩ := hrel
    by_cases hlt : k < gs.length
    · obtain ⟨g, rfl, hg, hg1, hg2, hc⟩ := HC.out k hlt
      unfold maxLen at hg2
      have HS : Hid (M.has (gs.take (k + 1)) x = (M.has (gs.take k) x || x == gs[k])) := M.has_snoc _ _ _ hlt
      have HM : Hid (∀ y, y = gs[k] → y ∈ gs) := fun y hy => hy ▸ List.getElem_mem _
      generalize hx : gs[k] = y at *
      have HX := HM.out y rfl
      clear HC HM hx
      by_cases hp : y = x
      · subst hp
        go_wp2
        go_ret
        exact ⟨ret_bool (M.has_mem HX).symm, rfl⟩
      · have hp' : (y == x) = false := by simp [hp]
        go_wp2
        go_round
        case rel => exact ⟨k + 1, by omega, by go_num, by show _ = _; rw [HS.out, hq.out]; simp; exact fun h => hp h.symm⟩
        case measure => simp [intOf]; omega
    · go_wp2
      go_ret
      exact ⟨ret_bool (by have := hq.out; rw [List.take_of_length_le (by omega)] at this; rw [this]), rfl⟩

set_option maxHeartbeats 1000000 in
set_option maxRecDepth 100000 in
theorem rident_any (hL : LOk L) (h : Rst w B rb tv L d s) (hk : (M.tk L s.i).kind = 1) (ad : Option Addr) (c : Nat) (gs : List (List UInt8)) (hn : gs.length ≤ 100000) (ho : w.ownsRow 0 9 1 (.slice ad gs.length c) gs.length (svals gs)) (hh : M.has gs (M.tk L s.i).text = false) :
    Calls Tryz.prog 77 #[.pointer (some ⟨rb, 0, none⟩), .slice ad gs.length c] w fun e w' => e = .returned (.string ⟨(M.tk L s.i).text.toArray⟩) ∧ RKept B w w' ∧ Rst w' B rb tv L d s.nx := by
  have hi := h.at'
  have hs := hL.short
  have hi1 : s.i + 1 < L.length := by
    have h1 := (hL.last s.i hi).2
    by_cases h2 : s.i + 1 = L.length
    · have := h1 h2
      omega
    · omega
  have FS : Hid (∀ a, Chg (fun _ => False) w a → Rst a B rb tv L d s) := fun a ha => h.still ha
  have FO : Hid (∀ a, Chg (fun _ => False) w a → a.ownsRow 0 9 1 (.slice ad gs.length c) gs.length (svals gs)) := fun a ha => owns_chg ho ha (fun _ _ x => x)
  have R0 := hide (h.store 1 (.int .i64 ((s.i : Int) + 1)) (s.i + 1) d hi1 (by omega) (fun _ _ _ => by simp))
  obtain ⟨g, tc, rfl, hc1, hc2, hg, hlt, c0, c1, c2, c6, c7, fz, hcell⟩ := h.cell
  have fz1 := fz 1
  obtain ⟨x0, x1, x2⟩ := tk_cells hi hcell
  clear h hcell ho fz
  generalize M.tk L s.i = tk at *
  obtain ⟨kd, tx, pl⟩ := tk
  simp only at x0 x1 x2 hk hh ⊢
  subst hk
  unfold maxLen at hc2
  go_enter Tryz.func77, Tryz.ntmps77
  go_wp2
  go_region
  have hch : Chg (fun _ => False) w ((w.alloc (.cells #[.int .i64 1, .string ⟨tx.toArray⟩, .int .i64 (pl : Int)] 80)).drew) := (Chg.alloc (fun _ => False) _ _).trans (Chg.drewN (fun _ => False) _ 1) (fun _ _ x => x)
  have HH := hide (hasText2_any tx ad c gs _ hn (FO.out _ hch))
  have hch2 : Chg (fun _ => False) (w.setCell ⟨rb, 1, none⟩ (.int .i64 ((s.i : Int) + 1))) (((w.setCell ⟨rb, 1, none⟩ (.int .i64 ((s.i : Int) + 1))).alloc (.cells #[.int .i64 1, .string ⟨tx.toArray⟩, .int .i64 (pl : Int)] 80)).drew) := (Chg.alloc (fun _ => False) _ _).trans (Chg.drewN (fun _ => False) _ 1) (fun _ _ x => x)
  have R1 := hide (R0.out.1.still hch2)
  have K1 := hide (R0.out.2.trans (RKept.still hch2))
  rw [hh] at HH
  clear hch hch2 FS FO R0
  go_wp2_with fail
  refine HH.out.mono ?_
  rintro e w1 ⟨rfl, rfl⟩
  go_wp2_with fail
  go_ret
  exact ⟨rfl, K1.out, R1.out⟩

def pks : List (List UInt8) := [[110, 117, 109], [98, 111, 111, 108], [116, 101, 120, 116], [110, 117, 108, 108], [97, 110, 121], [117, 110, 107, 110, 111, 119, 110]]
theorem pk_hit (k : Nat) (y : List UInt8) (h : pks[k]? = some y) : M.plainKind y = (k : Int) + 1 := by
  match k, h with
  | 0, h => simp [pks] at h; subst h; decide
  | 1, h => simp [pks] at h; subst h; decide
  | 2, h => simp [pks] at h; subst h; decide
  | 3, h => simp [pks] at h; subst h; decide
  | 4, h => simp [pks] at h; subst h; decide
  | 5, h => simp [pks] at h; subst h; decide
  | k + 6, h => simp [pks] at h
theorem pk_none {x : List UInt8} (h : M.has pks x = false) : M.plainKind x = 0 := by
  simp [M.has, pks] at h
  obtain ⟨h1, h2, h3, h4, h5, h6⟩ := h
  unfold M.plainKind
  rw [if_neg h1, if_neg h2, if_neg h3, if_neg h4, if_neg h5, if_neg h6]

set_option maxHeartbeats 1000000 in
set_option maxRecDepth 100000 in
theorem rplain_any (x : List UInt8) (w : World) : Calls Tryz.prog 75 #[.string ⟨x.toArray⟩] w fun e w' => e = .returned (.int .i64 (M.plainKind x)) ∧ Chg (fun _ => False) w w' := by
  have HC : Hid (∀ k (h : k < pks.length), (w.alloc (.cells #[.string ⟨#[110, 117, 109]⟩, .string ⟨#[98, 111, 111, 108]⟩, .string ⟨#[116, 101, 120, 116]⟩, .string ⟨#[110, 117, 108, 108]⟩, .string ⟨#[97, 110, 121]⟩, .string ⟨#[117, 110, 107, 110, 111, 119, 110]⟩] 9)).cell? ⟨w.heap.size, k, none⟩ = some (.string ⟨pks[k].toArray⟩)) := (strs_many w pks 9).2
  have hpl : pks.length = 6 := rfl
  have HCH := hide (Chg.alloc (fun _ => False) w (.cells #[.string ⟨#[110, 117, 109]⟩, .string ⟨#[98, 111, 111, 108]⟩, .string ⟨#[116, 101, 120, 116]⟩, .string ⟨#[110, 117, 108, 108]⟩, .string ⟨#[97, 110, 121]⟩, .string ⟨#[117, 110, 107, 110, 111, 119, 110]⟩] 9))
  go_enter Tryz.func75, Tryz.ntmps75
  go_wp2
  go_loop [4] (fun i => ∃ k : Nat, k ≤ 6 ∧ i = .int .i64 k ∧ Hid (M.has (pks.take k) x = false)) (fun i => 6 - (intOf i).toNat)
  case atStart => exact ⟨0, Nat.zero_le _, rfl, by simp [Hid, M.has]⟩
  case round =>
    obtain ⟨k, hk, rfl, hq⟩ := hrel
    by_cases hlt : k < 6
    · have hc := HC.out k (by omega)
      have HS : Hid (M.has (pks.take (k + 1)) x = (M.has (pks.take k) x || x == pks[k])) := M.has_snoc _ _ _ (by omega)
      have HK := hide (pk_hit k pks[k] (List.getElem?_eq_getElem (by omega)))
      generalize pks[k] = y at *
      clear HC
      by_cases hp : y = x
      · subst hp
        go_wp2
        go_ret
        exact ⟨ret_int HK.out.symm, HCH.out⟩
      · have hp' : (y == x) = false := by simp [hp]
        go_wp2
        go_round
        case rel => exact ⟨k + 1, by omega, by go_num, by show _ = _; rw [HS.out, hq.out]; simp; exact fun h => hp h.symm⟩
        case measure => simp [intOf]; omega
    · go_wp2
      go_ret
      exact ⟨ret_int (by have := hq.out; rw [List.take_of_length_le (by omega)] at this; rw [pk_none this]), HCH.out⟩

/-- Behind an append to a reader's types. -/
theorem Rst.pushT {w1 w2 : World} {ad : Option Addr} {c g cap : Nat} {t : M.Ty} {fv lv ov nv mv : Value} {yx : List Value} (hlow : B ≤ rb) (hat : s.i < L.length) (hf : s.T.length + 1 ≤ s.i)
    (htoks : w.ownsRow 0 80 3 tv L.length (rows L)) (hb : w.heap[rb]? = some (.cells #[tv, .int .i64 (s.i : Int), .int .i64 (d : Int), nv, .slice ad s.T.length c, mv, .int .i64 0, .int .i64 0] 77 (0, 0)))
    (hy : w.ownsRow B 52 4 (.slice ad s.T.length c) s.T.length yx) (hry : Rws TyK s.T yx)
    (h1 : Chg (fun _ => False) w w1) (hg : w1.grownBy w2 (Value.ownBlock (.slice ad s.T.length c))) (ho : w2.ownsRow B 52 4 (.slice (some ⟨g, 0, none⟩) (s.T.length + 1) cap) (s.T.length + 1) (yx ++ [.int .i64 t.kind, fv, lv, ov])) :
    RKept B w (w2.setCell ⟨rb, 4, none⟩ (.slice (some ⟨g, 0, none⟩) (s.T.length + 1) cap)) ∧ Rst (w2.setCell ⟨rb, 4, none⟩ (.slice (some ⟨g, 0, none⟩) (s.T.length + 1) cap)) B rb tv L d ⟨s.i, s.N, s.T ++ [t]⟩ := by
  have hlt := (Array.getElem?_eq_some_iff.1 hb).1
  have hb1 : w1.heap[rb]? = w.heap[rb]? := h1.block rb hlt (fun x => x)
  have hy1 : w1.ownsRow B 52 4 (.slice ad s.T.length c) s.T.length yx := owns_chg hy h1 (fun _ _ x => x)
  have hne : some rb ≠ Value.ownBlock (.slice ad s.T.length c) := by
    intro hx
    obtain ⟨_, cur, hh⟩ := owns_tag hy1 rb hx.symm
    rw [hb1, hb] at hh
    simp only [Option.some.injEq, Obj.cells.injEq] at hh
    exact absurd hh.2.1 (by decide)
  have hb2 : w2.heap[rb]? = some (.cells #[tv, .int .i64 (s.i : Int), .int .i64 (d : Int), nv, .slice ad s.T.length c, mv, .int .i64 0, .int .i64 0] 77 (0, 0)) := by rw [hg.block rb (Nat.lt_of_lt_of_le hlt h1.size) hne, hb1, hb]
  have hc2 : Chg (fun k => some k = Value.ownBlock (.slice ad s.T.length c)) w w2 := (h1.mono fun _ _ x => x.elim).trans (Chg.grown hg) (fun _ _ x => x)
  have hc3 : Chg (fun k => some k = Value.ownBlock (.slice ad s.T.length c) ∨ k = rb) w (w2.setCell ⟨rb, 4, none⟩ (.slice (some ⟨g, 0, none⟩) (s.T.length + 1) cap)) := (hc2.mono fun _ _ x => .inl x).trans (Chg.set _ _ _) (fun _ _ x => .inr x)
  have hb3 : (w2.setCell ⟨rb, 4, none⟩ (.slice (some ⟨g, 0, none⟩) (s.T.length + 1) cap)).heap[rb]? = some (.cells #[tv, .int .i64 (s.i : Int), .int .i64 (d : Int), nv, .slice (some ⟨g, 0, none⟩) (s.T.length + 1) cap, mv, .int .i64 0, .int .i64 0] 77 (0, 0)) := by rw [heap_setCell_same w2 rb 4 _ _ _ hb2]; rfl
  refine ⟨hc3.mono fun k hk hx => ?_, hlow, hat, by simp; omega, owns_chg htoks hc3 (fun k hk hx => ?_), nv, _, mv, _, hb3, ?_, hry.snoc ⟨fv, lv, ov, rfl⟩⟩
  · rcases hx with hx | rfl
    · obtain ⟨hk1, cur2, hh2⟩ := owns_tag hy k hx.symm
      exact ⟨hk1, _, _, _, hh2, .inr rfl⟩
    · exact ⟨hlow, _, _, _, hb, .inl rfl⟩
  · obtain ⟨_, cur, hh⟩ := owns_tag htoks k hk
    rcases hx with hx | rfl
    · obtain ⟨_, cur2, hh2⟩ := owns_tag hy k hx.symm
      rw [hh] at hh2
      simp only [Option.some.injEq, Obj.cells.injEq] at hh2
      exact absurd hh2.2.1 (by decide)
    · rw [hb] at hh
      simp only [Option.some.injEq, Obj.cells.injEq] at hh
      exact absurd hh.2.1 (by decide)
  · have := owns_chg ho (Chg.set w2 ⟨rb, 4, none⟩ (.slice (some ⟨g, 0, none⟩) (s.T.length + 1) cap)) (fun k hk hx => by
      have hx' : k = rb := hx
      subst hx'
      obtain ⟨_, cur2, hh2⟩ := owns_tag ho k hk
      rw [hb2] at hh2
      simp only [Option.some.injEq, Obj.cells.injEq] at hh2
      exact absurd hh2.2.1 (by decide))
    simpa using this

set_option maxRecDepth 100000 in
set_option maxHeartbeats 3200000 in
theorem raddType_any (hL : LOk L) (h : Rst w B rb tv L d s) (t : M.Ty) (fa la : Option Addr) (fn fc ln lc : Nat) (o : Int) (hf : s.T.length + 1 ≤ s.i) (hB : B ≤ w.heap.size) :
    Calls Tryz.prog 62 #[.pointer (some ⟨rb, 0, none⟩), .agg #[.int .i64 t.kind, .slice fa fn fc, .slice la ln lc, .int .i64 o]] w fun e w' => e = .returned (.int .i64 (s.T.length : Int)) ∧ RKept B w w' ∧ Rst w' B rb tv L d ⟨s.i, s.N, s.T ++ [t]⟩ := by
  obtain ⟨hlow, hat, hfew, htoks, nv, yv, mv, yx, hb, hy, hry⟩ := h
  obtain ⟨ad, c, rfl⟩ := owns_form hy
  have hs := hL.short
  have hlt := (Array.getElem?_eq_some_iff.1 hb).1
  have c4 : w.cell? ⟨rb, 4, none⟩ = some (.slice ad s.T.length c) := by rw [cell_of_row w rb 4 _ _ _ hb]; rfl
  have fz : ∀ o, w.frozen? ⟨rb, o, none⟩ = false := fun o => frozen_of_row w rb o _ _ hb
  have HP := hide (fun (w1 w2 : World) (g cap : Nat) (fv lv ov : Value) => Rst.pushT (w1 := w1) (w2 := w2) (g := g) (cap := cap) (t := t) (fv := fv) (lv := lv) (ov := ov) hlow hat hf htoks hb hy hry)
  have hne : Value.ownBlock (.slice ad s.T.length c) ≠ some rb := by
    intro hx
    obtain ⟨_, cur, hh⟩ := owns_tag hy rb hx
    rw [hb] at hh
    simp only [Option.some.injEq, Obj.cells.injEq] at hh
    exact absurd hh.2.1 (by decide)
  have HY := hide hy
  obtain ⟨i0, hi, hz0, hz1, hz2⟩ := info_parts Tryz.infoTy
  clear htoks hb hy hry
  go_enter Tryz.func62, Tryz.ntmps62
  go_wp2_with fail
  go_region_law ((refine step_append_lies _ (by rfl) _ _ _ (by rfl) B 52 i0 _ 4 64 Tryz.underlying27 hi hz0 hz1 hz2 rfl (by omega) (.slice ad s.T.length c) s.T.length yx (by rfl) (((HY.out.alloc _).alloc _).drew) ⟨w.heap.size + 1, 0, none⟩ 1 1 [.int .i64 t.kind, .slice fa fn fc, .slice la ln lc, .int .i64 o] (by rfl) (by rfl) (World.news_of_block (cs := #[.int .i64 t.kind, .slice fa fn fc, .slice la ln lc, .int .i64 o]) (t := 52) (fr := (0, 0)) (heap_alloc2 w _ _)) (by simp [Value.oneCell']) (by omega) (by simp only [maxLen]; omega) (by omega) (by simp; omega) (w.heap.size + 2) (by simp) ?_
                  intro gg cap w1 hown1 hgrow hat1 hlt1
                  have z4 : w1.cell? ⟨rb, 4, none⟩ = some (.slice ad s.T.length c) := by rw [hgrow.cell_far _ (by simp; omega) (Ne.symm hne)]; exact cell_old (by simp; omega) (cell_old hlt c4)
                  have y4 : w1.frozen? ⟨rb, 4, none⟩ = false := by rw [hgrow.frozen_far _ (by simp; omega) (Ne.symm hne)]; exact frz_old (by simp; omega) (frz_old hlt (fz 4))))
  all_goals
    have HQ := hide (HP.out _ _ gg cap _ _ _ (((Chg.alloc (fun _ => False) w _).trans (Chg.alloc (fun _ => False) _ _) (fun _ _ x => x)).trans (Chg.drewN (fun _ => False) _ 1) (fun _ _ x => x)) hgrow hown1)
    clear hgrow hown1 HP HY
    go_wp2
    go_ret
    exact ⟨ret_int (by omega), HQ.out.1, HQ.out.2⟩
end
end Go.Proofs.YtkilicjjaljghaaGreat
