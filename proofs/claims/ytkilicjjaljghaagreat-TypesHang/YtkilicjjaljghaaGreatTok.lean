/-
  The contracts of the parser's small methods that look at a token.
-/
import Derived.Test.YtkilicjjaljghaaGreatRep
namespace Go.Proofs.YtkilicjjaljghaaGreat
open Go.RowKit

theorem Pst.cell {w : World} {B pb : Nat} {tv : Value} {L : List M.Tk} {ok : Nat → Prop} {d : Nat} {s : M.St} (h : Pst w B pb tv L ok d s) :
    ∃ g c nv yv, tv = .slice (some ⟨g, 0, none⟩) L.length c ∧ L.length ≤ c ∧ c ≤ maxLen ∧ g < w.heap.size ∧ pb < w.heap.size ∧ w.cell? ⟨pb, 0, none⟩ = some (.slice (some ⟨g, 0, none⟩) L.length c) ∧ w.cell? ⟨pb, 1, none⟩ = some (.int .i64 (s.i : Int)) ∧ w.cell? ⟨pb, 2, none⟩ = some (.int .i64 (d : Int)) ∧
      w.cell? ⟨pb, 3, none⟩ = some nv ∧ w.cell? ⟨pb, 4, none⟩ = some yv ∧ (∀ o, w.frozen? ⟨pb, o, none⟩ = false) ∧ ∀ j u, (rows L)[j]? = some u → w.cell? ⟨g, j, none⟩ = some u := by
  obtain ⟨ad, c, rfl⟩ := owns_form h.toks
  obtain ⟨g, rfl, _, hg, hc1, hc2, hcell⟩ := owns_cell h.toks (by have := h.at'; omega)
  obtain ⟨nv, yv, nx, yx, hb, _⟩ := h.blk
  have hlt := (Array.getElem?_eq_some_iff.1 hb).1
  have hc := fun o => cell_of_row w pb o _ _ _ hb
  refine ⟨g, c, nv, yv, rfl, hc1, hc2, hg, hlt, by rw [hc]; rfl, by rw [hc]; rfl, by rw [hc]; rfl, by rw [hc]; rfl, by rw [hc]; rfl, fun o => ?_, hcell⟩
  simp [World.frozen?, hb]

theorem rows_at : ∀ (L : List M.Tk) (k : Nat) (h : k < L.length) (j : Nat), j < 3 → (rows L)[3 * k + j]? = (tcells L[k])[j]?
  | [], k, h, _, _ => by simp at h
  | t :: r, 0, _, j, hj => by
    simp only [rows, List.flatMap_cons, Nat.mul_zero, Nat.zero_add, List.getElem_cons_zero]
    rw [List.getElem?_append_left (by simp [tcells]; omega)]
  | t :: r, k + 1, h, j, hj => by
    simp only [rows, List.flatMap_cons, List.getElem_cons_succ]
    rw [List.getElem?_append_right (by simp [tcells]; omega)]
    have := rows_at r k (by simpa using h) j hj
    rw [← this]
    simp only [tcells, List.length_cons, List.length_nil, rows]
    congr 1
    omega

theorem tk_cells {w : World} {g : Nat} {L : List M.Tk} {k : Nat} (h : k < L.length) (hc : ∀ j u, (rows L)[j]? = some u → w.cell? ⟨g, j, none⟩ = some u) :
    w.cell? ⟨g, k * 3, none⟩ = some (.int .i64 (M.tk L k).kind) ∧ w.cell? ⟨g, k * 3 + 1, none⟩ = some (.string ⟨(M.tk L k).text.toArray⟩) ∧ w.cell? ⟨g, k * 3 + 2, none⟩ = some (.int .i64 ((M.tk L k).at' : Int)) := by
  have e : M.tk L k = L[k] := by simp [M.tk, List.getD, h]
  rw [Nat.mul_comm k 3, e]
  exact ⟨hc _ _ (rows_at L k h 0 (by omega)), hc _ _ (rows_at L k h 1 (by omega)), hc _ _ (rows_at L k h 2 (by omega))⟩

def tkv (t : M.Tk) : Value := .agg #[.int .i64 t.kind, .string ⟨t.text.toArray⟩, .int .i64 (t.at' : Int)]

theorem hide {p : Prop} (h : p) : Hid p := h

def gu (er p : Int) : Ending := .panicked [{ v := .iface 127 (.agg #[.int .i64 er, .int .i64 p]), recovered := false }]

theorem tok_kind (a b c : Value) (w : World) : (Instr.field 80 (.agg #[a, b, c]) 0).run Tryz.prog w = .ok a w := by kernel_rfl
theorem tok_text (a b c : Value) (w : World) : (Instr.field 80 (.agg #[a, b, c]) 1).run Tryz.prog w = .ok b w := by kernel_rfl
theorem tok_at (a b c : Value) (w : World) : (Instr.field 80 (.agg #[a, b, c]) 2).run Tryz.prog w = .ok c w := by kernel_rfl

section
variable {w : World} {B pb : Nat} {tv : Value} {L : List M.Tk} {ok : Nat → Prop} {d : Nat} {s : M.St}

set_option maxHeartbeats 400000 in
theorem token_any (hL : LOk L) (h : Pst w B pb tv L ok d s) :
    Calls Tryz.prog 94 #[.pointer (some ⟨pb, 0, none⟩)] w fun e w' => e = .returned (tkv (M.tk L s.i)) ∧ Chg (fun _ => False) w w' := by
  obtain ⟨g, c, nv, yv, rfl, hc1, hc2, hg, hlt, c0, c1, _, _, _, fz, hcell⟩ := h.cell
  have hi := h.at'
  have hs := hL.short
  obtain ⟨x0, x1, x2⟩ := tk_cells hi hcell
  clear h hcell
  generalize M.tk L s.i = tk at *
  obtain ⟨kd, tx, pl⟩ := tk
  simp only [tkv] at x0 x1 x2 ⊢
  generalize (⟨tx.toArray⟩ : ByteArray) = bx at *
  generalize s.i = i at *
  unfold maxLen at hc2
  go_enter Tryz.func94, Tryz.ntmps94
  go_wp2
  go_region
  go_wp2
  exact bodyPost_ret (v := .agg #[.int .i64 kd, .string bx, .int .i64 pl]) (by simp [results, Tryz.results94, go_sem]) rfl ⟨rfl, (Chg.alloc _ _ _).trans (Chg.drewN _ _ 1) (fun _ _ x => x)⟩

set_option maxHeartbeats 400000 in
theorem at_any (hL : LOk L) (h : Pst w B pb tv L ok d s) :
    Calls Tryz.prog 96 #[.pointer (some ⟨pb, 0, none⟩)] w fun e w' => e = .returned (.int .i64 ((M.tk L s.i).at' : Int)) ∧ Chg (fun _ => False) w w' := by
  have H := token_any hL h
  have hf0 := tok_kind
  have hf2 := tok_at
  generalize M.tk L s.i = tk at *
  obtain ⟨kd, tx, pl⟩ := tk
  simp only [tkv] at H ⊢
  clear h hL
  go_enter Tryz.func96, Tryz.ntmps96
  go_wp2_with fail
  refine H.mono ?_
  clear H
  rintro e w1 ⟨rfl, hc⟩
  go_wp2
  go_ret
  exact ⟨rfl, hc⟩

set_option maxHeartbeats 400000 in
theorem ended_any (hL : LOk L) (h : Pst w B pb tv L ok d s) :
    Calls Tryz.prog 70 #[.pointer (some ⟨pb, 0, none⟩)] w fun e w' => e = .returned (.bool (decide ((M.tk L s.i).kind = 6))) ∧ Chg (fun _ => False) w w' := by
  have H := token_any hL h
  have hf0 := tok_kind
  have hf2 := tok_at
  generalize M.tk L s.i = tk at *
  obtain ⟨kd, tx, pl⟩ := tk
  simp only [tkv] at H ⊢
  clear h hL
  go_enter Tryz.func70, Tryz.ntmps70
  go_wp2_with fail
  refine H.mono ?_
  clear H
  rintro e w1 ⟨rfl, hc⟩
  go_wp2
  go_ret
  exact ⟨ret_bool (by rw [Bool.eq_iff_iff]; simp), hc⟩

set_option maxHeartbeats 400000 in
theorem giveAt_any (w : World) (er p : Int) : Calls Tryz.prog 95 #[.int .i64 er, .int .i64 p] w fun e w' => e = gu er p ∧ Chg (fun _ => False) w w' := by
  go_enter Tryz.func95, Tryz.ntmps95
  go_wp2
  exact ⟨rfl, rfl, Chg.refl _ _⟩

set_option maxHeartbeats 400000 in
theorem fail_any (hL : LOk L) (h : Pst w B pb tv L ok d s) (er : Int) :
    Calls Tryz.prog 71 #[.pointer (some ⟨pb, 0, none⟩), .int .i64 er] w fun e w' => e = gu er ((M.tk L s.i).at' : Int) ∧ Chg (fun _ => False) w w' := by
  go_enter Tryz.func71, Tryz.ntmps71
  go_wp2_with fail
  refine (at_any hL h).mono ?_
  rintro e w1 ⟨rfl, hc⟩
  go_wp2_with fail
  refine (giveAt_any _ _ _).mono ?_
  rintro e w2 ⟨rfl, hc2⟩
  exact ⟨rfl, rfl, hc.trans hc2 (fun _ _ x => x)⟩


/-- A block of the call's own that nothing has changed. -/
theorem own_cell {S : Nat → Prop} {w wr : World} {cs : Array Value} {t : TypeId} (h : Chg S (w.alloc (.cells cs t)) wr) (hS : ¬ S w.heap.size) :
    (∀ o v, cs[o]? = some v → wr.cell? ⟨w.heap.size, o, none⟩ = some v) ∧ (∀ o, wr.frozen? ⟨w.heap.size, o, none⟩ = false) ∧ w.heap.size < wr.heap.size := by
  have hb := h.block w.heap.size (by simp) hS
  refine ⟨fun o v hv => ?_, fun o => ?_, ?_⟩
  · rw [World.cell?_of_block (a := ⟨w.heap.size, o, none⟩) hb, World.cell?_alloc_new, hv]
  · rw [World.frozen?_of_block (a := ⟨w.heap.size, o, none⟩) hb]; simp
  · have := h.size; simp at this; omega

/-- Texts that lie in a row. -/
def Strs (w : World) (b : Nat) (ms : List (List UInt8)) : Prop := b < w.heap.size ∧ ∀ j (h : j < ms.length), w.cell? ⟨b, j, none⟩ = some (.string ⟨ms[j].toArray⟩)

theorem Strs.still {w w' : World} {b : Nat} {ms : List (List UInt8)} (h : Strs w b ms) (hc : Chg (fun _ => False) w w') : Strs w' b ms :=
  ⟨Nat.lt_of_lt_of_le h.1 hc.size, fun j hj => by rw [World.cell?_of_block (hc.block b h.1 (fun x => x))]; exact h.2 j hj⟩

set_option maxHeartbeats 400000 in
theorem index_any (w : World) (b c : Nat) (ms : List (List UInt8)) (t : List UInt8) (h : Strs w b ms) (hm : ms.length ≤ 4000) :
    Calls Tryz.prog 115 #[.slice (some ⟨b, 0, none⟩) ms.length c, .string ⟨t.toArray⟩] w fun e w' => (∃ k : Int, e = .returned (.int .i64 k) ∧ decide (0 ≤ k) = M.has ms t) ∧ w' = w := by
  obtain ⟨hb, hcell⟩ := h
  go_enter Tryz.func115, Tryz.ntmps115
  go_wp2
  go_loop [8] (fun i => ∃ k : Nat, k ≤ ms.length ∧ i = .int .i64 k ∧ Hid (M.has (ms.take k) t = false)) (fun i => ms.length - (intOf i).toNat)
  case atStart => exact ⟨0, Nat.zero_le _, rfl, by simp [Hid, M.has]⟩
  case round =>
    obtain ⟨k, hk, rfl, hq⟩ := hrel
    by_cases hlt : k < ms.length
    · have hx := hcell k hlt
      have HS : Hid (M.has (ms.take (k + 1)) t = (M.has (ms.take k) t || t == ms[k])) := M.has_snoc _ _ _ hlt
      have HM : Hid (∀ x, x = ms[k] → x ∈ ms) := fun x hx => hx ▸ List.getElem_mem _
      generalize hy : ms[k] = x at *
      have HX := HM.out x rfl
      clear hcell HM hy
      by_cases hp : x = t
      · subst hp
        go_wp2
        go_ret
        exact ⟨⟨_, rfl, by rw [M.has_mem HX]; simp⟩, rfl⟩
      · have hp' : (t == x) = false := by simp [Ne.symm hp]
        go_wp2
        go_round
        case rel => exact ⟨k + 1, by omega, by go_num, by show _ = _; rw [HS.out, hq.out]; simp; exact fun h => hp h.symm⟩
        case measure => simp [intOf]; omega
    · go_wp2
      go_ret
      exact ⟨⟨_, rfl, by have := hq.out; rw [List.take_of_length_le (by omega)] at this; rw [this]; simp⟩, rfl⟩

set_option maxHeartbeats 400000 in
theorem contains_any (w : World) (b c : Nat) (ms : List (List UInt8)) (t : List UInt8) (h : Strs w b ms) (hm : ms.length ≤ 4000) :
    Calls Tryz.prog 97 #[.slice (some ⟨b, 0, none⟩) ms.length c, .string ⟨t.toArray⟩] w fun e w' => e = .returned (.bool (M.has ms t)) ∧ w' = w := by
  have H := index_any w b c ms t h hm
  generalize M.has ms t = r at *
  go_enter Tryz.func97, Tryz.ntmps97
  go_wp2_with fail
  refine H.mono ?_
  clear H
  rintro e w1 ⟨⟨k, rfl, hk⟩, rfl⟩
  go_wp2
  all_goals go_ret
  all_goals exact ⟨ret_bool (by simp_all), rfl⟩

set_option maxHeartbeats 400000 in
theorem is_any (hL : LOk L) (h : Pst w B pb tv L ok d s) (b c : Nat) (ms : List (List UInt8)) (hm : Strs w b ms) (hn : ms.length ≤ 4000) :
    Calls Tryz.prog 72 #[.pointer (some ⟨pb, 0, none⟩), .slice (some ⟨b, 0, none⟩) ms.length c] w fun e w' => e = .returned (.bool (M.isM L s.i ms)) ∧ Chg (fun _ => False) w w' := by
  have H := token_any hL h
  have hf0 := tok_kind
  have hf1 := tok_text
  unfold M.isM
  generalize M.tk L s.i = tk at *
  obtain ⟨kd, tx, pl⟩ := tk
  simp only [tkv] at H ⊢
  have HC : ∀ w1 : World, Chg (fun _ => False) w w1 → Calls Tryz.prog 97 #[.slice (some ⟨b, 0, none⟩) ms.length c, .string ⟨tx.toArray⟩] w1 fun e w' => e = .returned (.bool (M.has ms tx)) ∧ w' = w1 := fun w1 h1 => contains_any w1 b c ms tx (hm.still h1) hn
  generalize M.has ms tx = r at *
  clear h hL hm
  go_enter Tryz.func72, Tryz.ntmps72
  go_wp2_with fail
  refine H.mono ?_
  clear H
  rintro e w1 ⟨rfl, hc1⟩
  have HC1 := hide hc1
  clear hc1
  by_cases h5 : kd = 5
  · subst h5
    go_wp2_with fail
    refine (HC _ (HC1.out.trans (Chg.alloc (fun _ => False) _ _) (fun _ _ x => x))).mono ?_
    clear HC
    rintro e w2 ⟨rfl, rfl⟩
    go_wp2
    go_ret
    exact ⟨ret_bool (by simp), HC1.out.trans (Chg.alloc (fun _ => False) _ _) (fun _ _ x => x)⟩
  · by_cases h2 : kd = 2
    · subst h2
      go_wp2_with fail
      refine (HC _ (HC1.out.trans (Chg.alloc (fun _ => False) _ _) (fun _ _ x => x))).mono ?_
      clear HC
      rintro e w2 ⟨rfl, rfl⟩
      go_wp2
      go_ret
      exact ⟨ret_bool (by simp), HC1.out.trans (Chg.alloc (fun _ => False) _ _) (fun _ _ x => x)⟩
    · have h5' : (kd == 5) = false := by simp [h5]
      have h2' : (kd == 2) = false := by simp [h2]
      go_wp2_with fail
      go_ret
      exact ⟨ret_bool (by simp [h5, h2]), HC1.out.trans (Chg.alloc (fun _ => False) _ _) (fun _ _ x => x)⟩

theorem LOk.mark (hL : LOk L) {i : Nat} {ms : List (List UInt8)} (hi : i < L.length) (h : M.isM L i ms = true) : i + 1 < L.length := by
  have h1 := (hL.last i hi).2
  by_cases h2 : i + 1 = L.length
  · have := h1 h2
    simp [M.isM, this] at h
  · omega

theorem strs_one (w : World) (m : List UInt8) (t : TypeId) : Strs (w.alloc (.cells #[.string ⟨m.toArray⟩] t)) w.heap.size [m] := by
  refine ⟨by simp, fun j hj => ?_⟩
  simp only [List.length_cons, List.length_nil, Nat.zero_add] at hj
  have : j = 0 := by omega
  subst this
  simp [World.cell?_alloc_new]

set_option maxHeartbeats 400000 in
theorem took_any (hL : LOk L) (h : Pst w B pb tv L ok d s) (m : List UInt8) :
    Calls Tryz.prog 99 #[.pointer (some ⟨pb, 0, none⟩), .string ⟨m.toArray⟩] w fun e w' => e = .returned (.bool (M.isM L s.i [m])) ∧ Kept B ok w w' ∧ Pst w' B pb tv L ok d (if M.isM L s.i [m] then s.nx else s) := by
  have H : Calls Tryz.prog 72 #[.pointer (some ⟨pb, 0, none⟩), .slice (some ⟨w.heap.size, 0, none⟩) 1 1] (w.alloc (.cells #[.string ⟨m.toArray⟩] 9)) _ := is_any hL (h.alloc _) w.heap.size 1 [m] (strs_one w m _) (by simp)
  have HM := hide (fun hq : M.isM L s.i [m] = true => hL.mark h.at' hq)
  have hi := h.at'
  have hs := hL.short
  generalize M.isM L s.i [m] = r at *
  go_enter Tryz.func99, Tryz.ntmps99
  go_wp2_with fail
  refine H.mono ?_
  clear H
  rintro e w1 ⟨rfl, hc⟩
  have HP := hide ((h.alloc _).still hc)
  have HK := hide (((Kept.refl B ok w).alloc _).trans (still_kept hc))
  clear hc h
  cases r
  · go_wp2
    go_ret
    exact ⟨rfl, HK.out, HP.out⟩
  · obtain ⟨g, c, nv, yv, -, -, -, -, hlt, -, c1, -, -, -, fz, -⟩ := HP.out.cell
    go_wp2
    go_ret
    exact ⟨rfl, HK.out.trans (HP.out.keptSet _ _), HP.out.next (HM.out trivial)⟩

set_option maxHeartbeats 400000 in
theorem need_any (hL : LOk L) (h : Pst w B pb tv L ok d s) (m : List UInt8) :
    Calls Tryz.prog 117 #[.pointer (some ⟨pb, 0, none⟩), .string ⟨m.toArray⟩] w fun e w' => Kept B ok w w' ∧
      (M.isM L s.i [m] = true ∧ e = .returned (.tuple #[]) ∧ Pst w' B pb tv L ok d s.nx ∨ M.isM L s.i [m] = false ∧ e = gu 1 ((M.tk L s.i).at' : Int)) := by
  have H := took_any hL h m
  have HF := fun w1 (h1 : Pst w1 B pb tv L ok d s) => fail_any hL h1 1
  generalize M.isM L s.i [m] = r at *
  generalize ((M.tk L s.i).at' : Int) = p at *
  go_enter Tryz.func117, Tryz.ntmps117
  go_wp2_with fail
  refine H.mono ?_
  clear H h
  rintro e w1 ⟨rfl, hk, hp⟩
  cases r
  · have HK := hide hk
    have HP := hide hp
    clear hk hp
    go_wp2_with fail
    refine (HF _ (by simpa using HP.out)).mono ?_
    rintro e w2 ⟨rfl, hc⟩
    exact ⟨rfl, HK.out.trans (still_kept hc), .inr ⟨rfl, rfl⟩⟩
  · go_wp2
    go_end0
    exact ⟨hk, rfl, by simpa using hp⟩

set_option maxHeartbeats 400000 in
theorem take_any (hL : LOk L) (h : Pst w B pb tv L ok d s) (hk : (M.tk L s.i).kind ≠ 6) :
    Calls Tryz.prog 148 #[.pointer (some ⟨pb, 0, none⟩)] w fun e w' => e = .returned (tkv (M.tk L s.i)) ∧ Kept B ok w w' ∧ Pst w' B pb tv L ok d s.nx := by
  have hm : s.i + 1 < L.length := by
    have h1 := hL.last s.i h.at'
    have h2 := h.at'
    omega
  have H := fun w1 (h1 : Pst w1 B pb tv L ok d s) => token_any hL h1
  have hs := hL.short
  clear hk
  generalize M.tk L s.i = tk at *
  obtain ⟨kd, tx, pl⟩ := tk
  simp only [tkv] at H ⊢
  generalize (⟨tx.toArray⟩ : ByteArray) = bx at *
  go_enter Tryz.func148, Tryz.ntmps148
  go_wp2_with fail
  refine (H _ (h.alloc _)).mono ?_
  clear H
  rintro e w1 ⟨rfl, hc⟩
  have HP := hide ((h.alloc _).still hc)
  have HK := hide (((Kept.refl B ok w).alloc _).trans (still_kept hc))
  obtain ⟨qc, qf, hz⟩ := own_cell hc (fun x => x)
  have q0 := qc 0 _ rfl
  have q1 := qc 1 _ rfl
  have q2 := qc 2 _ rfl
  obtain ⟨-, -, -, -, -, -, -, -, hpb, -⟩ := h.cell
  have HQ := hide ((hc.block w.heap.size (by simp) (fun x => x)).trans (heap_alloc_new w _))
  have HT := hide (h.tokLt (Nat.le_refl _))
  clear hc h qc
  obtain ⟨g, c, nv, yv, -, -, -, -, hlt, -, c1, -, -, -, fz, -⟩ := HP.out.cell
  go_wp2_with fail
  have hq := HQ.out
  have hne : pb ≠ w.heap.size := by omega
  have P1 := HP.out.next hm
  have P2 := P1.setOwn (q := w.heap.size) (o := 0) (.int .i64 kd) (by rw [heap_setCell_other _ _ _ _ (by show w.heap.size ≠ pb; omega)]; exact hq) HT.out (by decide)
  have P3 := P2.setOwn (q := w.heap.size) (o := 1) (.string bx) (heap_setCell_same _ _ _ _ _ _ (by rw [heap_setCell_other _ _ _ _ (by show w.heap.size ≠ pb; omega)]; exact hq)) HT.out (by decide)
  have P4 := P3.setOwn (q := w.heap.size) (o := 2) (.int .i64 pl) (heap_setCell_same _ _ _ _ _ _ (heap_setCell_same _ _ _ _ _ _ (by rw [heap_setCell_other _ _ _ _ (by show w.heap.size ≠ pb; omega)]; exact hq))) HT.out (by decide)
  exact bodyPost_ret (v := .agg #[.int .i64 kd, .string bx, .int .i64 pl]) (by simp [results, Tryz.results148, go_sem, q0, q1, q2, hz]) rfl
    ⟨rfl, ((((HK.out.trans (HP.out.keptSet _ _)).setOwn _ (Nat.le_refl _)).setOwn _ (Nat.le_refl _)).setOwn _ (Nat.le_refl _)).alloc _, P4.alloc _⟩
end
end Go.Proofs.YtkilicjjaljghaaGreat
