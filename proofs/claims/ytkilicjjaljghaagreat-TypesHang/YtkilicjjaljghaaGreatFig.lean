/-
  The contract of Fits, closed.
-/
import Derived.Test.YtkilicjjaljghaaGreatFif
import Derived.Deep.DeepCutAuto
namespace Go.Proofs.YtkilicjjaljghaaGreat
open Go.RowKit Go.Maps

section
variable {lb mb N : Nat} {T : List M.Ty}

theorem tr_k {a : Nat} (hT : M.TsOk T) (ha : a < T.length) : (M.tr T a).k = T[a].kind := by rw [M.tr_eq hT ha]; rfl
theorem tr_ns {a : Nat} (hT : M.TsOk T) (ha : a < T.length) : (M.tr T a).ns = T[a].fields.map (·.1) := by rw [M.tr_eq hT ha]; rfl
theorem fld_nil {a : Nat} (hT : M.TsOk T) (ha : a < T.length) (hk : T[a].kind ≠ 7) : T[a].fields = [] := by
  rcases hT a ha with h | h | h | h | h
  · exact h.2.2.1
  · omega
  · exact h.2.1
  · exact h.2.1
  · exact h.2.1
theorem lst_nil {a : Nat} (hT : M.TsOk T) (ha : a < T.length) (hk : T[a].kind = 7 ∨ T[a].kind = 8) : T[a].list = [] := by
  rcases hT a ha with h | h | h | h | h
  · omega
  · exact h.2.1
  · exact h.2.2.1
  · omega
  · omega
theorem tr_ks {a : Nat} (hT : M.TsOk T) (ha : a < T.length) : (M.tr T a).ks = (if T[a].kind = 8 ∨ T[a].kind = 9 then [M.tr T T[a].of'.toNat] else []) ++ (T[a].fields.map fun p => M.tr T p.2.toNat) ++ T[a].list.map fun x => M.tr T x.toNat := by rw [M.tr_eq hT ha]; rfl

section
variable {a b : Nat} (hT : M.TsOk T) (ha : a < T.length) (hb : b < T.length)
include hT ha hb
theorem fits_wild (h : T[a].kind = 5 ∨ T[b].kind = 5 ∨ T[b].kind = 6) : M.fits (M.tr T a) (M.tr T b) = true := by
  rw [M.fits_eq, tr_k hT ha, tr_k hT hb, if_pos h]
theorem fits_uniL (h : ¬ (T[a].kind = 5 ∨ T[b].kind = 5 ∨ T[b].kind = 6)) (h2 : T[a].kind = 10) : M.fits (M.tr T a) (M.tr T b) = !T[a].list.any fun x => !M.fits (M.tr T x.toNat) (M.tr T b) := by
  rw [not_any_not (fun x : Int => M.fits (M.tr T x.toNat) (M.tr T b)), M.fits_eq, tr_k hT ha, tr_k hT hb, if_neg h, if_pos h2, tr_ks hT ha, fld_nil hT ha (by omega), if_neg (by omega)]
  simp [List.all_map, Function.comp_def]
theorem fits_uniR (h : ¬ (T[a].kind = 5 ∨ T[b].kind = 5 ∨ T[b].kind = 6)) (h1 : T[a].kind ≠ 10) (h2 : T[b].kind = 10) : M.fits (M.tr T a) (M.tr T b) = T[b].list.any fun x => M.fits (M.tr T a) (M.tr T x.toNat) := by
  rw [M.fits_eq, tr_k hT ha, tr_k hT hb, if_neg h, if_neg h1, if_pos h2, tr_ks hT hb, fld_nil hT hb (by omega), if_neg (by omega)]
  simp [List.any_map, Function.comp_def]
theorem fits_part (h : ¬ (T[a].kind = 5 ∨ T[b].kind = 5 ∨ T[b].kind = 6)) (h1 : T[a].kind ≠ 10) (h2 : T[b].kind ≠ 10) (h3 : T[a].kind ≠ T[b].kind) : M.fits (M.tr T a) (M.tr T b) = false := by
  rw [M.fits_eq, tr_k hT ha, tr_k hT hb, if_neg h, if_neg h1, if_neg h2, if_pos h3]
theorem fits_objs (h1 : T[a].kind = 7) (h2 : T[b].kind = 7) : M.fits (M.tr T a) (M.tr T b) = T[b].fields.all fun p => wantOk T T[a].fields p := by
  rw [M.fits_eq, tr_k hT ha, tr_k hT hb, if_neg (by omega), if_neg (by omega), if_neg (by omega), if_neg (by omega), if_pos h1, tr_ks hT hb, tr_ks hT ha, tr_ns hT ha, tr_ns hT hb, if_neg (by omega), if_neg (by omega), lst_nil hT ha (.inl h1), lst_nil hT hb (.inl h2)]
  simp only [List.nil_append, List.map_nil, List.append_nil]
  generalize T[b].fields = gs
  induction gs with
  | nil => rfl
  | cons p gs ih => rw [List.map_cons, List.map_cons, List.zip_cons_cons, List.all_cons, List.all_cons, ih]; rfl
theorem fits_arrs (h1 : T[a].kind = 8) (h2 : T[b].kind = 8) : M.fits (M.tr T a) (M.tr T b) = M.fits (M.tr T T[a].of'.toNat) (M.tr T T[b].of'.toNat) := by
  rw [M.fits_eq, tr_k hT ha, tr_k hT hb, if_neg (by omega), if_neg (by omega), if_neg (by omega), if_neg (by omega), if_neg (by omega), if_pos h1, tr_ks hT hb, tr_ks hT ha, if_pos (.inl h1), if_pos (.inl h2)]
  rfl
theorem fits_plain (h : ¬ (T[a].kind = 5 ∨ T[b].kind = 5 ∨ T[b].kind = 6)) (h1 : T[a].kind ≠ 10) (h2 : T[a].kind = T[b].kind) (h3 : T[a].kind ≠ 7) (h4 : T[a].kind ≠ 8) (h5 : T[a].kind ≠ 9) : M.fits (M.tr T a) (M.tr T b) = true := by
  rw [M.fits_eq, tr_k hT ha, tr_k hT hb, if_neg h, if_neg h1, if_neg (by omega), if_neg (by omega), if_neg h3, if_neg h4, if_neg h5]
end

theorem fit_fin {w wc w' : World} {D : Dt} {m n : Nat} {R : Bool} (hc : Chg (fun _ => False) w wc) (hM : Mid wc mb N T D m w') (hm : m ≤ n + 1) : FitP w mb N T D n R (.returned (.bool R)) w' := by
  obtain ⟨D', h1, h2⟩ := hM.memo
  exact ⟨rfl, (hc.mono fun _ _ x => x.elim).trans hM.chg (fun _ _ x => x), D', h1, fun p q hp hq hpq => h2 p q hp hq (by omega)⟩

set_option maxRecDepth 10000 in
set_option maxHeartbeats 1000000 in
theorem fits_any (m : Nat) (IH : FitC lb mb N T m) (w : World) (D : Dt) (h : Shp w lb mb N T D) (a b : Nat) (ha : a < T.length) (hb : b < T.length) (hm : a + b = m) :
    Calls Tryz.prog 19 #[.pointer (some ⟨lb, 0, none⟩), .int .i64 (a : Int), .int .i64 (b : Int)] w (FitP w mb N T D (a + b) (M.fits (M.tr T a) (M.tr T b))) := by
  have hmf : ∀ (fn : Fn) (first cap : Array Value) (w : World), (Instr.makeFunc fn first cap).run Tryz.prog w = .ok (.func fn first cap) w := fun _ _ _ _ => rfl
  have hT := h.ok
  have hfew := h.few
  obtain ⟨ad, c, c0, c1, hlt, fz, hcell⟩ := h.cell
  obtain ⟨g, fa, fc, la, ac, rfl, hg, hc1, hc2, x0, x1, x2, x3, of1, ol1⟩ := hcell a ha
  obtain ⟨g', fb, fbc, lb2, bc, hgg, -, -, -, z0, z1, z2, z3, of2, ol2⟩ := hcell b hb
  simp only [Option.some.injEq, Addr.mk.injEq, and_true] at hgg
  subst hgg
  unfold maxLen at hc2
  have ha' : (a : Int) < (T.length : Int) := by omega
  have hb' : (b : Int) < (T.length : Int) := by omega
  have H0 := hide h
  have HF1 := hide of1
  have HF2 := hide of2
  have HL1 := hide ol1
  have HL2 := hide ol2
  have HMM := hide hm
  have L1 := hide (fits_wild hT ha hb)
  have L2 := hide (fits_uniL hT ha hb)
  have L3 := hide (fits_uniR hT ha hb)
  have L4 := hide (fits_part hT ha hb)
  have L5 := hide (fits_objs hT ha hb)
  have L6 := hide (fits_arrs hT ha hb)
  have L7 := hide (fun (h9 : T[a].kind = 9) (h9' : T[b].kind = 9) (w1 : World) (h1 : Shp w1 lb mb N T D) => functionFits_any m IH w1 D h1 a b ha hb hm h9 h9')
  have L8 := hide (fits_plain hT ha hb)
  have LA := hide (hT a ha).lst
  have LB := hide (hT b hb).lst
  have FA := hide (hT a ha).fld
  have FB := hide (hT b hb).fld
  have OA := hide (fun hx => (hT a ha).of hx)
  have OB := hide (fun hx => (hT b hb).of hx)
  clear h hcell of1 ol1 of2 ol2 hm
  generalize hka : T[a].kind = ka at *
  generalize hkb : T[b].kind = kb at *
  clear hka hkb
  generalize T[a].fields = fs at *
  generalize T[b].fields = gs at *
  generalize T[a].list = xs at *
  generalize T[b].list = ys at *
  generalize T[a].of' = ox at *
  generalize T[b].of' = oy at *
  generalize M.fits (M.tr T a) (M.tr T b) = R at *
  obtain ⟨e0, e1, e2⟩ := heap_three w (.cells #[.pointer (some ⟨lb, 0, none⟩)] 41) (.cells #[.int .i64 (a : Int)] 3) (.cells #[.int .i64 (b : Int)] 3)
  have B0 : Hid (Box (((w.alloc (.cells #[.pointer (some ⟨lb, 0, none⟩)] 41)).alloc (.cells #[.int .i64 (a : Int)] 3)).alloc (.cells #[.int .i64 (b : Int)] 3)) w.heap.size (.pointer (some ⟨lb, 0, none⟩)) 41) := ⟨e0⟩
  have B1 : Hid (Box (((w.alloc (.cells #[.pointer (some ⟨lb, 0, none⟩)] 41)).alloc (.cells #[.int .i64 (a : Int)] 3)).alloc (.cells #[.int .i64 (b : Int)] 3)) (w.heap.size + 1) (.int .i64 (a : Int)) 3) := ⟨e1⟩
  have B2 : Hid (Box (((w.alloc (.cells #[.pointer (some ⟨lb, 0, none⟩)] 41)).alloc (.cells #[.int .i64 (a : Int)] 3)).alloc (.cells #[.int .i64 (b : Int)] 3)) (w.heap.size + 1 + 1) (.int .i64 (b : Int)) 3) := ⟨e2⟩
  have hw : ∀ {q o v}, w.cell? ⟨q, o, none⟩ = some v → (((w.alloc (.cells #[.pointer (some ⟨lb, 0, none⟩)] 41)).alloc (.cells #[.int .i64 (a : Int)] 3)).alloc (.cells #[.int .i64 (b : Int)] 3)).cell? ⟨q, o, none⟩ = some v := fun {q o v} hx => by
    have hq : q < w.heap.size := World.block_lt_of_cell? w _ hx
    exact cell_old (by simp; omega) (cell_old (by simp; omega) (cell_old hq hx))
  have C3 := hide (((Chg.alloc (fun _ => False) w (.cells #[.pointer (some ⟨lb, 0, none⟩)] 41)).trans (Chg.alloc (fun _ => False) _ (.cells #[.int .i64 (a : Int)] 3)) (fun _ _ x => x)).trans (Chg.alloc (fun _ => False) _ (.cells #[.int .i64 (b : Int)] 3)) (fun _ _ x => x))
  have b0 := B0.out.cell
  have b1 := B1.out.cell
  have b2 := B2.out.cell
  replace c0 := hw c0
  replace x0 := hw x0
  replace x1 := hw x1
  replace x2 := hw x2
  replace x3 := hw x3
  replace z0 := hw z0
  replace z1 := hw z1
  replace z2 := hw z2
  replace z3 := hw z3
  have hs3 : (((w.alloc (.cells #[.pointer (some ⟨lb, 0, none⟩)] 41)).alloc (.cells #[.int .i64 (a : Int)] 3)).alloc (.cells #[.int .i64 (b : Int)] 3)).heap.size = w.heap.size + 3 := by simp
  clear hw e0 e1 e2 c1 fz
  go_enter Tryz.func19, Tryz.ntmps19
  go_wp2_with fail
  generalize (((w.alloc (.cells #[.pointer (some ⟨lb, 0, none⟩)] 41)).alloc (.cells #[.int .i64 (a : Int)] 3)).alloc (.cells #[.int .i64 (b : Int)] 3)) = W at *
  have HS3 := hide hs3
  have hgW : g < W.heap.size := by omega
  have hlW : lb < W.heap.size := by omega
  have hs0 : w.heap.size < W.heap.size := by omega
  have hs1 : w.heap.size + 1 < W.heap.size := by omega
  have hs2 : w.heap.size + 1 + 1 < W.heap.size := by omega
  clear hs3
  go_cut [7, 8] (fun v7 v8 wc => ∃ p q : Nat, v7 = .pointer (some ⟨p, 0, none⟩) ∧ v8 = .pointer (some ⟨q, 0, none⟩) ∧ Hid (Chg (fun _ => False) W wc) ∧ wc.cell? ⟨p, 0, none⟩ = some (.int .i64 ka) ∧ wc.cell? ⟨p, 1, none⟩ = some (.slice fa fs.length fc) ∧ wc.cell? ⟨p, 2, none⟩ = some (.slice la xs.length ac) ∧ wc.cell? ⟨p, 3, none⟩ = some (.int .i64 ox) ∧
    wc.cell? ⟨q, 0, none⟩ = some (.int .i64 kb) ∧ wc.cell? ⟨q, 1, none⟩ = some (.slice fb gs.length fbc) ∧ wc.cell? ⟨q, 2, none⟩ = some (.slice lb2 ys.length bc) ∧ wc.cell? ⟨q, 3, none⟩ = some (.int .i64 oy))
  case first =>
    go_region_held3 (fun w' => w'.cell? ⟨w.heap.size, 0, none⟩ = some (.pointer (some ⟨lb, 0, none⟩)) ∧ w'.cell? ⟨w.heap.size + 1, 0, none⟩ = some (.int .i64 (a : Int)) ∧ w'.cell? ⟨w.heap.size + 1 + 1, 0, none⟩ = some (.int .i64 (b : Int)) ∧ w'.cell? ⟨lb, 0, none⟩ = some (.slice (some ⟨g, 0, none⟩) T.length c) ∧
        w'.cell? ⟨g, a * 4, none⟩ = some (.int .i64 ka) ∧ w'.cell? ⟨g, a * 4 + 1, none⟩ = some (.slice fa fs.length fc) ∧ w'.cell? ⟨g, a * 4 + 2, none⟩ = some (.slice la xs.length ac) ∧ w'.cell? ⟨g, a * 4 + 3, none⟩ = some (.int .i64 ox) ∧
        w'.cell? ⟨g, b * 4, none⟩ = some (.int .i64 kb) ∧ w'.cell? ⟨g, b * 4 + 1, none⟩ = some (.slice fb gs.length fbc) ∧ w'.cell? ⟨g, b * 4 + 2, none⟩ = some (.slice lb2 ys.length bc) ∧ w'.cell? ⟨g, b * 4 + 3, none⟩ = some (.int .i64 oy))
      (go_keep) (fail)
    all_goals go_wp2_with fail
    all_goals go_meet
    all_goals exact ⟨_, _, rfl, rfl, ((Chg.alloc (fun _ => False) _ _).trans (Chg.alloc (fun _ => False) _ _) (fun _ _ x => x)).trans (Chg.drewN (fun _ => False) _ 1) (fun _ _ x => x), by simp [go_sem], by simp [go_sem], by simp [go_sem], by simp [go_sem], by simp [go_sem], by simp [go_sem], by simp [go_sem], by simp [go_sem]⟩
  case rest =>
    obtain ⟨p, q, rfl, rfl, CW, p0, p1, p2, p3, q0, q1, q2, q3⟩ := hcut
    have S1 := hide (H0.out.still (C3.out.trans CW.out (fun _ _ x => x)))
    have C4 := hide (C3.out.trans CW.out (fun _ _ x => x))
    have D0 := hide (B0.out.still CW.out)
    have D1 := hide (B1.out.still CW.out)
    have D2 := hide (B2.out.still CW.out)
    have d0 := D0.out.cell
    have d1 := D1.out.cell
    have d2 := D2.out.cell
    have C5 : Hid (∀ w' R', Mid wc mb N T D m w' → FitP w mb N T D (a + b) R' (.returned (.bool R')) w') := fun w' R' hM => fit_fin C4.out hM (by have := HMM.out; omega)
    have M0 := hide (Mid.refl S1.out m)
    have O1 := hide (owns_chg HL1.out C4.out (fun _ _ x => x))
    have O2 := hide (owns_chg HL2.out C4.out (fun _ _ x => x))
    have O3 := hide (owns_chg HF1.out C4.out (fun _ _ x => x))
    have O4 := hide (owns_chg HF2.out C4.out (fun _ _ x => x))
    clear x0 x1 x2 x3 z0 z1 z2 z3 b0 b1 b2 c0
    by_cases hA5 : ka = 5
    · subst hA5
      have hR := L1.out (.inl rfl)
      subst hR
      go_wp2
      go_ret
      exact C5.out _ _ M0.out
    have hA5' : (ka == 5) = false := by simp [hA5]
    by_cases hB5 : kb = 5
    · subst hB5
      have hR := L1.out (.inr (.inl rfl))
      subst hR
      go_wp2
      go_ret
      exact C5.out _ _ M0.out
    have hB5' : (kb == 5) = false := by simp [hB5]
    by_cases hB6 : kb = 6
    · subst hB6
      have hR := L1.out (.inr (.inr rfl))
      subst hR
      go_wp2
      go_ret
      exact C5.out _ _ M0.out
    have hB6' : (kb == 6) = false := by simp [hB6]
    have NW : Hid (¬ (ka = 5 ∨ kb = 5 ∨ kb = 6)) := by show ¬ _; omega
    by_cases hA10 : ka = 10
    · subst hA10
      have hR := L2.out NW.out rfl
      have HC := contains1_any m IH wc D S1.out la ac xs O1.out b w.heap.size (w.heap.size + 1 + 1) hb (fun x hx => by have := LA.out x hx; have := HMM.out; omega) D0.out D2.out
      generalize (xs.any fun x => !M.fits (M.tr T x.toNat) (M.tr T b)) = R1 at *
      subst hR
      clear L1 L2 L3 L4 L5 L6 L7 L8
      go_wp2_with fail
      refine HC.mono ?_
      clear HC
      rintro e w2 ⟨rfl, hM⟩
      go_wp2
      go_ret
      exact C5.out _ _ hM
    have hA10' : (ka == 10) = false := by simp [hA10]
    by_cases hB10 : kb = 10
    · subst hB10
      have hR := L3.out NW.out hA10 rfl
      have HC := contains2_any m IH wc D S1.out lb2 bc ys O2.out a w.heap.size (w.heap.size + 1) ha (fun x hx => by have := LB.out x hx; have := HMM.out; omega) D0.out D1.out
      generalize (ys.any fun x => M.fits (M.tr T a) (M.tr T x.toNat)) = R1 at *
      subst hR
      clear L1 L2 L3 L4 L5 L6 L7 L8
      go_wp2_with fail
      refine HC.mono ?_
      clear HC
      rintro e w2 ⟨rfl, hM⟩
      go_wp2
      go_ret
      exact C5.out _ _ hM
    have hB10' : (kb == 10) = false := by simp [hB10]
    by_cases hAB : ka = kb
    · subst hAB
      have hne : (ka != ka) = false := by simp
      by_cases h7 : ka = 7
      · subst h7
        have hR := L5.out rfl rfl
        have HC := objectFits_any m IH wc D S1.out fa fc fs O3.out fb fbc gs O4.out (fun p hp => by have hp' := FA.out p hp; have hm' := HMM.out; exact ⟨hp'.1, by omega, fun q hq => by have := FB.out q hq; omega⟩) (fun q hq => by have := FB.out q hq; omega)
        generalize (gs.all fun p => wantOk T fs p) = R1 at *
        subst hR
        clear L1 L2 L3 L4 L5 L6 L7 L8
        go_wp2_with fail
        refine HC.mono ?_
        clear HC
        rintro e w2 ⟨rfl, hM⟩
        go_wp2
        go_ret
        exact C5.out _ _ hM
      have h7' : (ka == 7) = false := by simp [h7]
      by_cases h8 : ka = 8
      · subst h8
        have hR := L6.out rfl rfl
        have ho1 := OA.out (.inl rfl)
        have ho2 := OB.out (.inl rfl)
        obtain ⟨o1, rfl⟩ : ∃ x : Nat, ox = (x : Int) := ⟨ox.toNat, by omega⟩
        obtain ⟨o2, rfl⟩ : ∃ x : Nat, oy = (x : Int) := ⟨oy.toNat, by omega⟩
        simp only [Int.toNat_natCast] at hR
        have HC := fits_mid IH S1.out (a := o1) (b := o2) (by have := HMM.out; omega) (by omega) (by omega) wc M0.out
        generalize M.fits (M.tr T o1) (M.tr T o2) = R1 at *
        subst hR
        clear L1 L2 L3 L4 L5 L6 L7 L8
        go_wp2_with fail
        refine HC.mono ?_
        clear HC
        rintro e w2 ⟨rfl, -, hM⟩
        go_wp2
        go_ret
        exact C5.out _ _ hM
      have h8' : (ka == 8) = false := by simp [h8]
      by_cases h9 : ka = 9
      · subst h9
        have HC := L7.out rfl rfl wc S1.out
        clear L1 L2 L3 L4 L5 L6 L7 L8
        go_wp2_with fail
        refine HC.mono ?_
        clear HC
        rintro e w2 ⟨rfl, hM, hD⟩
        go_wp2
        go_ret
        exact ⟨rfl, (C4.out.mono fun _ _ x => x.elim).trans hM (fun _ _ x => x), hD⟩
      have h9' : (ka == 9) = false := by simp [h9]
      have hR := L8.out NW.out hA10 rfl h7 h8 h9
      subst hR
      clear L1 L2 L3 L4 L5 L6 L7 L8
      go_wp2
      go_ret
      exact C5.out _ _ M0.out
    · have hne : (ka != kb) = true := by simp [hAB]
      have hR := L4.out NW.out hA10 hB10 hAB
      subst hR
      clear L1 L2 L3 L4 L5 L6 L7 L8
      go_wp2
      go_ret
      exact C5.out _ _ M0.out

/-- Fits, closed. -/
theorem fits_con : ∀ m, FitC lb mb N T m
  | 0 => fun a b w D hm _ _ _ => by omega
  | m + 1 => by
    intro a b w D hm ha hb h
    by_cases hl : a + b + 1 ≤ m
    · exact fits_con m a b w D hl ha hb h
    · have he : a + b = m := by omega
      exact fits_any m (fits_con m) w D h a b ha hb he
end
end Go.Proofs.YtkilicjjaljghaaGreat
