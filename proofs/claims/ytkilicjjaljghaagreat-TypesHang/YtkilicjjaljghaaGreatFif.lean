/-
  The contract of functionFits.
-/
import Derived.Test.YtkilicjjaljghaaGreatFie
namespace Go.Proofs.YtkilicjjaljghaaGreat
open Go.RowKit Go.Maps

theorem Tryz.zeroInt (w : World) : (zeroValue 3).run Tryz.prog w = .ok (.int .i64 0) w := by kernel_rfl

section
variable {lb mb N : Nat} {T : List M.Ty}

theorem all_zip_map {α β : Type} (f : α → β) (p : β × β → Bool) : ∀ (l l' : List α), ((l.map f).zip (l'.map f)).all p = (l.zip l').all fun x => p (f x.1, f x.2)
  | [], _ => by simp
  | _ :: _, [] => by simp
  | a :: l, b :: l' => by simp only [List.map_cons, List.zip_cons_cons, List.all_cons, all_zip_map f p l l']

theorem fits_funcs {a b : Nat} (hT : M.TsOk T) (ha : a < T.length) (hb : b < T.length) (ka : T[a].kind = 9) (kb : T[b].kind = 9) :
    M.fits (M.tr T a) (M.tr T b) = ((decide (T[a].list.length ≤ T[b].list.length) && (T[a].list.zip T[b].list).all (parOk T)) && M.fits (M.tr T T[a].of'.toNat) (M.tr T T[b].of'.toNat)) := by
  have hfld : ∀ i (hi : i < T.length), T[i].kind = 9 → T[i].fields = [] := by
    intro i hi hk
    rcases hT i hi with h | h | h | h | h
    · omega
    · omega
    · omega
    · exact h.2.1
    · omega
  rw [M.tr_eq hT ha, M.tr_eq hT hb, ka, kb, hfld a ha ka, hfld b hb kb]
  rw [if_pos (.inr rfl), if_pos (.inr rfl)]
  simp only [List.map_nil, List.append_nil, List.singleton_append]
  rw [M.fits_fn]
  simp only [List.length_map]
  rw [all_zip_map]
  rfl

theorem keep5 {w a b : World} {D : Dt} {m : Nat} {p1 p2 p3 p4 p5 : Nat × Nat} {v1 v2 v3 v4 v5 : Value} (hc : Chg (fun k => k = mb) a b) (hm : Mid w mb N T D m b)
    (h : a.cell? ⟨p1.1, p1.2, none⟩ = some v1 ∧ a.cell? ⟨p2.1, p2.2, none⟩ = some v2 ∧ a.cell? ⟨p3.1, p3.2, none⟩ = some v3 ∧ a.cell? ⟨p4.1, p4.2, none⟩ = some v4 ∧ a.cell? ⟨p5.1, p5.2, none⟩ = some v5 ∧ Hid (Mid w mb N T D m a)) :
    b.cell? ⟨p1.1, p1.2, none⟩ = some v1 ∧ b.cell? ⟨p2.1, p2.2, none⟩ = some v2 ∧ b.cell? ⟨p3.1, p3.2, none⟩ = some v3 ∧ b.cell? ⟨p4.1, p4.2, none⟩ = some v4 ∧ b.cell? ⟨p5.1, p5.2, none⟩ = some v5 ∧ Hid (Mid w mb N T D m b) :=
  ⟨cell_memo h.2.2.2.2.2.out hc h.1, cell_memo h.2.2.2.2.2.out hc h.2.1, cell_memo h.2.2.2.2.2.out hc h.2.2.1, cell_memo h.2.2.2.2.2.out hc h.2.2.2.1, cell_memo h.2.2.2.2.2.out hc h.2.2.2.2.1, hm⟩

/-- The map is asked. -/
theorem look {w : World} {D : Dt} {a b : Nat} {c : Int} (hm : Mst w mb N T D) (ha : a < T.length) (hb : b < T.length) (hc : at2 D a b = .lit (.int .i64 c)) (n : Nat) :
    (Instr.lookup 63 (.map (some mb)) (.agg #[.int .i64 (a : Int), .int .i64 (b : Int)]) false).run Tryz.prog (w.drewN n) = .ok (.int .i64 c) (w.drewN n) := by
  have h1 := hm.len
  have h2 := hm.few
  obtain ⟨k, ho, _⟩ := hm.own
  have ho' : (w.drewN n).ownsMap Tryz.prog 104 (plainElem Tryz.prog 3) mb k D := ho
  obtain ⟨c', hrun, hat, _⟩ := ho'.lookup_int lawPair Tryz.underlying63 Tryz.underlying3 (Tryz.zeroInt _) (keyOf_pair a b (wf_small a (by omega)) (wf_small b (by omega)))
  have e : at2 D a b = .lit (.int .i64 c') := hat
  rw [hc] at e
  simp only [DataW.lit.injEq, Lit.int.injEq, true_and] at e
  rw [e]
  exact hrun
theorem look_some {w : World} {D : Dt} {a b : Nat} (hm : Mst w mb N T D) (ha : a < T.length) (hb : b < T.length) : ∃ c, at2 D a b = .lit (.int .i64 c) := by
  have h1 := hm.len
  have h2 := hm.few
  obtain ⟨k, ho, _⟩ := hm.own
  obtain ⟨c', hrun, hat, _⟩ := ho.lookup_int lawPair Tryz.underlying63 Tryz.underlying3 (Tryz.zeroInt _) (keyOf_pair a b (wf_small a (by omega)) (wf_small b (by omega)))
  exact ⟨c', hat⟩

/-- .. and told. -/
theorem tell {w w1 w2 : World} {D : Dt} {m a b : Nat} (h0 : Chg (fun _ => False) w w1) (hM : Mid w1 mb N T D m w2) (ha : a < T.length) (hb : b < T.length) (hz : at2 D a b = .lit (.int .i64 0)) (hm : m ≤ a + b) (r : Bool) (hr : M.fits (M.tr T a) (M.tr T b) = r) :
    ∃ w3, (Instr.mapUpdate 63 (.map (some mb)) (.agg #[.int .i64 (a : Int), .int .i64 (b : Int)]) (.int .i64 (if r then 1 else 2))).run Tryz.prog w2.drew = .ok () w3 ∧ FitP w mb N T D (a + b) r (.returned (.bool r)) w3 := by
  obtain ⟨D2, hM2, hd2⟩ := hM.memo
  have h1 := hM2.len
  have h2 := hM2.few
  obtain ⟨n, ho, hn⟩ := hM2.own
  have ho' : w2.drew.ownsMap Tryz.prog 104 (plainElem Tryz.prog 3) mb n D2 := ho
  have hNN : N * N ≤ 1000 * 1000 := Nat.mul_le_mul h2 h2
  have hwf : (Lit.int .i64 (if r then 1 else 2)).wf = true := by cases r <;> decide
  obtain ⟨w3, hrun, ho3, hg⟩ := ho'.update lawPair Tryz.underlying63 (by unfold maxLen; omega) (keyOf_pair a b (wf_small a (by omega)) (wf_small b (by omega))) (plainElem_int Tryz.underlying3 hwf)
  have hz2 : at2 D2 a b = .lit (.int .i64 0) := by rw [hd2 a b (by omega) (by omega) hm]; exact hz
  have hM3 := hM2.put ha hb (by rw [isZ_of hz2]; rfl) r hr hn ho3
  refine ⟨w3, hrun, rfl, ?_, _, hM3, fun p q hp hq hpq => ?_⟩
  · exact ((h0.mono fun _ _ x => x.elim).trans hM.chg (fun _ _ x => x)).trans ((Chg.drewN (fun k => k = mb) w2 1).trans (Chg.grown hg) (fun k _ x => by simpa using x)) (fun _ _ x => x)
  · rw [at2_other (by omega) (by omega) (by omega) (by omega) _ (by omega)]
    exact hd2 p q hp hq (by omega)

set_option maxRecDepth 10000 in
set_option maxHeartbeats 4000000 in
theorem functionFits_any (m : Nat) (IH : FitC lb mb N T m) (w : World) (D : Dt) (h : Shp w lb mb N T D) (a b : Nat) (ha : a < T.length) (hb : b < T.length) (hm : a + b = m) (ka : T[a].kind = 9) (kb : T[b].kind = 9) :
    Calls Tryz.prog 36 #[.pointer (some ⟨lb, 0, none⟩), .int .i64 (a : Int), .int .i64 (b : Int)] w (FitP w mb N T D (a + b) (M.fits (M.tr T a) (M.tr T b))) := by
  have hT := h.ok
  have hfew := h.few
  obtain ⟨k, hk⟩ := look_some h.mst ha hb
  have h1 := h.alloc (.cells #[.int .i64 (a : Int), .int .i64 (b : Int)] 104)
  have HL := look h1.mst ha hb hk
  have hmemo := h.mst.memo a b k (Nat.lt_of_lt_of_le ha h.mst.len) (Nat.lt_of_lt_of_le hb h.mst.len) hk
  have C0 := hide (Chg.alloc (fun _ => False) w (.cells #[.int .i64 (a : Int), .int .i64 (b : Int)] 104))
  obtain ⟨ad, c, c0, c1, hlt, fz, hcell⟩ := h.cell
  have HM := hide (Mid.refl h1 m)
  have H1 := hide h1
  have HF := hide (fits_funcs hT ha hb ka kb)
  have HT := hide (fun w2 (hM : Mid (w.alloc (.cells #[.int .i64 (a : Int), .int .i64 (b : Int)] 104)) mb N T D m w2) (hz : k = 0) r hr => tell C0.out hM ha hb (hz ▸ hk) (by omega) r hr)
  have HD : Hid (at2 D a b = .lit (.int .i64 k)) := hk
  have hMS := hide h.mst
  clear hk h1 hT
  by_cases hk0 : k = 0
  · subst hk0
    clear hmemo
    have hTs := h.ok
    obtain ⟨g, fa, fc, la, ac, rfl, hg, hc1, hc2, -, -, x2, x3, -, ol1⟩ := hcell a ha
    obtain ⟨g', fb, fbc, lb2, bc, hgg, -, -, -, -, -, z2, z3, -, ol2⟩ := hcell b hb
    simp only [Option.some.injEq, Addr.mk.injEq, and_true] at hgg
    subst hgg
    have hla := (hTs a ha).lst
    have hlb := (hTs b hb).lst
    have hoa := (hTs a ha).of (.inr ka)
    have hob := (hTs b hb).of (.inr kb)
    have O1 := hide (ol1.alloc (.cells #[.int .i64 (a : Int), .int .i64 (b : Int)] 104))
    have O2 := hide (ol2.alloc (.cells #[.int .i64 (a : Int), .int .i64 (b : Int)] 104))
    clear hcell ol1 ol2 h hTs
    generalize T[a].list = xs at *
    generalize T[b].list = ys at *
    generalize T[a].of' = oi at *
    generalize T[b].of' = pi at *
    obtain ⟨ox, rfl⟩ : ∃ x : Nat, oi = (x : Int) := ⟨oi.toNat, by omega⟩
    obtain ⟨oy, rfl⟩ : ∃ x : Nat, pi = (x : Int) := ⟨pi.toNat, by omega⟩
    have hW : ∀ {o v}, w.cell? ⟨g, o, none⟩ = some v → (w.alloc (.cells #[.int .i64 (a : Int), .int .i64 (b : Int)] 104)).cell? ⟨g, o, none⟩ = some v := fun hx => cell_old hg hx
    have a0 : (w.alloc (.cells #[.int .i64 (a : Int), .int .i64 (b : Int)] 104)).cell? ⟨lb, 0, none⟩ = some (.slice (some ⟨g, 0, none⟩) T.length c) := cell_old hlt c0
    have a1 := hW x2
    have a2 := hW z2
    have a3 := hW x3
    have a4 := hW z3
    have a5 : (w.alloc (.cells #[.int .i64 (a : Int), .int .i64 (b : Int)] 104)).cell? ⟨lb, 1, none⟩ = some (.map (some mb)) := cell_old hlt c1
    have a6 : (w.alloc (.cells #[.int .i64 (a : Int), .int .i64 (b : Int)] 104)).cell? ⟨w.heap.size, 0, none⟩ = some (.int .i64 (a : Int)) := by rw [World.cell?_alloc_new]; rfl
    have a7 : (w.alloc (.cells #[.int .i64 (a : Int), .int .i64 (b : Int)] 104)).cell? ⟨w.heap.size, 1, none⟩ = some (.int .i64 (b : Int)) := by rw [World.cell?_alloc_new]; rfl
    have A5 := hide a5
    have A6 := hide a6
    have A7 := hide a7
    have PF : ∀ w1, Mid (w.alloc (.cells #[.int .i64 (a : Int), .int .i64 (b : Int)] 104)) mb N T D m w1 → Calls Tryz.prog 54 #[.pointer (some ⟨lb, 0, none⟩), .slice la xs.length ac, .slice lb2 ys.length bc] w1 fun e w' =>
        e = .returned (.bool (decide (xs.length ≤ ys.length) && (xs.zip ys).all (parOk T))) ∧ Chg (fun k => k = mb) w1 w' ∧ Mid (w.alloc (.cells #[.int .i64 (a : Int), .int .i64 (b : Int)] 104)) mb N T D m w' := by
      intro w1 hM
      obtain ⟨D1, hs1, hd1⟩ := hM.shp H1.out
      refine (paramsFit_any m IH w1 D1 hs1 la ac xs (owns_memo O1.out H1.out.mst hM.chg) lb2 bc ys (owns_memo O2.out H1.out.mst hM.chg) (fun x hx => ⟨(hla x hx).1, by have := (hla x hx).2; omega, fun y hy => by have := hla x hx; have := hlb y hy; omega⟩) (fun y hy => ⟨(hlb y hy).1, by have := (hlb y hy).2; omega⟩)).mono ?_
      rintro e w2 ⟨he, hM2⟩
      exact ⟨he, hM2.chg, hM.trans hd1 hM2⟩
    have FM := fun w1 (hM : Mid (w.alloc (.cells #[.int .i64 (a : Int), .int .i64 (b : Int)] 104)) mb N T D m w1) => fits_mid IH H1.out (a := ox) (b := oy) (by omega) (by omega) (by omega) w1 hM
    have HFF := HF.out
    simp only [Int.toNat_natCast] at HFF
    generalize (decide (xs.length ≤ ys.length) && (xs.zip ys).all (parOk T)) = r1 at *
    generalize M.fits (M.tr T ox) (M.tr T oy) = r2 at *
    generalize M.fits (M.tr T a) (M.tr T b) = R at *
    have HR := hide HFF
    unfold maxLen at hc2
    clear HFF HF hla hlb hoa hob x2 x3 z2 z3 hW c0 a5 a6 a7 hm
    have ha' : (a : Int) < (T.length : Int) := by omega
    have hb' : (b : Int) < (T.length : Int) := by omega
    cases r1
    · go_enter Tryz.func36, Tryz.ntmps36
      go_wp2_with fail
      go_quiet (fail)
      go_wp2_with fail
      refine wp_region_held_drew (S := (fun w' => w'.cell? ⟨lb, 0, none⟩ = some (.slice (some ⟨g, 0, none⟩) T.length c) ∧ w'.cell? ⟨g, a * 4 + 2, none⟩ = some (.slice la xs.length ac) ∧ w'.cell? ⟨g, b * 4 + 2, none⟩ = some (.slice lb2 ys.length bc) ∧ w'.cell? ⟨g, a * 4 + 3, none⟩ = some (.int .i64 (ox : Int)) ∧ w'.cell? ⟨g, b * 4 + 3, none⟩ = some (.int .i64 (oy : Int)) ∧ Hid (Mid (w.alloc (.cells #[.int .i64 (a : Int), .int .i64 (b : Int)] 104)) mb N T D m w'))) (by kernel_rfl) ⟨a0, a1, a2, a3, a4, (HM.out.drewN nq).drewN 1⟩ (fun hHeld => ?_)
      refine wpAnyH_take (i := 0) (oi := Oper.mk (some 20) _ _ _ _ _) (v := .pointer (some ⟨lb, 0, none⟩)) rfl (by kernel_rfl) (by kernel_rfl) (by kernel_rfl) (fun _ _ _ h => h) (Or.inl ⟨by rfl, fun w hSw => by go_simp⟩) (by assumption) ?_
      simp only [Act.put, List.setIfInBounds_toArray, List.set_cons_zero, List.set_cons_succ]
      refine wpAnyH_take (i := 1) (oi := Oper.mk (some 21) _ _ _ _ _) (v := .pointer (some ⟨lb, 0, none⟩)) rfl (by kernel_rfl) (by kernel_rfl) (by kernel_rfl) (fun _ _ _ h => h) (Or.inl ⟨by rfl, fun w hSw => by go_simp⟩) (by assumption) ?_
      simp only [Act.put, List.setIfInBounds_toArray, List.set_cons_zero, List.set_cons_succ]
      refine wpAnyH_take (i := 2) (oi := Oper.mk (some 22) _ _ _ _ _) (v := .pointer (some ⟨lb, 0, none⟩)) rfl (by kernel_rfl) (by kernel_rfl) (by kernel_rfl) (fun _ _ _ h => h) (Or.inl ⟨by rfl, fun w hSw => by go_simp⟩) (by assumption) ?_
      simp only [Act.put, List.setIfInBounds_toArray, List.set_cons_zero, List.set_cons_succ]
      refine wpAnyH_take (i := 3) (oi := Oper.mk (some 23) _ _ _ _ _) (v := .pointer (some ⟨lb, 0, none⟩)) rfl (by kernel_rfl) (by kernel_rfl) (by kernel_rfl) (fun _ _ _ h => h) (Or.inl ⟨by rfl, fun w hSw => by go_simp⟩) (by assumption) ?_
      simp only [Act.put, List.setIfInBounds_toArray, List.set_cons_zero, List.set_cons_succ]
      refine wpAnyH_take (i := 4) (oi := Oper.mk (some 24) _ _ _ _ _) (v := .slice (some ⟨g, 0, none⟩) T.length c) rfl (by kernel_rfl) (by kernel_rfl) (by kernel_rfl) (fun _ _ _ h => h) (Or.inl ⟨by rfl, fun w hSw => by obtain ⟨h1, h2, h3, h4, h5, h6⟩ := hSw; go_simp⟩) (by assumption) ?_
      simp only [Act.put, List.setIfInBounds_toArray, List.set_cons_zero, List.set_cons_succ]
      refine wpAnyH_take (i := 5) (oi := Oper.mk (some 25) _ _ _ _ _) (v := .int .i64 (a : Int)) rfl (by kernel_rfl) (by kernel_rfl) (by kernel_rfl) (fun _ _ _ h => h) (Or.inl ⟨by rfl, fun w hSw => by go_simp⟩) (by assumption) ?_
      simp only [Act.put, List.setIfInBounds_toArray, List.set_cons_zero, List.set_cons_succ]
      refine wpAnyH_take (i := 6) (oi := Oper.mk (some 26) _ _ _ _ _) (v := .pointer (some ⟨g, a * 4, none⟩)) rfl (by kernel_rfl) (by kernel_rfl) (by kernel_rfl) (fun _ _ _ h => h) (Or.inl ⟨by rfl, fun w hSw => by go_simp⟩) (by assumption) ?_
      simp only [Act.put, List.setIfInBounds_toArray, List.set_cons_zero, List.set_cons_succ]
      refine wpAnyH_take (i := 7) (oi := Oper.mk (some 27) _ _ _ _ _) (v := .pointer (some ⟨g, a * 4 + 2, none⟩)) rfl (by kernel_rfl) (by kernel_rfl) (by kernel_rfl) (fun _ _ _ h => h) (Or.inl ⟨by rfl, fun w hSw => by go_simp⟩) (by assumption) ?_
      simp only [Act.put, List.setIfInBounds_toArray, List.set_cons_zero, List.set_cons_succ]
      refine wpAnyH_take (i := 8) (oi := Oper.mk (some 28) _ _ _ _ _) (v := .slice la xs.length ac) rfl (by kernel_rfl) (by kernel_rfl) (by kernel_rfl) (fun _ _ _ h => h) (Or.inl ⟨by rfl, fun w hSw => by obtain ⟨h1, h2, h3, h4, h5, h6⟩ := hSw; go_simp⟩) (by assumption) ?_
      simp only [Act.put, List.setIfInBounds_toArray, List.set_cons_zero, List.set_cons_succ]
      refine wpAnyH_take (i := 9) (oi := Oper.mk (some 29) _ _ _ _ _) (v := .pointer (some ⟨lb, 0, none⟩)) rfl (by kernel_rfl) (by kernel_rfl) (by kernel_rfl) (fun _ _ _ h => h) (Or.inl ⟨by rfl, fun w hSw => by go_simp⟩) (by assumption) ?_
      simp only [Act.put, List.setIfInBounds_toArray, List.set_cons_zero, List.set_cons_succ]
      refine wpAnyH_take (i := 10) (oi := Oper.mk (some 30) _ _ _ _ _) (v := .pointer (some ⟨lb, 0, none⟩)) rfl (by kernel_rfl) (by kernel_rfl) (by kernel_rfl) (fun _ _ _ h => h) (Or.inl ⟨by rfl, fun w hSw => by go_simp⟩) (by assumption) ?_
      simp only [Act.put, List.setIfInBounds_toArray, List.set_cons_zero, List.set_cons_succ]
      refine wpAnyH_take (i := 11) (oi := Oper.mk (some 31) _ _ _ _ _) (v := .pointer (some ⟨lb, 0, none⟩)) rfl (by kernel_rfl) (by kernel_rfl) (by kernel_rfl) (fun _ _ _ h => h) (Or.inl ⟨by rfl, fun w hSw => by go_simp⟩) (by assumption) ?_
      simp only [Act.put, List.setIfInBounds_toArray, List.set_cons_zero, List.set_cons_succ]
      refine wpAnyH_take (i := 12) (oi := Oper.mk (some 32) _ _ _ _ _) (v := .slice (some ⟨g, 0, none⟩) T.length c) rfl (by kernel_rfl) (by kernel_rfl) (by kernel_rfl) (fun _ _ _ h => h) (Or.inl ⟨by rfl, fun w hSw => by obtain ⟨h1, h2, h3, h4, h5, h6⟩ := hSw; go_simp⟩) (by assumption) ?_
      simp only [Act.put, List.setIfInBounds_toArray, List.set_cons_zero, List.set_cons_succ]
      refine wpAnyH_take (i := 13) (oi := Oper.mk (some 33) _ _ _ _ _) (v := .int .i64 (b : Int)) rfl (by kernel_rfl) (by kernel_rfl) (by kernel_rfl) (fun _ _ _ h => h) (Or.inl ⟨by rfl, fun w hSw => by go_simp⟩) (by assumption) ?_
      simp only [Act.put, List.setIfInBounds_toArray, List.set_cons_zero, List.set_cons_succ]
      refine wpAnyH_take (i := 14) (oi := Oper.mk (some 34) _ _ _ _ _) (v := .pointer (some ⟨g, b * 4, none⟩)) rfl (by kernel_rfl) (by kernel_rfl) (by kernel_rfl) (fun _ _ _ h => h) (Or.inl ⟨by rfl, fun w hSw => by go_simp⟩) (by assumption) ?_
      simp only [Act.put, List.setIfInBounds_toArray, List.set_cons_zero, List.set_cons_succ]
      refine wpAnyH_take (i := 15) (oi := Oper.mk (some 35) _ _ _ _ _) (v := .pointer (some ⟨g, b * 4 + 2, none⟩)) rfl (by kernel_rfl) (by kernel_rfl) (by kernel_rfl) (fun _ _ _ h => h) (Or.inl ⟨by rfl, fun w hSw => by go_simp⟩) (by assumption) ?_
      simp only [Act.put, List.setIfInBounds_toArray, List.set_cons_zero, List.set_cons_succ]
      refine wpAnyH_take (i := 16) (oi := Oper.mk (some 36) _ _ _ _ _) (v := .slice lb2 ys.length bc) rfl (by kernel_rfl) (by kernel_rfl) (by kernel_rfl) (fun _ _ _ h => h) (Or.inl ⟨by rfl, fun w hSw => by obtain ⟨h1, h2, h3, h4, h5, h6⟩ := hSw; go_simp⟩) (by assumption) ?_
      simp only [Act.put, List.setIfInBounds_toArray, List.set_cons_zero, List.set_cons_succ]
      refine wpAnyH_ready (rs := [17]) (by kernel_rfl) (by simp) ?_
      refine AllReadyH.cons (o := Oper.mk (some 37) _ _ _ _ _) rfl (fun K hK => ?_) AllReadyH.nil
      go_simp
      refine (PF _ ((HM.out.drewN nq).drewN 1)).mono ?_
      rintro e w' ⟨rfl, hcf, hmf⟩
      have S2 := keep5 (p1 := (lb, 0)) (p2 := (g, a * 4 + 2)) (p3 := (g, b * 4 + 2)) (p4 := (g, a * 4 + 3)) (p5 := (g, b * 4 + 3)) hcf hmf ⟨a0, a1, a2, a3, a4, (HM.out.drewN nq).drewN 1⟩
      refine hK _ _ S2 (fun _ => ?_)
      clear hK K hHeld
      refine wpAnyH_take (i := 18) (oi := Oper.mk (some 38) _ _ _ _ _) (v := .bool false) rfl (by kernel_rfl) (by kernel_rfl) (by kernel_rfl) (fun _ _ _ h => h) (Or.inl ⟨by rfl, fun w hSw => by go_simp⟩) (by assumption) ?_
      simp only [Act.put, List.setIfInBounds_toArray, List.set_cons_zero, List.set_cons_succ]
      refine wpAnyH_take (i := 19) (oi := Oper.mk (some 39) _ _ _ _ _) (v := undef) rfl (by kernel_rfl) (by kernel_rfl) (by kernel_rfl) (fun _ _ _ h => h) (Or.inr ⟨by rfl, rfl⟩) (by assumption) ?_
      simp only [Act.put, List.setIfInBounds_toArray, List.set_cons_zero, List.set_cons_succ]
      refine wpAnyH_take (i := 20) (oi := Oper.mk (some 40) _ _ _ _ _) (v := undef) rfl (by kernel_rfl) (by kernel_rfl) (by kernel_rfl) (fun _ _ _ h => h) (Or.inr ⟨by rfl, rfl⟩) (by assumption) ?_
      simp only [Act.put, List.setIfInBounds_toArray, List.set_cons_zero, List.set_cons_succ]
      refine wpAnyH_take (i := 21) (oi := Oper.mk (some 41) _ _ _ _ _) (v := undef) rfl (by kernel_rfl) (by kernel_rfl) (by kernel_rfl) (fun _ _ _ h => h) (Or.inr ⟨by rfl, rfl⟩) (by assumption) ?_
      simp only [Act.put, List.setIfInBounds_toArray, List.set_cons_zero, List.set_cons_succ]
      refine wpAnyH_take (i := 22) (oi := Oper.mk (some 42) _ _ _ _ _) (v := undef) rfl (by kernel_rfl) (by kernel_rfl) (by kernel_rfl) (fun _ _ _ h => h) (Or.inr ⟨by rfl, rfl⟩) (by assumption) ?_
      simp only [Act.put, List.setIfInBounds_toArray, List.set_cons_zero, List.set_cons_succ]
      refine wpAnyH_take (i := 23) (oi := Oper.mk (some 43) _ _ _ _ _) (v := undef) rfl (by kernel_rfl) (by kernel_rfl) (by kernel_rfl) (fun _ _ _ h => h) (Or.inr ⟨by rfl, rfl⟩) (by assumption) ?_
      simp only [Act.put, List.setIfInBounds_toArray, List.set_cons_zero, List.set_cons_succ]
      refine wpAnyH_take (i := 24) (oi := Oper.mk (some 44) _ _ _ _ _) (v := undef) rfl (by kernel_rfl) (by kernel_rfl) (by kernel_rfl) (fun _ _ _ h => h) (Or.inr ⟨by rfl, rfl⟩) (by assumption) ?_
      simp only [Act.put, List.setIfInBounds_toArray, List.set_cons_zero, List.set_cons_succ]
      refine wpAnyH_take (i := 25) (oi := Oper.mk (some 45) _ _ _ _ _) (v := undef) rfl (by kernel_rfl) (by kernel_rfl) (by kernel_rfl) (fun _ _ _ h => h) (Or.inr ⟨by rfl, rfl⟩) (by assumption) ?_
      simp only [Act.put, List.setIfInBounds_toArray, List.set_cons_zero, List.set_cons_succ]
      refine wpAnyH_take (i := 26) (oi := Oper.mk (some 46) _ _ _ _ _) (v := undef) rfl (by kernel_rfl) (by kernel_rfl) (by kernel_rfl) (fun _ _ _ h => h) (Or.inr ⟨by rfl, rfl⟩) (by assumption) ?_
      simp only [Act.put, List.setIfInBounds_toArray, List.set_cons_zero, List.set_cons_succ]
      refine wpAnyH_take (i := 27) (oi := Oper.mk (some 47) _ _ _ _ _) (v := undef) rfl (by kernel_rfl) (by kernel_rfl) (by kernel_rfl) (fun _ _ _ h => h) (Or.inr ⟨by rfl, rfl⟩) (by assumption) ?_
      simp only [Act.put, List.setIfInBounds_toArray, List.set_cons_zero, List.set_cons_succ]
      refine wpAnyH_take (i := 28) (oi := Oper.mk (some 48) _ _ _ _ _) (v := undef) rfl (by kernel_rfl) (by kernel_rfl) (by kernel_rfl) (fun _ _ _ h => h) (Or.inr ⟨by rfl, rfl⟩) (by assumption) ?_
      simp only [Act.put, List.setIfInBounds_toArray, List.set_cons_zero, List.set_cons_succ]
      refine wpAnyH_take (i := 29) (oi := Oper.mk (some 49) _ _ _ _ _) (v := undef) rfl (by kernel_rfl) (by kernel_rfl) (by kernel_rfl) (fun _ _ _ h => h) (Or.inr ⟨by rfl, rfl⟩) (by assumption) ?_
      simp only [Act.put, List.setIfInBounds_toArray, List.set_cons_zero, List.set_cons_succ]
      refine wpAnyH_take (i := 30) (oi := Oper.mk (some 50) _ _ _ _ _) (v := undef) rfl (by kernel_rfl) (by kernel_rfl) (by kernel_rfl) (fun _ _ _ h => h) (Or.inr ⟨by rfl, rfl⟩) (by assumption) ?_
      simp only [Act.put, List.setIfInBounds_toArray, List.set_cons_zero, List.set_cons_succ]
      refine wpAnyH_take (i := 31) (oi := Oper.mk (some 51) _ _ _ _ _) (v := undef) rfl (by kernel_rfl) (by kernel_rfl) (by kernel_rfl) (fun _ _ _ h => h) (Or.inr ⟨by rfl, rfl⟩) (by assumption) ?_
      simp only [Act.put, List.setIfInBounds_toArray, List.set_cons_zero, List.set_cons_succ]
      refine wpAnyH_take (i := 32) (oi := Oper.mk (some 52) _ _ _ _ _) (v := undef) rfl (by kernel_rfl) (by kernel_rfl) (by kernel_rfl) (fun _ _ _ h => h) (Or.inr ⟨by rfl, rfl⟩) (by assumption) ?_
      simp only [Act.put, List.setIfInBounds_toArray, List.set_cons_zero, List.set_cons_succ]
      refine wpAnyH_take (i := 33) (oi := Oper.mk (some 53) _ _ _ _ _) (v := undef) rfl (by kernel_rfl) (by kernel_rfl) (by kernel_rfl) (fun _ _ _ h => h) (Or.inr ⟨by rfl, rfl⟩) (by assumption) ?_
      simp only [Act.put, List.setIfInBounds_toArray, List.set_cons_zero, List.set_cons_succ]
      refine wpAnyH_take (i := 34) (oi := Oper.mk (some 54) _ _ _ _ _) (v := undef) rfl (by kernel_rfl) (by kernel_rfl) (by kernel_rfl) (fun _ _ _ h => h) (Or.inr ⟨by rfl, rfl⟩) (by assumption) ?_
      simp only [Act.put, List.setIfInBounds_toArray, List.set_cons_zero, List.set_cons_succ]
      refine wpAnyH_take (i := 35) (oi := Oper.mk (some 55) _ _ _ _ _) (v := undef) rfl (by kernel_rfl) (by kernel_rfl) (by kernel_rfl) (fun _ _ _ h => h) (Or.inr ⟨by rfl, rfl⟩) (by assumption) ?_
      simp only [Act.put, List.setIfInBounds_toArray, List.set_cons_zero, List.set_cons_succ]
      refine wpAnyH_take (i := 36) (oi := Oper.mk (some 56) _ _ _ _ _) (v := undef) rfl (by kernel_rfl) (by kernel_rfl) (by kernel_rfl) (fun _ _ _ h => h) (Or.inr ⟨by rfl, rfl⟩) (by assumption) ?_
      simp only [Act.put, List.setIfInBounds_toArray, List.set_cons_zero, List.set_cons_succ]
      refine wpAnyH_take (i := 37) (oi := Oper.mk (some 57) _ _ _ _ _) (v := .bool false) rfl (by kernel_rfl) (by kernel_rfl) (by kernel_rfl) (fun _ _ _ h => h) (Or.inl ⟨by rfl, fun w hSw => by go_simp⟩) (by assumption) ?_
      simp only [Act.put, List.setIfInBounds_toArray, List.set_cons_zero, List.set_cons_succ]
      refine wpAnyH_done (by kernel_rfl) ?_ _
      have M2 := S2.2.2.2.2.2
      clear S2 hcf hmf
      have q5 : w'.cell? ⟨lb, 1, none⟩ = some (.map (some mb)) := cell_memo HM.out M2.out.chg A5.out
      have q6 : w'.cell? ⟨w.heap.size, 0, none⟩ = some (.int .i64 (a : Int)) := cell_memo HM.out M2.out.chg A6.out
      have q7 : w'.cell? ⟨w.heap.size, 1, none⟩ = some (.int .i64 (b : Int)) := cell_memo HM.out M2.out.chg A7.out
      have hz2 := World.block_lt_of_cell? w' _ q6
      obtain ⟨w3, hrun, hfp⟩ := HT.out w' M2.out trivial false (by rw [HR.out]; rfl)
      have hrun' : (Instr.mapUpdate 63 (.map (some mb)) (.agg #[.int .i64 (a : Int), .int .i64 (b : Int)]) (.int .i64 2)).run Tryz.prog w'.drew = .ok () w3 := hrun
      have HFP : Hid (FitP w mb N T D (a + b) R (.returned (.bool false)) w3) := by
        show FitP _ _ _ _ _ _ _ _ _
        rw [HR.out]
        exact hfp
      clear hrun hfp
      go_wp2_with fail
      go_region
      go_wp2
      go_ret
      exact HFP.out
    · go_enter Tryz.func36, Tryz.ntmps36
      go_wp2_with fail
      go_quiet (fail)
      go_wp2_with fail
      go_region_held3 (fun w' => w'.cell? ⟨lb, 0, none⟩ = some (.slice (some ⟨g, 0, none⟩) T.length c) ∧ w'.cell? ⟨g, a * 4 + 2, none⟩ = some (.slice la xs.length ac) ∧ w'.cell? ⟨g, b * 4 + 2, none⟩ = some (.slice lb2 ys.length bc) ∧ w'.cell? ⟨g, a * 4 + 3, none⟩ = some (.int .i64 (ox : Int)) ∧ w'.cell? ⟨g, b * 4 + 3, none⟩ = some (.int .i64 (oy : Int)) ∧ Hid (Mid (w.alloc (.cells #[.int .i64 (a : Int), .int .i64 (b : Int)] 104)) mb N T D m w'))
        (first
          | exact ⟨a0, a1, a2, a3, a4, (HM.out.drewN nq).drewN 1⟩
          | exact keep5 (p1 := (lb, 0)) (p2 := (g, a * 4 + 2)) (p3 := (g, b * 4 + 2)) (p4 := (g, a * 4 + 3)) (p5 := (g, b * 4 + 3)) hcf hmf ⟨by assumption, by assumption, by assumption, by assumption, by assumption, by assumption⟩
          | (go_split_ands; exact ⟨by assumption, by assumption, by assumption, by assumption, by assumption, by assumption⟩))
        (first
          | ((go_at_call 54; go_split_ands; refine (PF _ (Hid.out (by assumption))).mono ?_; rintro e w' ⟨rfl, hcf, hmf⟩))
          | ((go_at_call 19; go_split_ands; refine (FM _ (Hid.out (by assumption))).mono ?_; rintro e w' ⟨rfl, hcf, hmf⟩)))
      have M2 : Hid (Mid (w.alloc (.cells #[.int .i64 (a : Int), .int .i64 (b : Int)] 104)) mb N T D m w') := by assumption
      have q5 : w'.cell? ⟨lb, 1, none⟩ = some (.map (some mb)) := cell_memo HM.out M2.out.chg A5.out
      have q6 : w'.cell? ⟨w.heap.size, 0, none⟩ = some (.int .i64 (a : Int)) := cell_memo HM.out M2.out.chg A6.out
      have q7 : w'.cell? ⟨w.heap.size, 1, none⟩ = some (.int .i64 (b : Int)) := cell_memo HM.out M2.out.chg A7.out
      have hz2 := World.block_lt_of_cell? w' _ q6
      clear PF FM
      cases r2
      · obtain ⟨w3, hrun, hfp⟩ := HT.out w' M2.out trivial false (by rw [HR.out]; rfl)
        have hrun' : (Instr.mapUpdate 63 (.map (some mb)) (.agg #[.int .i64 (a : Int), .int .i64 (b : Int)]) (.int .i64 2)).run Tryz.prog w'.drew = .ok () w3 := hrun
        have HFP : Hid (FitP w mb N T D (a + b) R (.returned (.bool false)) w3) := by
          show FitP _ _ _ _ _ _ _ _ _
          rw [HR.out]
          exact hfp
        clear hrun hfp
        go_wp2_with fail
        go_region
        go_wp2
        go_ret
        exact HFP.out
      · obtain ⟨w3, hrun, hfp⟩ := HT.out w' M2.out trivial true (by rw [HR.out]; rfl)
        have hrun' : (Instr.mapUpdate 63 (.map (some mb)) (.agg #[.int .i64 (a : Int), .int .i64 (b : Int)]) (.int .i64 1)).run Tryz.prog w'.drew = .ok () w3 := hrun
        have HFP : Hid (FitP w mb N T D (a + b) R (.returned (.bool true)) w3) := by
          show FitP _ _ _ _ _ _ _ _ _
          rw [HR.out]
          exact hfp
        clear hrun hfp
        go_wp2_with fail
        go_region
        go_wp2
        go_ret
        exact HFP.out
  · have hk0' : (k == 0) = false := by simp [hk0]
    have HR : Hid (M.fits (M.tr T a) (M.tr T b) = (k == 1)) := by
      rcases hmemo with h | ⟨_, _, ⟨h1, h2⟩ | ⟨h1, h2⟩⟩
      · exact absurd h hk0
      · show _ = _; rw [h2, h1]; rfl
      · show _ = _; rw [h2, h1]; rfl
    have HX : Hid (∀ n, FitP w mb N T D (a + b) (M.fits (M.tr T a) (M.tr T b)) (.returned (.bool (k == 1))) ((w.alloc (.cells #[.int .i64 (a : Int), .int .i64 (b : Int)] 104)).drewN n)) := by
      intro n
      rw [HR.out]
      exact ⟨rfl, ((C0.out.mono fun _ _ x => x.elim).trans (Chg.drewN _ _ n) (fun _ _ x => x)), D, H1.out.mst.chg (Chg.drewN (fun _ => False) _ n) (fun x => x), fun _ _ _ _ _ => rfl⟩
    clear hmemo h hcell HF HT
    generalize M.fits (M.tr T a) (M.tr T b) = R at *
    go_enter Tryz.func36, Tryz.ntmps36
    go_wp2_with fail
    go_quiet (fail)
    go_wp2
    go_ret
    exact HX.out _
end
end Go.Proofs.YtkilicjjaljghaaGreat
