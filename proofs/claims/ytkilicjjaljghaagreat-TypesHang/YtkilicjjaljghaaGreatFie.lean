/-
  The contract of paramsFit.
-/
import Derived.Test.YtkilicjjaljghaaGreatFitsA
namespace Go.Proofs.YtkilicjjaljghaaGreat
open Go.RowKit Go.Maps

section
variable {lb mb N : Nat} {T : List M.Ty}

/-- Params fit, one way or the other. -/
def parOk (T : List M.Ty) (p : Int × Int) : Bool := M.fits (M.tr T p.1.toNat) (M.tr T p.2.toNat) || M.fits (M.tr T p.2.toNat) (M.tr T p.1.toNat)

theorem all_take_snoc {α : Type} {p : α → Bool} {l : List α} {j : Nat} (hj : j < l.length) : (l.take (j + 1)).all p = ((l.take j).all p && p l[j]) := by
  rw [List.take_succ_eq_append_getElem hj, List.all_append]
  simp

theorem keep2 {w a b : World} {D : Dt} {m : Nat} {p1 p2 : Nat × Nat} {v1 v2 : Value} (hc : Chg (fun k => k = mb) a b) (hm : Mid w mb N T D m b) (h : a.cell? ⟨p1.1, p1.2, none⟩ = some v1 ∧ a.cell? ⟨p2.1, p2.2, none⟩ = some v2 ∧ Hid (Mid w mb N T D m a)) :
    b.cell? ⟨p1.1, p1.2, none⟩ = some v1 ∧ b.cell? ⟨p2.1, p2.2, none⟩ = some v2 ∧ Hid (Mid w mb N T D m b) :=
  ⟨cell_memo h.2.2.out hc h.1, cell_memo h.2.2.out hc h.2.1, hm⟩

set_option maxRecDepth 10000 in
set_option maxHeartbeats 4000000 in
theorem paramsFit_any (m : Nat) (IH : FitC lb mb N T m) (w : World) (D : Dt) (h : Shp w lb mb N T D) (aa : Option Addr) (ac : Nat) (xs : List Int) (ho : w.ownsRow 0 3 1 (.slice aa xs.length ac) xs.length (ints xs))
    (ba : Option Addr) (bc : Nat) (bs : List Int) (hp : w.ownsRow 0 3 1 (.slice ba bs.length bc) bs.length (ints bs)) (hin : ∀ x ∈ xs, 0 ≤ x ∧ x < T.length ∧ ∀ y ∈ bs, x + y + 1 ≤ m) (hin2 : ∀ y ∈ bs, 0 ≤ y ∧ y < T.length) :
    Calls Tryz.prog 54 #[.pointer (some ⟨lb, 0, none⟩), .slice aa xs.length ac, .slice ba bs.length bc] w fun e w' =>
      e = .returned (.bool (decide (xs.length ≤ bs.length) && (xs.zip bs).all (parOk T))) ∧ Mid w mb N T D m w' := by
  have HS := hide h
  have HO := hide ho
  have HP := hide hp
  have HI := hide hin
  have HJ := hide hin2
  clear h ho hp hin hin2
  by_cases hlen : xs.length ≤ bs.length
  · have hd : decide (xs.length ≤ bs.length) = true := by simp [hlen]
    have hgt : decide (bs.length < xs.length) = false := by simp; omega
    have hzl : (xs.zip bs).length = xs.length := by simp; omega
    have HZ := hide hzl
    rw [hd, Bool.true_and]
    clear hd hzl
    go_enter Tryz.func54, Tryz.ntmps54
    go_wp2
    go_loopw [15] (fun v wr => ∃ j : Nat, j ≤ xs.length ∧ v = .int .i64 (j : Int) ∧ Hid (((xs.zip bs).take j).all (parOk T) = true) ∧ Hid (Mid w mb N T D m wr)) (fun v _ => xs.length - (intOf v).toNat)
    case atStart => exact ⟨0, Nat.zero_le _, rfl, by simp [Hid], Mid.refl HS.out m⟩
    case round =>
      obtain ⟨j, hj, rfl, HA, KR⟩ := hrel
      by_cases hjl : j < xs.length
      · have hjb : j < bs.length := by omega
        obtain ⟨ga, rfl, hga, hl1, hl2, y0⟩ := ints_cell (owns_memo HO.out HS.out.mst KR.out.chg) hjl
        obtain ⟨gb, rfl, hgb, hl3, hl4, y1⟩ := ints_cell (owns_memo HP.out HS.out.mst KR.out.chg) hjb
        have hx := HI.out xs[j] (List.getElem_mem hjl)
        have hy := HJ.out bs[j] (List.getElem_mem hjb)
        have hxy := hx.2.2 bs[j] (List.getElem_mem hjb)
        have HT := hide (all_take_snoc (p := parOk T) (l := xs.zip bs) (j := j) (by have := HZ.out; omega))
        have HN : Hid (∀ r, r = false → r = parOk T (xs[j], bs[j]) → (xs.zip bs).all (parOk T) = false) := by
          intro r hr1 hr2
          rw [List.all_eq_false]
          refine ⟨(xs[j], bs[j]), ?_, by rw [← hr2, hr1]; simp⟩
          have e : (xs.zip bs)[j]'(by have := HZ.out; omega) = (xs[j], bs[j]) := by simp
          rw [← e]
          exact List.getElem_mem _
        rw [List.getElem_zip] at HT
        generalize xs[j] = xi at *
        generalize bs[j] = yi at *
        obtain ⟨x, rfl⟩ : ∃ x : Nat, xi = (x : Int) := ⟨xi.toNat, by omega⟩
        obtain ⟨y, rfl⟩ : ∃ y : Nat, yi = (y : Int) := ⟨yi.toNat, by omega⟩
        have HE : Hid (parOk T ((x : Int), (y : Int)) = (M.fits (M.tr T x) (M.tr T y) || M.fits (M.tr T y) (M.tr T x))) := rfl
        have FM : ∀ (p q : Nat) (r : Bool), (p = x ∧ q = y ∧ r = M.fits (M.tr T x) (M.tr T y)) ∨ (p = y ∧ q = x ∧ r = M.fits (M.tr T y) (M.tr T x)) → ∀ a, Mid w mb N T D m a →
            Calls Tryz.prog 19 #[.pointer (some ⟨lb, 0, none⟩), .int .i64 (p : Int), .int .i64 (q : Int)] a fun e w' => e = .returned (.bool r) ∧ Chg (fun k => k = mb) a w' ∧ Mid w mb N T D m w' := by
          rintro p q r (⟨rfl, rfl, rfl⟩ | ⟨rfl, rfl, rfl⟩) a ha
          · exact fits_mid IH HS.out (by omega) (by omega) (by omega) a ha
          · exact fits_mid IH HS.out (by omega) (by omega) (by omega) a ha
        generalize M.fits (M.tr T x) (M.tr T y) = r1 at *
        generalize M.fits (M.tr T y) (M.tr T x) = r2 at *
        generalize parOk T ((x : Int), (y : Int)) = r3 at *
        unfold maxLen at hl2 hl4
        clear hx hy hxy
        cases r1
        · go_wp2_with fail
          go_region_held3 (fun w' => w'.cell? ⟨ga, j, none⟩ = some (.int .i64 (x : Int)) ∧ w'.cell? ⟨gb, j, none⟩ = some (.int .i64 (y : Int)) ∧ Hid (Mid w mb N T D m w'))
            (first
              | exact ⟨y0, y1, KR.out.drewN 1⟩
              | exact keep2 (p1 := (ga, j)) (p2 := (gb, j)) hcf hmf ⟨by assumption, by assumption, by assumption⟩
              | (go_split_ands; exact ⟨by assumption, by assumption, by assumption⟩))
            (first
              | ((go_at_call 19; go_split_ands; refine (FM _ _ _ (by first | exact .inl ⟨rfl, rfl, rfl⟩ | exact .inr ⟨rfl, rfl, rfl⟩) _ (Hid.out (by assumption))).mono ?_; rintro e w' ⟨rfl, hcf, hmf⟩)))
          have M2 : Hid (Mid w mb N T D m w') := by assumption
          cases r2
          · go_wp2
            go_ret
            exact ⟨ret_bool (HN.out r3 (by rw [HE.out]; rfl) rfl).symm, M2.out⟩
          · go_wp2
            go_roundw
            case rel => exact ⟨j + 1, by omega, by go_num, by show _ = _; rw [HT.out, HA.out, HE.out]; rfl, M2.out⟩
            case measure => simp [intOf]; omega
        · go_wp2_with fail
          refine wp_region_held_drew (S := fun w' => w'.cell? ⟨ga, j, none⟩ = some (.int .i64 (x : Int)) ∧ w'.cell? ⟨gb, j, none⟩ = some (.int .i64 (y : Int)) ∧ Hid (Mid w mb N T D m w')) (by kernel_rfl) ⟨y0, y1, KR.out.drewN 1⟩ (fun hHeld => ?_)
          refine wpAnyH_take (i := 0) (oi := Oper.mk (some 18) _ _ _ _ _) (v := .pointer (some ⟨lb, 0, none⟩)) rfl (by kernel_rfl) (by kernel_rfl) (by kernel_rfl) (fun _ _ _ h => h) (Or.inl ⟨by rfl, fun w hSw => by go_simp⟩) (by assumption) ?_
          simp only [Act.put, List.setIfInBounds_toArray, List.set_cons_zero, List.set_cons_succ]
          refine wpAnyH_take (i := 1) (oi := Oper.mk (some 19) _ _ _ _ _) (v := .slice (some ⟨ga, 0, none⟩) xs.length ac) rfl (by kernel_rfl) (by kernel_rfl) (by kernel_rfl) (fun _ _ _ h => h) (Or.inl ⟨by rfl, fun w hSw => by go_simp⟩) (by assumption) ?_
          simp only [Act.put, List.setIfInBounds_toArray, List.set_cons_zero, List.set_cons_succ]
          refine wpAnyH_take (i := 2) (oi := Oper.mk (some 20) _ _ _ _ _) (v := .int .i64 (j : Int)) rfl (by kernel_rfl) (by kernel_rfl) (by kernel_rfl) (fun _ _ _ h => h) (Or.inl ⟨by rfl, fun w hSw => by go_simp⟩) (by assumption) ?_
          simp only [Act.put, List.setIfInBounds_toArray, List.set_cons_zero, List.set_cons_succ]
          refine wpAnyH_take (i := 3) (oi := Oper.mk (some 21) _ _ _ _ _) (v := .pointer (some ⟨ga, j, none⟩)) rfl (by kernel_rfl) (by kernel_rfl) (by kernel_rfl) (fun _ _ _ h => h) (Or.inl ⟨by rfl, fun w hSw => by go_simp⟩) (by assumption) ?_
          simp only [Act.put, List.setIfInBounds_toArray, List.set_cons_zero, List.set_cons_succ]
          refine wpAnyH_take (i := 4) (oi := Oper.mk (some 22) _ _ _ _ _) (v := .int .i64 (x : Int)) rfl (by kernel_rfl) (by kernel_rfl) (by kernel_rfl) (fun _ _ _ h => h) (Or.inl ⟨by rfl, fun w hSw => by obtain ⟨h1, h2, h3⟩ := hSw; go_simp⟩) (by assumption) ?_
          simp only [Act.put, List.setIfInBounds_toArray, List.set_cons_zero, List.set_cons_succ]
          refine wpAnyH_take (i := 5) (oi := Oper.mk (some 23) _ _ _ _ _) (v := .slice (some ⟨gb, 0, none⟩) bs.length bc) rfl (by kernel_rfl) (by kernel_rfl) (by kernel_rfl) (fun _ _ _ h => h) (Or.inl ⟨by rfl, fun w hSw => by go_simp⟩) (by assumption) ?_
          simp only [Act.put, List.setIfInBounds_toArray, List.set_cons_zero, List.set_cons_succ]
          refine wpAnyH_take (i := 6) (oi := Oper.mk (some 24) _ _ _ _ _) (v := .int .i64 (j : Int)) rfl (by kernel_rfl) (by kernel_rfl) (by kernel_rfl) (fun _ _ _ h => h) (Or.inl ⟨by rfl, fun w hSw => by go_simp⟩) (by assumption) ?_
          simp only [Act.put, List.setIfInBounds_toArray, List.set_cons_zero, List.set_cons_succ]
          refine wpAnyH_take (i := 7) (oi := Oper.mk (some 25) _ _ _ _ _) (v := .pointer (some ⟨gb, j, none⟩)) rfl (by kernel_rfl) (by kernel_rfl) (by kernel_rfl) (fun _ _ _ h => h) (Or.inl ⟨by rfl, fun w hSw => by go_simp⟩) (by assumption) ?_
          simp only [Act.put, List.setIfInBounds_toArray, List.set_cons_zero, List.set_cons_succ]
          refine wpAnyH_take (i := 8) (oi := Oper.mk (some 26) _ _ _ _ _) (v := .int .i64 (y : Int)) rfl (by kernel_rfl) (by kernel_rfl) (by kernel_rfl) (fun _ _ _ h => h) (Or.inl ⟨by rfl, fun w hSw => by obtain ⟨h1, h2, h3⟩ := hSw; go_simp⟩) (by assumption) ?_
          simp only [Act.put, List.setIfInBounds_toArray, List.set_cons_zero, List.set_cons_succ]
          refine wpAnyH_ready (rs := [9]) (by kernel_rfl) (by simp) ?_
          refine AllReadyH.cons (o := Oper.mk (some 27) _ _ _ _ _) rfl (fun K hK => ?_) AllReadyH.nil
          go_simp
          refine (FM x y true (.inl ⟨rfl, rfl, rfl⟩) _ (KR.out.drewN 1)).mono ?_
          rintro e w' ⟨rfl, hcf, hmf⟩
          have S2 := keep2 (p1 := (ga, j)) (p2 := (gb, j)) hcf hmf ⟨y0, y1, KR.out.drewN 1⟩
          refine hK _ _ S2 (fun _ => ?_)
          clear hK K hHeld
          refine wpAnyH_take (i := 10) (oi := Oper.mk (some 28) _ _ _ _ _) (v := .bool false) rfl (by kernel_rfl) (by kernel_rfl) (by kernel_rfl) (fun _ _ _ h => h) (Or.inl ⟨by rfl, fun w hSw => by go_simp⟩) (by assumption) ?_
          simp only [Act.put, List.setIfInBounds_toArray, List.set_cons_zero, List.set_cons_succ]
          refine wpAnyH_take (i := 11) (oi := Oper.mk (some 29) _ _ _ _ _) (v := .bool false) rfl (by kernel_rfl) (by kernel_rfl) (by kernel_rfl) (fun _ _ _ h => h) (Or.inl ⟨by rfl, fun w hSw => by go_simp⟩) (by assumption) ?_
          simp only [Act.put, List.setIfInBounds_toArray, List.set_cons_zero, List.set_cons_succ]
          refine wpAnyH_take (i := 12) (oi := Oper.mk (some 30) _ _ _ _ _) (v := undef) rfl (by kernel_rfl) (by kernel_rfl) (by kernel_rfl) (fun _ _ _ h => h) (Or.inr ⟨by rfl, rfl⟩) (by assumption) ?_
          simp only [Act.put, List.setIfInBounds_toArray, List.set_cons_zero, List.set_cons_succ]
          refine wpAnyH_take (i := 13) (oi := Oper.mk (some 31) _ _ _ _ _) (v := undef) rfl (by kernel_rfl) (by kernel_rfl) (by kernel_rfl) (fun _ _ _ h => h) (Or.inr ⟨by rfl, rfl⟩) (by assumption) ?_
          simp only [Act.put, List.setIfInBounds_toArray, List.set_cons_zero, List.set_cons_succ]
          refine wpAnyH_take (i := 14) (oi := Oper.mk (some 32) _ _ _ _ _) (v := undef) rfl (by kernel_rfl) (by kernel_rfl) (by kernel_rfl) (fun _ _ _ h => h) (Or.inr ⟨by rfl, rfl⟩) (by assumption) ?_
          simp only [Act.put, List.setIfInBounds_toArray, List.set_cons_zero, List.set_cons_succ]
          refine wpAnyH_take (i := 15) (oi := Oper.mk (some 33) _ _ _ _ _) (v := undef) rfl (by kernel_rfl) (by kernel_rfl) (by kernel_rfl) (fun _ _ _ h => h) (Or.inr ⟨by rfl, rfl⟩) (by assumption) ?_
          simp only [Act.put, List.setIfInBounds_toArray, List.set_cons_zero, List.set_cons_succ]
          refine wpAnyH_take (i := 16) (oi := Oper.mk (some 34) _ _ _ _ _) (v := undef) rfl (by kernel_rfl) (by kernel_rfl) (by kernel_rfl) (fun _ _ _ h => h) (Or.inr ⟨by rfl, rfl⟩) (by assumption) ?_
          simp only [Act.put, List.setIfInBounds_toArray, List.set_cons_zero, List.set_cons_succ]
          refine wpAnyH_take (i := 17) (oi := Oper.mk (some 35) _ _ _ _ _) (v := undef) rfl (by kernel_rfl) (by kernel_rfl) (by kernel_rfl) (fun _ _ _ h => h) (Or.inr ⟨by rfl, rfl⟩) (by assumption) ?_
          simp only [Act.put, List.setIfInBounds_toArray, List.set_cons_zero, List.set_cons_succ]
          refine wpAnyH_take (i := 18) (oi := Oper.mk (some 36) _ _ _ _ _) (v := undef) rfl (by kernel_rfl) (by kernel_rfl) (by kernel_rfl) (fun _ _ _ h => h) (Or.inr ⟨by rfl, rfl⟩) (by assumption) ?_
          simp only [Act.put, List.setIfInBounds_toArray, List.set_cons_zero, List.set_cons_succ]
          refine wpAnyH_take (i := 19) (oi := Oper.mk (some 37) _ _ _ _ _) (v := undef) rfl (by kernel_rfl) (by kernel_rfl) (by kernel_rfl) (fun _ _ _ h => h) (Or.inr ⟨by rfl, rfl⟩) (by assumption) ?_
          simp only [Act.put, List.setIfInBounds_toArray, List.set_cons_zero, List.set_cons_succ]
          refine wpAnyH_take (i := 20) (oi := Oper.mk (some 38) _ _ _ _ _) (v := undef) rfl (by kernel_rfl) (by kernel_rfl) (by kernel_rfl) (fun _ _ _ h => h) (Or.inr ⟨by rfl, rfl⟩) (by assumption) ?_
          simp only [Act.put, List.setIfInBounds_toArray, List.set_cons_zero, List.set_cons_succ]
          refine wpAnyH_take (i := 21) (oi := Oper.mk (some 39) _ _ _ _ _) (v := undef) rfl (by kernel_rfl) (by kernel_rfl) (by kernel_rfl) (fun _ _ _ h => h) (Or.inr ⟨by rfl, rfl⟩) (by assumption) ?_
          simp only [Act.put, List.setIfInBounds_toArray, List.set_cons_zero, List.set_cons_succ]
          refine wpAnyH_take (i := 22) (oi := Oper.mk (some 40) _ _ _ _ _) (v := undef) rfl (by kernel_rfl) (by kernel_rfl) (by kernel_rfl) (fun _ _ _ h => h) (Or.inr ⟨by rfl, rfl⟩) (by assumption) ?_
          simp only [Act.put, List.setIfInBounds_toArray, List.set_cons_zero, List.set_cons_succ]
          refine wpAnyH_take (i := 23) (oi := Oper.mk (some 41) _ _ _ _ _) (v := .bool false) rfl (by kernel_rfl) (by kernel_rfl) (by kernel_rfl) (fun _ _ _ h => h) (Or.inl ⟨by rfl, fun w hSw => by go_simp⟩) (by assumption) ?_
          simp only [Act.put, List.setIfInBounds_toArray, List.set_cons_zero, List.set_cons_succ]
          refine wpAnyH_done (by kernel_rfl) ?_ _
          have M2 := S2.2.2
          clear S2
          go_wp2
          go_roundw
          case rel => exact ⟨j + 1, by omega, by go_num, by show _ = _; rw [HT.out, HA.out, HE.out]; rfl, M2.out⟩
          case measure => simp [intOf]; omega
      · have hje : j = xs.length := by omega
        subst hje
        have hta : (xs.zip bs).take xs.length = xs.zip bs := List.take_of_length_le (by have := HZ.out; omega)
        rw [hta] at HA
        go_wp2
        go_ret
        exact ⟨ret_bool HA.out.symm, KR.out⟩
  · have hd : decide (xs.length ≤ bs.length) = false := by simp; omega
    have hgt : decide (bs.length < xs.length) = true := by simp; omega
    rw [hd, Bool.false_and]
    have HM := hide (Mid.refl HS.out m)
    clear hd
    go_enter Tryz.func54, Tryz.ntmps54
    go_wp2
    all_goals go_ret
    all_goals exact ⟨rfl, HM.out⟩
end
end Go.Proofs.YtkilicjjaljghaaGreat
