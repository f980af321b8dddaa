/-
  The printer: the contracts of two, Row over its closures, row.
-/
import Derived.Test.YtjojlcfoiknlhaaGreatDoorPme
namespace Go.Proofs.YtjojlcfoiknlhaaGreatDoor
open Go.RowKit

section
variable {B wb : Nat} {tv : Value} {bn : Wk}

set_option maxHeartbeats 2000000 in
set_option maxRecDepth 100000 in
theorem two_any {w : World} {bs : List UInt8} (hB : B ≤ w.heap.size) (hw : Wrt w B wb tv bn bs) (kd va vb vc : Int) (vl : List Int) (tx : List UInt8) (vn vt vp : Int) (la : Option Addr) (lc : Nat) (X0 X1 : List UInt8) (bk lf lg : Int) (hbk : (M.bnK kd tx : Int) = bk) (hb : 1 ≤ bk ∧ bk ≤ 3) (hlf1 : bk = 1 → lf = 2) (hlf2 : bk ≠ 1 → lf = bk) (hlg : lg = bk + 1) (CW : CCs w B wb tv bn 169 #[.pointer (some ⟨wb, 0, none⟩), .int .i64 va, .int .i64 lf] X0) (CV : CCs w B wb tv bn 169 #[.pointer (some ⟨wb, 0, none⟩), .int .i64 vb, .int .i64 lg] X1) (hlen : bs.length + (X0 ++ ([32] ++ tx ++ [32]) ++ X1).length ≤ 100000000000000) :
    Calls Tryz.prog 167 #[.pointer (some ⟨wb, 0, none⟩), .agg #[.int .i64 kd, .int .i64 va, .int .i64 vb, .int .i64 vc, .slice la vl.length lc, .string ⟨tx.toArray⟩, .int .i64 vn, .int .i64 vt, .int .i64 vp]] w (WPost w B wb tv bn (bs ++ (X0 ++ ([32] ++ tx ++ [32]) ++ X1))) := by
  have HBI := hide (fun a => binds_any (M.Nd.mk kd va vb vc vl tx vn vt vp) la lc a)
  simp only [ndv, hbk] at HBI
  have hc0 : Chg (fun _ => False) w (w.alloc (.cells #[.int .i64 kd, .int .i64 va, .int .i64 vb, .int .i64 vc, .slice la vl.length lc, .string ⟨tx.toArray⟩, .int .i64 vn, .int .i64 vt, .int .i64 vp] 63)) := Chg.alloc (fun _ => False) _ _
  have hB0 : B ≤ (w.alloc (.cells #[.int .i64 kd, .int .i64 va, .int .i64 vb, .int .i64 vc, .slice la vl.length lc, .string ⟨tx.toArray⟩, .int .i64 vn, .int .i64 vt, .int .i64 vp] 63)).heap.size := Nat.le_trans hB hc0.size
  have SY := hide (cs_any (B := B) (wb := wb) (tv := tv) (bn := bn) hB0)
  have CW0 := hide (CW _ hc0)
  have CV0 := hide (CV _ hc0)
  have K0 := hide (Wkp.refl B wb (w.alloc (.cells #[.int .i64 kd, .int .i64 va, .int .i64 vb, .int .i64 vc, .slice la vl.length lc, .string ⟨tx.toArray⟩, .int .i64 vn, .int .i64 vt, .int .i64 vp] 63)))
  have R0 := hide (hw.still hc0)
  have END : Hid (∀ a bs', Wkp B wb (w.alloc (.cells #[.int .i64 kd, .int .i64 va, .int .i64 vb, .int .i64 vc, .slice la vl.length lc, .string ⟨tx.toArray⟩, .int .i64 vn, .int .i64 vt, .int .i64 vp] 63)) a → Wrt a B wb tv bn bs' → bs' = bs ++ (X0 ++ ([32] ++ tx ++ [32]) ++ X1) → WPost w B wb tv bn (bs ++ (X0 ++ ([32] ++ tx ++ [32]) ++ X1)) (.returned (.tuple #[])) a) := fun a bs' h1 h2 e => ⟨rfl, (Wkp.still hc0).trans h1, e ▸ h2⟩
  have hb0 : (w.alloc (.cells #[.int .i64 kd, .int .i64 va, .int .i64 vb, .int .i64 vc, .slice la vl.length lc, .string ⟨tx.toArray⟩, .int .i64 vn, .int .i64 vt, .int .i64 vp] 63)).heap[w.heap.size]? = some (.cells #[.int .i64 kd, .int .i64 va, .int .i64 vb, .int .i64 vc, .slice la vl.length lc, .string ⟨tx.toArray⟩, .int .i64 vn, .int .i64 vt, .int .i64 vp] 63 (0, 0)) := by
    exact heap_alloc_new w _
  have FC : Hid (∀ a, Wkp B wb (w.alloc (.cells #[.int .i64 kd, .int .i64 va, .int .i64 vb, .int .i64 vc, .slice la vl.length lc, .string ⟨tx.toArray⟩, .int .i64 vn, .int .i64 vt, .int .i64 vp] 63)) a → a.cell? ⟨w.heap.size, 1, none⟩ = some (.int .i64 va) ∧ a.cell? ⟨w.heap.size, 2, none⟩ = some (.int .i64 vb) ∧ a.cell? ⟨w.heap.size, 5, none⟩ = some (.string ⟨tx.toArray⟩) ∧ w.heap.size < a.heap.size) := by
    intro a ha
    have g0 := ha.other (hw.still hc0) hb0 (by decide) (by decide)
    exact ⟨by rw [cell_of_row a _ 1 _ _ _ g0]; rfl, by rw [cell_of_row a _ 2 _ _ _ g0]; rfl, by rw [cell_of_row a _ 5 _ _ _ g0]; rfl, (Array.getElem?_eq_some_iff.1 g0).1⟩
  clear hb0
  clear hw hc0 hB0 CW CV
  go_enter Tryz.func167, Tryz.ntmps167
  go_wp2_with fail
  refine (HBI.out _).mono ?_
  rintro e w1 ⟨rfl, hc⟩
  have K1 := hide (K0.out.trans (Wkp.still hc))
  have R1 := hide (R0.out.still hc)
  obtain ⟨y1x0, y1x1, y1x2, y1x3⟩ := FC.out w1 K1.out
  clear hc HBI K0 R0
  by_cases hb1 : bk = 1
  · subst hb1
    have hlf := hlf1 rfl
    subst hlf
    subst hlg
    have H1 := hide (CW0.out _ _ K1.out R1.out (by first | omega | (simp; omega) | (simp at hlen; omega) | (simp at hlen ⊢; omega)))
    go_wp2_with fail
    refine (H1.out).mono ?_
    rintro e w2 ⟨rfl, h1, h2⟩
    have K2 := hide h1
    have R2 := hide h2
    obtain ⟨y2x0, y2x1, y2x2, y2x3⟩ := FC.out w2 h1
    clear h1 h2 H1 K1 R1
    have H2 := hide (SY.out.2.2 _ _ _ 1 [32] (tx) [32] rfl K2.out R2.out (by first | omega | (simp; omega) | (simp at hlen; omega) | (simp at hlen ⊢; omega)))
    go_wp2_with fail
    go_region_with (go_at_call 67; refine (H2.out.2).mono ?_; rintro e w3 ⟨rfl, h1, h2⟩)
    all_goals
      have K3 := hide h1
      have R3 := hide h2
      obtain ⟨y3x0, y3x1, y3x2, y3x3⟩ := FC.out w3 h1
      clear h1 h2 H2 K2 R2
      have H3 := hide (CV0.out _ _ K3.out R3.out (by first | omega | (simp; omega) | (simp at hlen; omega) | (simp at hlen ⊢; omega)))
      go_wp2_with fail
      refine (H3.out).mono ?_
      rintro e w4 ⟨rfl, h1, h2⟩
      have K4 := hide h1
      have R4 := hide h2
      obtain ⟨y4x0, y4x1, y4x2, y4x3⟩ := FC.out w4 h1
      clear h1 h2 H3 K3 R3
      have HE := hide (END.out _ _ K4.out R4.out (by simp))
      clear K4 R4
      go_wp2
      go_end0
      exact HE.out
  · have hlf := hlf2 hb1
    subst hlf
    subst hlg
    have hb2 : (lf == 1) = false := by simp [hb1]
    have H1 := hide (CW0.out _ _ K1.out R1.out (by first | omega | (simp; omega) | (simp at hlen; omega) | (simp at hlen ⊢; omega)))
    go_wp2_with fail
    refine (H1.out).mono ?_
    rintro e w2 ⟨rfl, h1, h2⟩
    have K2 := hide h1
    have R2 := hide h2
    obtain ⟨y2x0, y2x1, y2x2, y2x3⟩ := FC.out w2 h1
    clear h1 h2 H1 K1 R1
    have H2 := hide (SY.out.2.2 _ _ _ 1 [32] (tx) [32] rfl K2.out R2.out (by first | omega | (simp; omega) | (simp at hlen; omega) | (simp at hlen ⊢; omega)))
    go_wp2_with fail
    go_region_with (go_at_call 67; refine (H2.out.2).mono ?_; rintro e w3 ⟨rfl, h1, h2⟩)
    all_goals
      have K3 := hide h1
      have R3 := hide h2
      obtain ⟨y3x0, y3x1, y3x2, y3x3⟩ := FC.out w3 h1
      clear h1 h2 H2 K2 R2
      have H3 := hide (CV0.out _ _ K3.out R3.out (by first | omega | (simp; omega) | (simp at hlen; omega) | (simp at hlen ⊢; omega)))
      go_wp2_with fail
      refine (H3.out).mono ?_
      rintro e w4 ⟨rfl, h1, h2⟩
      have K4 := hide h1
      have R4 := hide h2
      obtain ⟨y4x0, y4x1, y4x2, y4x3⟩ := FC.out w4 h1
      clear h1 h2 H3 K3 R3
      have HE := hide (END.out _ _ K4.out R4.out (by simp))
      clear K4 R4
      go_wp2
      go_end0
      exact HE.out

set_option maxHeartbeats 2000000 in
set_option maxRecDepth 100000 in
theorem row_row1 (w : World) (bs : List UInt8) (h : Wrt w B wb tv bn bs) (hBw : B ≤ w.heap.size) (n : Nat) (hn : n ≤ 1000000) (sep : ByteArray) (c1 c2 : Value) (f : Nat → List UInt8) (hlen : bs.length + (rowb sep.data.toList f n).length ≤ 100000000000000)
    (HP : ∀ (a : World) (j : Nat) (bs' : List UInt8), Wkp B wb w a → Wrt a B wb tv bn bs' → j < n → bs'.length + (f j).length ≤ 100000000000000 → Calls Tryz.prog 192 #[.int .i64 (j : Int), c1, c2] a (WPost w B wb tv bn (bs' ++ f j))) :
    Calls Tryz.prog 73 #[.pointer (some ⟨wb, 0, none⟩), .int .i64 (n : Int), .string sep, .func (.func 192) #[] #[c1, c2]] w (WPost w B wb tv bn (bs ++ rowb sep.data.toList f n)) := by
  have H0 := hide h
  have HPP := hide HP
  have HSZ : Hid (sep.data.toList.length = sep.size) := bl sep
  clear h HP
  go_enter Tryz.func73, Tryz.ntmps73
  go_wp2_with fail
  go_loopw [10] (fun v wr => ∃ (j : Nat), j ≤ n ∧ v = .int .i64 (j : Int) ∧ Hid (Wrt wr B wb tv bn (bs ++ rowb sep.data.toList f j)) ∧ Hid (Wkp B wb w wr)) (fun v _ => n - (intOf v).toNat)
  case atStart => exact ⟨0, Nat.zero_le _, rfl, by simpa [rowb] using H0, Wkp.refl _ _ _⟩
  case round =>
    obtain ⟨j, hj, rfl, WR, CR⟩ := hrel
    by_cases hjl : j < n
    · have hl := rowb_le sep.data.toList f (show j + 1 ≤ n from hjl)
      have HE := hide (rowb_succ sep.data.toList f j)
      rw [rowb_succ] at hl
      simp only [List.length_append] at hl
      have hwl : wb < wr.heap.size := WR.out.tys.2.2
      by_cases hj0 : j = 0
      · have HC := hide (HPP.out wr j _ CR.out WR.out hjl (by simp only [List.length_append]; omega))
        simp only [hj0, if_true, List.nil_append] at HE
        subst hj0
        have CR2 := hide CR.out
        clear CR WR hl
        go_wp2_with fail
        refine HC.out.mono ?_
        rintro e w1 ⟨rfl, hk, hw⟩
        have HK := hide hk
        have HWr := hide hw
        clear hk hw
        go_wp2
        go_roundw
        case rel => exact ⟨0 + 1, by omega, by go_num, by rw [HE.out, ← List.append_assoc]; exact HWr.out, HK.out⟩
        case measure => simp [intOf]; omega
      · simp only [hj0, if_false] at HE hl
        have hpos : (0 : Int) < (j : Int) := by omega
        have HW := hide (writeString_any WR.out sep (by have := HSZ.out; simp only [List.length_append]; omega) (Nat.le_trans hBw CR.out.size))
        have CR2 := hide CR.out
        have HL := hide hl
        clear CR WR hl
        go_wp2_with fail
        refine HW.out.mono ?_
        rintro e w1 ⟨rfl, hk, hw⟩
        have HC := hide (HPP.out w1 j _ (CR2.out.trans hk) hw hjl (by have := HL.out; simp only [List.length_append]; omega))
        clear hk hw HW
        go_wp2_with fail
        refine HC.out.mono ?_
        rintro e w2 ⟨rfl, hk, hw⟩
        have HK := hide hk
        have HWr := hide hw
        clear hk hw
        go_wp2
        go_roundw
        case rel => exact ⟨j + 1, by omega, by go_num, by rw [HE.out]; simpa using HWr, HK.out⟩
        case measure => simp [intOf]; omega
    · have hje : j = n := by omega
      subst hje
      go_wp2_with fail
      go_end0
      exact ⟨rfl, CR.out, WR.out⟩


set_option maxHeartbeats 2000000 in
set_option maxRecDepth 100000 in
theorem row_object1 (w : World) (bs : List UInt8) (h : Wrt w B wb tv bn bs) (hBw : B ≤ w.heap.size) (n : Nat) (hn : n ≤ 1000000) (sep : ByteArray) (c1 c2 : Value) (f : Nat → List UInt8) (hlen : bs.length + (rowb sep.data.toList f n).length ≤ 100000000000000)
    (HP : ∀ (a : World) (j : Nat) (bs' : List UInt8), Wkp B wb w a → Wrt a B wb tv bn bs' → j < n → bs'.length + (f j).length ≤ 100000000000000 → Calls Tryz.prog 209 #[.int .i64 (j : Int), c1, c2] a (WPost w B wb tv bn (bs' ++ f j))) :
    Calls Tryz.prog 73 #[.pointer (some ⟨wb, 0, none⟩), .int .i64 (n : Int), .string sep, .func (.func 209) #[] #[c1, c2]] w (WPost w B wb tv bn (bs ++ rowb sep.data.toList f n)) := by
  have H0 := hide h
  have HPP := hide HP
  have HSZ : Hid (sep.data.toList.length = sep.size) := bl sep
  clear h HP
  go_enter Tryz.func73, Tryz.ntmps73
  go_wp2_with fail
  go_loopw [10] (fun v wr => ∃ (j : Nat), j ≤ n ∧ v = .int .i64 (j : Int) ∧ Hid (Wrt wr B wb tv bn (bs ++ rowb sep.data.toList f j)) ∧ Hid (Wkp B wb w wr)) (fun v _ => n - (intOf v).toNat)
  case atStart => exact ⟨0, Nat.zero_le _, rfl, by simpa [rowb] using H0, Wkp.refl _ _ _⟩
  case round =>
    obtain ⟨j, hj, rfl, WR, CR⟩ := hrel
    by_cases hjl : j < n
    · have hl := rowb_le sep.data.toList f (show j + 1 ≤ n from hjl)
      have HE := hide (rowb_succ sep.data.toList f j)
      rw [rowb_succ] at hl
      simp only [List.length_append] at hl
      have hwl : wb < wr.heap.size := WR.out.tys.2.2
      by_cases hj0 : j = 0
      · have HC := hide (HPP.out wr j _ CR.out WR.out hjl (by simp only [List.length_append]; omega))
        simp only [hj0, if_true, List.nil_append] at HE
        subst hj0
        have CR2 := hide CR.out
        clear CR WR hl
        go_wp2_with fail
        refine HC.out.mono ?_
        rintro e w1 ⟨rfl, hk, hw⟩
        have HK := hide hk
        have HWr := hide hw
        clear hk hw
        go_wp2
        go_roundw
        case rel => exact ⟨0 + 1, by omega, by go_num, by rw [HE.out, ← List.append_assoc]; exact HWr.out, HK.out⟩
        case measure => simp [intOf]; omega
      · simp only [hj0, if_false] at HE hl
        have hpos : (0 : Int) < (j : Int) := by omega
        have HW := hide (writeString_any WR.out sep (by have := HSZ.out; simp only [List.length_append]; omega) (Nat.le_trans hBw CR.out.size))
        have CR2 := hide CR.out
        have HL := hide hl
        clear CR WR hl
        go_wp2_with fail
        refine HW.out.mono ?_
        rintro e w1 ⟨rfl, hk, hw⟩
        have HC := hide (HPP.out w1 j _ (CR2.out.trans hk) hw hjl (by have := HL.out; simp only [List.length_append]; omega))
        clear hk hw HW
        go_wp2_with fail
        refine HC.out.mono ?_
        rintro e w2 ⟨rfl, hk, hw⟩
        have HK := hide hk
        have HWr := hide hw
        clear hk hw
        go_wp2
        go_roundw
        case rel => exact ⟨j + 1, by omega, by go_num, by rw [HE.out]; simpa using HWr, HK.out⟩
        case measure => simp [intOf]; omega
    · have hje : j = n := by omega
      subst hje
      go_wp2_with fail
      go_end0
      exact ⟨rfl, CR.out, WR.out⟩


set_option maxHeartbeats 2000000 in
set_option maxRecDepth 100000 in
theorem row_function1 (w : World) (bs : List UInt8) (h : Wrt w B wb tv bn bs) (hBw : B ≤ w.heap.size) (n : Nat) (hn : n ≤ 1000000) (sep : ByteArray) (c1 c2 : Value) (f : Nat → List UInt8) (hlen : bs.length + (rowb sep.data.toList f n).length ≤ 100000000000000)
    (HP : ∀ (a : World) (j : Nat) (bs' : List UInt8), Wkp B wb w a → Wrt a B wb tv bn bs' → j < n → bs'.length + (f j).length ≤ 100000000000000 → Calls Tryz.prog 208 #[.int .i64 (j : Int), c1, c2] a (WPost w B wb tv bn (bs' ++ f j))) :
    Calls Tryz.prog 73 #[.pointer (some ⟨wb, 0, none⟩), .int .i64 (n : Int), .string sep, .func (.func 208) #[] #[c1, c2]] w (WPost w B wb tv bn (bs ++ rowb sep.data.toList f n)) := by
  have H0 := hide h
  have HPP := hide HP
  have HSZ : Hid (sep.data.toList.length = sep.size) := bl sep
  clear h HP
  go_enter Tryz.func73, Tryz.ntmps73
  go_wp2_with fail
  go_loopw [10] (fun v wr => ∃ (j : Nat), j ≤ n ∧ v = .int .i64 (j : Int) ∧ Hid (Wrt wr B wb tv bn (bs ++ rowb sep.data.toList f j)) ∧ Hid (Wkp B wb w wr)) (fun v _ => n - (intOf v).toNat)
  case atStart => exact ⟨0, Nat.zero_le _, rfl, by simpa [rowb] using H0, Wkp.refl _ _ _⟩
  case round =>
    obtain ⟨j, hj, rfl, WR, CR⟩ := hrel
    by_cases hjl : j < n
    · have hl := rowb_le sep.data.toList f (show j + 1 ≤ n from hjl)
      have HE := hide (rowb_succ sep.data.toList f j)
      rw [rowb_succ] at hl
      simp only [List.length_append] at hl
      have hwl : wb < wr.heap.size := WR.out.tys.2.2
      by_cases hj0 : j = 0
      · have HC := hide (HPP.out wr j _ CR.out WR.out hjl (by simp only [List.length_append]; omega))
        simp only [hj0, if_true, List.nil_append] at HE
        subst hj0
        have CR2 := hide CR.out
        clear CR WR hl
        go_wp2_with fail
        refine HC.out.mono ?_
        rintro e w1 ⟨rfl, hk, hw⟩
        have HK := hide hk
        have HWr := hide hw
        clear hk hw
        go_wp2
        go_roundw
        case rel => exact ⟨0 + 1, by omega, by go_num, by rw [HE.out, ← List.append_assoc]; exact HWr.out, HK.out⟩
        case measure => simp [intOf]; omega
      · simp only [hj0, if_false] at HE hl
        have hpos : (0 : Int) < (j : Int) := by omega
        have HW := hide (writeString_any WR.out sep (by have := HSZ.out; simp only [List.length_append]; omega) (Nat.le_trans hBw CR.out.size))
        have CR2 := hide CR.out
        have HL := hide hl
        clear CR WR hl
        go_wp2_with fail
        refine HW.out.mono ?_
        rintro e w1 ⟨rfl, hk, hw⟩
        have HC := hide (HPP.out w1 j _ (CR2.out.trans hk) hw hjl (by have := HL.out; simp only [List.length_append]; omega))
        clear hk hw HW
        go_wp2_with fail
        refine HC.out.mono ?_
        rintro e w2 ⟨rfl, hk, hw⟩
        have HK := hide hk
        have HWr := hide hw
        clear hk hw
        go_wp2
        go_roundw
        case rel => exact ⟨j + 1, by omega, by go_num, by rw [HE.out]; simpa using HWr, HK.out⟩
        case measure => simp [intOf]; omega
    · have hje : j = n := by omega
      subst hje
      go_wp2_with fail
      go_end0
      exact ⟨rfl, CR.out, WR.out⟩

end
end Go.Proofs.YtjojlcfoiknlhaaGreatDoor
