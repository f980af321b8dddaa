/-
  The printer: the contracts of simple.
-/
import Derived.Test.YtjojlcfoiknlhaaGreatDoorPfu
namespace Go.Proofs.YtjojlcfoiknlhaaGreatDoor
open Go.RowKit

section
variable {B wb : Nat} {tv : Value} {bn : Wk}

set_option maxHeartbeats 2000000 in
set_option maxRecDepth 100000 in
theorem simple_num {w : World} {bs : List UInt8} (hB : B ≤ w.heap.size) (hw : Wrt w B wb tv bn bs) (va vb vc : Int) (vl : List Int) (tx : List UInt8) (vn vt vp : Int) (la : Option Addr) (lc : Nat) (X0 : List UInt8) (CI : ∀ w1, Chg (fun _ => False) w w1 → ∀ a, Wkp B wb w1 a → Calls Tryz.prog 193 #[.int .i64 vn] a fun e w' => e = .returned (.string ⟨X0.toArray⟩) ∧ Chg (fun _ => False) a w')  (hlen : bs.length + (X0).length ≤ 100000000000000) :
    Calls Tryz.prog 171 #[.pointer (some ⟨wb, 0, none⟩), .agg #[.int .i64 1, .int .i64 va, .int .i64 vb, .int .i64 vc, .slice la vl.length lc, .string ⟨tx.toArray⟩, .int .i64 vn, .int .i64 vt, .int .i64 vp]] w (WPost w B wb tv bn (bs ++ (X0))) := by
  have hc0 : Chg (fun _ => False) w (w.alloc (.cells #[.int .i64 1, .int .i64 va, .int .i64 vb, .int .i64 vc, .slice la vl.length lc, .string ⟨tx.toArray⟩, .int .i64 vn, .int .i64 vt, .int .i64 vp] 63)) := Chg.alloc (fun _ => False) _ _
  have hB0 : B ≤ (w.alloc (.cells #[.int .i64 1, .int .i64 va, .int .i64 vb, .int .i64 vc, .slice la vl.length lc, .string ⟨tx.toArray⟩, .int .i64 vn, .int .i64 vt, .int .i64 vp] 63)).heap.size := Nat.le_trans hB hc0.size
  have SY := hide (cs_any (B := B) (wb := wb) (tv := tv) (bn := bn) hB0)
  have K0 := hide (Wkp.refl B wb (w.alloc (.cells #[.int .i64 1, .int .i64 va, .int .i64 vb, .int .i64 vc, .slice la vl.length lc, .string ⟨tx.toArray⟩, .int .i64 vn, .int .i64 vt, .int .i64 vp] 63)))
  have R0 := hide (hw.still hc0)
  have END : Hid (∀ a bs', Wkp B wb (w.alloc (.cells #[.int .i64 1, .int .i64 va, .int .i64 vb, .int .i64 vc, .slice la vl.length lc, .string ⟨tx.toArray⟩, .int .i64 vn, .int .i64 vt, .int .i64 vp] 63)) a → Wrt a B wb tv bn bs' → bs' = bs ++ (X0) → WPost w B wb tv bn (bs ++ (X0)) (.returned (.tuple #[])) a) := fun a bs' h1 h2 e => ⟨rfl, (Wkp.still hc0).trans h1, e ▸ h2⟩
  have hb0 : (w.alloc (.cells #[.int .i64 1, .int .i64 va, .int .i64 vb, .int .i64 vc, .slice la vl.length lc, .string ⟨tx.toArray⟩, .int .i64 vn, .int .i64 vt, .int .i64 vp] 63)).heap[w.heap.size]? = some (.cells #[.int .i64 1, .int .i64 va, .int .i64 vb, .int .i64 vc, .slice la vl.length lc, .string ⟨tx.toArray⟩, .int .i64 vn, .int .i64 vt, .int .i64 vp] 63 (0, 0)) := by
    exact heap_alloc_new w _
  have FC : Hid (∀ a, Wkp B wb (w.alloc (.cells #[.int .i64 1, .int .i64 va, .int .i64 vb, .int .i64 vc, .slice la vl.length lc, .string ⟨tx.toArray⟩, .int .i64 vn, .int .i64 vt, .int .i64 vp] 63)) a → a.cell? ⟨w.heap.size, 6, none⟩ = some (.int .i64 vn) ∧ w.heap.size < a.heap.size) := by
    intro a ha
    have g0 := ha.other (hw.still hc0) hb0 (by decide) (by decide)
    exact ⟨by rw [cell_of_row a _ 6 _ _ _ g0]; rfl, (Array.getElem?_eq_some_iff.1 g0).1⟩
  have CI0 := hide (CI _ hc0)
  clear hb0
  clear hw hc0 hB0 CI
  go_enter Tryz.func171, Tryz.ntmps171
  go_wp2_with fail
  go_region_with (first | (go_at_call 193; refine (CI0.out _ (Wkp.still (Chg.drewN _ _ 1))).mono ?_; rintro e wi ⟨rfl, hci⟩) | (go_at_call 67; refine ((SY.out.1 _ _ _ 1 X0 rfl ((K0.out.trans (Wkp.still (Chg.drewN _ _ 1))).trans (Wkp.still hci)) ((R0.out.still (Chg.drewN _ _ 1)).still hci) (by first | omega | (simp; omega) | (simp at hlen; omega) | (simp at hlen ⊢; omega))).1).mono ?_; rintro e w1 ⟨rfl, h1, h2⟩))
  all_goals
    have K1 := hide h1
    have R1 := hide h2
    clear h1 h2 K0 R0
    have HE := hide (END.out _ _ K1.out R1.out (by simp))
    clear K1 R1
    go_wp2
    go_end0
    exact HE.out

set_option maxHeartbeats 2000000 in
set_option maxRecDepth 100000 in
theorem simple_text {w : World} {bs : List UInt8} (hB : B ≤ w.heap.size) (hw : Wrt w B wb tv bn bs) (va vb vc : Int) (vl : List Int) (tx : List UInt8) (vn vt vp : Int) (la : Option Addr) (lc : Nat)   (hlen : bs.length + ([34] ++ tx ++ [34]).length ≤ 100000000000000) :
    Calls Tryz.prog 171 #[.pointer (some ⟨wb, 0, none⟩), .agg #[.int .i64 2, .int .i64 va, .int .i64 vb, .int .i64 vc, .slice la vl.length lc, .string ⟨tx.toArray⟩, .int .i64 vn, .int .i64 vt, .int .i64 vp]] w (WPost w B wb tv bn (bs ++ ([34] ++ tx ++ [34]))) := by
  have hc0 : Chg (fun _ => False) w (w.alloc (.cells #[.int .i64 2, .int .i64 va, .int .i64 vb, .int .i64 vc, .slice la vl.length lc, .string ⟨tx.toArray⟩, .int .i64 vn, .int .i64 vt, .int .i64 vp] 63)) := Chg.alloc (fun _ => False) _ _
  have hB0 : B ≤ (w.alloc (.cells #[.int .i64 2, .int .i64 va, .int .i64 vb, .int .i64 vc, .slice la vl.length lc, .string ⟨tx.toArray⟩, .int .i64 vn, .int .i64 vt, .int .i64 vp] 63)).heap.size := Nat.le_trans hB hc0.size
  have SY := hide (cs_any (B := B) (wb := wb) (tv := tv) (bn := bn) hB0)
  have K0 := hide (Wkp.refl B wb (w.alloc (.cells #[.int .i64 2, .int .i64 va, .int .i64 vb, .int .i64 vc, .slice la vl.length lc, .string ⟨tx.toArray⟩, .int .i64 vn, .int .i64 vt, .int .i64 vp] 63)))
  have R0 := hide (hw.still hc0)
  have END : Hid (∀ a bs', Wkp B wb (w.alloc (.cells #[.int .i64 2, .int .i64 va, .int .i64 vb, .int .i64 vc, .slice la vl.length lc, .string ⟨tx.toArray⟩, .int .i64 vn, .int .i64 vt, .int .i64 vp] 63)) a → Wrt a B wb tv bn bs' → bs' = bs ++ ([34] ++ tx ++ [34]) → WPost w B wb tv bn (bs ++ ([34] ++ tx ++ [34])) (.returned (.tuple #[])) a) := fun a bs' h1 h2 e => ⟨rfl, (Wkp.still hc0).trans h1, e ▸ h2⟩
  have hb0 : (w.alloc (.cells #[.int .i64 2, .int .i64 va, .int .i64 vb, .int .i64 vc, .slice la vl.length lc, .string ⟨tx.toArray⟩, .int .i64 vn, .int .i64 vt, .int .i64 vp] 63)).heap[w.heap.size]? = some (.cells #[.int .i64 2, .int .i64 va, .int .i64 vb, .int .i64 vc, .slice la vl.length lc, .string ⟨tx.toArray⟩, .int .i64 vn, .int .i64 vt, .int .i64 vp] 63 (0, 0)) := by
    exact heap_alloc_new w _
  have FC : Hid (∀ a, Wkp B wb (w.alloc (.cells #[.int .i64 2, .int .i64 va, .int .i64 vb, .int .i64 vc, .slice la vl.length lc, .string ⟨tx.toArray⟩, .int .i64 vn, .int .i64 vt, .int .i64 vp] 63)) a → a.cell? ⟨w.heap.size, 5, none⟩ = some (.string ⟨tx.toArray⟩) ∧ w.heap.size < a.heap.size) := by
    intro a ha
    have g0 := ha.other (hw.still hc0) hb0 (by decide) (by decide)
    exact ⟨by rw [cell_of_row a _ 5 _ _ _ g0]; rfl, (Array.getElem?_eq_some_iff.1 g0).1⟩
  clear hb0
  clear hw hc0 hB0
  go_enter Tryz.func171, Tryz.ntmps171
  have H0 := hide (SY.out.2.2 _ _ (w.heap.size + 1) 1 [34] (tx) [34] (by simp) K0.out R0.out (by first | omega | (simp; omega) | (simp at hlen; omega) | (simp at hlen ⊢; omega)))
  go_wp2_with fail
  go_region_with (go_at_call 67; refine (H0.out.2).mono ?_; rintro e w1 ⟨rfl, h1, h2⟩)
  all_goals
    have K1 := hide h1
    have R1 := hide h2
    obtain ⟨y1x0, y1x1⟩ := FC.out w1 h1
    clear h1 h2 H0 K0 R0
    have HE := hide (END.out _ _ K1.out R1.out (by simp))
    clear K1 R1
    go_wp2
    go_end0
    exact HE.out

set_option maxHeartbeats 2000000 in
set_option maxRecDepth 100000 in
theorem simple_bool {w : World} {bs : List UInt8} (hB : B ≤ w.heap.size) (hw : Wrt w B wb tv bn bs) (va vb vc : Int) (vl : List Int) (tx : List UInt8) (vn vt vp : Int) (la : Option Addr) (lc : Nat) (X0 : List UInt8) (CI : ∀ w1, Chg (fun _ => False) w w1 → ∀ a, Wkp B wb w1 a → Calls Tryz.prog 194 #[.bool (vn == 1)] a fun e w' => e = .returned (.string ⟨X0.toArray⟩) ∧ Chg (fun _ => False) a w')  (hlen : bs.length + (X0).length ≤ 100000000000000) :
    Calls Tryz.prog 171 #[.pointer (some ⟨wb, 0, none⟩), .agg #[.int .i64 3, .int .i64 va, .int .i64 vb, .int .i64 vc, .slice la vl.length lc, .string ⟨tx.toArray⟩, .int .i64 vn, .int .i64 vt, .int .i64 vp]] w (WPost w B wb tv bn (bs ++ (X0))) := by
  have hc0 : Chg (fun _ => False) w (w.alloc (.cells #[.int .i64 3, .int .i64 va, .int .i64 vb, .int .i64 vc, .slice la vl.length lc, .string ⟨tx.toArray⟩, .int .i64 vn, .int .i64 vt, .int .i64 vp] 63)) := Chg.alloc (fun _ => False) _ _
  have hB0 : B ≤ (w.alloc (.cells #[.int .i64 3, .int .i64 va, .int .i64 vb, .int .i64 vc, .slice la vl.length lc, .string ⟨tx.toArray⟩, .int .i64 vn, .int .i64 vt, .int .i64 vp] 63)).heap.size := Nat.le_trans hB hc0.size
  have SY := hide (cs_any (B := B) (wb := wb) (tv := tv) (bn := bn) hB0)
  have K0 := hide (Wkp.refl B wb (w.alloc (.cells #[.int .i64 3, .int .i64 va, .int .i64 vb, .int .i64 vc, .slice la vl.length lc, .string ⟨tx.toArray⟩, .int .i64 vn, .int .i64 vt, .int .i64 vp] 63)))
  have R0 := hide (hw.still hc0)
  have END : Hid (∀ a bs', Wkp B wb (w.alloc (.cells #[.int .i64 3, .int .i64 va, .int .i64 vb, .int .i64 vc, .slice la vl.length lc, .string ⟨tx.toArray⟩, .int .i64 vn, .int .i64 vt, .int .i64 vp] 63)) a → Wrt a B wb tv bn bs' → bs' = bs ++ (X0) → WPost w B wb tv bn (bs ++ (X0)) (.returned (.tuple #[])) a) := fun a bs' h1 h2 e => ⟨rfl, (Wkp.still hc0).trans h1, e ▸ h2⟩
  have hb0 : (w.alloc (.cells #[.int .i64 3, .int .i64 va, .int .i64 vb, .int .i64 vc, .slice la vl.length lc, .string ⟨tx.toArray⟩, .int .i64 vn, .int .i64 vt, .int .i64 vp] 63)).heap[w.heap.size]? = some (.cells #[.int .i64 3, .int .i64 va, .int .i64 vb, .int .i64 vc, .slice la vl.length lc, .string ⟨tx.toArray⟩, .int .i64 vn, .int .i64 vt, .int .i64 vp] 63 (0, 0)) := by
    exact heap_alloc_new w _
  have FC : Hid (∀ a, Wkp B wb (w.alloc (.cells #[.int .i64 3, .int .i64 va, .int .i64 vb, .int .i64 vc, .slice la vl.length lc, .string ⟨tx.toArray⟩, .int .i64 vn, .int .i64 vt, .int .i64 vp] 63)) a → a.cell? ⟨w.heap.size, 6, none⟩ = some (.int .i64 vn) ∧ w.heap.size < a.heap.size) := by
    intro a ha
    have g0 := ha.other (hw.still hc0) hb0 (by decide) (by decide)
    exact ⟨by rw [cell_of_row a _ 6 _ _ _ g0]; rfl, (Array.getElem?_eq_some_iff.1 g0).1⟩
  have CI0 := hide (CI _ hc0)
  clear hb0
  clear hw hc0 hB0 CI
  go_enter Tryz.func171, Tryz.ntmps171
  go_wp2_with fail
  go_region_with (first | (go_at_call 194; refine (CI0.out _ (Wkp.still (Chg.drewN _ _ 1))).mono ?_; rintro e wi ⟨rfl, hci⟩) | (go_at_call 67; refine ((SY.out.1 _ _ _ 1 X0 rfl ((K0.out.trans (Wkp.still (Chg.drewN _ _ 1))).trans (Wkp.still hci)) ((R0.out.still (Chg.drewN _ _ 1)).still hci) (by first | omega | (simp; omega) | (simp at hlen; omega) | (simp at hlen ⊢; omega))).1).mono ?_; rintro e w1 ⟨rfl, h1, h2⟩))
  all_goals
    have K1 := hide h1
    have R1 := hide h2
    clear h1 h2 K0 R0
    have HE := hide (END.out _ _ K1.out R1.out (by simp))
    clear K1 R1
    go_wp2
    go_end0
    exact HE.out

set_option maxHeartbeats 2000000 in
set_option maxRecDepth 100000 in
theorem simple_null {w : World} {bs : List UInt8} (hB : B ≤ w.heap.size) (hw : Wrt w B wb tv bn bs) (va vb vc : Int) (vl : List Int) (tx : List UInt8) (vn vt vp : Int) (la : Option Addr) (lc : Nat)   (hlen : bs.length + ([110, 117, 108, 108]).length ≤ 100000000000000) :
    Calls Tryz.prog 171 #[.pointer (some ⟨wb, 0, none⟩), .agg #[.int .i64 4, .int .i64 va, .int .i64 vb, .int .i64 vc, .slice la vl.length lc, .string ⟨tx.toArray⟩, .int .i64 vn, .int .i64 vt, .int .i64 vp]] w (WPost w B wb tv bn (bs ++ ([110, 117, 108, 108]))) := by
  have hc0 : Chg (fun _ => False) w (w.alloc (.cells #[.int .i64 4, .int .i64 va, .int .i64 vb, .int .i64 vc, .slice la vl.length lc, .string ⟨tx.toArray⟩, .int .i64 vn, .int .i64 vt, .int .i64 vp] 63)) := Chg.alloc (fun _ => False) _ _
  have hB0 : B ≤ (w.alloc (.cells #[.int .i64 4, .int .i64 va, .int .i64 vb, .int .i64 vc, .slice la vl.length lc, .string ⟨tx.toArray⟩, .int .i64 vn, .int .i64 vt, .int .i64 vp] 63)).heap.size := Nat.le_trans hB hc0.size
  have SY := hide (cs_any (B := B) (wb := wb) (tv := tv) (bn := bn) hB0)
  have K0 := hide (Wkp.refl B wb (w.alloc (.cells #[.int .i64 4, .int .i64 va, .int .i64 vb, .int .i64 vc, .slice la vl.length lc, .string ⟨tx.toArray⟩, .int .i64 vn, .int .i64 vt, .int .i64 vp] 63)))
  have R0 := hide (hw.still hc0)
  have END : Hid (∀ a bs', Wkp B wb (w.alloc (.cells #[.int .i64 4, .int .i64 va, .int .i64 vb, .int .i64 vc, .slice la vl.length lc, .string ⟨tx.toArray⟩, .int .i64 vn, .int .i64 vt, .int .i64 vp] 63)) a → Wrt a B wb tv bn bs' → bs' = bs ++ ([110, 117, 108, 108]) → WPost w B wb tv bn (bs ++ ([110, 117, 108, 108])) (.returned (.tuple #[])) a) := fun a bs' h1 h2 e => ⟨rfl, (Wkp.still hc0).trans h1, e ▸ h2⟩
  have hb0 : (w.alloc (.cells #[.int .i64 4, .int .i64 va, .int .i64 vb, .int .i64 vc, .slice la vl.length lc, .string ⟨tx.toArray⟩, .int .i64 vn, .int .i64 vt, .int .i64 vp] 63)).heap[w.heap.size]? = some (.cells #[.int .i64 4, .int .i64 va, .int .i64 vb, .int .i64 vc, .slice la vl.length lc, .string ⟨tx.toArray⟩, .int .i64 vn, .int .i64 vt, .int .i64 vp] 63 (0, 0)) := by
    exact heap_alloc_new w _
  have FC : Hid (∀ a, Wkp B wb (w.alloc (.cells #[.int .i64 4, .int .i64 va, .int .i64 vb, .int .i64 vc, .slice la vl.length lc, .string ⟨tx.toArray⟩, .int .i64 vn, .int .i64 vt, .int .i64 vp] 63)) a → a.cell? ⟨w.heap.size, 5, none⟩ = some (.string ⟨tx.toArray⟩) ∧ w.heap.size < a.heap.size) := by
    intro a ha
    have g0 := ha.other (hw.still hc0) hb0 (by decide) (by decide)
    exact ⟨by rw [cell_of_row a _ 5 _ _ _ g0]; rfl, (Array.getElem?_eq_some_iff.1 g0).1⟩
  clear hb0
  clear hw hc0 hB0
  go_enter Tryz.func171, Tryz.ntmps171
  have H0 := hide (SY.out.1 _ _ (w.heap.size + 1) 1 [110, 117, 108, 108] (by simp) K0.out R0.out (by first | omega | (simp; omega) | (simp at hlen; omega) | (simp at hlen ⊢; omega)))
  go_wp2_with fail
  refine (H0.out.1).mono ?_
  rintro e w1 ⟨rfl, h1, h2⟩
  have K1 := hide h1
  have R1 := hide h2
  obtain ⟨y1x0, y1x1⟩ := FC.out w1 h1
  clear h1 h2 H0 K0 R0
  have HE := hide (END.out _ _ K1.out R1.out (by simp))
  clear K1 R1
  go_wp2
  go_end0
  exact HE.out

set_option maxHeartbeats 2000000 in
set_option maxRecDepth 100000 in
theorem simple_var {w : World} {bs : List UInt8} (hB : B ≤ w.heap.size) (hw : Wrt w B wb tv bn bs) (va vb vc : Int) (vl : List Int) (tx : List UInt8) (vn vt vp : Int) (la : Option Addr) (lc : Nat)   (hlen : bs.length + (tx).length ≤ 100000000000000) :
    Calls Tryz.prog 171 #[.pointer (some ⟨wb, 0, none⟩), .agg #[.int .i64 5, .int .i64 va, .int .i64 vb, .int .i64 vc, .slice la vl.length lc, .string ⟨tx.toArray⟩, .int .i64 vn, .int .i64 vt, .int .i64 vp]] w (WPost w B wb tv bn (bs ++ (tx))) := by
  have hc0 : Chg (fun _ => False) w (w.alloc (.cells #[.int .i64 5, .int .i64 va, .int .i64 vb, .int .i64 vc, .slice la vl.length lc, .string ⟨tx.toArray⟩, .int .i64 vn, .int .i64 vt, .int .i64 vp] 63)) := Chg.alloc (fun _ => False) _ _
  have hB0 : B ≤ (w.alloc (.cells #[.int .i64 5, .int .i64 va, .int .i64 vb, .int .i64 vc, .slice la vl.length lc, .string ⟨tx.toArray⟩, .int .i64 vn, .int .i64 vt, .int .i64 vp] 63)).heap.size := Nat.le_trans hB hc0.size
  have SY := hide (cs_any (B := B) (wb := wb) (tv := tv) (bn := bn) hB0)
  have K0 := hide (Wkp.refl B wb (w.alloc (.cells #[.int .i64 5, .int .i64 va, .int .i64 vb, .int .i64 vc, .slice la vl.length lc, .string ⟨tx.toArray⟩, .int .i64 vn, .int .i64 vt, .int .i64 vp] 63)))
  have R0 := hide (hw.still hc0)
  have END : Hid (∀ a bs', Wkp B wb (w.alloc (.cells #[.int .i64 5, .int .i64 va, .int .i64 vb, .int .i64 vc, .slice la vl.length lc, .string ⟨tx.toArray⟩, .int .i64 vn, .int .i64 vt, .int .i64 vp] 63)) a → Wrt a B wb tv bn bs' → bs' = bs ++ (tx) → WPost w B wb tv bn (bs ++ (tx)) (.returned (.tuple #[])) a) := fun a bs' h1 h2 e => ⟨rfl, (Wkp.still hc0).trans h1, e ▸ h2⟩
  have hb0 : (w.alloc (.cells #[.int .i64 5, .int .i64 va, .int .i64 vb, .int .i64 vc, .slice la vl.length lc, .string ⟨tx.toArray⟩, .int .i64 vn, .int .i64 vt, .int .i64 vp] 63)).heap[w.heap.size]? = some (.cells #[.int .i64 5, .int .i64 va, .int .i64 vb, .int .i64 vc, .slice la vl.length lc, .string ⟨tx.toArray⟩, .int .i64 vn, .int .i64 vt, .int .i64 vp] 63 (0, 0)) := by
    exact heap_alloc_new w _
  have FC : Hid (∀ a, Wkp B wb (w.alloc (.cells #[.int .i64 5, .int .i64 va, .int .i64 vb, .int .i64 vc, .slice la vl.length lc, .string ⟨tx.toArray⟩, .int .i64 vn, .int .i64 vt, .int .i64 vp] 63)) a → a.cell? ⟨w.heap.size, 5, none⟩ = some (.string ⟨tx.toArray⟩) ∧ w.heap.size < a.heap.size) := by
    intro a ha
    have g0 := ha.other (hw.still hc0) hb0 (by decide) (by decide)
    exact ⟨by rw [cell_of_row a _ 5 _ _ _ g0]; rfl, (Array.getElem?_eq_some_iff.1 g0).1⟩
  clear hb0
  clear hw hc0 hB0
  go_enter Tryz.func171, Tryz.ntmps171
  have H0 := hide (SY.out.1 _ _ (w.heap.size + 1) 1 (tx) (by simp) K0.out R0.out (by first | omega | (simp; omega) | (simp at hlen; omega) | (simp at hlen ⊢; omega)))
  go_wp2_with fail
  go_region_with (go_at_call 67; refine (H0.out.2).mono ?_; rintro e w1 ⟨rfl, h1, h2⟩)
  all_goals
    have K1 := hide h1
    have R1 := hide h2
    obtain ⟨y1x0, y1x1⟩ := FC.out w1 h1
    clear h1 h2 H0 K0 R0
    have HE := hide (END.out _ _ K1.out R1.out (by simp))
    clear K1 R1
    go_wp2
    go_end0
    exact HE.out

set_option maxHeartbeats 2000000 in
set_option maxRecDepth 100000 in
theorem simple_fn {w : World} {bs : List UInt8} (hB : B ≤ w.heap.size) (hw : Wrt w B wb tv bn bs) (va vb vc : Int) (vl : List Int) (tx : List UInt8) (vn vt vp : Int) (la : Option Addr) (lc : Nat) (X0 : List UInt8) (CF : CCs w B wb tv bn 195 #[.pointer (some ⟨wb, 0, none⟩), .agg #[.int .i64 6, .int .i64 va, .int .i64 vb, .int .i64 vc, .slice la vl.length lc, .string ⟨tx.toArray⟩, .int .i64 vn, .int .i64 vt, .int .i64 vp]] X0) (hlen : bs.length + (X0).length ≤ 100000000000000) :
    Calls Tryz.prog 171 #[.pointer (some ⟨wb, 0, none⟩), .agg #[.int .i64 6, .int .i64 va, .int .i64 vb, .int .i64 vc, .slice la vl.length lc, .string ⟨tx.toArray⟩, .int .i64 vn, .int .i64 vt, .int .i64 vp]] w (WPost w B wb tv bn (bs ++ (X0))) := by
  have hc0 : Chg (fun _ => False) w (w.alloc (.cells #[.int .i64 6, .int .i64 va, .int .i64 vb, .int .i64 vc, .slice la vl.length lc, .string ⟨tx.toArray⟩, .int .i64 vn, .int .i64 vt, .int .i64 vp] 63)) := Chg.alloc (fun _ => False) _ _
  have hB0 : B ≤ (w.alloc (.cells #[.int .i64 6, .int .i64 va, .int .i64 vb, .int .i64 vc, .slice la vl.length lc, .string ⟨tx.toArray⟩, .int .i64 vn, .int .i64 vt, .int .i64 vp] 63)).heap.size := Nat.le_trans hB hc0.size
  have SY := hide (cs_any (B := B) (wb := wb) (tv := tv) (bn := bn) hB0)
  have CF0 := hide (CF _ hc0)
  have K0 := hide (Wkp.refl B wb (w.alloc (.cells #[.int .i64 6, .int .i64 va, .int .i64 vb, .int .i64 vc, .slice la vl.length lc, .string ⟨tx.toArray⟩, .int .i64 vn, .int .i64 vt, .int .i64 vp] 63)))
  have R0 := hide (hw.still hc0)
  have END : Hid (∀ a bs', Wkp B wb (w.alloc (.cells #[.int .i64 6, .int .i64 va, .int .i64 vb, .int .i64 vc, .slice la vl.length lc, .string ⟨tx.toArray⟩, .int .i64 vn, .int .i64 vt, .int .i64 vp] 63)) a → Wrt a B wb tv bn bs' → bs' = bs ++ (X0) → WPost w B wb tv bn (bs ++ (X0)) (.returned (.tuple #[])) a) := fun a bs' h1 h2 e => ⟨rfl, (Wkp.still hc0).trans h1, e ▸ h2⟩
  have hb0 : (w.alloc (.cells #[.int .i64 6, .int .i64 va, .int .i64 vb, .int .i64 vc, .slice la vl.length lc, .string ⟨tx.toArray⟩, .int .i64 vn, .int .i64 vt, .int .i64 vp] 63)).heap[w.heap.size]? = some (.cells #[.int .i64 6, .int .i64 va, .int .i64 vb, .int .i64 vc, .slice la vl.length lc, .string ⟨tx.toArray⟩, .int .i64 vn, .int .i64 vt, .int .i64 vp] 63 (0, 0)) := by
    exact heap_alloc_new w _
  have FC : Hid (∀ a, Wkp B wb (w.alloc (.cells #[.int .i64 6, .int .i64 va, .int .i64 vb, .int .i64 vc, .slice la vl.length lc, .string ⟨tx.toArray⟩, .int .i64 vn, .int .i64 vt, .int .i64 vp] 63)) a → a.cell? ⟨w.heap.size, 5, none⟩ = some (.string ⟨tx.toArray⟩) ∧ w.heap.size < a.heap.size) := by
    intro a ha
    have g0 := ha.other (hw.still hc0) hb0 (by decide) (by decide)
    exact ⟨by rw [cell_of_row a _ 5 _ _ _ g0]; rfl, (Array.getElem?_eq_some_iff.1 g0).1⟩
  clear hb0
  clear hw hc0 hB0 CF
  go_enter Tryz.func171, Tryz.ntmps171
  have H0 := hide (CF0.out _ _ K0.out R0.out (by first | omega | (simp; omega) | (simp at hlen; omega) | (simp at hlen ⊢; omega)))
  go_wp2_with fail
  refine (H0.out).mono ?_
  rintro e w1 ⟨rfl, h1, h2⟩
  have K1 := hide h1
  have R1 := hide h2
  obtain ⟨y1x0, y1x1⟩ := FC.out w1 h1
  clear h1 h2 H0 K0 R0
  have HE := hide (END.out _ _ K1.out R1.out (by simp))
  clear K1 R1
  go_wp2
  go_end0
  exact HE.out

set_option maxHeartbeats 2000000 in
set_option maxRecDepth 100000 in
theorem simple_obj {w : World} {bs : List UInt8} (hB : B ≤ w.heap.size) (hw : Wrt w B wb tv bn bs) (va vb vc : Int) (vl : List Int) (tx : List UInt8) (vn vt vp : Int) (la : Option Addr) (lc : Nat) (X0 : List UInt8) (CF : CCs w B wb tv bn 196 #[.pointer (some ⟨wb, 0, none⟩), .slice la vl.length lc] X0) (hlen : bs.length + (X0).length ≤ 100000000000000) :
    Calls Tryz.prog 171 #[.pointer (some ⟨wb, 0, none⟩), .agg #[.int .i64 10, .int .i64 va, .int .i64 vb, .int .i64 vc, .slice la vl.length lc, .string ⟨tx.toArray⟩, .int .i64 vn, .int .i64 vt, .int .i64 vp]] w (WPost w B wb tv bn (bs ++ (X0))) := by
  have hc0 : Chg (fun _ => False) w (w.alloc (.cells #[.int .i64 10, .int .i64 va, .int .i64 vb, .int .i64 vc, .slice la vl.length lc, .string ⟨tx.toArray⟩, .int .i64 vn, .int .i64 vt, .int .i64 vp] 63)) := Chg.alloc (fun _ => False) _ _
  have hB0 : B ≤ (w.alloc (.cells #[.int .i64 10, .int .i64 va, .int .i64 vb, .int .i64 vc, .slice la vl.length lc, .string ⟨tx.toArray⟩, .int .i64 vn, .int .i64 vt, .int .i64 vp] 63)).heap.size := Nat.le_trans hB hc0.size
  have SY := hide (cs_any (B := B) (wb := wb) (tv := tv) (bn := bn) hB0)
  have CF0 := hide (CF _ hc0)
  have K0 := hide (Wkp.refl B wb (w.alloc (.cells #[.int .i64 10, .int .i64 va, .int .i64 vb, .int .i64 vc, .slice la vl.length lc, .string ⟨tx.toArray⟩, .int .i64 vn, .int .i64 vt, .int .i64 vp] 63)))
  have R0 := hide (hw.still hc0)
  have END : Hid (∀ a bs', Wkp B wb (w.alloc (.cells #[.int .i64 10, .int .i64 va, .int .i64 vb, .int .i64 vc, .slice la vl.length lc, .string ⟨tx.toArray⟩, .int .i64 vn, .int .i64 vt, .int .i64 vp] 63)) a → Wrt a B wb tv bn bs' → bs' = bs ++ (X0) → WPost w B wb tv bn (bs ++ (X0)) (.returned (.tuple #[])) a) := fun a bs' h1 h2 e => ⟨rfl, (Wkp.still hc0).trans h1, e ▸ h2⟩
  have hb0 : (w.alloc (.cells #[.int .i64 10, .int .i64 va, .int .i64 vb, .int .i64 vc, .slice la vl.length lc, .string ⟨tx.toArray⟩, .int .i64 vn, .int .i64 vt, .int .i64 vp] 63)).heap[w.heap.size]? = some (.cells #[.int .i64 10, .int .i64 va, .int .i64 vb, .int .i64 vc, .slice la vl.length lc, .string ⟨tx.toArray⟩, .int .i64 vn, .int .i64 vt, .int .i64 vp] 63 (0, 0)) := by
    exact heap_alloc_new w _
  have FC : Hid (∀ a, Wkp B wb (w.alloc (.cells #[.int .i64 10, .int .i64 va, .int .i64 vb, .int .i64 vc, .slice la vl.length lc, .string ⟨tx.toArray⟩, .int .i64 vn, .int .i64 vt, .int .i64 vp] 63)) a → a.cell? ⟨w.heap.size, 4, none⟩ = some (.slice la vl.length lc) ∧ w.heap.size < a.heap.size) := by
    intro a ha
    have g0 := ha.other (hw.still hc0) hb0 (by decide) (by decide)
    exact ⟨by rw [cell_of_row a _ 4 _ _ _ g0]; rfl, (Array.getElem?_eq_some_iff.1 g0).1⟩
  clear hb0
  clear hw hc0 hB0 CF
  go_enter Tryz.func171, Tryz.ntmps171
  have H0 := hide (CF0.out _ _ K0.out R0.out (by first | omega | (simp; omega) | (simp at hlen; omega) | (simp at hlen ⊢; omega)))
  go_wp2_with fail
  refine (H0.out).mono ?_
  rintro e w1 ⟨rfl, h1, h2⟩
  have K1 := hide h1
  have R1 := hide h2
  obtain ⟨y1x0, y1x1⟩ := FC.out w1 h1
  clear h1 h2 H0 K0 R0
  have HE := hide (END.out _ _ K1.out R1.out (by simp))
  clear K1 R1
  go_wp2
  go_end0
  exact HE.out

set_option maxHeartbeats 2000000 in
set_option maxRecDepth 100000 in
theorem simple_arr {w : World} {bs : List UInt8} (hB : B ≤ w.heap.size) (hw : Wrt w B wb tv bn bs) (va vb vc : Int) (vl : List Int) (tx : List UInt8) (vn vt vp : Int) (la : Option Addr) (lc : Nat) (X0 : List UInt8) (CF : CCs w B wb tv bn 170 #[.pointer (some ⟨wb, 0, none⟩), .string ⟨#[91]⟩, .slice la vl.length lc, .string ⟨#[93]⟩] X0) (hlen : bs.length + (X0).length ≤ 100000000000000) :
    Calls Tryz.prog 171 #[.pointer (some ⟨wb, 0, none⟩), .agg #[.int .i64 11, .int .i64 va, .int .i64 vb, .int .i64 vc, .slice la vl.length lc, .string ⟨tx.toArray⟩, .int .i64 vn, .int .i64 vt, .int .i64 vp]] w (WPost w B wb tv bn (bs ++ (X0))) := by
  have hc0 : Chg (fun _ => False) w (w.alloc (.cells #[.int .i64 11, .int .i64 va, .int .i64 vb, .int .i64 vc, .slice la vl.length lc, .string ⟨tx.toArray⟩, .int .i64 vn, .int .i64 vt, .int .i64 vp] 63)) := Chg.alloc (fun _ => False) _ _
  have hB0 : B ≤ (w.alloc (.cells #[.int .i64 11, .int .i64 va, .int .i64 vb, .int .i64 vc, .slice la vl.length lc, .string ⟨tx.toArray⟩, .int .i64 vn, .int .i64 vt, .int .i64 vp] 63)).heap.size := Nat.le_trans hB hc0.size
  have SY := hide (cs_any (B := B) (wb := wb) (tv := tv) (bn := bn) hB0)
  have CF0 := hide (CF _ hc0)
  have K0 := hide (Wkp.refl B wb (w.alloc (.cells #[.int .i64 11, .int .i64 va, .int .i64 vb, .int .i64 vc, .slice la vl.length lc, .string ⟨tx.toArray⟩, .int .i64 vn, .int .i64 vt, .int .i64 vp] 63)))
  have R0 := hide (hw.still hc0)
  have END : Hid (∀ a bs', Wkp B wb (w.alloc (.cells #[.int .i64 11, .int .i64 va, .int .i64 vb, .int .i64 vc, .slice la vl.length lc, .string ⟨tx.toArray⟩, .int .i64 vn, .int .i64 vt, .int .i64 vp] 63)) a → Wrt a B wb tv bn bs' → bs' = bs ++ (X0) → WPost w B wb tv bn (bs ++ (X0)) (.returned (.tuple #[])) a) := fun a bs' h1 h2 e => ⟨rfl, (Wkp.still hc0).trans h1, e ▸ h2⟩
  have hb0 : (w.alloc (.cells #[.int .i64 11, .int .i64 va, .int .i64 vb, .int .i64 vc, .slice la vl.length lc, .string ⟨tx.toArray⟩, .int .i64 vn, .int .i64 vt, .int .i64 vp] 63)).heap[w.heap.size]? = some (.cells #[.int .i64 11, .int .i64 va, .int .i64 vb, .int .i64 vc, .slice la vl.length lc, .string ⟨tx.toArray⟩, .int .i64 vn, .int .i64 vt, .int .i64 vp] 63 (0, 0)) := by
    exact heap_alloc_new w _
  have FC : Hid (∀ a, Wkp B wb (w.alloc (.cells #[.int .i64 11, .int .i64 va, .int .i64 vb, .int .i64 vc, .slice la vl.length lc, .string ⟨tx.toArray⟩, .int .i64 vn, .int .i64 vt, .int .i64 vp] 63)) a → a.cell? ⟨w.heap.size, 4, none⟩ = some (.slice la vl.length lc) ∧ w.heap.size < a.heap.size) := by
    intro a ha
    have g0 := ha.other (hw.still hc0) hb0 (by decide) (by decide)
    exact ⟨by rw [cell_of_row a _ 4 _ _ _ g0]; rfl, (Array.getElem?_eq_some_iff.1 g0).1⟩
  clear hb0
  clear hw hc0 hB0 CF
  go_enter Tryz.func171, Tryz.ntmps171
  have H0 := hide (CF0.out _ _ K0.out R0.out (by first | omega | (simp; omega) | (simp at hlen; omega) | (simp at hlen ⊢; omega)))
  go_wp2_with fail
  refine (H0.out).mono ?_
  rintro e w1 ⟨rfl, h1, h2⟩
  have K1 := hide h1
  have R1 := hide h2
  obtain ⟨y1x0, y1x1⟩ := FC.out w1 h1
  clear h1 h2 H0 K0 R0
  have HE := hide (END.out _ _ K1.out R1.out (by simp))
  clear K1 R1
  go_wp2
  go_end0
  exact HE.out
end
end Go.Proofs.YtjojlcfoiknlhaaGreatDoor
