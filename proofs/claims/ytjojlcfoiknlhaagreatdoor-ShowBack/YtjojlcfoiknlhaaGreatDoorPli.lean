/-
  The printer: the contracts of line and statement.
-/
import Derived.Test.YtjojlcfoiknlhaaGreatDoorPme
namespace Go.Proofs.YtjojlcfoiknlhaaGreatDoor
open Go.RowKit

section
variable {B wb : Nat} {tv : Value} {bn : Wk}

set_option maxHeartbeats 2000000 in
set_option maxRecDepth 100000 in
theorem line_let {w : World} {bs : List UInt8} (hB : B ≤ w.heap.size) (hw : Wrt w B wb tv bn bs) (va vb vc : Int) (vl : List Int) (tx : List UInt8) (vn vt vp : Int) (la : Option Addr) (lc : Nat) (XT X0 : List UInt8) (CT : CCs w B wb tv bn 139 #[.pointer (some ⟨wb, 0, none⟩), .int .i64 vt] XT) (CE : CCs w B wb tv bn 138 #[.pointer (some ⟨wb, 0, none⟩), .int .i64 va] X0) (hlen : bs.length + (([108, 101, 116, 32] ++ tx) ++ XT ++ [32, 61, 32] ++ X0).length ≤ 100000000000000) :
    Calls Tryz.prog 108 #[.pointer (some ⟨wb, 0, none⟩), .agg #[.int .i64 17, .int .i64 va, .int .i64 vb, .int .i64 vc, .slice la vl.length lc, .string ⟨tx.toArray⟩, .int .i64 vn, .int .i64 vt, .int .i64 vp]] w (WPost w B wb tv bn (bs ++ (([108, 101, 116, 32] ++ tx) ++ XT ++ [32, 61, 32] ++ X0))) := by
  have hc0 : Chg (fun _ => False) w (w.alloc (.cells #[.int .i64 17, .int .i64 va, .int .i64 vb, .int .i64 vc, .slice la vl.length lc, .string ⟨tx.toArray⟩, .int .i64 vn, .int .i64 vt, .int .i64 vp] 63)) := Chg.alloc (fun _ => False) _ _
  have hB0 : B ≤ (w.alloc (.cells #[.int .i64 17, .int .i64 va, .int .i64 vb, .int .i64 vc, .slice la vl.length lc, .string ⟨tx.toArray⟩, .int .i64 vn, .int .i64 vt, .int .i64 vp] 63)).heap.size := Nat.le_trans hB hc0.size
  have SY := hide (cs_any (B := B) (wb := wb) (tv := tv) (bn := bn) hB0)
  have CT0 := hide (CT _ hc0)
  have CE0 := hide (CE _ hc0)
  have K0 := hide (Wkp.refl B wb (w.alloc (.cells #[.int .i64 17, .int .i64 va, .int .i64 vb, .int .i64 vc, .slice la vl.length lc, .string ⟨tx.toArray⟩, .int .i64 vn, .int .i64 vt, .int .i64 vp] 63)))
  have R0 := hide (hw.still hc0)
  have END : Hid (∀ a bs', Wkp B wb (w.alloc (.cells #[.int .i64 17, .int .i64 va, .int .i64 vb, .int .i64 vc, .slice la vl.length lc, .string ⟨tx.toArray⟩, .int .i64 vn, .int .i64 vt, .int .i64 vp] 63)) a → Wrt a B wb tv bn bs' → bs' = bs ++ (([108, 101, 116, 32] ++ tx) ++ XT ++ [32, 61, 32] ++ X0) → WPost w B wb tv bn (bs ++ (([108, 101, 116, 32] ++ tx) ++ XT ++ [32, 61, 32] ++ X0)) (.returned (.tuple #[])) a) := fun a bs' h1 h2 e => ⟨rfl, (Wkp.still hc0).trans h1, e ▸ h2⟩
  have hb0 : (w.alloc (.cells #[.int .i64 17, .int .i64 va, .int .i64 vb, .int .i64 vc, .slice la vl.length lc, .string ⟨tx.toArray⟩, .int .i64 vn, .int .i64 vt, .int .i64 vp] 63)).heap[w.heap.size]? = some (.cells #[.int .i64 17, .int .i64 va, .int .i64 vb, .int .i64 vc, .slice la vl.length lc, .string ⟨tx.toArray⟩, .int .i64 vn, .int .i64 vt, .int .i64 vp] 63 (0, 0)) := by
    exact heap_alloc_new w _
  have FC : Hid (∀ a, Wkp B wb (w.alloc (.cells #[.int .i64 17, .int .i64 va, .int .i64 vb, .int .i64 vc, .slice la vl.length lc, .string ⟨tx.toArray⟩, .int .i64 vn, .int .i64 vt, .int .i64 vp] 63)) a → a.cell? ⟨w.heap.size, 1, none⟩ = some (.int .i64 va) ∧ a.cell? ⟨w.heap.size, 7, none⟩ = some (.int .i64 vt) ∧ a.cell? ⟨w.heap.size, 5, none⟩ = some (.string ⟨tx.toArray⟩) ∧ w.heap.size < a.heap.size) := by
    intro a ha
    have g0 := ha.other (hw.still hc0) hb0 (by decide) (by decide)
    exact ⟨by rw [cell_of_row a _ 1 _ _ _ g0]; rfl, by rw [cell_of_row a _ 7 _ _ _ g0]; rfl, by rw [cell_of_row a _ 5 _ _ _ g0]; rfl, (Array.getElem?_eq_some_iff.1 g0).1⟩
  clear hb0
  clear hw hc0 hB0 CT CE
  go_enter Tryz.func108, Tryz.ntmps108
  have H0 := hide (SY.out.2.1 _ _ (w.heap.size + 1) 1 [108, 101, 116, 32] (tx) (by simp) K0.out R0.out (by first | omega | (simp; omega) | (simp at hlen; omega) | (simp at hlen ⊢; omega)))
  go_wp2_with fail
  go_region_with (go_at_call 67; refine (H0.out.2).mono ?_; rintro e w1 ⟨rfl, h1, h2⟩)
  all_goals
    have K1 := hide h1
    have R1 := hide h2
    obtain ⟨y1x0, y1x1, y1x2, y1x3⟩ := FC.out w1 h1
    clear h1 h2 H0 K0 R0
    have H1 := hide (CT0.out _ _ K1.out R1.out (by first | omega | (simp; omega) | (simp at hlen; omega) | (simp at hlen ⊢; omega)))
    go_wp2_with fail
    refine (H1.out).mono ?_
    rintro e w2 ⟨rfl, h1, h2⟩
    have K2 := hide h1
    have R2 := hide h2
    obtain ⟨y2x0, y2x1, y2x2, y2x3⟩ := FC.out w2 h1
    clear h1 h2 H1 K1 R1
    have H2 := hide (SY.out.1 _ _ _ 1 [32, 61, 32] rfl K2.out R2.out (by first | omega | (simp; omega) | (simp at hlen; omega) | (simp at hlen ⊢; omega)))
    go_wp2_with fail
    refine (H2.out.1).mono ?_
    rintro e w3 ⟨rfl, h1, h2⟩
    have K3 := hide h1
    have R3 := hide h2
    obtain ⟨y3x0, y3x1, y3x2, y3x3⟩ := FC.out w3 h1
    clear h1 h2 H2 K2 R2
    have H3 := hide (CE0.out _ _ K3.out R3.out (by first | omega | (simp; omega) | (simp at hlen; omega) | (simp at hlen ⊢; omega)))
    go_wp2_with fail
    refine (H3.out).mono ?_
    rintro e w4 ⟨rfl, h1, h2⟩
    have K4 := hide h1
    have R4 := hide h2
    obtain ⟨y4x0, y4x1, y4x2, y4x3⟩ := FC.out w4 h1
    clear h1 h2 H3 K3 R3
    have HE := hide (END.out _ _ K4.out R4.out (by simp))
    clear K4 R4
    go_wp2
    go_end0
    exact HE.out

set_option maxHeartbeats 2000000 in
set_option maxRecDepth 100000 in
theorem line_set {w : World} {bs : List UInt8} (hB : B ≤ w.heap.size) (hw : Wrt w B wb tv bn bs) (va vb vc : Int) (vl : List Int) (tx : List UInt8) (vn vt vp : Int) (la : Option Addr) (lc : Nat) (X0 : List UInt8) (CE : CCs w B wb tv bn 138 #[.pointer (some ⟨wb, 0, none⟩), .int .i64 va] X0) (hlen : bs.length + ((tx ++ [32, 61, 32]) ++ X0).length ≤ 100000000000000) :
    Calls Tryz.prog 108 #[.pointer (some ⟨wb, 0, none⟩), .agg #[.int .i64 18, .int .i64 va, .int .i64 vb, .int .i64 vc, .slice la vl.length lc, .string ⟨tx.toArray⟩, .int .i64 vn, .int .i64 vt, .int .i64 vp]] w (WPost w B wb tv bn (bs ++ ((tx ++ [32, 61, 32]) ++ X0))) := by
  have hc0 : Chg (fun _ => False) w (w.alloc (.cells #[.int .i64 18, .int .i64 va, .int .i64 vb, .int .i64 vc, .slice la vl.length lc, .string ⟨tx.toArray⟩, .int .i64 vn, .int .i64 vt, .int .i64 vp] 63)) := Chg.alloc (fun _ => False) _ _
  have hB0 : B ≤ (w.alloc (.cells #[.int .i64 18, .int .i64 va, .int .i64 vb, .int .i64 vc, .slice la vl.length lc, .string ⟨tx.toArray⟩, .int .i64 vn, .int .i64 vt, .int .i64 vp] 63)).heap.size := Nat.le_trans hB hc0.size
  have SY := hide (cs_any (B := B) (wb := wb) (tv := tv) (bn := bn) hB0)
  have CE0 := hide (CE _ hc0)
  have K0 := hide (Wkp.refl B wb (w.alloc (.cells #[.int .i64 18, .int .i64 va, .int .i64 vb, .int .i64 vc, .slice la vl.length lc, .string ⟨tx.toArray⟩, .int .i64 vn, .int .i64 vt, .int .i64 vp] 63)))
  have R0 := hide (hw.still hc0)
  have END : Hid (∀ a bs', Wkp B wb (w.alloc (.cells #[.int .i64 18, .int .i64 va, .int .i64 vb, .int .i64 vc, .slice la vl.length lc, .string ⟨tx.toArray⟩, .int .i64 vn, .int .i64 vt, .int .i64 vp] 63)) a → Wrt a B wb tv bn bs' → bs' = bs ++ ((tx ++ [32, 61, 32]) ++ X0) → WPost w B wb tv bn (bs ++ ((tx ++ [32, 61, 32]) ++ X0)) (.returned (.tuple #[])) a) := fun a bs' h1 h2 e => ⟨rfl, (Wkp.still hc0).trans h1, e ▸ h2⟩
  have hb0 : (w.alloc (.cells #[.int .i64 18, .int .i64 va, .int .i64 vb, .int .i64 vc, .slice la vl.length lc, .string ⟨tx.toArray⟩, .int .i64 vn, .int .i64 vt, .int .i64 vp] 63)).heap[w.heap.size]? = some (.cells #[.int .i64 18, .int .i64 va, .int .i64 vb, .int .i64 vc, .slice la vl.length lc, .string ⟨tx.toArray⟩, .int .i64 vn, .int .i64 vt, .int .i64 vp] 63 (0, 0)) := by
    exact heap_alloc_new w _
  have FC : Hid (∀ a, Wkp B wb (w.alloc (.cells #[.int .i64 18, .int .i64 va, .int .i64 vb, .int .i64 vc, .slice la vl.length lc, .string ⟨tx.toArray⟩, .int .i64 vn, .int .i64 vt, .int .i64 vp] 63)) a → a.cell? ⟨w.heap.size, 1, none⟩ = some (.int .i64 va) ∧ a.cell? ⟨w.heap.size, 5, none⟩ = some (.string ⟨tx.toArray⟩) ∧ w.heap.size < a.heap.size) := by
    intro a ha
    have g0 := ha.other (hw.still hc0) hb0 (by decide) (by decide)
    exact ⟨by rw [cell_of_row a _ 1 _ _ _ g0]; rfl, by rw [cell_of_row a _ 5 _ _ _ g0]; rfl, (Array.getElem?_eq_some_iff.1 g0).1⟩
  clear hb0
  clear hw hc0 hB0 CE
  go_enter Tryz.func108, Tryz.ntmps108
  have H0 := hide (SY.out.2.1 _ _ (w.heap.size + 1) 1 (tx) [32, 61, 32] (by simp) K0.out R0.out (by first | omega | (simp; omega) | (simp at hlen; omega) | (simp at hlen ⊢; omega)))
  go_wp2_with fail
  go_region_with (go_at_call 67; refine (H0.out.2).mono ?_; rintro e w1 ⟨rfl, h1, h2⟩)
  all_goals
    have K1 := hide h1
    have R1 := hide h2
    obtain ⟨y1x0, y1x1, y1x2⟩ := FC.out w1 h1
    clear h1 h2 H0 K0 R0
    have H1 := hide (CE0.out _ _ K1.out R1.out (by first | omega | (simp; omega) | (simp at hlen; omega) | (simp at hlen ⊢; omega)))
    go_wp2_with fail
    refine (H1.out).mono ?_
    rintro e w2 ⟨rfl, h1, h2⟩
    have K2 := hide h1
    have R2 := hide h2
    obtain ⟨y2x0, y2x1, y2x2⟩ := FC.out w2 h1
    clear h1 h2 H1 K1 R1
    have HE := hide (END.out _ _ K2.out R2.out (by simp))
    clear K2 R2
    go_wp2
    go_end0
    exact HE.out

set_option maxHeartbeats 2000000 in
set_option maxRecDepth 100000 in
theorem line_put {w : World} {bs : List UInt8} (hB : B ≤ w.heap.size) (hw : Wrt w B wb tv bn bs) (va vb vc : Int) (vl : List Int) (tx : List UInt8) (vn vt vp : Int) (la : Option Addr) (lc : Nat) (X0 X1 : List UInt8) (CG : CCs w B wb tv bn 140 #[.pointer (some ⟨wb, 0, none⟩), .int .i64 va, .string ⟨tx.toArray⟩] X0) (CE : CCs w B wb tv bn 138 #[.pointer (some ⟨wb, 0, none⟩), .int .i64 vb] X1) (hlen : bs.length + (X0 ++ [32, 61, 32] ++ X1).length ≤ 100000000000000) :
    Calls Tryz.prog 108 #[.pointer (some ⟨wb, 0, none⟩), .agg #[.int .i64 19, .int .i64 va, .int .i64 vb, .int .i64 vc, .slice la vl.length lc, .string ⟨tx.toArray⟩, .int .i64 vn, .int .i64 vt, .int .i64 vp]] w (WPost w B wb tv bn (bs ++ (X0 ++ [32, 61, 32] ++ X1))) := by
  have hc0 : Chg (fun _ => False) w (w.alloc (.cells #[.int .i64 19, .int .i64 va, .int .i64 vb, .int .i64 vc, .slice la vl.length lc, .string ⟨tx.toArray⟩, .int .i64 vn, .int .i64 vt, .int .i64 vp] 63)) := Chg.alloc (fun _ => False) _ _
  have hB0 : B ≤ (w.alloc (.cells #[.int .i64 19, .int .i64 va, .int .i64 vb, .int .i64 vc, .slice la vl.length lc, .string ⟨tx.toArray⟩, .int .i64 vn, .int .i64 vt, .int .i64 vp] 63)).heap.size := Nat.le_trans hB hc0.size
  have SY := hide (cs_any (B := B) (wb := wb) (tv := tv) (bn := bn) hB0)
  have CG0 := hide (CG _ hc0)
  have CE0 := hide (CE _ hc0)
  have K0 := hide (Wkp.refl B wb (w.alloc (.cells #[.int .i64 19, .int .i64 va, .int .i64 vb, .int .i64 vc, .slice la vl.length lc, .string ⟨tx.toArray⟩, .int .i64 vn, .int .i64 vt, .int .i64 vp] 63)))
  have R0 := hide (hw.still hc0)
  have END : Hid (∀ a bs', Wkp B wb (w.alloc (.cells #[.int .i64 19, .int .i64 va, .int .i64 vb, .int .i64 vc, .slice la vl.length lc, .string ⟨tx.toArray⟩, .int .i64 vn, .int .i64 vt, .int .i64 vp] 63)) a → Wrt a B wb tv bn bs' → bs' = bs ++ (X0 ++ [32, 61, 32] ++ X1) → WPost w B wb tv bn (bs ++ (X0 ++ [32, 61, 32] ++ X1)) (.returned (.tuple #[])) a) := fun a bs' h1 h2 e => ⟨rfl, (Wkp.still hc0).trans h1, e ▸ h2⟩
  have hb0 : (w.alloc (.cells #[.int .i64 19, .int .i64 va, .int .i64 vb, .int .i64 vc, .slice la vl.length lc, .string ⟨tx.toArray⟩, .int .i64 vn, .int .i64 vt, .int .i64 vp] 63)).heap[w.heap.size]? = some (.cells #[.int .i64 19, .int .i64 va, .int .i64 vb, .int .i64 vc, .slice la vl.length lc, .string ⟨tx.toArray⟩, .int .i64 vn, .int .i64 vt, .int .i64 vp] 63 (0, 0)) := by
    exact heap_alloc_new w _
  have FC : Hid (∀ a, Wkp B wb (w.alloc (.cells #[.int .i64 19, .int .i64 va, .int .i64 vb, .int .i64 vc, .slice la vl.length lc, .string ⟨tx.toArray⟩, .int .i64 vn, .int .i64 vt, .int .i64 vp] 63)) a → a.cell? ⟨w.heap.size, 1, none⟩ = some (.int .i64 va) ∧ a.cell? ⟨w.heap.size, 2, none⟩ = some (.int .i64 vb) ∧ a.cell? ⟨w.heap.size, 5, none⟩ = some (.string ⟨tx.toArray⟩) ∧ w.heap.size < a.heap.size) := by
    intro a ha
    have g0 := ha.other (hw.still hc0) hb0 (by decide) (by decide)
    exact ⟨by rw [cell_of_row a _ 1 _ _ _ g0]; rfl, by rw [cell_of_row a _ 2 _ _ _ g0]; rfl, by rw [cell_of_row a _ 5 _ _ _ g0]; rfl, (Array.getElem?_eq_some_iff.1 g0).1⟩
  clear hb0
  clear hw hc0 hB0 CG CE
  go_enter Tryz.func108, Tryz.ntmps108
  have H0 := hide (CG0.out _ _ K0.out R0.out (by first | omega | (simp; omega) | (simp at hlen; omega) | (simp at hlen ⊢; omega)))
  go_wp2_with fail
  refine (H0.out).mono ?_
  rintro e w1 ⟨rfl, h1, h2⟩
  have K1 := hide h1
  have R1 := hide h2
  obtain ⟨y1x0, y1x1, y1x2, y1x3⟩ := FC.out w1 h1
  clear h1 h2 H0 K0 R0
  have H1 := hide (SY.out.1 _ _ _ 1 [32, 61, 32] rfl K1.out R1.out (by first | omega | (simp; omega) | (simp at hlen; omega) | (simp at hlen ⊢; omega)))
  go_wp2_with fail
  refine (H1.out.1).mono ?_
  rintro e w2 ⟨rfl, h1, h2⟩
  have K2 := hide h1
  have R2 := hide h2
  obtain ⟨y2x0, y2x1, y2x2, y2x3⟩ := FC.out w2 h1
  clear h1 h2 H1 K1 R1
  have H2 := hide (CE0.out _ _ K2.out R2.out (by first | omega | (simp; omega) | (simp at hlen; omega) | (simp at hlen ⊢; omega)))
  go_wp2_with fail
  refine (H2.out).mono ?_
  rintro e w3 ⟨rfl, h1, h2⟩
  have K3 := hide h1
  have R3 := hide h2
  obtain ⟨y3x0, y3x1, y3x2, y3x3⟩ := FC.out w3 h1
  clear h1 h2 H2 K2 R2
  have HE := hide (END.out _ _ K3.out R3.out (by simp))
  clear K3 R3
  go_wp2
  go_end0
  exact HE.out

set_option maxHeartbeats 2000000 in
set_option maxRecDepth 100000 in
theorem line_lay {w : World} {bs : List UInt8} (hB : B ≤ w.heap.size) (hw : Wrt w B wb tv bn bs) (va vb vc : Int) (vl : List Int) (tx : List UInt8) (vn vt vp : Int) (la : Option Addr) (lc : Nat) (X0 X1 : List UInt8) (CG : CCs w B wb tv bn 141 #[.pointer (some ⟨wb, 0, none⟩), .int .i64 va, .int .i64 vb] X0) (CE : CCs w B wb tv bn 138 #[.pointer (some ⟨wb, 0, none⟩), .int .i64 vc] X1) (hlen : bs.length + (X0 ++ [32, 61, 32] ++ X1).length ≤ 100000000000000) :
    Calls Tryz.prog 108 #[.pointer (some ⟨wb, 0, none⟩), .agg #[.int .i64 20, .int .i64 va, .int .i64 vb, .int .i64 vc, .slice la vl.length lc, .string ⟨tx.toArray⟩, .int .i64 vn, .int .i64 vt, .int .i64 vp]] w (WPost w B wb tv bn (bs ++ (X0 ++ [32, 61, 32] ++ X1))) := by
  have hc0 : Chg (fun _ => False) w (w.alloc (.cells #[.int .i64 20, .int .i64 va, .int .i64 vb, .int .i64 vc, .slice la vl.length lc, .string ⟨tx.toArray⟩, .int .i64 vn, .int .i64 vt, .int .i64 vp] 63)) := Chg.alloc (fun _ => False) _ _
  have hB0 : B ≤ (w.alloc (.cells #[.int .i64 20, .int .i64 va, .int .i64 vb, .int .i64 vc, .slice la vl.length lc, .string ⟨tx.toArray⟩, .int .i64 vn, .int .i64 vt, .int .i64 vp] 63)).heap.size := Nat.le_trans hB hc0.size
  have SY := hide (cs_any (B := B) (wb := wb) (tv := tv) (bn := bn) hB0)
  have CG0 := hide (CG _ hc0)
  have CE0 := hide (CE _ hc0)
  have K0 := hide (Wkp.refl B wb (w.alloc (.cells #[.int .i64 20, .int .i64 va, .int .i64 vb, .int .i64 vc, .slice la vl.length lc, .string ⟨tx.toArray⟩, .int .i64 vn, .int .i64 vt, .int .i64 vp] 63)))
  have R0 := hide (hw.still hc0)
  have END : Hid (∀ a bs', Wkp B wb (w.alloc (.cells #[.int .i64 20, .int .i64 va, .int .i64 vb, .int .i64 vc, .slice la vl.length lc, .string ⟨tx.toArray⟩, .int .i64 vn, .int .i64 vt, .int .i64 vp] 63)) a → Wrt a B wb tv bn bs' → bs' = bs ++ (X0 ++ [32, 61, 32] ++ X1) → WPost w B wb tv bn (bs ++ (X0 ++ [32, 61, 32] ++ X1)) (.returned (.tuple #[])) a) := fun a bs' h1 h2 e => ⟨rfl, (Wkp.still hc0).trans h1, e ▸ h2⟩
  have hb0 : (w.alloc (.cells #[.int .i64 20, .int .i64 va, .int .i64 vb, .int .i64 vc, .slice la vl.length lc, .string ⟨tx.toArray⟩, .int .i64 vn, .int .i64 vt, .int .i64 vp] 63)).heap[w.heap.size]? = some (.cells #[.int .i64 20, .int .i64 va, .int .i64 vb, .int .i64 vc, .slice la vl.length lc, .string ⟨tx.toArray⟩, .int .i64 vn, .int .i64 vt, .int .i64 vp] 63 (0, 0)) := by
    exact heap_alloc_new w _
  have FC : Hid (∀ a, Wkp B wb (w.alloc (.cells #[.int .i64 20, .int .i64 va, .int .i64 vb, .int .i64 vc, .slice la vl.length lc, .string ⟨tx.toArray⟩, .int .i64 vn, .int .i64 vt, .int .i64 vp] 63)) a → a.cell? ⟨w.heap.size, 1, none⟩ = some (.int .i64 va) ∧ a.cell? ⟨w.heap.size, 2, none⟩ = some (.int .i64 vb) ∧ a.cell? ⟨w.heap.size, 3, none⟩ = some (.int .i64 vc) ∧ a.cell? ⟨w.heap.size, 5, none⟩ = some (.string ⟨tx.toArray⟩) ∧ w.heap.size < a.heap.size) := by
    intro a ha
    have g0 := ha.other (hw.still hc0) hb0 (by decide) (by decide)
    exact ⟨by rw [cell_of_row a _ 1 _ _ _ g0]; rfl, by rw [cell_of_row a _ 2 _ _ _ g0]; rfl, by rw [cell_of_row a _ 3 _ _ _ g0]; rfl, by rw [cell_of_row a _ 5 _ _ _ g0]; rfl, (Array.getElem?_eq_some_iff.1 g0).1⟩
  clear hb0
  clear hw hc0 hB0 CG CE
  go_enter Tryz.func108, Tryz.ntmps108
  have H0 := hide (CG0.out _ _ K0.out R0.out (by first | omega | (simp; omega) | (simp at hlen; omega) | (simp at hlen ⊢; omega)))
  go_wp2_with fail
  refine (H0.out).mono ?_
  rintro e w1 ⟨rfl, h1, h2⟩
  have K1 := hide h1
  have R1 := hide h2
  obtain ⟨y1x0, y1x1, y1x2, y1x3, y1x4⟩ := FC.out w1 h1
  clear h1 h2 H0 K0 R0
  have H1 := hide (SY.out.1 _ _ _ 1 [32, 61, 32] rfl K1.out R1.out (by first | omega | (simp; omega) | (simp at hlen; omega) | (simp at hlen ⊢; omega)))
  go_wp2_with fail
  refine (H1.out.1).mono ?_
  rintro e w2 ⟨rfl, h1, h2⟩
  have K2 := hide h1
  have R2 := hide h2
  obtain ⟨y2x0, y2x1, y2x2, y2x3, y2x4⟩ := FC.out w2 h1
  clear h1 h2 H1 K1 R1
  have H2 := hide (CE0.out _ _ K2.out R2.out (by first | omega | (simp; omega) | (simp at hlen; omega) | (simp at hlen ⊢; omega)))
  go_wp2_with fail
  refine (H2.out).mono ?_
  rintro e w3 ⟨rfl, h1, h2⟩
  have K3 := hide h1
  have R3 := hide h2
  obtain ⟨y3x0, y3x1, y3x2, y3x3, y3x4⟩ := FC.out w3 h1
  clear h1 h2 H2 K2 R2
  have HE := hide (END.out _ _ K3.out R3.out (by simp))
  clear K3 R3
  go_wp2
  go_end0
  exact HE.out

set_option maxHeartbeats 2000000 in
set_option maxRecDepth 100000 in
theorem line_print {w : World} {bs : List UInt8} (hB : B ≤ w.heap.size) (hw : Wrt w B wb tv bn bs) (va vb vc : Int) (vl : List Int) (tx : List UInt8) (vn vt vp : Int) (la : Option Addr) (lc : Nat) (X0 : List UInt8) (CE : CCs w B wb tv bn 138 #[.pointer (some ⟨wb, 0, none⟩), .int .i64 va] X0) (hlen : bs.length + ([112, 114, 105, 110, 116, 32] ++ X0).length ≤ 100000000000000) :
    Calls Tryz.prog 108 #[.pointer (some ⟨wb, 0, none⟩), .agg #[.int .i64 21, .int .i64 va, .int .i64 vb, .int .i64 vc, .slice la vl.length lc, .string ⟨tx.toArray⟩, .int .i64 vn, .int .i64 vt, .int .i64 vp]] w (WPost w B wb tv bn (bs ++ ([112, 114, 105, 110, 116, 32] ++ X0))) := by
  have hc0 : Chg (fun _ => False) w (w.alloc (.cells #[.int .i64 21, .int .i64 va, .int .i64 vb, .int .i64 vc, .slice la vl.length lc, .string ⟨tx.toArray⟩, .int .i64 vn, .int .i64 vt, .int .i64 vp] 63)) := Chg.alloc (fun _ => False) _ _
  have hB0 : B ≤ (w.alloc (.cells #[.int .i64 21, .int .i64 va, .int .i64 vb, .int .i64 vc, .slice la vl.length lc, .string ⟨tx.toArray⟩, .int .i64 vn, .int .i64 vt, .int .i64 vp] 63)).heap.size := Nat.le_trans hB hc0.size
  have SY := hide (cs_any (B := B) (wb := wb) (tv := tv) (bn := bn) hB0)
  have CE0 := hide (CE _ hc0)
  have K0 := hide (Wkp.refl B wb (w.alloc (.cells #[.int .i64 21, .int .i64 va, .int .i64 vb, .int .i64 vc, .slice la vl.length lc, .string ⟨tx.toArray⟩, .int .i64 vn, .int .i64 vt, .int .i64 vp] 63)))
  have R0 := hide (hw.still hc0)
  have END : Hid (∀ a bs', Wkp B wb (w.alloc (.cells #[.int .i64 21, .int .i64 va, .int .i64 vb, .int .i64 vc, .slice la vl.length lc, .string ⟨tx.toArray⟩, .int .i64 vn, .int .i64 vt, .int .i64 vp] 63)) a → Wrt a B wb tv bn bs' → bs' = bs ++ ([112, 114, 105, 110, 116, 32] ++ X0) → WPost w B wb tv bn (bs ++ ([112, 114, 105, 110, 116, 32] ++ X0)) (.returned (.tuple #[])) a) := fun a bs' h1 h2 e => ⟨rfl, (Wkp.still hc0).trans h1, e ▸ h2⟩
  have hb0 : (w.alloc (.cells #[.int .i64 21, .int .i64 va, .int .i64 vb, .int .i64 vc, .slice la vl.length lc, .string ⟨tx.toArray⟩, .int .i64 vn, .int .i64 vt, .int .i64 vp] 63)).heap[w.heap.size]? = some (.cells #[.int .i64 21, .int .i64 va, .int .i64 vb, .int .i64 vc, .slice la vl.length lc, .string ⟨tx.toArray⟩, .int .i64 vn, .int .i64 vt, .int .i64 vp] 63 (0, 0)) := by
    exact heap_alloc_new w _
  have FC : Hid (∀ a, Wkp B wb (w.alloc (.cells #[.int .i64 21, .int .i64 va, .int .i64 vb, .int .i64 vc, .slice la vl.length lc, .string ⟨tx.toArray⟩, .int .i64 vn, .int .i64 vt, .int .i64 vp] 63)) a → a.cell? ⟨w.heap.size, 1, none⟩ = some (.int .i64 va) ∧ w.heap.size < a.heap.size) := by
    intro a ha
    have g0 := ha.other (hw.still hc0) hb0 (by decide) (by decide)
    exact ⟨by rw [cell_of_row a _ 1 _ _ _ g0]; rfl, (Array.getElem?_eq_some_iff.1 g0).1⟩
  clear hb0
  clear hw hc0 hB0 CE
  go_enter Tryz.func108, Tryz.ntmps108
  have H0 := hide (SY.out.1 _ _ (w.heap.size + 1) 1 [112, 114, 105, 110, 116, 32] (by simp) K0.out R0.out (by first | omega | (simp; omega) | (simp at hlen; omega) | (simp at hlen ⊢; omega)))
  go_wp2_with fail
  refine (H0.out.1).mono ?_
  rintro e w1 ⟨rfl, h1, h2⟩
  have K1 := hide h1
  have R1 := hide h2
  obtain ⟨y1x0, y1x1⟩ := FC.out w1 h1
  clear h1 h2 H0 K0 R0
  have H1 := hide (CE0.out _ _ K1.out R1.out (by first | omega | (simp; omega) | (simp at hlen; omega) | (simp at hlen ⊢; omega)))
  go_wp2_with fail
  refine (H1.out).mono ?_
  rintro e w2 ⟨rfl, h1, h2⟩
  have K2 := hide h1
  have R2 := hide h2
  obtain ⟨y2x0, y2x1⟩ := FC.out w2 h1
  clear h1 h2 H1 K1 R1
  have HE := hide (END.out _ _ K2.out R2.out (by simp))
  clear K2 R2
  go_wp2
  go_end0
  exact HE.out

set_option maxHeartbeats 2000000 in
set_option maxRecDepth 100000 in
theorem line_return {w : World} {bs : List UInt8} (hB : B ≤ w.heap.size) (hw : Wrt w B wb tv bn bs) (va vb vc : Int) (vl : List Int) (tx : List UInt8) (vn vt vp : Int) (la : Option Addr) (lc : Nat) (X0 : List UInt8) (CE : CCs w B wb tv bn 138 #[.pointer (some ⟨wb, 0, none⟩), .int .i64 va] X0) (hlen : bs.length + ([114, 101, 116, 117, 114, 110, 32] ++ X0).length ≤ 100000000000000) :
    Calls Tryz.prog 108 #[.pointer (some ⟨wb, 0, none⟩), .agg #[.int .i64 24, .int .i64 va, .int .i64 vb, .int .i64 vc, .slice la vl.length lc, .string ⟨tx.toArray⟩, .int .i64 vn, .int .i64 vt, .int .i64 vp]] w (WPost w B wb tv bn (bs ++ ([114, 101, 116, 117, 114, 110, 32] ++ X0))) := by
  have hc0 : Chg (fun _ => False) w (w.alloc (.cells #[.int .i64 24, .int .i64 va, .int .i64 vb, .int .i64 vc, .slice la vl.length lc, .string ⟨tx.toArray⟩, .int .i64 vn, .int .i64 vt, .int .i64 vp] 63)) := Chg.alloc (fun _ => False) _ _
  have hB0 : B ≤ (w.alloc (.cells #[.int .i64 24, .int .i64 va, .int .i64 vb, .int .i64 vc, .slice la vl.length lc, .string ⟨tx.toArray⟩, .int .i64 vn, .int .i64 vt, .int .i64 vp] 63)).heap.size := Nat.le_trans hB hc0.size
  have SY := hide (cs_any (B := B) (wb := wb) (tv := tv) (bn := bn) hB0)
  have CE0 := hide (CE _ hc0)
  have K0 := hide (Wkp.refl B wb (w.alloc (.cells #[.int .i64 24, .int .i64 va, .int .i64 vb, .int .i64 vc, .slice la vl.length lc, .string ⟨tx.toArray⟩, .int .i64 vn, .int .i64 vt, .int .i64 vp] 63)))
  have R0 := hide (hw.still hc0)
  have END : Hid (∀ a bs', Wkp B wb (w.alloc (.cells #[.int .i64 24, .int .i64 va, .int .i64 vb, .int .i64 vc, .slice la vl.length lc, .string ⟨tx.toArray⟩, .int .i64 vn, .int .i64 vt, .int .i64 vp] 63)) a → Wrt a B wb tv bn bs' → bs' = bs ++ ([114, 101, 116, 117, 114, 110, 32] ++ X0) → WPost w B wb tv bn (bs ++ ([114, 101, 116, 117, 114, 110, 32] ++ X0)) (.returned (.tuple #[])) a) := fun a bs' h1 h2 e => ⟨rfl, (Wkp.still hc0).trans h1, e ▸ h2⟩
  have hb0 : (w.alloc (.cells #[.int .i64 24, .int .i64 va, .int .i64 vb, .int .i64 vc, .slice la vl.length lc, .string ⟨tx.toArray⟩, .int .i64 vn, .int .i64 vt, .int .i64 vp] 63)).heap[w.heap.size]? = some (.cells #[.int .i64 24, .int .i64 va, .int .i64 vb, .int .i64 vc, .slice la vl.length lc, .string ⟨tx.toArray⟩, .int .i64 vn, .int .i64 vt, .int .i64 vp] 63 (0, 0)) := by
    exact heap_alloc_new w _
  have FC : Hid (∀ a, Wkp B wb (w.alloc (.cells #[.int .i64 24, .int .i64 va, .int .i64 vb, .int .i64 vc, .slice la vl.length lc, .string ⟨tx.toArray⟩, .int .i64 vn, .int .i64 vt, .int .i64 vp] 63)) a → a.cell? ⟨w.heap.size, 1, none⟩ = some (.int .i64 va) ∧ w.heap.size < a.heap.size) := by
    intro a ha
    have g0 := ha.other (hw.still hc0) hb0 (by decide) (by decide)
    exact ⟨by rw [cell_of_row a _ 1 _ _ _ g0]; rfl, (Array.getElem?_eq_some_iff.1 g0).1⟩
  clear hb0
  clear hw hc0 hB0 CE
  go_enter Tryz.func108, Tryz.ntmps108
  have H0 := hide (SY.out.1 _ _ (w.heap.size + 1) 1 [114, 101, 116, 117, 114, 110, 32] (by simp) K0.out R0.out (by first | omega | (simp; omega) | (simp at hlen; omega) | (simp at hlen ⊢; omega)))
  go_wp2_with fail
  refine (H0.out.1).mono ?_
  rintro e w1 ⟨rfl, h1, h2⟩
  have K1 := hide h1
  have R1 := hide h2
  obtain ⟨y1x0, y1x1⟩ := FC.out w1 h1
  clear h1 h2 H0 K0 R0
  have H1 := hide (CE0.out _ _ K1.out R1.out (by first | omega | (simp; omega) | (simp at hlen; omega) | (simp at hlen ⊢; omega)))
  go_wp2_with fail
  refine (H1.out).mono ?_
  rintro e w2 ⟨rfl, h1, h2⟩
  have K2 := hide h1
  have R2 := hide h2
  obtain ⟨y2x0, y2x1⟩ := FC.out w2 h1
  clear h1 h2 H1 K1 R1
  have HE := hide (END.out _ _ K2.out R2.out (by simp))
  clear K2 R2
  go_wp2
  go_end0
  exact HE.out

set_option maxHeartbeats 2000000 in
set_option maxRecDepth 100000 in
theorem line_do {w : World} {bs : List UInt8} (hB : B ≤ w.heap.size) (hw : Wrt w B wb tv bn bs) (va vb vc : Int) (vl : List Int) (tx : List UInt8) (vn vt vp : Int) (la : Option Addr) (lc : Nat) (X0 : List UInt8) (CE : CCs w B wb tv bn 138 #[.pointer (some ⟨wb, 0, none⟩), .int .i64 va] X0) (hlen : bs.length + (X0).length ≤ 100000000000000) :
    Calls Tryz.prog 108 #[.pointer (some ⟨wb, 0, none⟩), .agg #[.int .i64 25, .int .i64 va, .int .i64 vb, .int .i64 vc, .slice la vl.length lc, .string ⟨tx.toArray⟩, .int .i64 vn, .int .i64 vt, .int .i64 vp]] w (WPost w B wb tv bn (bs ++ (X0))) := by
  have hc0 : Chg (fun _ => False) w (w.alloc (.cells #[.int .i64 25, .int .i64 va, .int .i64 vb, .int .i64 vc, .slice la vl.length lc, .string ⟨tx.toArray⟩, .int .i64 vn, .int .i64 vt, .int .i64 vp] 63)) := Chg.alloc (fun _ => False) _ _
  have hB0 : B ≤ (w.alloc (.cells #[.int .i64 25, .int .i64 va, .int .i64 vb, .int .i64 vc, .slice la vl.length lc, .string ⟨tx.toArray⟩, .int .i64 vn, .int .i64 vt, .int .i64 vp] 63)).heap.size := Nat.le_trans hB hc0.size
  have SY := hide (cs_any (B := B) (wb := wb) (tv := tv) (bn := bn) hB0)
  have CE0 := hide (CE _ hc0)
  have K0 := hide (Wkp.refl B wb (w.alloc (.cells #[.int .i64 25, .int .i64 va, .int .i64 vb, .int .i64 vc, .slice la vl.length lc, .string ⟨tx.toArray⟩, .int .i64 vn, .int .i64 vt, .int .i64 vp] 63)))
  have R0 := hide (hw.still hc0)
  have END : Hid (∀ a bs', Wkp B wb (w.alloc (.cells #[.int .i64 25, .int .i64 va, .int .i64 vb, .int .i64 vc, .slice la vl.length lc, .string ⟨tx.toArray⟩, .int .i64 vn, .int .i64 vt, .int .i64 vp] 63)) a → Wrt a B wb tv bn bs' → bs' = bs ++ (X0) → WPost w B wb tv bn (bs ++ (X0)) (.returned (.tuple #[])) a) := fun a bs' h1 h2 e => ⟨rfl, (Wkp.still hc0).trans h1, e ▸ h2⟩
  have hb0 : (w.alloc (.cells #[.int .i64 25, .int .i64 va, .int .i64 vb, .int .i64 vc, .slice la vl.length lc, .string ⟨tx.toArray⟩, .int .i64 vn, .int .i64 vt, .int .i64 vp] 63)).heap[w.heap.size]? = some (.cells #[.int .i64 25, .int .i64 va, .int .i64 vb, .int .i64 vc, .slice la vl.length lc, .string ⟨tx.toArray⟩, .int .i64 vn, .int .i64 vt, .int .i64 vp] 63 (0, 0)) := by
    exact heap_alloc_new w _
  have FC : Hid (∀ a, Wkp B wb (w.alloc (.cells #[.int .i64 25, .int .i64 va, .int .i64 vb, .int .i64 vc, .slice la vl.length lc, .string ⟨tx.toArray⟩, .int .i64 vn, .int .i64 vt, .int .i64 vp] 63)) a → a.cell? ⟨w.heap.size, 1, none⟩ = some (.int .i64 va) ∧ w.heap.size < a.heap.size) := by
    intro a ha
    have g0 := ha.other (hw.still hc0) hb0 (by decide) (by decide)
    exact ⟨by rw [cell_of_row a _ 1 _ _ _ g0]; rfl, (Array.getElem?_eq_some_iff.1 g0).1⟩
  clear hb0
  clear hw hc0 hB0 CE
  go_enter Tryz.func108, Tryz.ntmps108
  have H0 := hide (CE0.out _ _ K0.out R0.out (by first | omega | (simp; omega) | (simp at hlen; omega) | (simp at hlen ⊢; omega)))
  go_wp2_with fail
  refine (H0.out).mono ?_
  rintro e w1 ⟨rfl, h1, h2⟩
  have K1 := hide h1
  have R1 := hide h2
  obtain ⟨y1x0, y1x1⟩ := FC.out w1 h1
  clear h1 h2 H0 K0 R0
  have HE := hide (END.out _ _ K1.out R1.out (by simp))
  clear K1 R1
  go_wp2
  go_end0
  exact HE.out

set_option maxHeartbeats 2000000 in
set_option maxRecDepth 100000 in
theorem stmt_line {w : World} {bs : List UInt8} (hB : B ≤ w.heap.size) (hw : Wrt w B wb tv bn bs) (kd : Int) (h22 : (kd == 22) = false) (h23 : (kd == 23) = false) (va vb vc : Int) (vl : List Int) (tx : List UInt8) (vn vt vp : Int) (la : Option Addr) (lc : Nat) (X0 : List UInt8) (CL : CCs w B wb tv bn 108 #[.pointer (some ⟨wb, 0, none⟩), .agg #[.int .i64 kd, .int .i64 va, .int .i64 vb, .int .i64 vc, .slice la vl.length lc, .string ⟨tx.toArray⟩, .int .i64 vn, .int .i64 vt, .int .i64 vp]] X0) (hlen : bs.length + (X0 ++ [59]).length ≤ 100000000000000) :
    Calls Tryz.prog 66 #[.pointer (some ⟨wb, 0, none⟩), .agg #[.int .i64 kd, .int .i64 va, .int .i64 vb, .int .i64 vc, .slice la vl.length lc, .string ⟨tx.toArray⟩, .int .i64 vn, .int .i64 vt, .int .i64 vp]] w (WPost w B wb tv bn (bs ++ (X0 ++ [59]))) := by
  have hc0 : Chg (fun _ => False) w (w.alloc (.cells #[.int .i64 kd, .int .i64 va, .int .i64 vb, .int .i64 vc, .slice la vl.length lc, .string ⟨tx.toArray⟩, .int .i64 vn, .int .i64 vt, .int .i64 vp] 63)) := Chg.alloc (fun _ => False) _ _
  have hB0 : B ≤ (w.alloc (.cells #[.int .i64 kd, .int .i64 va, .int .i64 vb, .int .i64 vc, .slice la vl.length lc, .string ⟨tx.toArray⟩, .int .i64 vn, .int .i64 vt, .int .i64 vp] 63)).heap.size := Nat.le_trans hB hc0.size
  have SY := hide (cs_any (B := B) (wb := wb) (tv := tv) (bn := bn) hB0)
  have CL0 := hide (CL _ hc0)
  have K0 := hide (Wkp.refl B wb (w.alloc (.cells #[.int .i64 kd, .int .i64 va, .int .i64 vb, .int .i64 vc, .slice la vl.length lc, .string ⟨tx.toArray⟩, .int .i64 vn, .int .i64 vt, .int .i64 vp] 63)))
  have R0 := hide (hw.still hc0)
  have END : Hid (∀ a bs', Wkp B wb (w.alloc (.cells #[.int .i64 kd, .int .i64 va, .int .i64 vb, .int .i64 vc, .slice la vl.length lc, .string ⟨tx.toArray⟩, .int .i64 vn, .int .i64 vt, .int .i64 vp] 63)) a → Wrt a B wb tv bn bs' → bs' = bs ++ (X0 ++ [59]) → WPost w B wb tv bn (bs ++ (X0 ++ [59])) (.returned (.tuple #[])) a) := fun a bs' h1 h2 e => ⟨rfl, (Wkp.still hc0).trans h1, e ▸ h2⟩
  have hb0 : (w.alloc (.cells #[.int .i64 kd, .int .i64 va, .int .i64 vb, .int .i64 vc, .slice la vl.length lc, .string ⟨tx.toArray⟩, .int .i64 vn, .int .i64 vt, .int .i64 vp] 63)).heap[w.heap.size]? = some (.cells #[.int .i64 kd, .int .i64 va, .int .i64 vb, .int .i64 vc, .slice la vl.length lc, .string ⟨tx.toArray⟩, .int .i64 vn, .int .i64 vt, .int .i64 vp] 63 (0, 0)) := by
    exact heap_alloc_new w _
  have FC : Hid (∀ a, Wkp B wb (w.alloc (.cells #[.int .i64 kd, .int .i64 va, .int .i64 vb, .int .i64 vc, .slice la vl.length lc, .string ⟨tx.toArray⟩, .int .i64 vn, .int .i64 vt, .int .i64 vp] 63)) a → a.cell? ⟨w.heap.size, 1, none⟩ = some (.int .i64 va) ∧ w.heap.size < a.heap.size) := by
    intro a ha
    have g0 := ha.other (hw.still hc0) hb0 (by decide) (by decide)
    exact ⟨by rw [cell_of_row a _ 1 _ _ _ g0]; rfl, (Array.getElem?_eq_some_iff.1 g0).1⟩
  clear hb0
  clear hw hc0 hB0 CL
  go_enter Tryz.func66, Tryz.ntmps66
  have H0 := hide (CL0.out _ _ K0.out R0.out (by first | omega | (simp; omega) | (simp at hlen; omega) | (simp at hlen ⊢; omega)))
  go_wp2_with fail
  refine (H0.out).mono ?_
  rintro e w1 ⟨rfl, h1, h2⟩
  have K1 := hide h1
  have R1 := hide h2
  obtain ⟨y1x0, y1x1⟩ := FC.out w1 h1
  clear h1 h2 H0 K0 R0
  have H1 := hide (SY.out.1 _ _ _ 1 [59] rfl K1.out R1.out (by first | omega | (simp; omega) | (simp at hlen; omega) | (simp at hlen ⊢; omega)))
  go_wp2_with fail
  refine (H1.out.1).mono ?_
  rintro e w2 ⟨rfl, h1, h2⟩
  have K2 := hide h1
  have R2 := hide h2
  obtain ⟨y2x0, y2x1⟩ := FC.out w2 h1
  clear h1 h2 H1 K1 R1
  have HE := hide (END.out _ _ K2.out R2.out (by simp))
  clear K2 R2
  go_wp2
  go_end0
  exact HE.out

set_option maxHeartbeats 2000000 in
set_option maxRecDepth 100000 in
theorem stmt_while {w : World} {bs : List UInt8} (hB : B ≤ w.heap.size) (hw : Wrt w B wb tv bn bs) (va vb vc : Int) (vl : List Int) (tx : List UInt8) (vn vt vp : Int) (la : Option Addr) (lc : Nat) (X0 : List UInt8) (CW : CCs w B wb tv bn 106 #[.pointer (some ⟨wb, 0, none⟩), .string ⟨#[119, 104, 105, 108, 101]⟩, .agg #[.int .i64 23, .int .i64 va, .int .i64 vb, .int .i64 vc, .slice la vl.length lc, .string ⟨tx.toArray⟩, .int .i64 vn, .int .i64 vt, .int .i64 vp]] X0) (hlen : bs.length + (X0).length ≤ 100000000000000) :
    Calls Tryz.prog 66 #[.pointer (some ⟨wb, 0, none⟩), .agg #[.int .i64 23, .int .i64 va, .int .i64 vb, .int .i64 vc, .slice la vl.length lc, .string ⟨tx.toArray⟩, .int .i64 vn, .int .i64 vt, .int .i64 vp]] w (WPost w B wb tv bn (bs ++ (X0))) := by
  have hc0 : Chg (fun _ => False) w (w.alloc (.cells #[.int .i64 23, .int .i64 va, .int .i64 vb, .int .i64 vc, .slice la vl.length lc, .string ⟨tx.toArray⟩, .int .i64 vn, .int .i64 vt, .int .i64 vp] 63)) := Chg.alloc (fun _ => False) _ _
  have hB0 : B ≤ (w.alloc (.cells #[.int .i64 23, .int .i64 va, .int .i64 vb, .int .i64 vc, .slice la vl.length lc, .string ⟨tx.toArray⟩, .int .i64 vn, .int .i64 vt, .int .i64 vp] 63)).heap.size := Nat.le_trans hB hc0.size
  have SY := hide (cs_any (B := B) (wb := wb) (tv := tv) (bn := bn) hB0)
  have CW0 := hide (CW _ hc0)
  have K0 := hide (Wkp.refl B wb (w.alloc (.cells #[.int .i64 23, .int .i64 va, .int .i64 vb, .int .i64 vc, .slice la vl.length lc, .string ⟨tx.toArray⟩, .int .i64 vn, .int .i64 vt, .int .i64 vp] 63)))
  have R0 := hide (hw.still hc0)
  have END : Hid (∀ a bs', Wkp B wb (w.alloc (.cells #[.int .i64 23, .int .i64 va, .int .i64 vb, .int .i64 vc, .slice la vl.length lc, .string ⟨tx.toArray⟩, .int .i64 vn, .int .i64 vt, .int .i64 vp] 63)) a → Wrt a B wb tv bn bs' → bs' = bs ++ (X0) → WPost w B wb tv bn (bs ++ (X0)) (.returned (.tuple #[])) a) := fun a bs' h1 h2 e => ⟨rfl, (Wkp.still hc0).trans h1, e ▸ h2⟩
  have hb0 : (w.alloc (.cells #[.int .i64 23, .int .i64 va, .int .i64 vb, .int .i64 vc, .slice la vl.length lc, .string ⟨tx.toArray⟩, .int .i64 vn, .int .i64 vt, .int .i64 vp] 63)).heap[w.heap.size]? = some (.cells #[.int .i64 23, .int .i64 va, .int .i64 vb, .int .i64 vc, .slice la vl.length lc, .string ⟨tx.toArray⟩, .int .i64 vn, .int .i64 vt, .int .i64 vp] 63 (0, 0)) := by
    exact heap_alloc_new w _
  have FC : Hid (∀ a, Wkp B wb (w.alloc (.cells #[.int .i64 23, .int .i64 va, .int .i64 vb, .int .i64 vc, .slice la vl.length lc, .string ⟨tx.toArray⟩, .int .i64 vn, .int .i64 vt, .int .i64 vp] 63)) a → a.cell? ⟨w.heap.size, 1, none⟩ = some (.int .i64 va) ∧ w.heap.size < a.heap.size) := by
    intro a ha
    have g0 := ha.other (hw.still hc0) hb0 (by decide) (by decide)
    exact ⟨by rw [cell_of_row a _ 1 _ _ _ g0]; rfl, (Array.getElem?_eq_some_iff.1 g0).1⟩
  clear hb0
  clear hw hc0 hB0 CW
  go_enter Tryz.func66, Tryz.ntmps66
  have H0 := hide (CW0.out _ _ K0.out R0.out (by first | omega | (simp; omega) | (simp at hlen; omega) | (simp at hlen ⊢; omega)))
  go_wp2_with fail
  refine (H0.out).mono ?_
  rintro e w1 ⟨rfl, h1, h2⟩
  have K1 := hide h1
  have R1 := hide h2
  obtain ⟨y1x0, y1x1⟩ := FC.out w1 h1
  clear h1 h2 H0 K0 R0
  have HE := hide (END.out _ _ K1.out R1.out (by simp))
  clear K1 R1
  go_wp2
  go_end0
  exact HE.out

set_option maxHeartbeats 2000000 in
set_option maxRecDepth 100000 in
theorem stmt_if {w : World} {bs : List UInt8} (hB : B ≤ w.heap.size) (hw : Wrt w B wb tv bn bs) (va vb : Int) (vl : List Int) (tx : List UInt8) (vn vt vp : Int) (la : Option Addr) (lc : Nat) (X0 : List UInt8) (CW : CCs w B wb tv bn 106 #[.pointer (some ⟨wb, 0, none⟩), .string ⟨#[105, 102]⟩, .agg #[.int .i64 22, .int .i64 va, .int .i64 vb, .int .i64 (-1), .slice la vl.length lc, .string ⟨tx.toArray⟩, .int .i64 vn, .int .i64 vt, .int .i64 vp]] X0) (hlen : bs.length + (X0).length ≤ 100000000000000) :
    Calls Tryz.prog 66 #[.pointer (some ⟨wb, 0, none⟩), .agg #[.int .i64 22, .int .i64 va, .int .i64 vb, .int .i64 (-1), .slice la vl.length lc, .string ⟨tx.toArray⟩, .int .i64 vn, .int .i64 vt, .int .i64 vp]] w (WPost w B wb tv bn (bs ++ (X0))) := by
  have hc0 : Chg (fun _ => False) w (w.alloc (.cells #[.int .i64 22, .int .i64 va, .int .i64 vb, .int .i64 (-1), .slice la vl.length lc, .string ⟨tx.toArray⟩, .int .i64 vn, .int .i64 vt, .int .i64 vp] 63)) := Chg.alloc (fun _ => False) _ _
  have hB0 : B ≤ (w.alloc (.cells #[.int .i64 22, .int .i64 va, .int .i64 vb, .int .i64 (-1), .slice la vl.length lc, .string ⟨tx.toArray⟩, .int .i64 vn, .int .i64 vt, .int .i64 vp] 63)).heap.size := Nat.le_trans hB hc0.size
  have SY := hide (cs_any (B := B) (wb := wb) (tv := tv) (bn := bn) hB0)
  have CW0 := hide (CW _ hc0)
  have K0 := hide (Wkp.refl B wb (w.alloc (.cells #[.int .i64 22, .int .i64 va, .int .i64 vb, .int .i64 (-1), .slice la vl.length lc, .string ⟨tx.toArray⟩, .int .i64 vn, .int .i64 vt, .int .i64 vp] 63)))
  have R0 := hide (hw.still hc0)
  have END : Hid (∀ a bs', Wkp B wb (w.alloc (.cells #[.int .i64 22, .int .i64 va, .int .i64 vb, .int .i64 (-1), .slice la vl.length lc, .string ⟨tx.toArray⟩, .int .i64 vn, .int .i64 vt, .int .i64 vp] 63)) a → Wrt a B wb tv bn bs' → bs' = bs ++ (X0) → WPost w B wb tv bn (bs ++ (X0)) (.returned (.tuple #[])) a) := fun a bs' h1 h2 e => ⟨rfl, (Wkp.still hc0).trans h1, e ▸ h2⟩
  have hb0 : (w.alloc (.cells #[.int .i64 22, .int .i64 va, .int .i64 vb, .int .i64 (-1), .slice la vl.length lc, .string ⟨tx.toArray⟩, .int .i64 vn, .int .i64 vt, .int .i64 vp] 63)).heap[w.heap.size]? = some (.cells #[.int .i64 22, .int .i64 va, .int .i64 vb, .int .i64 (-1), .slice la vl.length lc, .string ⟨tx.toArray⟩, .int .i64 vn, .int .i64 vt, .int .i64 vp] 63 (0, 0)) := by
    exact heap_alloc_new w _
  have FC : Hid (∀ a, Wkp B wb (w.alloc (.cells #[.int .i64 22, .int .i64 va, .int .i64 vb, .int .i64 (-1), .slice la vl.length lc, .string ⟨tx.toArray⟩, .int .i64 vn, .int .i64 vt, .int .i64 vp] 63)) a → a.cell? ⟨w.heap.size, 3, none⟩ = some (.int .i64 (-1)) ∧ w.heap.size < a.heap.size) := by
    intro a ha
    have g0 := ha.other (hw.still hc0) hb0 (by decide) (by decide)
    exact ⟨by rw [cell_of_row a _ 3 _ _ _ g0]; rfl, (Array.getElem?_eq_some_iff.1 g0).1⟩
  clear hb0
  clear hw hc0 hB0 CW
  go_enter Tryz.func66, Tryz.ntmps66
  have H0 := hide (CW0.out _ _ K0.out R0.out (by first | omega | (simp; omega) | (simp at hlen; omega) | (simp at hlen ⊢; omega)))
  go_wp2_with fail
  refine (H0.out).mono ?_
  rintro e w1 ⟨rfl, h1, h2⟩
  have K1 := hide h1
  have R1 := hide h2
  obtain ⟨y1x0, y1x1⟩ := FC.out w1 h1
  clear h1 h2 H0 K0 R0
  have HE := hide (END.out _ _ K1.out R1.out (by simp))
  clear K1 R1
  go_wp2
  go_end0
  exact HE.out

set_option maxHeartbeats 2000000 in
set_option maxRecDepth 100000 in
theorem stmt_else {w : World} {bs : List UInt8} (hB : B ≤ w.heap.size) (hw : Wrt w B wb tv bn bs) (va vb : Int) (vc : Nat) (vl : List Int) (tx : List UInt8) (vn vt vp : Int) (la : Option Addr) (lc : Nat) (X0 X1 : List UInt8) (CW : CCs w B wb tv bn 106 #[.pointer (some ⟨wb, 0, none⟩), .string ⟨#[105, 102]⟩, .agg #[.int .i64 22, .int .i64 va, .int .i64 vb, .int .i64 (vc : Int), .slice la vl.length lc, .string ⟨tx.toArray⟩, .int .i64 vn, .int .i64 vt, .int .i64 vp]] X0) (CB : CCs w B wb tv bn 107 #[.pointer (some ⟨wb, 0, none⟩), .int .i64 (vc : Int)] X1) (hlen : bs.length + (X0 ++ [32, 101, 108, 115, 101, 32] ++ X1).length ≤ 100000000000000) :
    Calls Tryz.prog 66 #[.pointer (some ⟨wb, 0, none⟩), .agg #[.int .i64 22, .int .i64 va, .int .i64 vb, .int .i64 (vc : Int), .slice la vl.length lc, .string ⟨tx.toArray⟩, .int .i64 vn, .int .i64 vt, .int .i64 vp]] w (WPost w B wb tv bn (bs ++ (X0 ++ [32, 101, 108, 115, 101, 32] ++ X1))) := by
  have hc0 : Chg (fun _ => False) w (w.alloc (.cells #[.int .i64 22, .int .i64 va, .int .i64 vb, .int .i64 (vc : Int), .slice la vl.length lc, .string ⟨tx.toArray⟩, .int .i64 vn, .int .i64 vt, .int .i64 vp] 63)) := Chg.alloc (fun _ => False) _ _
  have hB0 : B ≤ (w.alloc (.cells #[.int .i64 22, .int .i64 va, .int .i64 vb, .int .i64 (vc : Int), .slice la vl.length lc, .string ⟨tx.toArray⟩, .int .i64 vn, .int .i64 vt, .int .i64 vp] 63)).heap.size := Nat.le_trans hB hc0.size
  have SY := hide (cs_any (B := B) (wb := wb) (tv := tv) (bn := bn) hB0)
  have CW0 := hide (CW _ hc0)
  have CB0 := hide (CB _ hc0)
  have K0 := hide (Wkp.refl B wb (w.alloc (.cells #[.int .i64 22, .int .i64 va, .int .i64 vb, .int .i64 (vc : Int), .slice la vl.length lc, .string ⟨tx.toArray⟩, .int .i64 vn, .int .i64 vt, .int .i64 vp] 63)))
  have R0 := hide (hw.still hc0)
  have END : Hid (∀ a bs', Wkp B wb (w.alloc (.cells #[.int .i64 22, .int .i64 va, .int .i64 vb, .int .i64 (vc : Int), .slice la vl.length lc, .string ⟨tx.toArray⟩, .int .i64 vn, .int .i64 vt, .int .i64 vp] 63)) a → Wrt a B wb tv bn bs' → bs' = bs ++ (X0 ++ [32, 101, 108, 115, 101, 32] ++ X1) → WPost w B wb tv bn (bs ++ (X0 ++ [32, 101, 108, 115, 101, 32] ++ X1)) (.returned (.tuple #[])) a) := fun a bs' h1 h2 e => ⟨rfl, (Wkp.still hc0).trans h1, e ▸ h2⟩
  have hb0 : (w.alloc (.cells #[.int .i64 22, .int .i64 va, .int .i64 vb, .int .i64 (vc : Int), .slice la vl.length lc, .string ⟨tx.toArray⟩, .int .i64 vn, .int .i64 vt, .int .i64 vp] 63)).heap[w.heap.size]? = some (.cells #[.int .i64 22, .int .i64 va, .int .i64 vb, .int .i64 (vc : Int), .slice la vl.length lc, .string ⟨tx.toArray⟩, .int .i64 vn, .int .i64 vt, .int .i64 vp] 63 (0, 0)) := by
    exact heap_alloc_new w _
  have FC : Hid (∀ a, Wkp B wb (w.alloc (.cells #[.int .i64 22, .int .i64 va, .int .i64 vb, .int .i64 (vc : Int), .slice la vl.length lc, .string ⟨tx.toArray⟩, .int .i64 vn, .int .i64 vt, .int .i64 vp] 63)) a → a.cell? ⟨w.heap.size, 3, none⟩ = some (.int .i64 (vc : Int)) ∧ w.heap.size < a.heap.size) := by
    intro a ha
    have g0 := ha.other (hw.still hc0) hb0 (by decide) (by decide)
    exact ⟨by rw [cell_of_row a _ 3 _ _ _ g0]; rfl, (Array.getElem?_eq_some_iff.1 g0).1⟩
  clear hb0
  clear hw hc0 hB0 CW CB
  go_enter Tryz.func66, Tryz.ntmps66
  have H0 := hide (CW0.out _ _ K0.out R0.out (by first | omega | (simp; omega) | (simp at hlen; omega) | (simp at hlen ⊢; omega)))
  go_wp2_with fail
  refine (H0.out).mono ?_
  rintro e w1 ⟨rfl, h1, h2⟩
  have K1 := hide h1
  have R1 := hide h2
  obtain ⟨y1x0, y1x1⟩ := FC.out w1 h1
  clear h1 h2 H0 K0 R0
  have H1 := hide (SY.out.1 _ _ _ 1 [32, 101, 108, 115, 101, 32] rfl K1.out R1.out (by first | omega | (simp; omega) | (simp at hlen; omega) | (simp at hlen ⊢; omega)))
  go_wp2_with fail
  refine (H1.out.1).mono ?_
  rintro e w2 ⟨rfl, h1, h2⟩
  have K2 := hide h1
  have R2 := hide h2
  obtain ⟨y2x0, y2x1⟩ := FC.out w2 h1
  clear h1 h2 H1 K1 R1
  have H2 := hide (CB0.out _ _ K2.out R2.out (by first | omega | (simp; omega) | (simp at hlen; omega) | (simp at hlen ⊢; omega)))
  go_wp2_with fail
  refine (H2.out).mono ?_
  rintro e w3 ⟨rfl, h1, h2⟩
  have K3 := hide h1
  have R3 := hide h2
  obtain ⟨y3x0, y3x1⟩ := FC.out w3 h1
  clear h1 h2 H2 K2 R2
  have HE := hide (END.out _ _ K3.out R3.out (by simp))
  clear K3 R3
  go_wp2
  go_end0
  exact HE.out
end
end Go.Proofs.YtjojlcfoiknlhaaGreatDoor
