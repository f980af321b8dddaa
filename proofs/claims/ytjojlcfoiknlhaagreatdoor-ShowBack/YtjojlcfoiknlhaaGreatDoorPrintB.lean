/-
  The printer: the contracts of expression, at each kind.
  The printer: the contracts of margin, statements and block.
-/
import Derived.Test.YtjojlcfoiknlhaaGreatDoorPme
namespace Go.Proofs.YtjojlcfoiknlhaaGreatDoor
open Go.RowKit

section
variable {B wb : Nat} {tv : Value} {bn : Wk}

set_option maxHeartbeats 2000000 in
set_option maxRecDepth 100000 in
theorem expr_two {w : World} {bs : List UInt8} (hB : B ≤ w.heap.size) (hw : Wrt w B wb tv bn bs) (gn nl ncap z : Nat) (va vb vc : Int) (vl : List Int) (tx : List UInt8) (vn vt vp : Int) (la : Option Addr) (lc : Nat) (n4 : w.cell? ⟨wb, 4, none⟩ = some (.slice (some ⟨gn, 0, none⟩) nl ncap)) (hzn : z < nl) (_hnc : nl ≤ ncap) (_hnm : ncap ≤ maxLen) (_hgn : gn < w.heap.size) (_hwb : wb < w.heap.size) (x0 : w.cell? ⟨gn, z * 9, none⟩ = some (.int .i64 12)) (x1 : w.cell? ⟨gn, z * 9 + 1, none⟩ = some (.int .i64 va)) (x2 : w.cell? ⟨gn, z * 9 + 2, none⟩ = some (.int .i64 vb)) (x3 : w.cell? ⟨gn, z * 9 + 3, none⟩ = some (.int .i64 vc)) (x4 : w.cell? ⟨gn, z * 9 + 4, none⟩ = some (.slice la vl.length lc)) (x5 : w.cell? ⟨gn, z * 9 + 5, none⟩ = some (.string ⟨tx.toArray⟩)) (x6 : w.cell? ⟨gn, z * 9 + 6, none⟩ = some (.int .i64 vn)) (x7 : w.cell? ⟨gn, z * 9 + 7, none⟩ = some (.int .i64 vt)) (x8 : w.cell? ⟨gn, z * 9 + 8, none⟩ = some (.int .i64 vp)) (X0 : List UInt8) (CF : CCs w B wb tv bn 167 #[.pointer (some ⟨wb, 0, none⟩), .agg #[.int .i64 12, .int .i64 va, .int .i64 vb, .int .i64 vc, .slice la vl.length lc, .string ⟨tx.toArray⟩, .int .i64 vn, .int .i64 vt, .int .i64 vp]] X0) (hlen : bs.length + (X0).length ≤ 100000000000000) :
    Calls Tryz.prog 138 #[.pointer (some ⟨wb, 0, none⟩), .int .i64 (z : Int)] w (WPost w B wb tv bn (bs ++ (X0))) := by
  have hc0 : Chg (fun _ => False) w (w.alloc (.cells #[.int .i64 12, .int .i64 va, .int .i64 vb, .int .i64 vc, .slice la vl.length lc, .string ⟨tx.toArray⟩, .int .i64 vn, .int .i64 vt, .int .i64 vp] 63)) := Chg.alloc (fun _ => False) _ _
  have hB0 : B ≤ (w.alloc (.cells #[.int .i64 12, .int .i64 va, .int .i64 vb, .int .i64 vc, .slice la vl.length lc, .string ⟨tx.toArray⟩, .int .i64 vn, .int .i64 vt, .int .i64 vp] 63)).heap.size := Nat.le_trans hB hc0.size
  have SY := hide (cs_any (B := B) (wb := wb) (tv := tv) (bn := bn) hB0)
  have CF0 := hide (CF _ hc0)
  have K0 := hide (Wkp.refl B wb (w.alloc (.cells #[.int .i64 12, .int .i64 va, .int .i64 vb, .int .i64 vc, .slice la vl.length lc, .string ⟨tx.toArray⟩, .int .i64 vn, .int .i64 vt, .int .i64 vp] 63)))
  have R0 := hide (hw.still hc0)
  have END : Hid (∀ a bs', Wkp B wb (w.alloc (.cells #[.int .i64 12, .int .i64 va, .int .i64 vb, .int .i64 vc, .slice la vl.length lc, .string ⟨tx.toArray⟩, .int .i64 vn, .int .i64 vt, .int .i64 vp] 63)) a → Wrt a B wb tv bn bs' → bs' = bs ++ (X0) → WPost w B wb tv bn (bs ++ (X0)) (.returned (.tuple #[])) a) := fun a bs' h1 h2 e => ⟨rfl, (Wkp.still hc0).trans h1, e ▸ h2⟩
  have hb0 : (w.alloc (.cells #[.int .i64 12, .int .i64 va, .int .i64 vb, .int .i64 vc, .slice la vl.length lc, .string ⟨tx.toArray⟩, .int .i64 vn, .int .i64 vt, .int .i64 vp] 63)).heap[w.heap.size]? = some (.cells #[.int .i64 12, .int .i64 va, .int .i64 vb, .int .i64 vc, .slice la vl.length lc, .string ⟨tx.toArray⟩, .int .i64 vn, .int .i64 vt, .int .i64 vp] 63 (0, 0)) := by
    exact heap_alloc_new w _
  have FC : Hid (∀ a, Wkp B wb (w.alloc (.cells #[.int .i64 12, .int .i64 va, .int .i64 vb, .int .i64 vc, .slice la vl.length lc, .string ⟨tx.toArray⟩, .int .i64 vn, .int .i64 vt, .int .i64 vp] 63)) a → a.cell? ⟨w.heap.size, 1, none⟩ = some (.int .i64 va) ∧ w.heap.size < a.heap.size) := by
    intro a ha
    have g0 := ha.other (hw.still hc0) hb0 (by decide) (by decide)
    exact ⟨by rw [cell_of_row a _ 1 _ _ _ g0]; rfl, (Array.getElem?_eq_some_iff.1 g0).1⟩
  clear hb0
  clear hw hc0 hB0 CF
  go_enter Tryz.func138, Tryz.ntmps138
  have H0 := hide (CF0.out _ _ K0.out R0.out (by first | omega | (simp; omega) | (simp at hlen; omega) | (simp at hlen ⊢; omega)))
  go_wp2_with fail
  refine (H0.out).mono ?_
  rintro e w1 ⟨rfl, h1, h2⟩
  have K1 := hide h1
  have R1 := hide h2
  obtain ⟨y1x0, y1x1⟩ := FC.out w1 h1
  clear h1 h2 H0 K0 R0
  have HE := hide (END.out _ _ K1.out R1.out (by simp))
  clear K1 R1
  go_wp2
  go_end0
  exact HE.out

set_option maxHeartbeats 2000000 in
set_option maxRecDepth 100000 in
theorem expr_one {w : World} {bs : List UInt8} (hB : B ≤ w.heap.size) (hw : Wrt w B wb tv bn bs) (gn nl ncap z : Nat) (va vb vc : Int) (vl : List Int) (tx : List UInt8) (vn vt vp : Int) (la : Option Addr) (lc : Nat) (n4 : w.cell? ⟨wb, 4, none⟩ = some (.slice (some ⟨gn, 0, none⟩) nl ncap)) (hzn : z < nl) (_hnc : nl ≤ ncap) (_hnm : ncap ≤ maxLen) (_hgn : gn < w.heap.size) (_hwb : wb < w.heap.size) (x0 : w.cell? ⟨gn, z * 9, none⟩ = some (.int .i64 13)) (x1 : w.cell? ⟨gn, z * 9 + 1, none⟩ = some (.int .i64 va)) (x2 : w.cell? ⟨gn, z * 9 + 2, none⟩ = some (.int .i64 vb)) (x3 : w.cell? ⟨gn, z * 9 + 3, none⟩ = some (.int .i64 vc)) (x4 : w.cell? ⟨gn, z * 9 + 4, none⟩ = some (.slice la vl.length lc)) (x5 : w.cell? ⟨gn, z * 9 + 5, none⟩ = some (.string ⟨tx.toArray⟩)) (x6 : w.cell? ⟨gn, z * 9 + 6, none⟩ = some (.int .i64 vn)) (x7 : w.cell? ⟨gn, z * 9 + 7, none⟩ = some (.int .i64 vt)) (x8 : w.cell? ⟨gn, z * 9 + 8, none⟩ = some (.int .i64 vp)) (X0 : List UInt8) (CF : CCs w B wb tv bn 168 #[.pointer (some ⟨wb, 0, none⟩), .agg #[.int .i64 13, .int .i64 va, .int .i64 vb, .int .i64 vc, .slice la vl.length lc, .string ⟨tx.toArray⟩, .int .i64 vn, .int .i64 vt, .int .i64 vp]] X0) (hlen : bs.length + (X0).length ≤ 100000000000000) :
    Calls Tryz.prog 138 #[.pointer (some ⟨wb, 0, none⟩), .int .i64 (z : Int)] w (WPost w B wb tv bn (bs ++ (X0))) := by
  have hc0 : Chg (fun _ => False) w (w.alloc (.cells #[.int .i64 13, .int .i64 va, .int .i64 vb, .int .i64 vc, .slice la vl.length lc, .string ⟨tx.toArray⟩, .int .i64 vn, .int .i64 vt, .int .i64 vp] 63)) := Chg.alloc (fun _ => False) _ _
  have hB0 : B ≤ (w.alloc (.cells #[.int .i64 13, .int .i64 va, .int .i64 vb, .int .i64 vc, .slice la vl.length lc, .string ⟨tx.toArray⟩, .int .i64 vn, .int .i64 vt, .int .i64 vp] 63)).heap.size := Nat.le_trans hB hc0.size
  have SY := hide (cs_any (B := B) (wb := wb) (tv := tv) (bn := bn) hB0)
  have CF0 := hide (CF _ hc0)
  have K0 := hide (Wkp.refl B wb (w.alloc (.cells #[.int .i64 13, .int .i64 va, .int .i64 vb, .int .i64 vc, .slice la vl.length lc, .string ⟨tx.toArray⟩, .int .i64 vn, .int .i64 vt, .int .i64 vp] 63)))
  have R0 := hide (hw.still hc0)
  have END : Hid (∀ a bs', Wkp B wb (w.alloc (.cells #[.int .i64 13, .int .i64 va, .int .i64 vb, .int .i64 vc, .slice la vl.length lc, .string ⟨tx.toArray⟩, .int .i64 vn, .int .i64 vt, .int .i64 vp] 63)) a → Wrt a B wb tv bn bs' → bs' = bs ++ (X0) → WPost w B wb tv bn (bs ++ (X0)) (.returned (.tuple #[])) a) := fun a bs' h1 h2 e => ⟨rfl, (Wkp.still hc0).trans h1, e ▸ h2⟩
  have hb0 : (w.alloc (.cells #[.int .i64 13, .int .i64 va, .int .i64 vb, .int .i64 vc, .slice la vl.length lc, .string ⟨tx.toArray⟩, .int .i64 vn, .int .i64 vt, .int .i64 vp] 63)).heap[w.heap.size]? = some (.cells #[.int .i64 13, .int .i64 va, .int .i64 vb, .int .i64 vc, .slice la vl.length lc, .string ⟨tx.toArray⟩, .int .i64 vn, .int .i64 vt, .int .i64 vp] 63 (0, 0)) := by
    exact heap_alloc_new w _
  have FC : Hid (∀ a, Wkp B wb (w.alloc (.cells #[.int .i64 13, .int .i64 va, .int .i64 vb, .int .i64 vc, .slice la vl.length lc, .string ⟨tx.toArray⟩, .int .i64 vn, .int .i64 vt, .int .i64 vp] 63)) a → a.cell? ⟨w.heap.size, 1, none⟩ = some (.int .i64 va) ∧ w.heap.size < a.heap.size) := by
    intro a ha
    have g0 := ha.other (hw.still hc0) hb0 (by decide) (by decide)
    exact ⟨by rw [cell_of_row a _ 1 _ _ _ g0]; rfl, (Array.getElem?_eq_some_iff.1 g0).1⟩
  clear hb0
  clear hw hc0 hB0 CF
  go_enter Tryz.func138, Tryz.ntmps138
  have H0 := hide (CF0.out _ _ K0.out R0.out (by first | omega | (simp; omega) | (simp at hlen; omega) | (simp at hlen ⊢; omega)))
  go_wp2_with fail
  refine (H0.out).mono ?_
  rintro e w1 ⟨rfl, h1, h2⟩
  have K1 := hide h1
  have R1 := hide h2
  obtain ⟨y1x0, y1x1⟩ := FC.out w1 h1
  clear h1 h2 H0 K0 R0
  have HE := hide (END.out _ _ K1.out R1.out (by simp))
  clear K1 R1
  go_wp2
  go_end0
  exact HE.out

set_option maxHeartbeats 2000000 in
set_option maxRecDepth 100000 in
theorem expr_call {w : World} {bs : List UInt8} (hB : B ≤ w.heap.size) (hw : Wrt w B wb tv bn bs) (gn nl ncap z : Nat) (va vb vc : Int) (vl : List Int) (tx : List UInt8) (vn vt vp : Int) (la : Option Addr) (lc : Nat) (n4 : w.cell? ⟨wb, 4, none⟩ = some (.slice (some ⟨gn, 0, none⟩) nl ncap)) (hzn : z < nl) (_hnc : nl ≤ ncap) (_hnm : ncap ≤ maxLen) (_hgn : gn < w.heap.size) (_hwb : wb < w.heap.size) (x0 : w.cell? ⟨gn, z * 9, none⟩ = some (.int .i64 7)) (x1 : w.cell? ⟨gn, z * 9 + 1, none⟩ = some (.int .i64 va)) (x2 : w.cell? ⟨gn, z * 9 + 2, none⟩ = some (.int .i64 vb)) (x3 : w.cell? ⟨gn, z * 9 + 3, none⟩ = some (.int .i64 vc)) (x4 : w.cell? ⟨gn, z * 9 + 4, none⟩ = some (.slice la vl.length lc)) (x5 : w.cell? ⟨gn, z * 9 + 5, none⟩ = some (.string ⟨tx.toArray⟩)) (x6 : w.cell? ⟨gn, z * 9 + 6, none⟩ = some (.int .i64 vn)) (x7 : w.cell? ⟨gn, z * 9 + 7, none⟩ = some (.int .i64 vt)) (x8 : w.cell? ⟨gn, z * 9 + 8, none⟩ = some (.int .i64 vp)) (X0 X1 : List UInt8) (CW : CCs w B wb tv bn 169 #[.pointer (some ⟨wb, 0, none⟩), .int .i64 va, .int .i64 5] X0) (CF : CCs w B wb tv bn 170 #[.pointer (some ⟨wb, 0, none⟩), .string ⟨#[40]⟩, .slice la vl.length lc, .string ⟨#[41]⟩] X1) (hlen : bs.length + (X0 ++ X1).length ≤ 100000000000000) :
    Calls Tryz.prog 138 #[.pointer (some ⟨wb, 0, none⟩), .int .i64 (z : Int)] w (WPost w B wb tv bn (bs ++ (X0 ++ X1))) := by
  have hc0 : Chg (fun _ => False) w (w.alloc (.cells #[.int .i64 7, .int .i64 va, .int .i64 vb, .int .i64 vc, .slice la vl.length lc, .string ⟨tx.toArray⟩, .int .i64 vn, .int .i64 vt, .int .i64 vp] 63)) := Chg.alloc (fun _ => False) _ _
  have hB0 : B ≤ (w.alloc (.cells #[.int .i64 7, .int .i64 va, .int .i64 vb, .int .i64 vc, .slice la vl.length lc, .string ⟨tx.toArray⟩, .int .i64 vn, .int .i64 vt, .int .i64 vp] 63)).heap.size := Nat.le_trans hB hc0.size
  have SY := hide (cs_any (B := B) (wb := wb) (tv := tv) (bn := bn) hB0)
  have CW0 := hide (CW _ hc0)
  have CF0 := hide (CF _ hc0)
  have K0 := hide (Wkp.refl B wb (w.alloc (.cells #[.int .i64 7, .int .i64 va, .int .i64 vb, .int .i64 vc, .slice la vl.length lc, .string ⟨tx.toArray⟩, .int .i64 vn, .int .i64 vt, .int .i64 vp] 63)))
  have R0 := hide (hw.still hc0)
  have END : Hid (∀ a bs', Wkp B wb (w.alloc (.cells #[.int .i64 7, .int .i64 va, .int .i64 vb, .int .i64 vc, .slice la vl.length lc, .string ⟨tx.toArray⟩, .int .i64 vn, .int .i64 vt, .int .i64 vp] 63)) a → Wrt a B wb tv bn bs' → bs' = bs ++ (X0 ++ X1) → WPost w B wb tv bn (bs ++ (X0 ++ X1)) (.returned (.tuple #[])) a) := fun a bs' h1 h2 e => ⟨rfl, (Wkp.still hc0).trans h1, e ▸ h2⟩
  have hb0 : (w.alloc (.cells #[.int .i64 7, .int .i64 va, .int .i64 vb, .int .i64 vc, .slice la vl.length lc, .string ⟨tx.toArray⟩, .int .i64 vn, .int .i64 vt, .int .i64 vp] 63)).heap[w.heap.size]? = some (.cells #[.int .i64 7, .int .i64 va, .int .i64 vb, .int .i64 vc, .slice la vl.length lc, .string ⟨tx.toArray⟩, .int .i64 vn, .int .i64 vt, .int .i64 vp] 63 (0, 0)) := by
    exact heap_alloc_new w _
  have FC : Hid (∀ a, Wkp B wb (w.alloc (.cells #[.int .i64 7, .int .i64 va, .int .i64 vb, .int .i64 vc, .slice la vl.length lc, .string ⟨tx.toArray⟩, .int .i64 vn, .int .i64 vt, .int .i64 vp] 63)) a → a.cell? ⟨w.heap.size, 1, none⟩ = some (.int .i64 va) ∧ a.cell? ⟨w.heap.size, 4, none⟩ = some (.slice la vl.length lc) ∧ w.heap.size < a.heap.size) := by
    intro a ha
    have g0 := ha.other (hw.still hc0) hb0 (by decide) (by decide)
    exact ⟨by rw [cell_of_row a _ 1 _ _ _ g0]; rfl, by rw [cell_of_row a _ 4 _ _ _ g0]; rfl, (Array.getElem?_eq_some_iff.1 g0).1⟩
  clear hb0
  clear hw hc0 hB0 CW CF
  go_enter Tryz.func138, Tryz.ntmps138
  have H0 := hide (CW0.out _ _ K0.out R0.out (by first | omega | (simp; omega) | (simp at hlen; omega) | (simp at hlen ⊢; omega)))
  go_wp2_with fail
  refine (H0.out).mono ?_
  rintro e w1 ⟨rfl, h1, h2⟩
  have K1 := hide h1
  have R1 := hide h2
  obtain ⟨y1x0, y1x1, y1x2⟩ := FC.out w1 h1
  clear h1 h2 H0 K0 R0
  have H1 := hide (CF0.out _ _ K1.out R1.out (by first | omega | (simp; omega) | (simp at hlen; omega) | (simp at hlen ⊢; omega)))
  go_wp2_with fail
  refine (H1.out).mono ?_
  rintro e w2 ⟨rfl, h1, h2⟩
  have K2 := hide h1
  have R2 := hide h2
  obtain ⟨y2x0, y2x1, y2x2⟩ := FC.out w2 h1
  clear h1 h2 H1 K1 R1
  have HE := hide (END.out _ _ K2.out R2.out (by simp))
  clear K2 R2
  go_wp2
  go_end0
  exact HE.out

set_option maxHeartbeats 2000000 in
set_option maxRecDepth 100000 in
theorem expr_get {w : World} {bs : List UInt8} (hB : B ≤ w.heap.size) (hw : Wrt w B wb tv bn bs) (gn nl ncap z : Nat) (va vb vc : Int) (vl : List Int) (tx : List UInt8) (vn vt vp : Int) (la : Option Addr) (lc : Nat) (n4 : w.cell? ⟨wb, 4, none⟩ = some (.slice (some ⟨gn, 0, none⟩) nl ncap)) (hzn : z < nl) (_hnc : nl ≤ ncap) (_hnm : ncap ≤ maxLen) (_hgn : gn < w.heap.size) (_hwb : wb < w.heap.size) (x0 : w.cell? ⟨gn, z * 9, none⟩ = some (.int .i64 8)) (x1 : w.cell? ⟨gn, z * 9 + 1, none⟩ = some (.int .i64 va)) (x2 : w.cell? ⟨gn, z * 9 + 2, none⟩ = some (.int .i64 vb)) (x3 : w.cell? ⟨gn, z * 9 + 3, none⟩ = some (.int .i64 vc)) (x4 : w.cell? ⟨gn, z * 9 + 4, none⟩ = some (.slice la vl.length lc)) (x5 : w.cell? ⟨gn, z * 9 + 5, none⟩ = some (.string ⟨tx.toArray⟩)) (x6 : w.cell? ⟨gn, z * 9 + 6, none⟩ = some (.int .i64 vn)) (x7 : w.cell? ⟨gn, z * 9 + 7, none⟩ = some (.int .i64 vt)) (x8 : w.cell? ⟨gn, z * 9 + 8, none⟩ = some (.int .i64 vp)) (X0 : List UInt8) (CF : CCs w B wb tv bn 140 #[.pointer (some ⟨wb, 0, none⟩), .int .i64 va, .string ⟨tx.toArray⟩] X0) (hlen : bs.length + (X0).length ≤ 100000000000000) :
    Calls Tryz.prog 138 #[.pointer (some ⟨wb, 0, none⟩), .int .i64 (z : Int)] w (WPost w B wb tv bn (bs ++ (X0))) := by
  have hc0 : Chg (fun _ => False) w (w.alloc (.cells #[.int .i64 8, .int .i64 va, .int .i64 vb, .int .i64 vc, .slice la vl.length lc, .string ⟨tx.toArray⟩, .int .i64 vn, .int .i64 vt, .int .i64 vp] 63)) := Chg.alloc (fun _ => False) _ _
  have hB0 : B ≤ (w.alloc (.cells #[.int .i64 8, .int .i64 va, .int .i64 vb, .int .i64 vc, .slice la vl.length lc, .string ⟨tx.toArray⟩, .int .i64 vn, .int .i64 vt, .int .i64 vp] 63)).heap.size := Nat.le_trans hB hc0.size
  have SY := hide (cs_any (B := B) (wb := wb) (tv := tv) (bn := bn) hB0)
  have CF0 := hide (CF _ hc0)
  have K0 := hide (Wkp.refl B wb (w.alloc (.cells #[.int .i64 8, .int .i64 va, .int .i64 vb, .int .i64 vc, .slice la vl.length lc, .string ⟨tx.toArray⟩, .int .i64 vn, .int .i64 vt, .int .i64 vp] 63)))
  have R0 := hide (hw.still hc0)
  have END : Hid (∀ a bs', Wkp B wb (w.alloc (.cells #[.int .i64 8, .int .i64 va, .int .i64 vb, .int .i64 vc, .slice la vl.length lc, .string ⟨tx.toArray⟩, .int .i64 vn, .int .i64 vt, .int .i64 vp] 63)) a → Wrt a B wb tv bn bs' → bs' = bs ++ (X0) → WPost w B wb tv bn (bs ++ (X0)) (.returned (.tuple #[])) a) := fun a bs' h1 h2 e => ⟨rfl, (Wkp.still hc0).trans h1, e ▸ h2⟩
  have hb0 : (w.alloc (.cells #[.int .i64 8, .int .i64 va, .int .i64 vb, .int .i64 vc, .slice la vl.length lc, .string ⟨tx.toArray⟩, .int .i64 vn, .int .i64 vt, .int .i64 vp] 63)).heap[w.heap.size]? = some (.cells #[.int .i64 8, .int .i64 va, .int .i64 vb, .int .i64 vc, .slice la vl.length lc, .string ⟨tx.toArray⟩, .int .i64 vn, .int .i64 vt, .int .i64 vp] 63 (0, 0)) := by
    exact heap_alloc_new w _
  have FC : Hid (∀ a, Wkp B wb (w.alloc (.cells #[.int .i64 8, .int .i64 va, .int .i64 vb, .int .i64 vc, .slice la vl.length lc, .string ⟨tx.toArray⟩, .int .i64 vn, .int .i64 vt, .int .i64 vp] 63)) a → a.cell? ⟨w.heap.size, 1, none⟩ = some (.int .i64 va) ∧ a.cell? ⟨w.heap.size, 5, none⟩ = some (.string ⟨tx.toArray⟩) ∧ w.heap.size < a.heap.size) := by
    intro a ha
    have g0 := ha.other (hw.still hc0) hb0 (by decide) (by decide)
    exact ⟨by rw [cell_of_row a _ 1 _ _ _ g0]; rfl, by rw [cell_of_row a _ 5 _ _ _ g0]; rfl, (Array.getElem?_eq_some_iff.1 g0).1⟩
  clear hb0
  clear hw hc0 hB0 CF
  go_enter Tryz.func138, Tryz.ntmps138
  have H0 := hide (CF0.out _ _ K0.out R0.out (by first | omega | (simp; omega) | (simp at hlen; omega) | (simp at hlen ⊢; omega)))
  go_wp2_with fail
  refine (H0.out).mono ?_
  rintro e w1 ⟨rfl, h1, h2⟩
  have K1 := hide h1
  have R1 := hide h2
  obtain ⟨y1x0, y1x1, y1x2⟩ := FC.out w1 h1
  clear h1 h2 H0 K0 R0
  have HE := hide (END.out _ _ K1.out R1.out (by simp))
  clear K1 R1
  go_wp2
  go_end0
  exact HE.out

set_option maxHeartbeats 2000000 in
set_option maxRecDepth 100000 in
theorem expr_at {w : World} {bs : List UInt8} (hB : B ≤ w.heap.size) (hw : Wrt w B wb tv bn bs) (gn nl ncap z : Nat) (va vb vc : Int) (vl : List Int) (tx : List UInt8) (vn vt vp : Int) (la : Option Addr) (lc : Nat) (n4 : w.cell? ⟨wb, 4, none⟩ = some (.slice (some ⟨gn, 0, none⟩) nl ncap)) (hzn : z < nl) (_hnc : nl ≤ ncap) (_hnm : ncap ≤ maxLen) (_hgn : gn < w.heap.size) (_hwb : wb < w.heap.size) (x0 : w.cell? ⟨gn, z * 9, none⟩ = some (.int .i64 9)) (x1 : w.cell? ⟨gn, z * 9 + 1, none⟩ = some (.int .i64 va)) (x2 : w.cell? ⟨gn, z * 9 + 2, none⟩ = some (.int .i64 vb)) (x3 : w.cell? ⟨gn, z * 9 + 3, none⟩ = some (.int .i64 vc)) (x4 : w.cell? ⟨gn, z * 9 + 4, none⟩ = some (.slice la vl.length lc)) (x5 : w.cell? ⟨gn, z * 9 + 5, none⟩ = some (.string ⟨tx.toArray⟩)) (x6 : w.cell? ⟨gn, z * 9 + 6, none⟩ = some (.int .i64 vn)) (x7 : w.cell? ⟨gn, z * 9 + 7, none⟩ = some (.int .i64 vt)) (x8 : w.cell? ⟨gn, z * 9 + 8, none⟩ = some (.int .i64 vp)) (X0 : List UInt8) (CF : CCs w B wb tv bn 141 #[.pointer (some ⟨wb, 0, none⟩), .int .i64 va, .int .i64 vb] X0) (hlen : bs.length + (X0).length ≤ 100000000000000) :
    Calls Tryz.prog 138 #[.pointer (some ⟨wb, 0, none⟩), .int .i64 (z : Int)] w (WPost w B wb tv bn (bs ++ (X0))) := by
  have hc0 : Chg (fun _ => False) w (w.alloc (.cells #[.int .i64 9, .int .i64 va, .int .i64 vb, .int .i64 vc, .slice la vl.length lc, .string ⟨tx.toArray⟩, .int .i64 vn, .int .i64 vt, .int .i64 vp] 63)) := Chg.alloc (fun _ => False) _ _
  have hB0 : B ≤ (w.alloc (.cells #[.int .i64 9, .int .i64 va, .int .i64 vb, .int .i64 vc, .slice la vl.length lc, .string ⟨tx.toArray⟩, .int .i64 vn, .int .i64 vt, .int .i64 vp] 63)).heap.size := Nat.le_trans hB hc0.size
  have SY := hide (cs_any (B := B) (wb := wb) (tv := tv) (bn := bn) hB0)
  have CF0 := hide (CF _ hc0)
  have K0 := hide (Wkp.refl B wb (w.alloc (.cells #[.int .i64 9, .int .i64 va, .int .i64 vb, .int .i64 vc, .slice la vl.length lc, .string ⟨tx.toArray⟩, .int .i64 vn, .int .i64 vt, .int .i64 vp] 63)))
  have R0 := hide (hw.still hc0)
  have END : Hid (∀ a bs', Wkp B wb (w.alloc (.cells #[.int .i64 9, .int .i64 va, .int .i64 vb, .int .i64 vc, .slice la vl.length lc, .string ⟨tx.toArray⟩, .int .i64 vn, .int .i64 vt, .int .i64 vp] 63)) a → Wrt a B wb tv bn bs' → bs' = bs ++ (X0) → WPost w B wb tv bn (bs ++ (X0)) (.returned (.tuple #[])) a) := fun a bs' h1 h2 e => ⟨rfl, (Wkp.still hc0).trans h1, e ▸ h2⟩
  have hb0 : (w.alloc (.cells #[.int .i64 9, .int .i64 va, .int .i64 vb, .int .i64 vc, .slice la vl.length lc, .string ⟨tx.toArray⟩, .int .i64 vn, .int .i64 vt, .int .i64 vp] 63)).heap[w.heap.size]? = some (.cells #[.int .i64 9, .int .i64 va, .int .i64 vb, .int .i64 vc, .slice la vl.length lc, .string ⟨tx.toArray⟩, .int .i64 vn, .int .i64 vt, .int .i64 vp] 63 (0, 0)) := by
    exact heap_alloc_new w _
  have FC : Hid (∀ a, Wkp B wb (w.alloc (.cells #[.int .i64 9, .int .i64 va, .int .i64 vb, .int .i64 vc, .slice la vl.length lc, .string ⟨tx.toArray⟩, .int .i64 vn, .int .i64 vt, .int .i64 vp] 63)) a → a.cell? ⟨w.heap.size, 1, none⟩ = some (.int .i64 va) ∧ a.cell? ⟨w.heap.size, 2, none⟩ = some (.int .i64 vb) ∧ w.heap.size < a.heap.size) := by
    intro a ha
    have g0 := ha.other (hw.still hc0) hb0 (by decide) (by decide)
    exact ⟨by rw [cell_of_row a _ 1 _ _ _ g0]; rfl, by rw [cell_of_row a _ 2 _ _ _ g0]; rfl, (Array.getElem?_eq_some_iff.1 g0).1⟩
  clear hb0
  clear hw hc0 hB0 CF
  go_enter Tryz.func138, Tryz.ntmps138
  have H0 := hide (CF0.out _ _ K0.out R0.out (by first | omega | (simp; omega) | (simp at hlen; omega) | (simp at hlen ⊢; omega)))
  go_wp2_with fail
  refine (H0.out).mono ?_
  rintro e w1 ⟨rfl, h1, h2⟩
  have K1 := hide h1
  have R1 := hide h2
  obtain ⟨y1x0, y1x1, y1x2⟩ := FC.out w1 h1
  clear h1 h2 H0 K0 R0
  have HE := hide (END.out _ _ K1.out R1.out (by simp))
  clear K1 R1
  go_wp2
  go_end0
  exact HE.out

set_option maxHeartbeats 2000000 in
set_option maxRecDepth 100000 in
theorem expr_as {w : World} {bs : List UInt8} (hB : B ≤ w.heap.size) (hw : Wrt w B wb tv bn bs) (gn nl ncap z : Nat) (va vb vc : Int) (vl : List Int) (tx : List UInt8) (vn vt vp : Int) (la : Option Addr) (lc : Nat) (n4 : w.cell? ⟨wb, 4, none⟩ = some (.slice (some ⟨gn, 0, none⟩) nl ncap)) (hzn : z < nl) (_hnc : nl ≤ ncap) (_hnm : ncap ≤ maxLen) (_hgn : gn < w.heap.size) (_hwb : wb < w.heap.size) (x0 : w.cell? ⟨gn, z * 9, none⟩ = some (.int .i64 14)) (x1 : w.cell? ⟨gn, z * 9 + 1, none⟩ = some (.int .i64 va)) (x2 : w.cell? ⟨gn, z * 9 + 2, none⟩ = some (.int .i64 vb)) (x3 : w.cell? ⟨gn, z * 9 + 3, none⟩ = some (.int .i64 vc)) (x4 : w.cell? ⟨gn, z * 9 + 4, none⟩ = some (.slice la vl.length lc)) (x5 : w.cell? ⟨gn, z * 9 + 5, none⟩ = some (.string ⟨tx.toArray⟩)) (x6 : w.cell? ⟨gn, z * 9 + 6, none⟩ = some (.int .i64 vn)) (x7 : w.cell? ⟨gn, z * 9 + 7, none⟩ = some (.int .i64 vt)) (x8 : w.cell? ⟨gn, z * 9 + 8, none⟩ = some (.int .i64 vp)) (X0 X1 : List UInt8) (CW : CCs w B wb tv bn 169 #[.pointer (some ⟨wb, 0, none⟩), .int .i64 va, .int .i64 5] X0) (CT : CCs w B wb tv bn 40 #[.pointer (some ⟨wb, 0, none⟩), .int .i64 vt] X1) (hlen : bs.length + (X0 ++ [32, 97, 115, 32] ++ X1).length ≤ 100000000000000) :
    Calls Tryz.prog 138 #[.pointer (some ⟨wb, 0, none⟩), .int .i64 (z : Int)] w (WPost w B wb tv bn (bs ++ (X0 ++ [32, 97, 115, 32] ++ X1))) := by
  have hc0 : Chg (fun _ => False) w (w.alloc (.cells #[.int .i64 14, .int .i64 va, .int .i64 vb, .int .i64 vc, .slice la vl.length lc, .string ⟨tx.toArray⟩, .int .i64 vn, .int .i64 vt, .int .i64 vp] 63)) := Chg.alloc (fun _ => False) _ _
  have hB0 : B ≤ (w.alloc (.cells #[.int .i64 14, .int .i64 va, .int .i64 vb, .int .i64 vc, .slice la vl.length lc, .string ⟨tx.toArray⟩, .int .i64 vn, .int .i64 vt, .int .i64 vp] 63)).heap.size := Nat.le_trans hB hc0.size
  have SY := hide (cs_any (B := B) (wb := wb) (tv := tv) (bn := bn) hB0)
  have CW0 := hide (CW _ hc0)
  have CT0 := hide (CT _ hc0)
  have K0 := hide (Wkp.refl B wb (w.alloc (.cells #[.int .i64 14, .int .i64 va, .int .i64 vb, .int .i64 vc, .slice la vl.length lc, .string ⟨tx.toArray⟩, .int .i64 vn, .int .i64 vt, .int .i64 vp] 63)))
  have R0 := hide (hw.still hc0)
  have END : Hid (∀ a bs', Wkp B wb (w.alloc (.cells #[.int .i64 14, .int .i64 va, .int .i64 vb, .int .i64 vc, .slice la vl.length lc, .string ⟨tx.toArray⟩, .int .i64 vn, .int .i64 vt, .int .i64 vp] 63)) a → Wrt a B wb tv bn bs' → bs' = bs ++ (X0 ++ [32, 97, 115, 32] ++ X1) → WPost w B wb tv bn (bs ++ (X0 ++ [32, 97, 115, 32] ++ X1)) (.returned (.tuple #[])) a) := fun a bs' h1 h2 e => ⟨rfl, (Wkp.still hc0).trans h1, e ▸ h2⟩
  have hb0 : (w.alloc (.cells #[.int .i64 14, .int .i64 va, .int .i64 vb, .int .i64 vc, .slice la vl.length lc, .string ⟨tx.toArray⟩, .int .i64 vn, .int .i64 vt, .int .i64 vp] 63)).heap[w.heap.size]? = some (.cells #[.int .i64 14, .int .i64 va, .int .i64 vb, .int .i64 vc, .slice la vl.length lc, .string ⟨tx.toArray⟩, .int .i64 vn, .int .i64 vt, .int .i64 vp] 63 (0, 0)) := by
    exact heap_alloc_new w _
  have FC : Hid (∀ a, Wkp B wb (w.alloc (.cells #[.int .i64 14, .int .i64 va, .int .i64 vb, .int .i64 vc, .slice la vl.length lc, .string ⟨tx.toArray⟩, .int .i64 vn, .int .i64 vt, .int .i64 vp] 63)) a → a.cell? ⟨w.heap.size, 1, none⟩ = some (.int .i64 va) ∧ a.cell? ⟨w.heap.size, 7, none⟩ = some (.int .i64 vt) ∧ w.heap.size < a.heap.size) := by
    intro a ha
    have g0 := ha.other (hw.still hc0) hb0 (by decide) (by decide)
    exact ⟨by rw [cell_of_row a _ 1 _ _ _ g0]; rfl, by rw [cell_of_row a _ 7 _ _ _ g0]; rfl, (Array.getElem?_eq_some_iff.1 g0).1⟩
  clear hb0
  clear hw hc0 hB0 CW CT
  go_enter Tryz.func138, Tryz.ntmps138
  have H0 := hide (CW0.out _ _ K0.out R0.out (by first | omega | (simp; omega) | (simp at hlen; omega) | (simp at hlen ⊢; omega)))
  go_wp2_with fail
  refine (H0.out).mono ?_
  rintro e w1 ⟨rfl, h1, h2⟩
  have K1 := hide h1
  have R1 := hide h2
  obtain ⟨y1x0, y1x1, y1x2⟩ := FC.out w1 h1
  clear h1 h2 H0 K0 R0
  have H1 := hide (SY.out.1 _ _ _ 1 [32, 97, 115, 32] rfl K1.out R1.out (by first | omega | (simp; omega) | (simp at hlen; omega) | (simp at hlen ⊢; omega)))
  go_wp2_with fail
  refine (H1.out.1).mono ?_
  rintro e w2 ⟨rfl, h1, h2⟩
  have K2 := hide h1
  have R2 := hide h2
  obtain ⟨y2x0, y2x1, y2x2⟩ := FC.out w2 h1
  clear h1 h2 H1 K1 R1
  have H2 := hide (CT0.out _ _ (K2.out.trans (Wkp.still (Chg.drewN _ _ 1))) (R2.out.still (Chg.drewN _ _ 1)) (by first | omega | (simp; omega) | (simp at hlen; omega) | (simp at hlen ⊢; omega)))
  go_wp2_with fail
  go_region_with (go_at_call 40; refine (H2.out).mono ?_; rintro e w3 ⟨rfl, h1, h2⟩)
  all_goals
    have K3 := hide h1
    have R3 := hide h2
    obtain ⟨y3x0, y3x1, y3x2⟩ := FC.out w3 h1
    clear h1 h2 H2 K2 R2
    have HE := hide (END.out _ _ K3.out R3.out (by simp))
    clear K3 R3
    go_wp2
    go_end0
    exact HE.out

set_option maxHeartbeats 2000000 in
set_option maxRecDepth 100000 in
theorem expr_simple {w : World} {bs : List UInt8} (hB : B ≤ w.heap.size) (hw : Wrt w B wb tv bn bs) (kd : Int) (h12 : (kd == 12) = false) (h13 : (kd == 13) = false) (h7 : (kd == 7) = false) (h8 : (kd == 8) = false) (h9 : (kd == 9) = false) (h14 : (kd == 14) = false) (gn nl ncap z : Nat) (va vb vc : Int) (vl : List Int) (tx : List UInt8) (vn vt vp : Int) (la : Option Addr) (lc : Nat) (n4 : w.cell? ⟨wb, 4, none⟩ = some (.slice (some ⟨gn, 0, none⟩) nl ncap)) (hzn : z < nl) (_hnc : nl ≤ ncap) (_hnm : ncap ≤ maxLen) (_hgn : gn < w.heap.size) (_hwb : wb < w.heap.size) (x0 : w.cell? ⟨gn, z * 9, none⟩ = some (.int .i64 kd)) (x1 : w.cell? ⟨gn, z * 9 + 1, none⟩ = some (.int .i64 va)) (x2 : w.cell? ⟨gn, z * 9 + 2, none⟩ = some (.int .i64 vb)) (x3 : w.cell? ⟨gn, z * 9 + 3, none⟩ = some (.int .i64 vc)) (x4 : w.cell? ⟨gn, z * 9 + 4, none⟩ = some (.slice la vl.length lc)) (x5 : w.cell? ⟨gn, z * 9 + 5, none⟩ = some (.string ⟨tx.toArray⟩)) (x6 : w.cell? ⟨gn, z * 9 + 6, none⟩ = some (.int .i64 vn)) (x7 : w.cell? ⟨gn, z * 9 + 7, none⟩ = some (.int .i64 vt)) (x8 : w.cell? ⟨gn, z * 9 + 8, none⟩ = some (.int .i64 vp)) (X0 : List UInt8) (CF : CCs w B wb tv bn 171 #[.pointer (some ⟨wb, 0, none⟩), .agg #[.int .i64 kd, .int .i64 va, .int .i64 vb, .int .i64 vc, .slice la vl.length lc, .string ⟨tx.toArray⟩, .int .i64 vn, .int .i64 vt, .int .i64 vp]] X0) (hlen : bs.length + (X0).length ≤ 100000000000000) :
    Calls Tryz.prog 138 #[.pointer (some ⟨wb, 0, none⟩), .int .i64 (z : Int)] w (WPost w B wb tv bn (bs ++ (X0))) := by
  have hc0 : Chg (fun _ => False) w (w.alloc (.cells #[.int .i64 kd, .int .i64 va, .int .i64 vb, .int .i64 vc, .slice la vl.length lc, .string ⟨tx.toArray⟩, .int .i64 vn, .int .i64 vt, .int .i64 vp] 63)) := Chg.alloc (fun _ => False) _ _
  have hB0 : B ≤ (w.alloc (.cells #[.int .i64 kd, .int .i64 va, .int .i64 vb, .int .i64 vc, .slice la vl.length lc, .string ⟨tx.toArray⟩, .int .i64 vn, .int .i64 vt, .int .i64 vp] 63)).heap.size := Nat.le_trans hB hc0.size
  have SY := hide (cs_any (B := B) (wb := wb) (tv := tv) (bn := bn) hB0)
  have CF0 := hide (CF _ hc0)
  have K0 := hide (Wkp.refl B wb (w.alloc (.cells #[.int .i64 kd, .int .i64 va, .int .i64 vb, .int .i64 vc, .slice la vl.length lc, .string ⟨tx.toArray⟩, .int .i64 vn, .int .i64 vt, .int .i64 vp] 63)))
  have R0 := hide (hw.still hc0)
  have END : Hid (∀ a bs', Wkp B wb (w.alloc (.cells #[.int .i64 kd, .int .i64 va, .int .i64 vb, .int .i64 vc, .slice la vl.length lc, .string ⟨tx.toArray⟩, .int .i64 vn, .int .i64 vt, .int .i64 vp] 63)) a → Wrt a B wb tv bn bs' → bs' = bs ++ (X0) → WPost w B wb tv bn (bs ++ (X0)) (.returned (.tuple #[])) a) := fun a bs' h1 h2 e => ⟨rfl, (Wkp.still hc0).trans h1, e ▸ h2⟩
  have hb0 : (w.alloc (.cells #[.int .i64 kd, .int .i64 va, .int .i64 vb, .int .i64 vc, .slice la vl.length lc, .string ⟨tx.toArray⟩, .int .i64 vn, .int .i64 vt, .int .i64 vp] 63)).heap[w.heap.size]? = some (.cells #[.int .i64 kd, .int .i64 va, .int .i64 vb, .int .i64 vc, .slice la vl.length lc, .string ⟨tx.toArray⟩, .int .i64 vn, .int .i64 vt, .int .i64 vp] 63 (0, 0)) := by
    exact heap_alloc_new w _
  have FC : Hid (∀ a, Wkp B wb (w.alloc (.cells #[.int .i64 kd, .int .i64 va, .int .i64 vb, .int .i64 vc, .slice la vl.length lc, .string ⟨tx.toArray⟩, .int .i64 vn, .int .i64 vt, .int .i64 vp] 63)) a → a.cell? ⟨w.heap.size, 1, none⟩ = some (.int .i64 va) ∧ w.heap.size < a.heap.size) := by
    intro a ha
    have g0 := ha.other (hw.still hc0) hb0 (by decide) (by decide)
    exact ⟨by rw [cell_of_row a _ 1 _ _ _ g0]; rfl, (Array.getElem?_eq_some_iff.1 g0).1⟩
  clear hb0
  clear hw hc0 hB0 CF
  go_enter Tryz.func138, Tryz.ntmps138
  have H0 := hide (CF0.out _ _ K0.out R0.out (by first | omega | (simp; omega) | (simp at hlen; omega) | (simp at hlen ⊢; omega)))
  go_wp2_with fail
  refine (H0.out).mono ?_
  rintro e w1 ⟨rfl, h1, h2⟩
  have K1 := hide h1
  have R1 := hide h2
  obtain ⟨y1x0, y1x1⟩ := FC.out w1 h1
  clear h1 h2 H0 K0 R0
  have HE := hide (END.out _ _ K1.out R1.out (by simp))
  clear K1 R1
  go_wp2
  go_end0
  exact HE.out
end
end Go.Proofs.YtjojlcfoiknlhaaGreatDoor

namespace Go.Proofs.YtjojlcfoiknlhaaGreatDoor
open Go.RowKit

section
variable {B wb : Nat} {tv : Value} {bn : Wk}

set_option maxHeartbeats 2000000 in
set_option maxRecDepth 100000 in
theorem margin_any {nv : Value} {d : Nat} {w : World} {bs : List UInt8} (hB : B ≤ w.heap.size) (hw : Wrt w B wb tv (pk nv d) bs) (hd : d ≤ 1000000) (hlen : bs.length + (M.mg d).length ≤ 100000000000000) :
    Calls Tryz.prog 65 #[.pointer (some ⟨wb, 0, none⟩)] w (WPost w B wb tv (pk nv d) (bs ++ M.mg d)) := by
  have SY := hide (cs_any (B := B) (wb := wb) (tv := tv) (bn := pk nv d) hB)
  obtain ⟨p, v, hb, _⟩ := hw.blk
  have c5 : w.cell? ⟨wb, 5, none⟩ = some (.int .i64 (d : Int)) := by rw [cell_of_row w wb 5 _ _ _ hb]; rfl
  have hlt := (Array.getElem?_eq_some_iff.1 hb).1
  have R0 := hide hw
  clear hb hw
  go_enter Tryz.func65, Tryz.ntmps65
  go_wp2_with fail
  go_loopw [6] (fun v wr => ∃ j : Nat, j ≤ d ∧ v = .int .i64 (j : Int) ∧ Hid (Wrt wr B wb tv (pk nv d) (bs ++ M.mg j)) ∧ Hid (Wkp B wb w wr)) (fun v _ => d - (intOf v).toNat)
  case atStart => exact ⟨0, Nat.zero_le _, rfl, by simpa [M.mg] using R0, Wkp.refl _ _ _⟩
  case round =>
    obtain ⟨j, hj, rfl, WR, CR⟩ := hrel
    by_cases hjl : j < d
    · have hm : (M.mg j).length + 2 ≤ (M.mg d).length := by
        unfold M.mg
        rw [show d = (d - j - 1) + 1 + j by omega]
        simp [List.length_flatten]
        omega
      have HM : Hid (M.mg (j + 1) = M.mg j ++ [32, 32]) := by
        show _ = _
        unfold M.mg
        rw [List.replicate_succ', List.flatten_append]
        simp
      have H1 := hide (SY.out.1 _ _ _ 1 [32, 32] rfl CR.out WR.out (by simp; omega))
      clear CR WR
      go_wp2_with fail
      refine H1.out.1.mono ?_
      rintro e w1 ⟨rfl, h1, h2⟩
      have K1 := hide h1
      have R1 := hide h2
      clear h1 h2 H1
      go_wp2
      go_roundw
      case rel => exact ⟨j + 1, by omega, by go_num, by rw [HM.out, ← List.append_assoc]; exact R1.out, K1.out⟩
      case measure => simp [intOf]; omega
    · have hje : j = d := by omega
      subst hje
      go_wp2_with fail
      go_end0
      exact ⟨rfl, CR.out, WR.out⟩

/-- statement, at trees of at most this size. -/
def PS (B wb : Nat) (tv nv : Value) (N : List M.Nd) (T : List M.Ty) (m : Nat) : Prop :=
  ∀ (t : M.Nt) (j d : Nat) (hj : j < N.length) (la : Option Addr) (lc : Nat) (w : World) (bs : List UInt8), M.szN t ≤ m → d + M.szN t ≤ 1000000 → M.Gd t → 17 ≤ t.k → t.k ≤ 25 → M.At N T t (j : Int) → Psp w B wb tv nv d N T bs → w.ownsRow 0 3 1 (.slice la N[j].list.length lc) N[j].list.length (ints N[j].list) → B ≤ w.heap.size → bs.length + (M.pr d t).length ≤ 100000000000000 →
    Calls Tryz.prog 66 #[.pointer (some ⟨wb, 0, none⟩), ndv N[j] la lc] w (WPost w B wb tv (pk nv d) (bs ++ M.pr d t))

theorem lines_take (d : Nat) (cs : List M.Pc) {j : Nat} (hj : j < cs.length) : M.lines d (cs.take (j + 1)) = M.lines d (cs.take j) ++ (M.mg d ++ cs[j].s ++ [10]) := by
  unfold M.lines
  rw [List.take_succ_eq_append_getElem hj, List.flatMap_append]
  simp
theorem lines_le (d : Nat) (cs : List M.Pc) {j : Nat} (hj : j < cs.length) : (M.lines d (cs.take j)).length + (M.mg d).length + cs[j].s.length + 1 ≤ (M.lines d cs).length := by
  have h1 := lines_take d cs hj
  have h2 : M.lines d cs = M.lines d (cs.take (j + 1)) ++ M.lines d (cs.drop (j + 1)) := by
    unfold M.lines
    rw [← List.flatMap_append, List.take_append_drop]
  rw [h2, h1]
  simp only [List.length_append, List.length_cons, List.length_nil]
  omega

set_option maxHeartbeats 4000000 in
set_option maxRecDepth 100000 in
theorem statements_any {nv : Value} {N : List M.Nd} {T : List M.Ty} {m : Nat} (hS : PS B wb tv nv N T m) (z d : Nat) (hz : z < N.length) (ps : List M.Nt) (w : World) (bs : List UInt8) (hsz : ∀ p ∈ ps, M.szN p ≤ m ∧ M.Gd p ∧ 17 ≤ p.k ∧ p.k ≤ 25) (hsd : ∀ p ∈ ps, d + M.szN p ≤ 1000000) (hat : M.AtL N T ps N[z].list) (hp : Psp w B wb tv nv d N T bs) (hB : B ≤ w.heap.size) (hd : d ≤ 1000000) (hll : ps.length ≤ 1000000) (hlen : bs.length + (M.lines d (M.prL d ps)).length ≤ 100000000000000) :
    Calls Tryz.prog 36 #[.pointer (some ⟨wb, 0, none⟩), .int .i64 (z : Int)] w (WPost w B wb tv (pk nv d) (bs ++ M.lines d (M.prL d ps))) := by
  have SY := hide (cs_any (B := B) (wb := wb) (tv := tv) (bn := pk nv d) hB)
  obtain ⟨na, nc, rfl, c4, c5, fz, hlt, hcell⟩ := hp.cell
  obtain ⟨g, la, lc, rfl, hgl, hc1, hc2, x0, x1, x2, x3, x4, x5, x6, x7, x8, ol⟩ := hcell z hz
  unfold maxLen at hc2
  have P0 := hide hp
  have OL := hide ol
  have hlen2 := M.atL_len hat
  have HAT := hide hat
  clear hcell hp x0 x1 x2 x3 x5 x6 x7 x8 ol hat
  generalize N[z].list = is at *
  have hcs : (M.prL d ps).length = ps.length := by rw [M.prL_map]; simp
  go_enter Tryz.func36, Tryz.ntmps36
  go_wp2_with fail
  go_loopw [15] (fun v wr => ∃ j : Nat, j ≤ ps.length ∧ v = .int .i64 (j : Int) ∧ Hid (Wrt wr B wb tv (pk (.slice (some ⟨g, 0, none⟩) N.length nc) d) (bs ++ M.lines d ((M.prL d ps).take j))) ∧ Hid (Wkp B wb w wr)) (fun v _ => ps.length - (intOf v).toNat)
  case atStart => exact ⟨0, Nat.zero_le _, rfl, (show Wrt _ _ _ _ _ _ from by simpa [M.lines] using P0.out.sp.wrt), Wkp.refl _ _ _⟩
  case round =>
    obtain ⟨j, hj, rfl, WR, CR⟩ := hrel
    by_cases hjl : j < ps.length
    · have hji : j < is.length := by omega
      have hat := M.atL_at HAT.out j hjl hji
      obtain ⟨hz1, hz2, hz3, hz4⟩ := hsz ps[j] (List.getElem_mem hjl)
      have hz5 := hsd ps[j] (List.getElem_mem hjl)
      have PR := P0.out.kept CR.out WR.out
      obtain ⟨gi, hgi, hgl2, hi1, hi2, hic⟩ := ints_cell (CR.out.own P0.out.sp.wrt OL.out (by decide) (by decide)) hji
      subst hgi
      unfold maxLen at hi2
      have hl := lines_le d (M.prL d ps) (by omega : j < (M.prL d ps).length)
      have HT := hide (lines_take d (M.prL d ps) (by omega : j < (M.prL d ps).length))
      have hpj : (M.prL d ps)[j]'(by omega) = pcOf d ps[j] := by simp [M.prL_map, pcOf]
      rw [hpj] at hl HT
      have hwl : wb < wr.heap.size := Nat.lt_of_lt_of_le hlt CR.out.size
      have hBr : B ≤ wr.heap.size := Nat.le_trans hB CR.out.size
      obtain ⟨y, hy, hyN⟩ : ∃ y : Nat, is[j] = (y : Int) ∧ y < N.length := by
        have h2 := hat
        cases hq : ps[j] with
        | ty t0 => rw [hq] at hz3; cases t0 <;> simp [M.Nt.k] at hz3
        | nd k tx n qs =>
          rw [hq, M.At] at h2
          obtain ⟨y, h3, h4, _⟩ := h2
          exact ⟨y, h3, h4⟩
      rw [hy] at hat hic
      simp only [pcOf] at hl HT
      have H1 := hide (margin_any hBr WR.out hd (by simp only [List.length_append]; omega))
      have PQ := hide PR
      have CK := hide CR.out
      have HS : Hid (∀ (w1 : World) (bs1 : List UInt8) (la1 : Option Addr) (lc1 : Nat), Psp w1 B wb tv (.slice (some ⟨g, 0, none⟩) N.length nc) d N T bs1 → w1.ownsRow 0 3 1 (.slice la1 N[y].list.length lc1) N[y].list.length (ints N[y].list) → B ≤ w1.heap.size → bs1.length + (M.pr d ps[j]).length ≤ 100000000000000 → Calls Tryz.prog 66 #[.pointer (some ⟨wb, 0, none⟩), ndv N[y] la1 lc1] w1 (WPost w1 B wb tv (pk (.slice (some ⟨g, 0, none⟩) N.length nc) d) (bs1 ++ M.pr d ps[j]))) := fun w1 bs1 la1 lc1 hp1 ol1 hB1 hl1 => hS ps[j] y d hyN la1 lc1 w1 bs1 hz1 hz5 hz2 hz3 hz4 hat hp1 ol1 hB1 hl1
      clear CR WR PR hat hz1 hz2 hz3 hz4 hz5
      generalize M.pr d ps[j] = X at *
      go_wp2_with fail
      refine H1.out.mono ?_
      rintro e w1 ⟨rfl, h1, h2⟩
      have P1 := PQ.out.kept h1 h2
      obtain ⟨na1, nc1, e1, d4, -, -, hlt1, hcell1⟩ := P1.cell
      simp only [Value.slice.injEq] at e1
      obtain ⟨rfl, -, rfl⟩ := e1
      obtain ⟨g1, la1, lc1, e2, hgl1, -, -, x0, x1, x2, x3, x4, x5, x6, x7, x8, ol1⟩ := hcell1 y hyN
      simp only [Option.some.injEq, Addr.mk.injEq] at e2
      obtain ⟨rfl, -, -⟩ := e2
      have HC := hide (HS.out w1 _ la1 lc1 P1 ol1 (Nat.le_trans hBr h1.size) (by simp only [List.length_append]; omega))
      have K1 := hide (CK.out.trans h1)
      have Q1 := hide h1
      have S1 := hide (cs_any (B := B) (wb := wb) (tv := tv) (bn := pk (.slice (some ⟨g, 0, none⟩) N.length nc) d) (Nat.le_trans hBr h1.size))
      clear h1 h2 H1 PQ CK HS P1 hcell1 ol1 SY
      simp only [ndv] at HC
      go_wp2_with fail
      refine HC.out.mono ?_
      rintro e w2 ⟨rfl, h1, h2⟩
      have H3 := hide (S1.out.1 _ _ _ 1 [10] rfl h1 h2 (by simp only [List.length_append, List.length_cons, List.length_nil]; omega))
      clear h1 h2 HC S1
      go_wp2_with fail
      refine H3.out.1.mono ?_
      rintro e w3 ⟨rfl, h1, h2⟩
      have K3 := hide (K1.out.trans h1)
      have R3 := hide h2
      clear h1 h2 H3 K1 Q1
      go_wp2
      go_roundw
      case rel => exact ⟨j + 1, by omega, by go_num, (by show Wrt _ _ _ _ _ _; rw [HT.out]; simpa using R3.out), K3.out⟩
      case measure => simp [intOf]; omega
    · have hje : j = ps.length := by omega
      subst hje
      have ht : (M.prL d ps).take ps.length = M.prL d ps := by rw [← hcs, List.take_length]
      rw [ht] at WR
      have hnl : ¬ ((ps.length : Int) < (is.length : Int)) := by omega
      go_wp2_with fail
      go_end0
      exact ⟨rfl, CR.out, WR.out⟩

theorem Wrt.deep {nv : Value} {d d' : Nat} {w : World} {bs : List UInt8} (h : Wrt w B wb tv (pk nv d) bs) : Wrt (w.setCell ⟨wb, 5, none⟩ (.int .i64 (d' : Int))) B wb tv (pk nv d') bs := by
  obtain ⟨hB, p, v, hb, hp, ho⟩ := h
  refine ⟨hB, p, v, ?_, hp, owns_chg ho (Chg.set w ⟨wb, 5, none⟩ _) fun k hk hx => ?_⟩
  · rw [heap_setCell_same w wb 5 _ _ _ hb]
    rfl
  · have hx' : k = wb := hx
    subst hx'
    obtain ⟨_, cur, hh⟩ := owns_tag ho k hk
    rw [hb] at hh
    simp only [Option.some.injEq, Obj.cells.injEq] at hh
    exact absurd hh.2.1 ((pk nv d).ne (by decide) (by decide))

theorem Wrt.cells {nv : Value} {d : Nat} {w : World} {bs : List UInt8} (h : Wrt w B wb tv (pk nv d) bs) : w.cell? ⟨wb, 5, none⟩ = some (.int .i64 (d : Int)) ∧ (∀ o, w.frozen? ⟨wb, o, none⟩ = false) ∧ wb < w.heap.size := by
  obtain ⟨p, v, hb, _⟩ := h.blk
  exact ⟨by rw [cell_of_row w wb 5 _ _ _ hb]; rfl, fun o => frozen_of_row w wb o _ _ hb, (Array.getElem?_eq_some_iff.1 hb).1⟩

set_option maxHeartbeats 4000000 in
set_option maxRecDepth 100000 in
theorem block_p {nv : Value} {N : List M.Nd} {T : List M.Ty} {m : Nat} (hS : PS B wb tv nv N T m) (z d : Nat) (hz : z < N.length) (tx : List UInt8) (n : Int) (ps : List M.Nt) (w : World) (bs : List UInt8) (hsz : ∀ p ∈ ps, M.szN p ≤ m ∧ M.Gd p ∧ 17 ≤ p.k ∧ p.k ≤ 25) (hsd : ∀ p ∈ ps, d + 1 + M.szN p ≤ 1000000) (hat : M.AtL N T ps N[z].list) (hp : Psp w B wb tv nv d N T bs) (hB : B ≤ w.heap.size) (hd : d + 1 ≤ 1000000) (hll : ps.length ≤ 1000000) (hlen : bs.length + (M.pr d (.nd 26 tx n ps)).length ≤ 100000000000000) :
    Calls Tryz.prog 107 #[.pointer (some ⟨wb, 0, none⟩), .int .i64 (z : Int)] w (WPost w B wb tv (pk nv d) (bs ++ M.pr d (.nd 26 tx n ps))) := by
  have HX : Hid (M.pr d (.nd 26 tx n ps) = [123, 10] ++ M.lines (d + 1) (M.prL (d + 1) ps) ++ M.mg d ++ [125]) := rfl
  rw [HX.out] at hlen
  have HST := hide (fun (a : World) (bs1 : List UInt8) (hk : Wkp B wb w a) (hw : Wrt a B wb tv (pk nv (d + 1)) bs1) (hl : bs1.length + (M.lines (d + 1) (M.prL (d + 1) ps)).length ≤ 100000000000000) => statements_any hS z (d + 1) hz ps a bs1 hsz hsd hat (hp.kept hk hw) (Nat.le_trans hB hk.size) hd hll hl)
  have SY := hide (fun d' => cs_any (B := B) (wb := wb) (tv := tv) (bn := pk nv d') hB)
  have hbb : B ≤ wb := hp.sp.wrt.low
  have R0 := hide hp.sp.wrt
  have hmg : (M.mg d).length = 2 * d := by unfold M.mg; simp [List.length_flatten]; omega
  have H0 := hide ((SY.out d).1 _ _ _ 1 [123, 10] rfl (Wkp.refl B wb w) R0.out (by simp only [List.length_append, List.length_cons, List.length_nil] at hlen ⊢; omega))
  clear hp hat hsz hsd hS
  generalize M.lines (d + 1) (M.prL (d + 1) ps) = LL at *
  generalize M.pr d (.nd 26 tx n ps) = XX at *
  go_enter Tryz.func107, Tryz.ntmps107
  go_wp2_with fail
  refine H0.out.1.mono ?_
  rintro e w1 ⟨rfl, h1, h2⟩
  obtain ⟨c5, fz, hlt⟩ := h2.cells
  have K1 := hide (h1.trans (Wkp.set hbb w1 5 (.int .i64 ((d + 1 : Nat) : Int))))
  have R1 := hide (h2.deep (d' := d + 1))
  have HS2 := hide (HST.out _ _ K1.out R1.out (by simp only [List.length_append, List.length_cons, List.length_nil] at hlen ⊢; omega))
  have e5 : ((d + 1 : Nat) : Int) = (d : Int) + 1 := by omega
  rw [e5] at K1 R1 HS2
  clear h1 h2 H0 HST
  go_wp2_with fail
  refine HS2.out.mono ?_
  rintro e w2 ⟨rfl, h1, h2⟩
  have K2 := K1.out.trans h1
  obtain ⟨c52, fz2, hlt2⟩ := h2.cells
  rw [e5] at c52
  have K3 := hide (K2.trans (Wkp.set hbb w2 5 (.int .i64 (d : Int))))
  have R3 := hide (h2.deep (d' := d))
  have hB3 : B ≤ (w2.setCell ⟨wb, 5, none⟩ (.int .i64 (d : Int))).heap.size := Nat.le_trans hB K3.out.size
  have HM := hide (margin_any hB3 R3.out (by omega) (by simp only [List.length_append, List.length_cons, List.length_nil] at hlen ⊢; omega))
  clear h1 h2 HS2 K1 R1 K2
  have e6 : (d : Int) + 1 - 1 = (d : Int) := by omega
  go_wp2_with fail
  refine HM.out.mono ?_
  rintro e w3 ⟨rfl, h1, h2⟩
  have H4 := hide ((SY.out d).1 _ _ _ 1 [125] rfl (K3.out.trans h1) h2 (by simp only [List.length_append, List.length_cons, List.length_nil] at hlen ⊢; omega))
  clear h1 h2 HM K3 R3
  go_wp2_with fail
  refine H4.out.1.mono ?_
  rintro e w4 ⟨rfl, h1, h2⟩
  have HE := hide (show WPost w B wb tv (pk nv d) (bs ++ XX) (.returned (.tuple #[])) w4 from ⟨rfl, h1, by rw [HX.out]; simpa using h2⟩)
  clear h1 h2 H4
  go_wp2
  go_end0
  exact HE.out
end
end Go.Proofs.YtjojlcfoiknlhaaGreatDoor
