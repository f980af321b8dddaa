/-
  The printer: the contracts of get, at, typeIfAny, one, two, when, over those of what they call.
-/
import Derived.Test.YtjojlcfoiknlhaaGreatDoorPrintA
namespace Go.Proofs.YtjojlcfoiknlhaaGreatDoor
open Go.RowKit

/-- A call that writes X, from this world on. -/
def CCs (w : World) (B wb : Nat) (tv : Value) (bn : Wk) (K : Nat) (args : Array Value) (X : List UInt8) : Prop := ∀ w1, Chg (fun _ => False) w w1 → CC w1 B wb tv bn K args X

section
variable {B wb : Nat} {tv : Value} {bn : Wk}

set_option maxHeartbeats 2000000 in
set_option maxRecDepth 100000 in
theorem get_any {w : World} {bs : List UInt8} (hB : B ≤ w.heap.size) (hw : Wrt w B wb tv bn bs) (i : Int) (nm X0 : List UInt8) (CW : CCs w B wb tv bn 169 #[.pointer (some ⟨wb, 0, none⟩), .int .i64 i, .int .i64 5] X0) (hlen : bs.length + (X0 ++ ([46] ++ nm)).length ≤ 100000000000000) :
    Calls Tryz.prog 140 #[.pointer (some ⟨wb, 0, none⟩), .int .i64 i, .string ⟨nm.toArray⟩] w (WPost w B wb tv bn (bs ++ (X0 ++ ([46] ++ nm)))) := by
  have hc0 : Chg (fun _ => False) w w := Chg.refl _ _
  have hB0 : B ≤ w.heap.size := Nat.le_trans hB hc0.size
  have SY := hide (cs_any (B := B) (wb := wb) (tv := tv) (bn := bn) hB0)
  have CW0 := hide (CW _ hc0)
  have K0 := hide (Wkp.refl B wb w)
  have R0 := hide (hw.still hc0)
  have END : Hid (∀ a bs', Wkp B wb w a → Wrt a B wb tv bn bs' → bs' = bs ++ (X0 ++ ([46] ++ nm)) → WPost w B wb tv bn (bs ++ (X0 ++ ([46] ++ nm))) (.returned (.tuple #[])) a) := fun a bs' h1 h2 e => ⟨rfl, (Wkp.still hc0).trans h1, e ▸ h2⟩
  clear hw hc0 hB0 CW
  go_enter Tryz.func140, Tryz.ntmps140
  have H0 := hide (CW0.out _ _ K0.out R0.out (by first | omega | (simp; omega) | (simp at hlen; omega) | (simp at hlen ⊢; omega)))
  go_wp2_with fail
  refine (H0.out).mono ?_
  rintro e w1 ⟨rfl, h1, h2⟩
  have K1 := hide h1
  have R1 := hide h2
  clear h1 h2 H0 K0 R0
  have H1 := hide (SY.out.2.1 _ _ _ 1 [46] (nm) rfl K1.out R1.out (by first | omega | (simp; omega) | (simp at hlen; omega) | (simp at hlen ⊢; omega)))
  go_wp2_with fail
  refine (H1.out.1).mono ?_
  rintro e w2 ⟨rfl, h1, h2⟩
  have K2 := hide h1
  have R2 := hide h2
  clear h1 h2 H1 K1 R1
  have HE := hide (END.out _ _ K2.out R2.out (by simp))
  clear K2 R2
  go_wp2
  go_end0
  exact HE.out

set_option maxHeartbeats 2000000 in
set_option maxRecDepth 100000 in
theorem at_any' {w : World} {bs : List UInt8} (hB : B ≤ w.heap.size) (hw : Wrt w B wb tv bn bs) (i j : Int) (X0 X1 : List UInt8) (CW : CCs w B wb tv bn 169 #[.pointer (some ⟨wb, 0, none⟩), .int .i64 i, .int .i64 5] X0) (CE : CCs w B wb tv bn 138 #[.pointer (some ⟨wb, 0, none⟩), .int .i64 j] X1) (hlen : bs.length + (X0 ++ [91] ++ X1 ++ [93]).length ≤ 100000000000000) :
    Calls Tryz.prog 141 #[.pointer (some ⟨wb, 0, none⟩), .int .i64 i, .int .i64 j] w (WPost w B wb tv bn (bs ++ (X0 ++ [91] ++ X1 ++ [93]))) := by
  have hc0 : Chg (fun _ => False) w w := Chg.refl _ _
  have hB0 : B ≤ w.heap.size := Nat.le_trans hB hc0.size
  have SY := hide (cs_any (B := B) (wb := wb) (tv := tv) (bn := bn) hB0)
  have CW0 := hide (CW _ hc0)
  have CE0 := hide (CE _ hc0)
  have K0 := hide (Wkp.refl B wb w)
  have R0 := hide (hw.still hc0)
  have END : Hid (∀ a bs', Wkp B wb w a → Wrt a B wb tv bn bs' → bs' = bs ++ (X0 ++ [91] ++ X1 ++ [93]) → WPost w B wb tv bn (bs ++ (X0 ++ [91] ++ X1 ++ [93])) (.returned (.tuple #[])) a) := fun a bs' h1 h2 e => ⟨rfl, (Wkp.still hc0).trans h1, e ▸ h2⟩
  clear hw hc0 hB0 CW CE
  go_enter Tryz.func141, Tryz.ntmps141
  have H0 := hide (CW0.out _ _ K0.out R0.out (by first | omega | (simp; omega) | (simp at hlen; omega) | (simp at hlen ⊢; omega)))
  go_wp2_with fail
  refine (H0.out).mono ?_
  rintro e w1 ⟨rfl, h1, h2⟩
  have K1 := hide h1
  have R1 := hide h2
  clear h1 h2 H0 K0 R0
  have H1 := hide (SY.out.1 _ _ _ 1 [91] rfl K1.out R1.out (by first | omega | (simp; omega) | (simp at hlen; omega) | (simp at hlen ⊢; omega)))
  go_wp2_with fail
  refine (H1.out.1).mono ?_
  rintro e w2 ⟨rfl, h1, h2⟩
  have K2 := hide h1
  have R2 := hide h2
  clear h1 h2 H1 K1 R1
  have H2 := hide (CE0.out _ _ K2.out R2.out (by first | omega | (simp; omega) | (simp at hlen; omega) | (simp at hlen ⊢; omega)))
  go_wp2_with fail
  refine (H2.out).mono ?_
  rintro e w3 ⟨rfl, h1, h2⟩
  have K3 := hide h1
  have R3 := hide h2
  clear h1 h2 H2 K2 R2
  have H3 := hide (SY.out.1 _ _ _ 1 [93] rfl K3.out R3.out (by first | omega | (simp; omega) | (simp at hlen; omega) | (simp at hlen ⊢; omega)))
  go_wp2_with fail
  refine (H3.out.1).mono ?_
  rintro e w4 ⟨rfl, h1, h2⟩
  have K4 := hide h1
  have R4 := hide h2
  clear h1 h2 H3 K3 R3
  have HE := hide (END.out _ _ K4.out R4.out (by simp))
  clear K4 R4
  go_wp2
  go_end0
  exact HE.out

set_option maxHeartbeats 2000000 in
set_option maxRecDepth 100000 in
theorem typeIfAny_no {w : World} {bs : List UInt8} (hB : B ≤ w.heap.size) (hw : Wrt w B wb tv bn bs)   (_hlen : bs.length + (([] : List UInt8)).length ≤ 100000000000000) :
    Calls Tryz.prog 139 #[.pointer (some ⟨wb, 0, none⟩), .int .i64 (-1)] w (WPost w B wb tv bn (bs ++ (([] : List UInt8)))) := by
  have hc0 : Chg (fun _ => False) w w := Chg.refl _ _
  have hB0 : B ≤ w.heap.size := Nat.le_trans hB hc0.size
  have SY := hide (cs_any (B := B) (wb := wb) (tv := tv) (bn := bn) hB0)
  have K0 := hide (Wkp.refl B wb w)
  have R0 := hide (hw.still hc0)
  have END : Hid (∀ a bs', Wkp B wb w a → Wrt a B wb tv bn bs' → bs' = bs ++ (([] : List UInt8)) → WPost w B wb tv bn (bs ++ (([] : List UInt8))) (.returned (.tuple #[])) a) := fun a bs' h1 h2 e => ⟨rfl, (Wkp.still hc0).trans h1, e ▸ h2⟩
  clear hw hc0 hB0
  go_enter Tryz.func139, Tryz.ntmps139
  have HE := hide (END.out _ _ K0.out R0.out (by simp))
  clear K0 R0
  go_wp2
  go_end0
  exact HE.out

set_option maxHeartbeats 2000000 in
set_option maxRecDepth 100000 in
theorem typeIfAny_yes {w : World} {bs : List UInt8} (hB : B ≤ w.heap.size) (hw : Wrt w B wb tv bn bs) (j : Nat) (X0 : List UInt8) (CT : CCs w B wb tv bn 40 #[.pointer (some ⟨wb, 0, none⟩), .int .i64 (j : Int)] X0) (hlen : bs.length + ([58, 32] ++ X0).length ≤ 100000000000000) :
    Calls Tryz.prog 139 #[.pointer (some ⟨wb, 0, none⟩), .int .i64 (j : Int)] w (WPost w B wb tv bn (bs ++ ([58, 32] ++ X0))) := by
  have hc0 : Chg (fun _ => False) w w := Chg.refl _ _
  have hB0 : B ≤ w.heap.size := Nat.le_trans hB hc0.size
  have SY := hide (cs_any (B := B) (wb := wb) (tv := tv) (bn := bn) hB0)
  have CT0 := hide (CT _ hc0)
  have K0 := hide (Wkp.refl B wb w)
  have R0 := hide (hw.still hc0)
  have END : Hid (∀ a bs', Wkp B wb w a → Wrt a B wb tv bn bs' → bs' = bs ++ ([58, 32] ++ X0) → WPost w B wb tv bn (bs ++ ([58, 32] ++ X0)) (.returned (.tuple #[])) a) := fun a bs' h1 h2 e => ⟨rfl, (Wkp.still hc0).trans h1, e ▸ h2⟩
  clear hw hc0 hB0 CT
  go_enter Tryz.func139, Tryz.ntmps139
  have H0 := hide (SY.out.1 _ _ _ 1 [58, 32] rfl K0.out R0.out (by first | omega | (simp; omega) | (simp at hlen; omega) | (simp at hlen ⊢; omega)))
  go_wp2_with fail
  refine (H0.out.1).mono ?_
  rintro e w1 ⟨rfl, h1, h2⟩
  have K1 := hide h1
  have R1 := hide h2
  clear h1 h2 H0 K0 R0
  have H1 := hide (CT0.out _ _ K1.out R1.out (by first | omega | (simp; omega) | (simp at hlen; omega) | (simp at hlen ⊢; omega)))
  go_wp2_with fail
  refine (H1.out).mono ?_
  rintro e w2 ⟨rfl, h1, h2⟩
  have K2 := hide h1
  have R2 := hide h2
  clear h1 h2 H1 K1 R1
  have HE := hide (END.out _ _ K2.out R2.out (by simp))
  clear K2 R2
  go_wp2
  go_end0
  exact HE.out

set_option maxHeartbeats 2000000 in
set_option maxRecDepth 100000 in
theorem one_any {w : World} {bs : List UInt8} (hB : B ≤ w.heap.size) (hw : Wrt w B wb tv bn bs) (kd va vb vc : Int) (vl : List Int) (tx : List UInt8) (vn vt vp : Int) (la : Option Addr) (lc : Nat) (X0 : List UInt8) (CW : CCs w B wb tv bn 169 #[.pointer (some ⟨wb, 0, none⟩), .int .i64 va, .int .i64 4] X0) (hlen : bs.length + (tx ++ (if tx = [116, 121, 112, 101, 111, 102] then [32] else []) ++ X0).length ≤ 100000000000000) :
    Calls Tryz.prog 168 #[.pointer (some ⟨wb, 0, none⟩), .agg #[.int .i64 kd, .int .i64 va, .int .i64 vb, .int .i64 vc, .slice la vl.length lc, .string ⟨tx.toArray⟩, .int .i64 vn, .int .i64 vt, .int .i64 vp]] w (WPost w B wb tv bn (bs ++ (tx ++ (if tx = [116, 121, 112, 101, 111, 102] then [32] else []) ++ X0))) := by
  generalize hii : (if tx = [116, 121, 112, 101, 111, 102] then [32] else ([] : List UInt8)) = ii at *
  have HI := hide hii
  clear hii
  have hc0 : Chg (fun _ => False) w (w.alloc (.cells #[.int .i64 kd, .int .i64 va, .int .i64 vb, .int .i64 vc, .slice la vl.length lc, .string ⟨tx.toArray⟩, .int .i64 vn, .int .i64 vt, .int .i64 vp] 63)) := Chg.alloc (fun _ => False) _ _
  have hB0 : B ≤ (w.alloc (.cells #[.int .i64 kd, .int .i64 va, .int .i64 vb, .int .i64 vc, .slice la vl.length lc, .string ⟨tx.toArray⟩, .int .i64 vn, .int .i64 vt, .int .i64 vp] 63)).heap.size := Nat.le_trans hB hc0.size
  have SY := hide (cs_any (B := B) (wb := wb) (tv := tv) (bn := bn) hB0)
  have CW0 := hide (CW _ hc0)
  have K0 := hide (Wkp.refl B wb (w.alloc (.cells #[.int .i64 kd, .int .i64 va, .int .i64 vb, .int .i64 vc, .slice la vl.length lc, .string ⟨tx.toArray⟩, .int .i64 vn, .int .i64 vt, .int .i64 vp] 63)))
  have R0 := hide (hw.still hc0)
  have END : Hid (∀ a bs', Wkp B wb (w.alloc (.cells #[.int .i64 kd, .int .i64 va, .int .i64 vb, .int .i64 vc, .slice la vl.length lc, .string ⟨tx.toArray⟩, .int .i64 vn, .int .i64 vt, .int .i64 vp] 63)) a → Wrt a B wb tv bn bs' → bs' = bs ++ (tx ++ ii ++ X0) → WPost w B wb tv bn (bs ++ (tx ++ ii ++ X0)) (.returned (.tuple #[])) a) := fun a bs' h1 h2 e => ⟨rfl, (Wkp.still hc0).trans h1, e ▸ h2⟩
  have hb0 : (w.alloc (.cells #[.int .i64 kd, .int .i64 va, .int .i64 vb, .int .i64 vc, .slice la vl.length lc, .string ⟨tx.toArray⟩, .int .i64 vn, .int .i64 vt, .int .i64 vp] 63)).heap[w.heap.size]? = some (.cells #[.int .i64 kd, .int .i64 va, .int .i64 vb, .int .i64 vc, .slice la vl.length lc, .string ⟨tx.toArray⟩, .int .i64 vn, .int .i64 vt, .int .i64 vp] 63 (0, 0)) := by
    exact heap_alloc_new w _
  have FC : Hid (∀ a, Wkp B wb (w.alloc (.cells #[.int .i64 kd, .int .i64 va, .int .i64 vb, .int .i64 vc, .slice la vl.length lc, .string ⟨tx.toArray⟩, .int .i64 vn, .int .i64 vt, .int .i64 vp] 63)) a → a.cell? ⟨w.heap.size, 1, none⟩ = some (.int .i64 va) ∧ a.cell? ⟨w.heap.size, 5, none⟩ = some (.string ⟨tx.toArray⟩) ∧ w.heap.size < a.heap.size) := by
    intro a ha
    have g0 := ha.other (hw.still hc0) hb0 (by decide) (by decide)
    exact ⟨by rw [cell_of_row a _ 1 _ _ _ g0]; rfl, by rw [cell_of_row a _ 5 _ _ _ g0]; rfl, (Array.getElem?_eq_some_iff.1 g0).1⟩
  clear hb0
  clear hw hc0 hB0 CW
  go_enter Tryz.func168, Tryz.ntmps168
  have H0 := hide (SY.out.1 _ _ (w.heap.size + 1) 1 (tx) (by simp) K0.out R0.out (by first | omega | (simp; omega) | (simp at hlen; omega) | (simp at hlen ⊢; omega)))
  go_wp2_with fail
  go_region_with (go_at_call 67; refine (H0.out.2).mono ?_; rintro e w1 ⟨rfl, h1, h2⟩)
  all_goals
    have K1 := hide h1
    have R1 := hide h2
    obtain ⟨y1x0, y1x1, y1x2⟩ := FC.out w1 h1
    clear h1 h2 H0 K0 R0
    by_cases ht : tx = [116, 121, 112, 101, 111, 102]
    · have hI := HI.out
      rw [if_pos ht] at hI
      subst hI
      subst ht
      have H1 := hide (SY.out.1 _ _ _ 1 [32] rfl K1.out R1.out (by first | omega | (simp; omega) | (simp at hlen; omega) | (simp at hlen ⊢; omega)))
      go_wp2_with fail
      refine (H1.out.1).mono ?_
      rintro e w2 ⟨rfl, h1, h2⟩
      have K2 := hide h1
      have R2 := hide h2
      obtain ⟨y2x0, y2x1, y2x2⟩ := FC.out w2 h1
      clear h1 h2 H1 K1 R1
      have H2 := hide (CW0.out _ _ K2.out R2.out (by first | omega | (simp; omega) | (simp at hlen; omega) | (simp at hlen ⊢; omega)))
      go_wp2_with fail
      refine (H2.out).mono ?_
      rintro e w3 ⟨rfl, h1, h2⟩
      have K3 := hide h1
      have R3 := hide h2
      obtain ⟨y3x0, y3x1, y3x2⟩ := FC.out w3 h1
      clear h1 h2 H2 K2 R2
      have HE := hide (END.out _ _ K3.out R3.out (by simp))
      clear K3 R3
      go_wp2
      go_end0
      exact HE.out
    · have hI := HI.out
      rw [if_neg ht] at hI
      subst hI
      have ht2 : (tx == [116, 121, 112, 101, 111, 102]) = false := by simp [ht]
      have H1 := hide (CW0.out _ _ K1.out R1.out (by first | omega | (simp; omega) | (simp at hlen; omega) | (simp at hlen ⊢; omega)))
      go_wp2_with fail
      refine (H1.out).mono ?_
      rintro e w2 ⟨rfl, h1, h2⟩
      have K2 := hide h1
      have R2 := hide h2
      obtain ⟨y2x0, y2x1, y2x2⟩ := FC.out w2 h1
      clear h1 h2 H1 K1 R1
      have HE := hide (END.out _ _ K2.out R2.out (by simp))
      clear K2 R2
      go_wp2
      go_end0
      exact HE.out

set_option maxHeartbeats 2000000 in
set_option maxRecDepth 100000 in
theorem when_any {w : World} {bs : List UInt8} (hB : B ≤ w.heap.size) (hw : Wrt w B wb tv bn bs) (wd : List UInt8) (kd va vb vc : Int) (vl : List Int) (tx : List UInt8) (vn vt vp : Int) (la : Option Addr) (lc : Nat) (X0 X1 : List UInt8) (CE : CCs w B wb tv bn 138 #[.pointer (some ⟨wb, 0, none⟩), .int .i64 va] X0) (CB : CCs w B wb tv bn 107 #[.pointer (some ⟨wb, 0, none⟩), .int .i64 vb] X1) (hlen : bs.length + ((wd ++ [32, 40]) ++ X0 ++ [41, 32] ++ X1).length ≤ 100000000000000) :
    Calls Tryz.prog 106 #[.pointer (some ⟨wb, 0, none⟩), .string ⟨wd.toArray⟩, .agg #[.int .i64 kd, .int .i64 va, .int .i64 vb, .int .i64 vc, .slice la vl.length lc, .string ⟨tx.toArray⟩, .int .i64 vn, .int .i64 vt, .int .i64 vp]] w (WPost w B wb tv bn (bs ++ ((wd ++ [32, 40]) ++ X0 ++ [41, 32] ++ X1))) := by
  have hc0 : Chg (fun _ => False) w (w.alloc (.cells #[.int .i64 kd, .int .i64 va, .int .i64 vb, .int .i64 vc, .slice la vl.length lc, .string ⟨tx.toArray⟩, .int .i64 vn, .int .i64 vt, .int .i64 vp] 63)) := Chg.alloc (fun _ => False) _ _
  have hB0 : B ≤ (w.alloc (.cells #[.int .i64 kd, .int .i64 va, .int .i64 vb, .int .i64 vc, .slice la vl.length lc, .string ⟨tx.toArray⟩, .int .i64 vn, .int .i64 vt, .int .i64 vp] 63)).heap.size := Nat.le_trans hB hc0.size
  have SY := hide (cs_any (B := B) (wb := wb) (tv := tv) (bn := bn) hB0)
  have CE0 := hide (CE _ hc0)
  have CB0 := hide (CB _ hc0)
  have K0 := hide (Wkp.refl B wb (w.alloc (.cells #[.int .i64 kd, .int .i64 va, .int .i64 vb, .int .i64 vc, .slice la vl.length lc, .string ⟨tx.toArray⟩, .int .i64 vn, .int .i64 vt, .int .i64 vp] 63)))
  have R0 := hide (hw.still hc0)
  have END : Hid (∀ a bs', Wkp B wb (w.alloc (.cells #[.int .i64 kd, .int .i64 va, .int .i64 vb, .int .i64 vc, .slice la vl.length lc, .string ⟨tx.toArray⟩, .int .i64 vn, .int .i64 vt, .int .i64 vp] 63)) a → Wrt a B wb tv bn bs' → bs' = bs ++ ((wd ++ [32, 40]) ++ X0 ++ [41, 32] ++ X1) → WPost w B wb tv bn (bs ++ ((wd ++ [32, 40]) ++ X0 ++ [41, 32] ++ X1)) (.returned (.tuple #[])) a) := fun a bs' h1 h2 e => ⟨rfl, (Wkp.still hc0).trans h1, e ▸ h2⟩
  have hb0 : (w.alloc (.cells #[.int .i64 kd, .int .i64 va, .int .i64 vb, .int .i64 vc, .slice la vl.length lc, .string ⟨tx.toArray⟩, .int .i64 vn, .int .i64 vt, .int .i64 vp] 63)).heap[w.heap.size]? = some (.cells #[.int .i64 kd, .int .i64 va, .int .i64 vb, .int .i64 vc, .slice la vl.length lc, .string ⟨tx.toArray⟩, .int .i64 vn, .int .i64 vt, .int .i64 vp] 63 (0, 0)) := by
    exact heap_alloc_new w _
  have FC : Hid (∀ a, Wkp B wb (w.alloc (.cells #[.int .i64 kd, .int .i64 va, .int .i64 vb, .int .i64 vc, .slice la vl.length lc, .string ⟨tx.toArray⟩, .int .i64 vn, .int .i64 vt, .int .i64 vp] 63)) a → a.cell? ⟨w.heap.size, 1, none⟩ = some (.int .i64 va) ∧ a.cell? ⟨w.heap.size, 2, none⟩ = some (.int .i64 vb) ∧ w.heap.size < a.heap.size) := by
    intro a ha
    have g0 := ha.other (hw.still hc0) hb0 (by decide) (by decide)
    exact ⟨by rw [cell_of_row a _ 1 _ _ _ g0]; rfl, by rw [cell_of_row a _ 2 _ _ _ g0]; rfl, (Array.getElem?_eq_some_iff.1 g0).1⟩
  clear hb0
  clear hw hc0 hB0 CE CB
  go_enter Tryz.func106, Tryz.ntmps106
  have H0 := hide (SY.out.2.1 _ _ (w.heap.size + 1) 1 (wd) [32, 40] (by simp) K0.out R0.out (by first | omega | (simp; omega) | (simp at hlen; omega) | (simp at hlen ⊢; omega)))
  go_wp2_with fail
  refine (H0.out.1).mono ?_
  rintro e w1 ⟨rfl, h1, h2⟩
  have K1 := hide h1
  have R1 := hide h2
  obtain ⟨y1x0, y1x1, y1x2⟩ := FC.out w1 h1
  clear h1 h2 H0 K0 R0
  have H1 := hide (CE0.out _ _ K1.out R1.out (by first | omega | (simp; omega) | (simp at hlen; omega) | (simp at hlen ⊢; omega)))
  go_wp2_with fail
  refine (H1.out).mono ?_
  rintro e w2 ⟨rfl, h1, h2⟩
  have K2 := hide h1
  have R2 := hide h2
  obtain ⟨y2x0, y2x1, y2x2⟩ := FC.out w2 h1
  clear h1 h2 H1 K1 R1
  have H2 := hide (SY.out.1 _ _ _ 1 [41, 32] rfl K2.out R2.out (by first | omega | (simp; omega) | (simp at hlen; omega) | (simp at hlen ⊢; omega)))
  go_wp2_with fail
  refine (H2.out.1).mono ?_
  rintro e w3 ⟨rfl, h1, h2⟩
  have K3 := hide h1
  have R3 := hide h2
  obtain ⟨y3x0, y3x1, y3x2⟩ := FC.out w3 h1
  clear h1 h2 H2 K2 R2
  have H3 := hide (CB0.out _ _ K3.out R3.out (by first | omega | (simp; omega) | (simp at hlen; omega) | (simp at hlen ⊢; omega)))
  go_wp2_with fail
  refine (H3.out).mono ?_
  rintro e w4 ⟨rfl, h1, h2⟩
  have K4 := hide h1
  have R4 := hide h2
  obtain ⟨y4x0, y4x1, y4x2⟩ := FC.out w4 h1
  clear h1 h2 H3 K3 R3
  have HE := hide (END.out _ _ K4.out R4.out (by simp))
  clear K4 R4
  go_wp2
  go_end0
  exact HE.out
end
end Go.Proofs.YtjojlcfoiknlhaaGreatDoor
