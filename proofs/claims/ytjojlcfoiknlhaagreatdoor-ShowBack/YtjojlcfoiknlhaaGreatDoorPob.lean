/-
  The printer: the contract of object's closure.
-/
import Derived.Test.YtjojlcfoiknlhaaGreatDoorPro
namespace Go.Proofs.YtjojlcfoiknlhaaGreatDoor
open Go.RowKit

section
variable {B wb : Nat} {tv : Value} {bn : Wk}

set_option maxHeartbeats 2000000 in
set_option maxRecDepth 100000 in
theorem object1_p {w : World} {bs : List UInt8} (hB : B ≤ w.heap.size) (hw : Wrt w B wb tv bn bs) (k qx ql z : Nat) (la : Option Addr) (lc : Nat) (ls : List Int) (hk : k < ls.length) (hz : ls[k] = (z : Int)) (hx : w.heap[qx]? = some (.cells #[.pointer (some ⟨wb, 0, none⟩)] 72 (0, 0))) (hl : w.heap[ql]? = some (.cells #[.slice la ls.length lc] 43 (0, 0))) (ol : w.ownsRow 0 3 1 (.slice la ls.length lc) ls.length (ints ls)) (gn nl ncap : Nat) (kd va vb vc : Int) (vl : List Int) (tx : List UInt8) (vn vt vp : Int) (na : Option Addr) (nc : Nat) (n4 : w.cell? ⟨wb, 4, none⟩ = some (.slice (some ⟨gn, 0, none⟩) nl ncap)) (hzn : z < nl) (_hnc : nl ≤ ncap) (_hnm : ncap ≤ maxLen) (hgn : gn < w.heap.size) (hwb : wb < w.heap.size) (x0 : w.cell? ⟨gn, z * 9, none⟩ = some (.int .i64 kd)) (x1 : w.cell? ⟨gn, z * 9 + 1, none⟩ = some (.int .i64 va)) (x2 : w.cell? ⟨gn, z * 9 + 2, none⟩ = some (.int .i64 vb)) (x3 : w.cell? ⟨gn, z * 9 + 3, none⟩ = some (.int .i64 vc)) (x4 : w.cell? ⟨gn, z * 9 + 4, none⟩ = some (.slice na vl.length nc)) (x5 : w.cell? ⟨gn, z * 9 + 5, none⟩ = some (.string ⟨tx.toArray⟩)) (x6 : w.cell? ⟨gn, z * 9 + 6, none⟩ = some (.int .i64 vn)) (x7 : w.cell? ⟨gn, z * 9 + 7, none⟩ = some (.int .i64 vt)) (x8 : w.cell? ⟨gn, z * 9 + 8, none⟩ = some (.int .i64 vp)) (X0 : List UInt8) (CE : CCs w B wb tv bn 138 #[.pointer (some ⟨wb, 0, none⟩), .int .i64 va] X0) (hlen : bs.length + ((tx ++ [58, 32]) ++ X0).length ≤ 100000000000000) :
    Calls Tryz.prog 209 #[.int .i64 (k : Int), .pointer (some ⟨qx, 0, none⟩), .pointer (some ⟨ql, 0, none⟩)] w (WPost w B wb tv bn (bs ++ ((tx ++ [58, 32]) ++ X0))) := by
  have hlx := (Array.getElem?_eq_some_iff.1 hx).1
  have hll := (Array.getElem?_eq_some_iff.1 hl).1
  have HX := hide hx
  have a0 : w.cell? ⟨qx, 0, none⟩ = some (.pointer (some ⟨wb, 0, none⟩)) := by rw [cell_of_row w qx 0 _ _ _ hx]; rfl
  have l0 : w.cell? ⟨ql, 0, none⟩ = some (.slice la ls.length lc) := by rw [cell_of_row w ql 0 _ _ _ hl]; rfl
  obtain ⟨g, rfl, hg, hc1, hc2, hcell⟩ := ints_cell ol hk
  rw [hz] at hcell
  unfold maxLen at hc2
  clear hx hl ol hz

  have hcW : Chg (fun _ => False) w ((w.alloc (.cells #[.int .i64 kd, .int .i64 va, .int .i64 vb, .int .i64 vc, .slice na vl.length nc, .string ⟨tx.toArray⟩, .int .i64 vn, .int .i64 vt, .int .i64 vp] 63)).drew) := (Chg.alloc (fun _ => False) _ _).trans (Chg.drewN (fun _ => False) _ 1) (fun _ _ x => x)
  have hB1 : B ≤ ((w.alloc (.cells #[.int .i64 kd, .int .i64 va, .int .i64 vb, .int .i64 vc, .slice na vl.length nc, .string ⟨tx.toArray⟩, .int .i64 vn, .int .i64 vt, .int .i64 vp] 63)).drew).heap.size := Nat.le_trans hB hcW.size
  have SY := hide (cs_any (B := B) (wb := wb) (tv := tv) (bn := bn) hB1)
  have CE0 := hide (CE _ hcW)
  have K0 := hide (Wkp.refl B wb ((w.alloc (.cells #[.int .i64 kd, .int .i64 va, .int .i64 vb, .int .i64 vc, .slice na vl.length nc, .string ⟨tx.toArray⟩, .int .i64 vn, .int .i64 vt, .int .i64 vp] 63)).drew))
  have R0 := hide (hw.still hcW)
  have END : Hid (∀ a bs', Wkp B wb ((w.alloc (.cells #[.int .i64 kd, .int .i64 va, .int .i64 vb, .int .i64 vc, .slice na vl.length nc, .string ⟨tx.toArray⟩, .int .i64 vn, .int .i64 vt, .int .i64 vp] 63)).drew) a → Wrt a B wb tv bn bs' → bs' = bs ++ ((tx ++ [58, 32]) ++ X0) → WPost w B wb tv bn (bs ++ ((tx ++ [58, 32]) ++ X0)) (.returned (.tuple #[])) a) := fun a bs' h1 h2 e => ⟨rfl, (Wkp.still hcW).trans h1, e ▸ h2⟩
  have hb1 : ((w.alloc (.cells #[.int .i64 kd, .int .i64 va, .int .i64 vb, .int .i64 vc, .slice na vl.length nc, .string ⟨tx.toArray⟩, .int .i64 vn, .int .i64 vt, .int .i64 vp] 63)).drew).heap[w.heap.size]? = some (.cells #[.int .i64 kd, .int .i64 va, .int .i64 vb, .int .i64 vc, .slice na vl.length nc, .string ⟨tx.toArray⟩, .int .i64 vn, .int .i64 vt, .int .i64 vp] 63 (0, 0)) := heap_alloc_new w _
  have hb2 : ((w.alloc (.cells #[.int .i64 kd, .int .i64 va, .int .i64 vb, .int .i64 vc, .slice na vl.length nc, .string ⟨tx.toArray⟩, .int .i64 vn, .int .i64 vt, .int .i64 vp] 63)).drew).heap[qx]? = some (.cells #[.pointer (some ⟨wb, 0, none⟩)] 72 (0, 0)) := (hcW.block qx hlx (fun x => x)).trans HX.out
  have FC : Hid (∀ a, Wkp B wb ((w.alloc (.cells #[.int .i64 kd, .int .i64 va, .int .i64 vb, .int .i64 vc, .slice na vl.length nc, .string ⟨tx.toArray⟩, .int .i64 vn, .int .i64 vt, .int .i64 vp] 63)).drew) a → a.cell? ⟨qx, 0, none⟩ = some (.pointer (some ⟨wb, 0, none⟩)) ∧ a.cell? ⟨w.heap.size, 1, none⟩ = some (.int .i64 va) ∧ a.cell? ⟨w.heap.size, 5, none⟩ = some (.string ⟨tx.toArray⟩) ∧ qx < a.heap.size ∧ w.heap.size < a.heap.size) := by
    intro a ha
    have g0 := ha.other (hw.still hcW) hb2 (by decide) (by decide)
    have g1 := ha.other (hw.still hcW) hb1 (by decide) (by decide)
    exact ⟨by rw [cell_of_row a _ 0 _ _ _ g0]; rfl, by rw [cell_of_row a _ 1 _ _ _ g1]; rfl, by rw [cell_of_row a _ 5 _ _ _ g1]; rfl, (Array.getElem?_eq_some_iff.1 g0).1, (Array.getElem?_eq_some_iff.1 g1).1⟩
  clear hb1 hb2 hw hcW hB1 HX CE
  go_enter Tryz.func209, Tryz.ntmps209
  go_wp2_with fail
  go_region
  obtain ⟨y0a, y0b, y0c, y0d, y0e⟩ := FC.out _ (Wkp.refl B wb ((w.alloc (.cells #[.int .i64 kd, .int .i64 va, .int .i64 vb, .int .i64 vc, .slice na vl.length nc, .string ⟨tx.toArray⟩, .int .i64 vn, .int .i64 vt, .int .i64 vp] 63)).drew))
  clear x0 x1 x2 x3 x4 x5 x6 x7 x8 hcell l0 a0 n4
  generalize ((w.alloc (.cells #[.int .i64 kd, .int .i64 va, .int .i64 vb, .int .i64 vc, .slice na vl.length nc, .string ⟨tx.toArray⟩, .int .i64 vn, .int .i64 vt, .int .i64 vp] 63)).drew) = w0 at *
  have H0 := hide (SY.out.2.1 _ _ _ 1 (tx) [58, 32] rfl K0.out R0.out (by first | omega | (simp; omega) | (simp at hlen; omega) | (simp at hlen ⊢; omega)))
  go_wp2_with fail
  go_region_with (go_at_call 67; refine (H0.out.2).mono ?_; rintro e w1 ⟨rfl, h1, h2⟩)
  all_goals
    have K1 := hide h1
    have R1 := hide h2
    obtain ⟨y1a, y1b, y1c, y1d, y1e⟩ := FC.out w1 h1
    clear h1 h2 H0 K0 R0
    have H1 := hide (CE0.out _ _ K1.out R1.out (by first | omega | (simp; omega) | (simp at hlen; omega) | (simp at hlen ⊢; omega)))
    go_wp2_with fail
    refine (H1.out).mono ?_
    rintro e w2 ⟨rfl, h1, h2⟩
    have K2 := hide h1
    have R2 := hide h2
    obtain ⟨y2a, y2b, y2c, y2d, y2e⟩ := FC.out w2 h1
    clear h1 h2 H1 K1 R1
    have HE := hide (END.out _ _ K2.out R2.out (by simp))
    clear K2 R2
    go_wp2
    go_end0
    exact HE.out

set_option maxHeartbeats 2000000 in
set_option maxRecDepth 100000 in
theorem function1_p {w : World} {bs : List UInt8} (hB : B ≤ w.heap.size) (hw : Wrt w B wb tv bn bs) (k qx ql z : Nat) (fk fa fb fc : Int) (ft : List UInt8) (fn fy fp : Int) (la : Option Addr) (lc : Nat) (ls : List Int) (hk : k < ls.length) (hz : ls[k] = (z : Int)) (hx : w.heap[qx]? = some (.cells #[.pointer (some ⟨wb, 0, none⟩)] 72 (0, 0))) (hl : w.heap[ql]? = some (.cells #[.int .i64 fk, .int .i64 fa, .int .i64 fb, .int .i64 fc, .slice la ls.length lc, .string ⟨ft.toArray⟩, .int .i64 fn, .int .i64 fy, .int .i64 fp] 63 (0, 0))) (ol : w.ownsRow 0 3 1 (.slice la ls.length lc) ls.length (ints ls)) (gn nl ncap : Nat) (kd va vb vc : Int) (vl : List Int) (tx : List UInt8) (vn vt vp : Int) (na : Option Addr) (nc : Nat) (n4 : w.cell? ⟨wb, 4, none⟩ = some (.slice (some ⟨gn, 0, none⟩) nl ncap)) (hzn : z < nl) (_hnc : nl ≤ ncap) (_hnm : ncap ≤ maxLen) (hgn : gn < w.heap.size) (hwb : wb < w.heap.size) (x0 : w.cell? ⟨gn, z * 9, none⟩ = some (.int .i64 kd)) (x1 : w.cell? ⟨gn, z * 9 + 1, none⟩ = some (.int .i64 va)) (x2 : w.cell? ⟨gn, z * 9 + 2, none⟩ = some (.int .i64 vb)) (x3 : w.cell? ⟨gn, z * 9 + 3, none⟩ = some (.int .i64 vc)) (x4 : w.cell? ⟨gn, z * 9 + 4, none⟩ = some (.slice na vl.length nc)) (x5 : w.cell? ⟨gn, z * 9 + 5, none⟩ = some (.string ⟨tx.toArray⟩)) (x6 : w.cell? ⟨gn, z * 9 + 6, none⟩ = some (.int .i64 vn)) (x7 : w.cell? ⟨gn, z * 9 + 7, none⟩ = some (.int .i64 vt)) (x8 : w.cell? ⟨gn, z * 9 + 8, none⟩ = some (.int .i64 vp)) (X0 : List UInt8) (CT : CCs w B wb tv bn 139 #[.pointer (some ⟨wb, 0, none⟩), .int .i64 vt] X0) (hlen : bs.length + (tx ++ X0).length ≤ 100000000000000) :
    Calls Tryz.prog 208 #[.int .i64 (k : Int), .pointer (some ⟨qx, 0, none⟩), .pointer (some ⟨ql, 0, none⟩)] w (WPost w B wb tv bn (bs ++ (tx ++ X0))) := by
  have hlx := (Array.getElem?_eq_some_iff.1 hx).1
  have hll := (Array.getElem?_eq_some_iff.1 hl).1
  have HX := hide hx
  have a0 : w.cell? ⟨qx, 0, none⟩ = some (.pointer (some ⟨wb, 0, none⟩)) := by rw [cell_of_row w qx 0 _ _ _ hx]; rfl
  have l0 : w.cell? ⟨ql, 4, none⟩ = some (.slice la ls.length lc) := by rw [cell_of_row w ql 4 _ _ _ hl]; rfl
  obtain ⟨g, rfl, hg, hc1, hc2, hcell⟩ := ints_cell ol hk
  rw [hz] at hcell
  unfold maxLen at hc2
  clear hx hl ol hz

  have hcW : Chg (fun _ => False) w ((w.alloc (.cells #[.int .i64 kd, .int .i64 va, .int .i64 vb, .int .i64 vc, .slice na vl.length nc, .string ⟨tx.toArray⟩, .int .i64 vn, .int .i64 vt, .int .i64 vp] 63)).drew) := (Chg.alloc (fun _ => False) _ _).trans (Chg.drewN (fun _ => False) _ 1) (fun _ _ x => x)
  have hB1 : B ≤ ((w.alloc (.cells #[.int .i64 kd, .int .i64 va, .int .i64 vb, .int .i64 vc, .slice na vl.length nc, .string ⟨tx.toArray⟩, .int .i64 vn, .int .i64 vt, .int .i64 vp] 63)).drew).heap.size := Nat.le_trans hB hcW.size
  have SY := hide (cs_any (B := B) (wb := wb) (tv := tv) (bn := bn) hB1)
  have CT0 := hide (CT _ hcW)
  have K0 := hide (Wkp.refl B wb ((w.alloc (.cells #[.int .i64 kd, .int .i64 va, .int .i64 vb, .int .i64 vc, .slice na vl.length nc, .string ⟨tx.toArray⟩, .int .i64 vn, .int .i64 vt, .int .i64 vp] 63)).drew))
  have R0 := hide (hw.still hcW)
  have END : Hid (∀ a bs', Wkp B wb ((w.alloc (.cells #[.int .i64 kd, .int .i64 va, .int .i64 vb, .int .i64 vc, .slice na vl.length nc, .string ⟨tx.toArray⟩, .int .i64 vn, .int .i64 vt, .int .i64 vp] 63)).drew) a → Wrt a B wb tv bn bs' → bs' = bs ++ (tx ++ X0) → WPost w B wb tv bn (bs ++ (tx ++ X0)) (.returned (.tuple #[])) a) := fun a bs' h1 h2 e => ⟨rfl, (Wkp.still hcW).trans h1, e ▸ h2⟩
  have hb1 : ((w.alloc (.cells #[.int .i64 kd, .int .i64 va, .int .i64 vb, .int .i64 vc, .slice na vl.length nc, .string ⟨tx.toArray⟩, .int .i64 vn, .int .i64 vt, .int .i64 vp] 63)).drew).heap[w.heap.size]? = some (.cells #[.int .i64 kd, .int .i64 va, .int .i64 vb, .int .i64 vc, .slice na vl.length nc, .string ⟨tx.toArray⟩, .int .i64 vn, .int .i64 vt, .int .i64 vp] 63 (0, 0)) := heap_alloc_new w _
  have hb2 : ((w.alloc (.cells #[.int .i64 kd, .int .i64 va, .int .i64 vb, .int .i64 vc, .slice na vl.length nc, .string ⟨tx.toArray⟩, .int .i64 vn, .int .i64 vt, .int .i64 vp] 63)).drew).heap[qx]? = some (.cells #[.pointer (some ⟨wb, 0, none⟩)] 72 (0, 0)) := (hcW.block qx hlx (fun x => x)).trans HX.out
  have FC : Hid (∀ a, Wkp B wb ((w.alloc (.cells #[.int .i64 kd, .int .i64 va, .int .i64 vb, .int .i64 vc, .slice na vl.length nc, .string ⟨tx.toArray⟩, .int .i64 vn, .int .i64 vt, .int .i64 vp] 63)).drew) a → a.cell? ⟨qx, 0, none⟩ = some (.pointer (some ⟨wb, 0, none⟩)) ∧ a.cell? ⟨w.heap.size, 7, none⟩ = some (.int .i64 vt) ∧ a.cell? ⟨w.heap.size, 5, none⟩ = some (.string ⟨tx.toArray⟩) ∧ qx < a.heap.size ∧ w.heap.size < a.heap.size) := by
    intro a ha
    have g0 := ha.other (hw.still hcW) hb2 (by decide) (by decide)
    have g1 := ha.other (hw.still hcW) hb1 (by decide) (by decide)
    exact ⟨by rw [cell_of_row a _ 0 _ _ _ g0]; rfl, by rw [cell_of_row a _ 7 _ _ _ g1]; rfl, by rw [cell_of_row a _ 5 _ _ _ g1]; rfl, (Array.getElem?_eq_some_iff.1 g0).1, (Array.getElem?_eq_some_iff.1 g1).1⟩
  clear hb1 hb2 hw hcW hB1 HX CT
  go_enter Tryz.func208, Tryz.ntmps208
  go_wp2_with fail
  go_region
  obtain ⟨y0a, y0b, y0c, y0d, y0e⟩ := FC.out _ (Wkp.refl B wb ((w.alloc (.cells #[.int .i64 kd, .int .i64 va, .int .i64 vb, .int .i64 vc, .slice na vl.length nc, .string ⟨tx.toArray⟩, .int .i64 vn, .int .i64 vt, .int .i64 vp] 63)).drew))
  clear x0 x1 x2 x3 x4 x5 x6 x7 x8 hcell l0 a0 n4
  generalize ((w.alloc (.cells #[.int .i64 kd, .int .i64 va, .int .i64 vb, .int .i64 vc, .slice na vl.length nc, .string ⟨tx.toArray⟩, .int .i64 vn, .int .i64 vt, .int .i64 vp] 63)).drew) = w0 at *
  have H0 := hide (SY.out.1 _ _ _ 1 (tx) rfl K0.out R0.out (by first | omega | (simp; omega) | (simp at hlen; omega) | (simp at hlen ⊢; omega)))
  go_wp2_with fail
  go_region_with (go_at_call 67; refine (H0.out.2).mono ?_; rintro e w1 ⟨rfl, h1, h2⟩)
  all_goals
    have K1 := hide h1
    have R1 := hide h2
    obtain ⟨y1a, y1b, y1c, y1d, y1e⟩ := FC.out w1 h1
    clear h1 h2 H0 K0 R0
    have H1 := hide (CT0.out _ _ K1.out R1.out (by first | omega | (simp; omega) | (simp at hlen; omega) | (simp at hlen ⊢; omega)))
    go_wp2_with fail
    refine (H1.out).mono ?_
    rintro e w2 ⟨rfl, h1, h2⟩
    have K2 := hide h1
    have R2 := hide h2
    obtain ⟨y2a, y2b, y2c, y2d, y2e⟩ := FC.out w2 h1
    clear h1 h2 H1 K1 R1
    have HE := hide (END.out _ _ K2.out R2.out (by simp))
    clear K2 R2
    go_wp2
    go_end0
    exact HE.out
end
end Go.Proofs.YtjojlcfoiknlhaaGreatDoor
