/-
  The printer: the contracts of row and object, and of their closures.
-/
import Derived.Test.YtjojlcfoiknlhaaGreatDoorPtw
namespace Go.Proofs.YtjojlcfoiknlhaaGreatDoor
open Go.RowKit

section
variable {B wb : Nat} {tv : Value} {bn : Wk}

set_option maxHeartbeats 2000000 in
set_option maxRecDepth 100000 in
theorem row1_any {w : World} {bs : List UInt8} (hB : B ≤ w.heap.size) (hw : Wrt w B wb tv bn bs) (k qx ql : Nat) (la : Option Addr) (lc : Nat) (ls : List Int) (hk : k < ls.length) (hx : w.heap[qx]? = some (.cells #[.pointer (some ⟨wb, 0, none⟩)] 72 (0, 0))) (hl : w.heap[ql]? = some (.cells #[.slice la ls.length lc] 43 (0, 0))) (ol : w.ownsRow 0 3 1 (.slice la ls.length lc) ls.length (ints ls)) (X0 : List UInt8) (CE : CCs w B wb tv bn 138 #[.pointer (some ⟨wb, 0, none⟩), .int .i64 ls[k]] X0) (hlen : bs.length + (X0).length ≤ 100000000000000) :
    Calls Tryz.prog 192 #[.int .i64 (k : Int), .pointer (some ⟨qx, 0, none⟩), .pointer (some ⟨ql, 0, none⟩)] w (WPost w B wb tv bn (bs ++ (X0))) := by
  have hlx := (Array.getElem?_eq_some_iff.1 hx).1
  have hll := (Array.getElem?_eq_some_iff.1 hl).1
  have x0 : w.cell? ⟨qx, 0, none⟩ = some (.pointer (some ⟨wb, 0, none⟩)) := by rw [cell_of_row w qx 0 _ _ _ hx]; rfl
  have l0 : w.cell? ⟨ql, 0, none⟩ = some (.slice la ls.length lc) := by rw [cell_of_row w ql 0 _ _ _ hl]; rfl
  obtain ⟨g, rfl, hg, hc1, hc2, hcell⟩ := ints_cell ol hk
  unfold maxLen at hc2
  clear hx hl ol
  have hc0 : Chg (fun _ => False) w w := Chg.refl _ _
  have hB0 : B ≤ w.heap.size := Nat.le_trans hB hc0.size
  have SY := hide (cs_any (B := B) (wb := wb) (tv := tv) (bn := bn) hB0)
  have CE0 := hide (CE _ hc0)
  have K0 := hide (Wkp.refl B wb w)
  have R0 := hide (hw.still hc0)
  have END : Hid (∀ a bs', Wkp B wb w a → Wrt a B wb tv bn bs' → bs' = bs ++ (X0) → WPost w B wb tv bn (bs ++ (X0)) (.returned (.tuple #[])) a) := fun a bs' h1 h2 e => ⟨rfl, (Wkp.still hc0).trans h1, e ▸ h2⟩
  clear hw hc0 hB0 CE
  generalize ls[k] = z at *
  go_enter Tryz.func192, Tryz.ntmps192
  have H0 := hide (CE0.out _ _ (K0.out.trans (Wkp.still (Chg.drewN _ _ 1))) (R0.out.still (Chg.drewN _ _ 1)) (by first | omega | (simp; omega) | (simp at hlen; omega) | (simp at hlen ⊢; omega)))
  go_wp2_with fail
  go_region_with (go_at_call 138; refine (H0.out).mono ?_; rintro e w1 ⟨rfl, h1, h2⟩)
  all_goals
    have K1 := hide h1
    have R1 := hide h2
    clear h1 h2 H0 K0 R0
    have HE := hide (END.out _ _ K1.out R1.out (by simp))
    clear K1 R1
    go_wp2
    go_end0
    exact HE.out

set_option maxHeartbeats 2000000 in
set_option maxRecDepth 100000 in
theorem row_any {w : World} {bs : List UInt8} (hB : B ≤ w.heap.size) (hw : Wrt w B wb tv bn bs) (bg en : List UInt8) (la : Option Addr) (lc : Nat) (ls : List Int) (f : Nat → List UInt8) (hn : ls.length ≤ 1000000) (ol : w.ownsRow 0 3 1 (.slice la ls.length lc) ls.length (ints ls)) (CE : ∀ a, Wkp B wb w a → ∀ j (h : j < ls.length), CCs a B wb tv bn 138 #[.pointer (some ⟨wb, 0, none⟩), .int .i64 ls[j]] (f j))  (hlen : bs.length + (bg ++ rowb [44, 32] f ls.length ++ en).length ≤ 100000000000000) :
    Calls Tryz.prog 170 #[.pointer (some ⟨wb, 0, none⟩), .string ⟨bg.toArray⟩, .slice la ls.length lc, .string ⟨en.toArray⟩] w (WPost w B wb tv bn (bs ++ (bg ++ rowb [44, 32] f ls.length ++ en))) := by
  have hc0 : Chg (fun _ => False) w ((w.alloc (.cells #[.pointer (some ⟨wb, 0, none⟩)] 72)).alloc (.cells #[.slice la ls.length lc] 43)) := Chg.trans (Chg.alloc (fun _ => False) _ _) (Chg.alloc (fun _ => False) _ _) (fun _ _ x => x)
  have hB0 : B ≤ ((w.alloc (.cells #[.pointer (some ⟨wb, 0, none⟩)] 72)).alloc (.cells #[.slice la ls.length lc] 43)).heap.size := Nat.le_trans hB hc0.size
  have SY := hide (cs_any (B := B) (wb := wb) (tv := tv) (bn := bn) hB0)
  have K0 := hide (Wkp.refl B wb ((w.alloc (.cells #[.pointer (some ⟨wb, 0, none⟩)] 72)).alloc (.cells #[.slice la ls.length lc] 43)))
  have R0 := hide (hw.still hc0)
  have END : Hid (∀ a bs', Wkp B wb ((w.alloc (.cells #[.pointer (some ⟨wb, 0, none⟩)] 72)).alloc (.cells #[.slice la ls.length lc] 43)) a → Wrt a B wb tv bn bs' → bs' = bs ++ (bg ++ rowb [44, 32] f ls.length ++ en) → WPost w B wb tv bn (bs ++ (bg ++ rowb [44, 32] f ls.length ++ en)) (.returned (.tuple #[])) a) := fun a bs' h1 h2 e => ⟨rfl, (Wkp.still hc0).trans h1, e ▸ h2⟩
  have hb0 : ((w.alloc (.cells #[.pointer (some ⟨wb, 0, none⟩)] 72)).alloc (.cells #[.slice la ls.length lc] 43)).heap[w.heap.size]? = some (.cells #[.pointer (some ⟨wb, 0, none⟩)] 72 (0, 0)) := by
    rw [Below.heap_alloc _ _ _ (by simp)]
    have := heap_alloc_new w (.cells #[.pointer (some ⟨wb, 0, none⟩)] 72)
    simpa using this
  have hb1 : ((w.alloc (.cells #[.pointer (some ⟨wb, 0, none⟩)] 72)).alloc (.cells #[.slice la ls.length lc] 43)).heap[w.heap.size + 1]? = some (.cells #[.slice la ls.length lc] 43 (0, 0)) := by
    have := heap_alloc_new (w.alloc (.cells #[.pointer (some ⟨wb, 0, none⟩)] 72)) (.cells #[.slice la ls.length lc] 43)
    simpa using this
  have FC : Hid (∀ a, Wkp B wb ((w.alloc (.cells #[.pointer (some ⟨wb, 0, none⟩)] 72)).alloc (.cells #[.slice la ls.length lc] 43)) a → a.cell? ⟨w.heap.size, 0, none⟩ = some (.pointer (some ⟨wb, 0, none⟩)) ∧ a.cell? ⟨w.heap.size + 1, 0, none⟩ = some (.slice la ls.length lc) ∧ w.heap.size < a.heap.size ∧ w.heap.size + 1 < a.heap.size) := by
    intro a ha
    have g0 := ha.other (hw.still hc0) hb0 (by decide) (by decide)
    have g1 := ha.other (hw.still hc0) hb1 (by decide) (by decide)
    exact ⟨by rw [cell_of_row a _ 0 _ _ _ g0]; rfl, by rw [cell_of_row a _ 0 _ _ _ g1]; rfl, (Array.getElem?_eq_some_iff.1 g0).1, (Array.getElem?_eq_some_iff.1 g1).1⟩
  have CR0 : Hid (CC ((w.alloc (.cells #[.pointer (some ⟨wb, 0, none⟩)] 72)).alloc (.cells #[.slice la ls.length lc] 43)) B wb tv bn 73 #[.pointer (some ⟨wb, 0, none⟩), .int .i64 (ls.length : Int), .string ⟨#[44, 32]⟩, .func (.func 192) #[] #[.pointer (some ⟨w.heap.size, 0, none⟩), .pointer (some ⟨w.heap.size + 1, 0, none⟩)]] (rowb [44, 32] f ls.length)) := by
    intro a bs' ha hwa hl
    refine (row_row1 a bs' hwa (Nat.le_trans hB0 ha.size) ls.length hn ⟨#[44, 32]⟩ _ _ f hl ?_).mono ?_
    · intro a2 j bs2 hk2 hw2 hj hl2
      have hx2 := (ha.trans hk2).other (hw.still hc0) hb0 (by decide) (by decide)
      have hl3 := (ha.trans hk2).other (hw.still hc0) hb1 (by decide) (by decide)
      have ol2 := (ha.trans hk2).own (hw.still hc0) (owns_chg ol hc0 (fun _ _ x => x)) (by decide) (by decide)
      refine (row1_any (Nat.le_trans hB0 (Nat.le_trans ha.size hk2.size)) hw2 j w.heap.size (w.heap.size + 1) la lc ls hj hx2 hl3 ol2 (f j) (CE a2 ((Wkp.still hc0).trans (ha.trans hk2)) j hj) hl2).mono ?_
      rintro e w' ⟨rfl, h1, h2⟩
      exact ⟨rfl, hk2.trans h1, h2⟩
    · rintro e w' ⟨rfl, h1, h2⟩
      exact ⟨rfl, ha.trans h1, h2⟩
  clear hb0 hb1
  clear hw hc0 hB0 ol CE
  generalize rowb [44, 32] f ls.length = rb at *
  go_enter Tryz.func170, Tryz.ntmps170
  have H0 := hide (SY.out.1 _ _ (w.heap.size + 1 + 1) 1 (bg) (by simp) K0.out R0.out (by first | omega | (simp; omega) | (simp at hlen; omega) | (simp at hlen ⊢; omega)))
  go_wp2_with fail
  refine (H0.out.1).mono ?_
  rintro e w1 ⟨rfl, h1, h2⟩
  have K1 := hide h1
  have R1 := hide h2
  obtain ⟨y1x0, y1x1, y1x2, y1x3⟩ := FC.out w1 h1
  clear h1 h2 H0 K0 R0
  have H1 := hide (CR0.out _ _ (K1.out.trans (Wkp.still (Chg.drewN _ _ 1))) (R1.out.still (Chg.drewN _ _ 1)) (by first | omega | (simp; omega) | (simp at hlen; omega) | (simp at hlen ⊢; omega)))
  go_wp2_with fail
  go_region_with (go_at_call 73; refine (H1.out).mono ?_; rintro e w2 ⟨rfl, h1, h2⟩)
  all_goals
    have K2 := hide h1
    have R2 := hide h2
    obtain ⟨y2x0, y2x1, y2x2, y2x3⟩ := FC.out w2 h1
    clear h1 h2 H1 K1 R1
    have H2 := hide (SY.out.1 _ _ _ 1 (en) rfl K2.out R2.out (by first | omega | (simp; omega) | (simp at hlen; omega) | (simp at hlen ⊢; omega)))
    go_wp2_with fail
    refine (H2.out.1).mono ?_
    rintro e w3 ⟨rfl, h1, h2⟩
    have K3 := hide h1
    have R3 := hide h2
    obtain ⟨y3x0, y3x1, y3x2, y3x3⟩ := FC.out w3 h1
    clear h1 h2 H2 K2 R2
    have HE := hide (END.out _ _ K3.out R3.out (by simp))
    clear K3 R3
    go_wp2
    go_end0
    exact HE.out
end
end Go.Proofs.YtjojlcfoiknlhaaGreatDoor
