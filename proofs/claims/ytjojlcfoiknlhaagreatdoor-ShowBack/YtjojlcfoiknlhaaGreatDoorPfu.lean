/-
  The printer: the contracts of object and function.
-/
import Derived.Test.YtjojlcfoiknlhaaGreatDoorPob
namespace Go.Proofs.YtjojlcfoiknlhaaGreatDoor
open Go.RowKit

section
variable {B wb : Nat} {tv : Value} {bn : Wk}

set_option maxHeartbeats 2000000 in
set_option maxRecDepth 100000 in
theorem object_p {w : World} {bs : List UInt8} (hB : B ≤ w.heap.size) (hw : Wrt w B wb tv bn bs) (la : Option Addr) (lc : Nat) (ls : List Int) (f : Nat → List UInt8) (hn : ls.length ≤ 1000000) (HC : ∀ (a : World) (bs' : List UInt8) (qx ql j : Nat), Wkp B wb w a → Wrt a B wb tv bn bs' → B ≤ a.heap.size → j < ls.length → a.heap[qx]? = some (.cells #[.pointer (some ⟨wb, 0, none⟩)] 72 (0, 0)) → a.heap[ql]? = some (.cells #[.slice la ls.length lc] 43 (0, 0)) → bs'.length + (f j).length ≤ 100000000000000 → Calls Tryz.prog 209 #[.int .i64 (j : Int), .pointer (some ⟨qx, 0, none⟩), .pointer (some ⟨ql, 0, none⟩)] a (WPost a B wb tv bn (bs' ++ f j)))  (hlen : bs.length + (if ls.length = 0 then [123, 125] else [123, 32] ++ rowb [44, 32] f ls.length ++ [32, 125]).length ≤ 100000000000000) :
    Calls Tryz.prog 196 #[.pointer (some ⟨wb, 0, none⟩), .slice la ls.length lc] w (WPost w B wb tv bn (bs ++ (if ls.length = 0 then [123, 125] else [123, 32] ++ rowb [44, 32] f ls.length ++ [32, 125]))) := by
  generalize hii : (if ls.length = 0 then [123, 125] else [123, 32] ++ rowb [44, 32] f ls.length ++ [32, 125]) = XX at *
  have HI := hide hii
  clear hii
  have hc0 : Chg (fun _ => False) w ((w.alloc (.cells #[.pointer (some ⟨wb, 0, none⟩)] 72)).alloc (.cells #[.slice la ls.length lc] 43)) := Chg.trans (Chg.alloc (fun _ => False) _ _) (Chg.alloc (fun _ => False) _ _) (fun _ _ x => x)
  have hB0 : B ≤ ((w.alloc (.cells #[.pointer (some ⟨wb, 0, none⟩)] 72)).alloc (.cells #[.slice la ls.length lc] 43)).heap.size := Nat.le_trans hB hc0.size
  have SY := hide (cs_any (B := B) (wb := wb) (tv := tv) (bn := bn) hB0)
  have K0 := hide (Wkp.refl B wb ((w.alloc (.cells #[.pointer (some ⟨wb, 0, none⟩)] 72)).alloc (.cells #[.slice la ls.length lc] 43)))
  have R0 := hide (hw.still hc0)
  have END : Hid (∀ a bs', Wkp B wb ((w.alloc (.cells #[.pointer (some ⟨wb, 0, none⟩)] 72)).alloc (.cells #[.slice la ls.length lc] 43)) a → Wrt a B wb tv bn bs' → bs' = bs ++ (XX) → WPost w B wb tv bn (bs ++ (XX)) (.returned (.tuple #[])) a) := fun a bs' h1 h2 e => ⟨rfl, (Wkp.still hc0).trans h1, e ▸ h2⟩
  have hb0 : ((w.alloc (.cells #[.pointer (some ⟨wb, 0, none⟩)] 72)).alloc (.cells #[.slice la ls.length lc] 43)).heap[w.heap.size]? = some (.cells #[.pointer (some ⟨wb, 0, none⟩)] 72 (0, 0)) := by
    rw [Below.heap_alloc _ _ _ (by simp)]
    have := heap_alloc_new w (.cells #[.pointer (some ⟨wb, 0, none⟩)] 72)
    simpa using this
  have hb1 : ((w.alloc (.cells #[.pointer (some ⟨wb, 0, none⟩)] 72)).alloc (.cells #[.slice la ls.length lc] 43)).heap[w.heap.size + 1]? = some (.cells #[.slice la ls.length lc] 43 (0, 0)) := by
    have := heap_alloc_new (w.alloc (.cells #[.pointer (some ⟨wb, 0, none⟩)] 72)) (.cells #[.slice la ls.length lc] 43)
    simpa using this
  have FC : Hid (∀ a, Wkp B wb ((w.alloc (.cells #[.pointer (some ⟨wb, 0, none⟩)] 72)).alloc (.cells #[.slice la ls.length lc] 43)) a → a.cell? ⟨w.heap.size, 0, none⟩ = some (.pointer (some ⟨wb, 0, none⟩)) ∧ a.cell? ⟨w.heap.size + 1, 0, none⟩ = some (.slice la ls.length lc) ∧ w.heap.size < a.heap.size ∧ w.heap.size + 1 < a.heap.size) := by
    intro a ha
    have g0 := ha.other (hw.still hc0) hb0 (by decide) (by decide)
    have g1 := ha.other (hw.still hc0) hb1 (by decide) (by decide)
    exact ⟨by rw [cell_of_row a _ 0 _ _ _ g0]; rfl, by rw [cell_of_row a _ 0 _ _ _ g1]; rfl, (Array.getElem?_eq_some_iff.1 g0).1, (Array.getElem?_eq_some_iff.1 g1).1⟩
  have CR0 : Hid (CC ((w.alloc (.cells #[.pointer (some ⟨wb, 0, none⟩)] 72)).alloc (.cells #[.slice la ls.length lc] 43)) B wb tv bn 73 #[.pointer (some ⟨wb, 0, none⟩), .int .i64 (ls.length : Int), .string ⟨#[44, 32]⟩, .func (.func 209) #[] #[.pointer (some ⟨w.heap.size, 0, none⟩), .pointer (some ⟨w.heap.size + 1, 0, none⟩)]] (rowb [44, 32] f ls.length)) := by
    intro a bs' ha hwa hl
    refine (row_object1 a bs' hwa (Nat.le_trans hB0 ha.size) ls.length hn ⟨#[44, 32]⟩ _ _ f hl ?_).mono ?_
    · intro a2 j bs2 hk2 hw2 hj hl2
      have hx2 := (ha.trans hk2).other (hw.still hc0) hb0 (by decide) (by decide)
      have hl3 := (ha.trans hk2).other (hw.still hc0) hb1 (by decide) (by decide)
      refine (HC a2 bs2 w.heap.size (w.heap.size + 1) j ((Wkp.still hc0).trans (ha.trans hk2)) hw2 (Nat.le_trans hB0 (Nat.le_trans ha.size hk2.size)) hj hx2 hl3 hl2).mono ?_
      rintro e w' ⟨rfl, h1, h2⟩
      exact ⟨rfl, hk2.trans h1, h2⟩
    · rintro e w' ⟨rfl, h1, h2⟩
      exact ⟨rfl, ha.trans h1, h2⟩
  clear hb0 hb1
  clear hw hc0 hB0 HC
  generalize rowb [44, 32] f ls.length = rb at *
  go_enter Tryz.func196, Tryz.ntmps196
  by_cases hz : ls.length = 0
  · have hI := HI.out
    rw [if_pos hz] at hI
    subst hI
    have hls := List.eq_nil_of_length_eq_zero hz
    subst hls
    simp only [List.length_nil] at *
    have H0 := hide (SY.out.1 _ _ (w.heap.size + 1 + 1) 1 [123, 125] (by simp) K0.out R0.out (by first | omega | (simp; omega) | (simp at hlen; omega) | (simp at hlen ⊢; omega)))
    go_wp2_with fail
    refine (H0.out.1).mono ?_
    rintro e w1 ⟨rfl, h1, h2⟩
    have K1 := hide h1
    have R1 := hide h2
    obtain ⟨y1x0, y1x1, y1x2, y1x3⟩ := FC.out w1 h1
    clear h1 h2 H0 K0 R0
    have HE := hide (END.out _ _ K1.out R1.out (by simp))
    clear K1 R1
    go_wp2
    go_end0
    exact HE.out
  · have hI := HI.out
    rw [if_neg hz] at hI
    subst hI
    have hz0 : ((ls.length : Int) == 0) = false := by rw [beq_eq_false_iff_ne]; omega
    have H0 := hide (SY.out.1 _ _ (w.heap.size + 1 + 1) 1 [123, 32] (by simp) K0.out R0.out (by first | omega | (simp; omega) | (simp at hlen; omega) | (simp at hlen ⊢; omega)))
    go_wp2_with fail
    refine (H0.out.1).mono ?_
    rintro e w1 ⟨rfl, h1, h2⟩
    have K1 := hide h1
    have R1 := hide h2
    obtain ⟨y1x0, y1x1, y1x2, y1x3⟩ := FC.out w1 h1
    clear h1 h2 H0 K0 R0
    have H1 := hide (CR0.out _ _ (K1.out.trans (Wkp.still (Chg.drewN _ _ 1))) (R1.out.still (Chg.drewN _ _ 1)) (by first | omega | (simp; omega) | (simp at hlen; omega) | (simp at hlen ⊢; omega)))
    go_wp2_with fail
    go_region_with (go_at_call 73; refine (H1.out).mono ?_; rintro e w2 ⟨rfl, h1, h2⟩)
    all_goals
      have K2 := hide h1
      have R2 := hide h2
      obtain ⟨y2x0, y2x1, y2x2, y2x3⟩ := FC.out w2 h1
      clear h1 h2 H1 K1 R1
      have H2 := hide (SY.out.1 _ _ _ 1 [32, 125] rfl K2.out R2.out (by first | omega | (simp; omega) | (simp at hlen; omega) | (simp at hlen ⊢; omega)))
      go_wp2_with fail
      refine (H2.out.1).mono ?_
      rintro e w3 ⟨rfl, h1, h2⟩
      have K3 := hide h1
      have R3 := hide h2
      obtain ⟨y3x0, y3x1, y3x2, y3x3⟩ := FC.out w3 h1
      clear h1 h2 H2 K2 R2
      have HE := hide (END.out _ _ K3.out R3.out (by simp))
      clear K3 R3
      go_wp2
      go_end0
      exact HE.out

set_option maxHeartbeats 2000000 in
set_option maxRecDepth 100000 in
theorem function_p {w : World} {bs : List UInt8} (hB : B ≤ w.heap.size) (hw : Wrt w B wb tv bn bs) (fk fa fb fc : Int) (ft : List UInt8) (fn fy fp : Int) (la : Option Addr) (lc : Nat) (ls : List Int) (f : Nat → List UInt8) (XT XB : List UInt8) (hn : ls.length ≤ 1000000) (HC : ∀ (a : World) (bs' : List UInt8) (qx ql j : Nat), Wkp B wb w a → Wrt a B wb tv bn bs' → B ≤ a.heap.size → j < ls.length → a.heap[qx]? = some (.cells #[.pointer (some ⟨wb, 0, none⟩)] 72 (0, 0)) → a.heap[ql]? = some (.cells #[.int .i64 fk, .int .i64 fa, .int .i64 fb, .int .i64 fc, .slice la ls.length lc, .string ⟨ft.toArray⟩, .int .i64 fn, .int .i64 fy, .int .i64 fp] 63 (0, 0)) → bs'.length + (f j).length ≤ 100000000000000 → Calls Tryz.prog 208 #[.int .i64 (j : Int), .pointer (some ⟨qx, 0, none⟩), .pointer (some ⟨ql, 0, none⟩)] a (WPost a B wb tv bn (bs' ++ f j))) (CT : CCs w B wb tv bn 139 #[.pointer (some ⟨wb, 0, none⟩), .int .i64 fy] XT) (CB : CCs w B wb tv bn 107 #[.pointer (some ⟨wb, 0, none⟩), .int .i64 fa] XB) (hlen : bs.length + ([102, 110, 40] ++ rowb [44, 32] f ls.length ++ [41] ++ XT ++ [32] ++ XB).length ≤ 100000000000000) :
    Calls Tryz.prog 195 #[.pointer (some ⟨wb, 0, none⟩), .agg #[.int .i64 fk, .int .i64 fa, .int .i64 fb, .int .i64 fc, .slice la ls.length lc, .string ⟨ft.toArray⟩, .int .i64 fn, .int .i64 fy, .int .i64 fp]] w (WPost w B wb tv bn (bs ++ ([102, 110, 40] ++ rowb [44, 32] f ls.length ++ [41] ++ XT ++ [32] ++ XB))) := by
  have hc0 : Chg (fun _ => False) w ((w.alloc (.cells #[.pointer (some ⟨wb, 0, none⟩)] 72)).alloc (.cells #[.int .i64 fk, .int .i64 fa, .int .i64 fb, .int .i64 fc, .slice la ls.length lc, .string ⟨ft.toArray⟩, .int .i64 fn, .int .i64 fy, .int .i64 fp] 63)) := Chg.trans (Chg.alloc (fun _ => False) _ _) (Chg.alloc (fun _ => False) _ _) (fun _ _ x => x)
  have hB0 : B ≤ ((w.alloc (.cells #[.pointer (some ⟨wb, 0, none⟩)] 72)).alloc (.cells #[.int .i64 fk, .int .i64 fa, .int .i64 fb, .int .i64 fc, .slice la ls.length lc, .string ⟨ft.toArray⟩, .int .i64 fn, .int .i64 fy, .int .i64 fp] 63)).heap.size := Nat.le_trans hB hc0.size
  have SY := hide (cs_any (B := B) (wb := wb) (tv := tv) (bn := bn) hB0)
  have CT0 := hide (CT _ hc0)
  have CB0 := hide (CB _ hc0)
  have K0 := hide (Wkp.refl B wb ((w.alloc (.cells #[.pointer (some ⟨wb, 0, none⟩)] 72)).alloc (.cells #[.int .i64 fk, .int .i64 fa, .int .i64 fb, .int .i64 fc, .slice la ls.length lc, .string ⟨ft.toArray⟩, .int .i64 fn, .int .i64 fy, .int .i64 fp] 63)))
  have R0 := hide (hw.still hc0)
  have END : Hid (∀ a bs', Wkp B wb ((w.alloc (.cells #[.pointer (some ⟨wb, 0, none⟩)] 72)).alloc (.cells #[.int .i64 fk, .int .i64 fa, .int .i64 fb, .int .i64 fc, .slice la ls.length lc, .string ⟨ft.toArray⟩, .int .i64 fn, .int .i64 fy, .int .i64 fp] 63)) a → Wrt a B wb tv bn bs' → bs' = bs ++ ([102, 110, 40] ++ rowb [44, 32] f ls.length ++ [41] ++ XT ++ [32] ++ XB) → WPost w B wb tv bn (bs ++ ([102, 110, 40] ++ rowb [44, 32] f ls.length ++ [41] ++ XT ++ [32] ++ XB)) (.returned (.tuple #[])) a) := fun a bs' h1 h2 e => ⟨rfl, (Wkp.still hc0).trans h1, e ▸ h2⟩
  have hb0 : ((w.alloc (.cells #[.pointer (some ⟨wb, 0, none⟩)] 72)).alloc (.cells #[.int .i64 fk, .int .i64 fa, .int .i64 fb, .int .i64 fc, .slice la ls.length lc, .string ⟨ft.toArray⟩, .int .i64 fn, .int .i64 fy, .int .i64 fp] 63)).heap[w.heap.size]? = some (.cells #[.pointer (some ⟨wb, 0, none⟩)] 72 (0, 0)) := by
    rw [Below.heap_alloc _ _ _ (by simp)]
    have := heap_alloc_new w (.cells #[.pointer (some ⟨wb, 0, none⟩)] 72)
    simpa using this
  have hb1 : ((w.alloc (.cells #[.pointer (some ⟨wb, 0, none⟩)] 72)).alloc (.cells #[.int .i64 fk, .int .i64 fa, .int .i64 fb, .int .i64 fc, .slice la ls.length lc, .string ⟨ft.toArray⟩, .int .i64 fn, .int .i64 fy, .int .i64 fp] 63)).heap[w.heap.size + 1]? = some (.cells #[.int .i64 fk, .int .i64 fa, .int .i64 fb, .int .i64 fc, .slice la ls.length lc, .string ⟨ft.toArray⟩, .int .i64 fn, .int .i64 fy, .int .i64 fp] 63 (0, 0)) := by
    have := heap_alloc_new (w.alloc (.cells #[.pointer (some ⟨wb, 0, none⟩)] 72)) (.cells #[.int .i64 fk, .int .i64 fa, .int .i64 fb, .int .i64 fc, .slice la ls.length lc, .string ⟨ft.toArray⟩, .int .i64 fn, .int .i64 fy, .int .i64 fp] 63)
    simpa using this
  have FC : Hid (∀ a, Wkp B wb ((w.alloc (.cells #[.pointer (some ⟨wb, 0, none⟩)] 72)).alloc (.cells #[.int .i64 fk, .int .i64 fa, .int .i64 fb, .int .i64 fc, .slice la ls.length lc, .string ⟨ft.toArray⟩, .int .i64 fn, .int .i64 fy, .int .i64 fp] 63)) a → a.cell? ⟨w.heap.size, 0, none⟩ = some (.pointer (some ⟨wb, 0, none⟩)) ∧ a.cell? ⟨w.heap.size + 1, 4, none⟩ = some (.slice la ls.length lc) ∧ a.cell? ⟨w.heap.size + 1, 7, none⟩ = some (.int .i64 fy) ∧ a.cell? ⟨w.heap.size + 1, 1, none⟩ = some (.int .i64 fa) ∧ w.heap.size < a.heap.size ∧ w.heap.size + 1 < a.heap.size) := by
    intro a ha
    have g0 := ha.other (hw.still hc0) hb0 (by decide) (by decide)
    have g1 := ha.other (hw.still hc0) hb1 (by decide) (by decide)
    exact ⟨by rw [cell_of_row a _ 0 _ _ _ g0]; rfl, by rw [cell_of_row a _ 4 _ _ _ g1]; rfl, by rw [cell_of_row a _ 7 _ _ _ g1]; rfl, by rw [cell_of_row a _ 1 _ _ _ g1]; rfl, (Array.getElem?_eq_some_iff.1 g0).1, (Array.getElem?_eq_some_iff.1 g1).1⟩
  have CR0 : Hid (CC ((w.alloc (.cells #[.pointer (some ⟨wb, 0, none⟩)] 72)).alloc (.cells #[.int .i64 fk, .int .i64 fa, .int .i64 fb, .int .i64 fc, .slice la ls.length lc, .string ⟨ft.toArray⟩, .int .i64 fn, .int .i64 fy, .int .i64 fp] 63)) B wb tv bn 73 #[.pointer (some ⟨wb, 0, none⟩), .int .i64 (ls.length : Int), .string ⟨#[44, 32]⟩, .func (.func 208) #[] #[.pointer (some ⟨w.heap.size, 0, none⟩), .pointer (some ⟨w.heap.size + 1, 0, none⟩)]] (rowb [44, 32] f ls.length)) := by
    intro a bs' ha hwa hl
    refine (row_function1 a bs' hwa (Nat.le_trans hB0 ha.size) ls.length hn ⟨#[44, 32]⟩ _ _ f hl ?_).mono ?_
    · intro a2 j bs2 hk2 hw2 hj hl2
      have hx2 := (ha.trans hk2).other (hw.still hc0) hb0 (by decide) (by decide)
      have hl3 := (ha.trans hk2).other (hw.still hc0) hb1 (by decide) (by decide)
      refine (HC a2 bs2 w.heap.size (w.heap.size + 1) j ((Wkp.still hc0).trans (ha.trans hk2)) hw2 (Nat.le_trans hB0 (Nat.le_trans ha.size hk2.size)) hj hx2 hl3 hl2).mono ?_
      rintro e w' ⟨rfl, h1, h2⟩
      exact ⟨rfl, hk2.trans h1, h2⟩
    · rintro e w' ⟨rfl, h1, h2⟩
      exact ⟨rfl, ha.trans h1, h2⟩
  clear hb0 hb1
  clear hw hc0 hB0 HC CT CB
  generalize rowb [44, 32] f ls.length = rb at *
  go_enter Tryz.func195, Tryz.ntmps195
  have H0 := hide (SY.out.1 _ _ (w.heap.size + 1 + 1) 1 [102, 110, 40] (by simp) K0.out R0.out (by first | omega | (simp; omega) | (simp at hlen; omega) | (simp at hlen ⊢; omega)))
  go_wp2_with fail
  refine (H0.out.1).mono ?_
  rintro e w1 ⟨rfl, h1, h2⟩
  have K1 := hide h1
  have R1 := hide h2
  obtain ⟨y1x0, y1x1, y1x2, y1x3, y1x4, y1x5⟩ := FC.out w1 h1
  clear h1 h2 H0 K0 R0
  have H1 := hide (CR0.out _ _ (K1.out.trans (Wkp.still (Chg.drewN _ _ 1))) (R1.out.still (Chg.drewN _ _ 1)) (by first | omega | (simp; omega) | (simp at hlen; omega) | (simp at hlen ⊢; omega)))
  go_wp2_with fail
  go_region_with (go_at_call 73; refine (H1.out).mono ?_; rintro e w2 ⟨rfl, h1, h2⟩)
  all_goals
    have K2 := hide h1
    have R2 := hide h2
    obtain ⟨y2x0, y2x1, y2x2, y2x3, y2x4, y2x5⟩ := FC.out w2 h1
    clear h1 h2 H1 K1 R1
    have H2 := hide (SY.out.1 _ _ _ 1 [41] rfl K2.out R2.out (by first | omega | (simp; omega) | (simp at hlen; omega) | (simp at hlen ⊢; omega)))
    go_wp2_with fail
    refine (H2.out.1).mono ?_
    rintro e w3 ⟨rfl, h1, h2⟩
    have K3 := hide h1
    have R3 := hide h2
    obtain ⟨y3x0, y3x1, y3x2, y3x3, y3x4, y3x5⟩ := FC.out w3 h1
    clear h1 h2 H2 K2 R2
    have H3 := hide (CT0.out _ _ K3.out R3.out (by first | omega | (simp; omega) | (simp at hlen; omega) | (simp at hlen ⊢; omega)))
    go_wp2_with fail
    refine (H3.out).mono ?_
    rintro e w4 ⟨rfl, h1, h2⟩
    have K4 := hide h1
    have R4 := hide h2
    obtain ⟨y4x0, y4x1, y4x2, y4x3, y4x4, y4x5⟩ := FC.out w4 h1
    clear h1 h2 H3 K3 R3
    have H4 := hide (SY.out.1 _ _ _ 1 [32] rfl K4.out R4.out (by first | omega | (simp; omega) | (simp at hlen; omega) | (simp at hlen ⊢; omega)))
    go_wp2_with fail
    refine (H4.out.1).mono ?_
    rintro e w5 ⟨rfl, h1, h2⟩
    have K5 := hide h1
    have R5 := hide h2
    obtain ⟨y5x0, y5x1, y5x2, y5x3, y5x4, y5x5⟩ := FC.out w5 h1
    clear h1 h2 H4 K4 R4
    have H5 := hide (CB0.out _ _ K5.out R5.out (by first | omega | (simp; omega) | (simp at hlen; omega) | (simp at hlen ⊢; omega)))
    go_wp2_with fail
    refine (H5.out).mono ?_
    rintro e w6 ⟨rfl, h1, h2⟩
    have K6 := hide h1
    have R6 := hide h2
    obtain ⟨y6x0, y6x1, y6x2, y6x3, y6x4, y6x5⟩ := FC.out w6 h1
    clear h1 h2 H5 K5 R5
    have HE := hide (END.out _ _ K6.out R6.out (by simp))
    clear K6 R6
    go_wp2
    go_end0
    exact HE.out
end
end Go.Proofs.YtjojlcfoiknlhaaGreatDoor
