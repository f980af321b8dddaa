/-
  The contract of union's closure, over Type.
  The contract of Row, over the two closures.
  The contract of union, over Type.
  Plain: how the writer's rows are what a type's text is made of.
  The contract of String, of a builder at the head of a writer.
-/
import Derived.Test.YtjojlcfoiknlhaaGreatDoorWriteA
import Derived.Deep.QuietTactic
import Derived.BigQuiet
namespace Go.Proofs.YtjojlcfoiknlhaaGreatDoor
open Go.RowKit

section
variable {B wb : Nat} {tv : Value} {bn : Wk} {T : List M.Ty} {m : Nat}

/-- A type of a union, as it is written. -/
def wup (bn : Wk) (T : List M.Ty) (z : Nat) (b : Bool) : List UInt8 := if b then [40] ++ wtx bn T z ++ [41] else wtx bn T z

set_option maxHeartbeats 2000000 in
theorem union1_any (IH : WCon B wb tv bn T m) (w : World) (bs : List UInt8) (h : Wsp w B wb tv bn T bs) (hBw : B ≤ w.heap.size) (k qx ql : Nat) (la : Option Addr) (lc : Nat) (ls : List Int) (hk : k < ls.length) (z : Nat) (hz : ls[k] = (z : Int)) (hzm : z + 1 ≤ m) (hzT : z < T.length) (bb : Bool) (hbb : bb = brk T[z].kind (decide (k + 1 = ls.length))) (hlen : bs.length + (wup bn T z bb).length ≤ 100000000000000)
    (hx : w.heap[qx]? = some (.cells #[.pointer (some ⟨wb, 0, none⟩)] 84 (0, 0))) (ht : w.heap[ql]? = some (.cells #[.slice la ls.length lc] 43 (0, 0))) (ho : w.ownsRow 0 3 1 (.slice la ls.length lc) ls.length (ints ls)) :
    Calls Tryz.prog 116 #[.int .i64 (k : Int), .pointer (some ⟨qx, 0, none⟩), .pointer (some ⟨ql, 0, none⟩)] w (WPost w B wb tv bn (bs ++ wup bn T z bb)) := by
  have hlq := (Array.getElem?_eq_some_iff.1 ht).1
  have elast : ((k : Int) == IntKind.i64.wrap ((ls.length : Int) - 1)) = decide (k + 1 = ls.length) := by
    obtain ⟨_, _, _, hl1, hl2, _⟩ := ints_cell ho hk
    unfold maxLen at hl2
    have e : IntKind.i64.wrap ((ls.length : Int) - 1) = (ls.length : Int) - 1 := by
      simp [IntKind.wrap, IntKind.bits, IntKind.signed]
      omega
    rw [e, Bool.eq_iff_iff]
    simp
    omega
  have FN : Hid (∀ n lst, lst = decide (k + 1 = ls.length) → Calls Tryz.prog 117 #[.pointer (some ⟨wb, 0, none⟩), .int .i64 (z : Int), .bool lst] (w.drewN n) fun e w' => e = .returned (.bool bb) ∧ w' = w.drewN n) := by
    intro n lst hl
    rw [hbb, hl]
    exact needs_any (h.still (Chg.drewN _ _ _)) z hzT _
  have FW : Hid (∀ a bs', Wkp B wb w a → Wrt a B wb tv bn bs' → bs'.length + (wtx bn T z).length ≤ 100000000000000 → Calls Tryz.prog 40 #[.pointer (some ⟨wb, 0, none⟩), .int .i64 (z : Int)] a (WPost w B wb tv bn (bs' ++ wtx bn T z))) := by
    intro a bs' ha hw hl
    refine (IH z a bs' hzm hzT (h.kept ha hw) (Nat.le_trans hBw ha.size) hl).mono ?_
    rintro e w' ⟨rfl, h1, h2⟩
    exact ⟨rfl, ha.trans h1, h2⟩
  have FS : Hid (∀ a bs' (c : UInt8), Wkp B wb w a → Wrt a B wb tv bn bs' → bs'.length + 1 ≤ 100000000000000 → Calls Tryz.prog 67 #[.pointer (some ⟨wb, 0, none⟩), .slice (some ⟨a.heap.size, 0, none⟩) 1 1] (a.alloc (.cells #[.string ⟨#[c]⟩] 9)) (WPost w B wb tv bn (bs' ++ [c]))) := by
    intro a bs' c ha hw hl
    refine (say_any (hw.still (Chg.alloc _ _ _)) [⟨#[c]⟩] a.heap.size (0, 0) (heap_alloc_new a _) (by simp) (by simp [said]; omega) (by simp; have := ha.size; omega)).mono ?_
    rintro e w' ⟨rfl, h1, h2⟩
    exact ⟨rfl, (ha.trans (Wkp.still (Chg.alloc _ _ _))).trans h1, by simpa [said] using h2⟩
  have FC : Hid (∀ a, Wkp B wb w a → a.cell? ⟨qx, 0, none⟩ = some (.pointer (some ⟨wb, 0, none⟩)) ∧ a.cell? ⟨ql, 0, none⟩ = some (.slice la ls.length lc) ∧ qx < a.heap.size ∧ ql < a.heap.size ∧ ∀ g, la = some ⟨g, 0, none⟩ → g < a.heap.size ∧ a.cell? ⟨g, k, none⟩ = some (.int .i64 (z : Int))) := by
    intro a ha
    have hx2 := ha.other h.wrt hx (by decide) (by decide)
    have ht2 := ha.other h.wrt ht (by decide) (by decide)
    refine ⟨by rw [cell_of_row a qx 0 _ _ _ hx2]; rfl, by rw [cell_of_row a ql 0 _ _ _ ht2]; rfl, (Array.getElem?_eq_some_iff.1 hx2).1, (Array.getElem?_eq_some_iff.1 ht2).1, fun g hg => ?_⟩
    obtain ⟨g', e, hg1, _, _, y⟩ := ints_cell (ha.own h.wrt ho (by decide) (by decide)) hk
    rw [hg] at e
    cases e
    rw [hz] at y
    exact ⟨hg1, y⟩
  obtain ⟨g, rfl, hg, hl1, hl2, y0⟩ := ints_cell ho hk
  have HW := hide h.wrt
  unfold maxLen at hl2
  have hk1 : decide ((k : Int) < 0) = false := by simp
  have hk' : (k : Int) < (ls.length : Int) := by omega
  obtain ⟨c1, c2, -, -, c3⟩ := FC.out w (Wkp.refl _ _ _)
  have y1 := (c3 g rfl).2
  clear h hx ht ho hz y0 c3 hbb
  have hwu : Hid (wup bn T z bb = if bb then [40] ++ wtx bn T z ++ [41] else wtx bn T z) := rfl
  generalize wup bn T z bb = tx at *
  generalize wtx bn T z = tz at *
  go_enter Tryz.func116, Tryz.ntmps116
  go_wp2_with fail
  go_quiet ((go_at_call 117; refine Calls.quiet_of_same (FN.out _ _ ?_); rfl))
  cases bb
  · have e := hwu.out
    simp only [Bool.false_eq_true, if_false] at e
    subst e
    obtain ⟨c1, c2, l1, l2, c3⟩ := FC.out _ (Wkp.still (Chg.drewN (fun _ => False) w nq))
    obtain ⟨hg1, y1⟩ := c3 g rfl
    go_wp2_with fail
    go_region_with ((go_at_call 40; refine (FW.out _ bs ?_ ?_ hlen).mono ?_; exact Wkp.still (Chg.drewN (fun _ => False) w _); exact HW.out.still (Chg.drewN (fun _ => False) w _); rintro e w1 ⟨rfl, h1, h2⟩))
    all_goals
      go_wp2
      go_end0
      exact ⟨rfl, h1, h2⟩
  · have e := hwu.out
    simp only [if_true] at e
    subst e
    simp only [List.length_append, List.length_cons, List.length_nil] at hlen
    have hw0 : Wkp B wb w (w.drewN nq) := Wkp.still (Chg.drewN (fun _ => False) w nq)
    obtain ⟨c1, c2, l1, l2, c3⟩ := FC.out _ hw0
    have HS1 := hide (FS.out (w.drewN nq) bs 40 hw0 (HW.out.still (Chg.drewN (fun _ => False) w nq)) (by omega))
    clear c3 hw0
    go_wp2_with fail
    refine HS1.out.mono ?_
    rintro e w1 ⟨rfl, h1, h2⟩
    obtain ⟨d1, d2, m1, m2, d3⟩ := FC.out w1 h1
    obtain ⟨hg1, y2⟩ := d3 g rfl
    have H1 := hide h1
    have H2 := hide h2
    clear h1 h2 d3 HS1
    go_wp2_with fail
    go_region_with ((go_at_call 40; refine (FW.out _ (bs ++ [40]) (H1.out.trans (Wkp.still (Chg.drewN (fun _ => False) w1 1))) (H2.out.still (Chg.drewN (fun _ => False) w1 1)) (by simp; omega)).mono ?_; rintro e w2 ⟨rfl, h3, h4⟩))
    all_goals
      obtain ⟨d4, -, m4, -, -⟩ := FC.out w2 h3
      have HS2 := hide (FS.out w2 _ 41 h3 h4 (by simp; omega))
      clear h3 h4
      go_wp2_with fail
      refine HS2.out.mono ?_
      rintro e w3 ⟨rfl, h5, h6⟩
      go_wp2
      go_end0
      exact ⟨rfl, h5, by simpa using h6⟩
end
end Go.Proofs.YtjojlcfoiknlhaaGreatDoor

namespace Go.Proofs.YtjojlcfoiknlhaaGreatDoor
open Go.RowKit

/-- Some parts, and something between them. -/
def rowb (sep : List UInt8) (f : Nat → List UInt8) : Nat → List UInt8
  | 0 => []
  | n + 1 => rowb sep f n ++ ((if n = 0 then [] else sep) ++ f n)
theorem rowb_le (sep : List UInt8) (f : Nat → List UInt8) {j n : Nat} (h : j ≤ n) : (rowb sep f j).length ≤ (rowb sep f n).length := by
  induction n with
  | zero => have : j = 0 := by omega
            subst this; exact Nat.le_refl _
  | succ n ih =>
    by_cases hj : j = n + 1
    · subst hj; exact Nat.le_refl _
    · have := ih (by omega)
      simp only [rowb, List.length_append]
      omega
theorem rowb_succ (sep : List UInt8) (f : Nat → List UInt8) (j : Nat) : rowb sep f (j + 1) = rowb sep f j ++ ((if j = 0 then [] else sep) ++ f j) := rfl

section
variable {B wb : Nat} {tv : Value} {bn : Wk}

set_option maxHeartbeats 2000000 in
set_option maxRecDepth 100000 in
theorem row_type (w : World) (bs : List UInt8) (h : Wrt w B wb tv bn bs) (hBw : B ≤ w.heap.size) (n : Nat) (hn : n ≤ 1000000) (sep : ByteArray) (c1 c2 : Value) (f : Nat → List UInt8) (hlen : bs.length + (rowb sep.data.toList f n).length ≤ 100000000000000)
    (HP : ∀ (a : World) (j : Nat) (bs' : List UInt8), Wkp B wb w a → Wrt a B wb tv bn bs' → j < n → bs'.length + (f j).length ≤ 100000000000000 → Calls Tryz.prog 74 #[.int .i64 (j : Int), c1, c2] a (WPost w B wb tv bn (bs' ++ f j))) :
    Calls Tryz.prog 73 #[.pointer (some ⟨wb, 0, none⟩), .int .i64 (n : Int), .string sep, .func (.func 74) #[] #[c1, c2]] w (WPost w B wb tv bn (bs ++ rowb sep.data.toList f n)) := by
  have H0 := hide h
  have HPP := hide HP
  have HSZ : Hid (sep.data.toList.length = sep.size) := bl sep
  clear h HP
  go_enter Tryz.func73, Tryz.ntmps73
  go_wp2_with fail
  go_loopw [10] (fun v wr => ∃ (j : Nat), j ≤ n ∧ v = .int .i64 (j : Int) ∧ Hid (Wrt wr B wb tv bn (bs ++ rowb sep.data.toList f j)) ∧ Hid (Wkp B wb w wr)) (fun v _ => n - (intOf v).toNat)
  case atStart => exact ⟨0, Nat.zero_le _, rfl, by simpa [rowb] using H0, Wkp.refl _ _ _⟩
  case round =>
    obtain ⟨j, hj, rfl, WR, CR⟩ := hrel
    by_cases hjl : j < n
    · have hl := rowb_le sep.data.toList f (show j + 1 ≤ n from hjl)
      have HE := hide (rowb_succ sep.data.toList f j)
      rw [rowb_succ] at hl
      simp only [List.length_append] at hl
      have hwl : wb < wr.heap.size := WR.out.tys.2.2
      by_cases hj0 : j = 0
      · have HC := hide (HPP.out wr j _ CR.out WR.out hjl (by simp only [List.length_append]; omega))
        simp only [hj0, if_true, List.nil_append] at HE
        subst hj0
        have CR2 := hide CR.out
        clear CR WR hl
        go_wp2_with fail
        refine HC.out.mono ?_
        rintro e w1 ⟨rfl, hk, hw⟩
        have HK := hide hk
        have HWr := hide hw
        clear hk hw
        go_wp2
        go_roundw
        case rel => exact ⟨0 + 1, by omega, by go_num, by rw [HE.out, ← List.append_assoc]; exact HWr.out, HK.out⟩
        case measure => simp [intOf]; omega
      · simp only [hj0, if_false] at HE hl
        have hpos : (0 : Int) < (j : Int) := by omega
        have HW := hide (writeString_any WR.out sep (by have := HSZ.out; simp only [List.length_append]; omega) (Nat.le_trans hBw CR.out.size))
        have CR2 := hide CR.out
        have HL := hide hl
        clear CR WR hl
        go_wp2_with fail
        refine HW.out.mono ?_
        rintro e w1 ⟨rfl, hk, hw⟩
        have HC := hide (HPP.out w1 j _ (CR2.out.trans hk) hw hjl (by have := HL.out; simp only [List.length_append]; omega))
        clear hk hw HW
        go_wp2_with fail
        refine HC.out.mono ?_
        rintro e w2 ⟨rfl, hk, hw⟩
        have HK := hide hk
        have HWr := hide hw
        clear hk hw
        go_wp2
        go_roundw
        case rel => exact ⟨j + 1, by omega, by go_num, by rw [HE.out]; simpa using HWr, HK.out⟩
        case measure => simp [intOf]; omega
    · have hje : j = n := by omega
      subst hje
      go_wp2_with fail
      go_end0
      exact ⟨rfl, CR.out, WR.out⟩

set_option maxHeartbeats 2000000 in
set_option maxRecDepth 100000 in
theorem row_union (w : World) (bs : List UInt8) (h : Wrt w B wb tv bn bs) (hBw : B ≤ w.heap.size) (n : Nat) (hn : n ≤ 1000000) (sep : ByteArray) (c1 c2 : Value) (f : Nat → List UInt8) (hlen : bs.length + (rowb sep.data.toList f n).length ≤ 100000000000000)
    (HP : ∀ (a : World) (j : Nat) (bs' : List UInt8), Wkp B wb w a → Wrt a B wb tv bn bs' → j < n → bs'.length + (f j).length ≤ 100000000000000 → Calls Tryz.prog 116 #[.int .i64 (j : Int), c1, c2] a (WPost w B wb tv bn (bs' ++ f j))) :
    Calls Tryz.prog 73 #[.pointer (some ⟨wb, 0, none⟩), .int .i64 (n : Int), .string sep, .func (.func 116) #[] #[c1, c2]] w (WPost w B wb tv bn (bs ++ rowb sep.data.toList f n)) := by
  have H0 := hide h
  have HPP := hide HP
  have HSZ : Hid (sep.data.toList.length = sep.size) := bl sep
  clear h HP
  go_enter Tryz.func73, Tryz.ntmps73
  go_wp2_with fail
  go_loopw [10] (fun v wr => ∃ (j : Nat), j ≤ n ∧ v = .int .i64 (j : Int) ∧ Hid (Wrt wr B wb tv bn (bs ++ rowb sep.data.toList f j)) ∧ Hid (Wkp B wb w wr)) (fun v _ => n - (intOf v).toNat)
  case atStart => exact ⟨0, Nat.zero_le _, rfl, by simpa [rowb] using H0, Wkp.refl _ _ _⟩
  case round =>
    obtain ⟨j, hj, rfl, WR, CR⟩ := hrel
    by_cases hjl : j < n
    · have hl := rowb_le sep.data.toList f (show j + 1 ≤ n from hjl)
      have HE := hide (rowb_succ sep.data.toList f j)
      rw [rowb_succ] at hl
      simp only [List.length_append] at hl
      have hwl : wb < wr.heap.size := WR.out.tys.2.2
      by_cases hj0 : j = 0
      · have HC := hide (HPP.out wr j _ CR.out WR.out hjl (by simp only [List.length_append]; omega))
        simp only [hj0, if_true, List.nil_append] at HE
        subst hj0
        have CR2 := hide CR.out
        clear CR WR hl
        go_wp2_with fail
        refine HC.out.mono ?_
        rintro e w1 ⟨rfl, hk, hw⟩
        have HK := hide hk
        have HWr := hide hw
        clear hk hw
        go_wp2
        go_roundw
        case rel => exact ⟨0 + 1, by omega, by go_num, by rw [HE.out, ← List.append_assoc]; exact HWr.out, HK.out⟩
        case measure => simp [intOf]; omega
      · simp only [hj0, if_false] at HE hl
        have hpos : (0 : Int) < (j : Int) := by omega
        have HW := hide (writeString_any WR.out sep (by have := HSZ.out; simp only [List.length_append]; omega) (Nat.le_trans hBw CR.out.size))
        have CR2 := hide CR.out
        have HL := hide hl
        clear CR WR hl
        go_wp2_with fail
        refine HW.out.mono ?_
        rintro e w1 ⟨rfl, hk, hw⟩
        have HC := hide (HPP.out w1 j _ (CR2.out.trans hk) hw hjl (by have := HL.out; simp only [List.length_append]; omega))
        clear hk hw HW
        go_wp2_with fail
        refine HC.out.mono ?_
        rintro e w2 ⟨rfl, hk, hw⟩
        have HK := hide hk
        have HWr := hide hw
        clear hk hw
        go_wp2
        go_roundw
        case rel => exact ⟨j + 1, by omega, by go_num, by rw [HE.out]; simpa using HWr, HK.out⟩
        case measure => simp [intOf]; omega
    · have hje : j = n := by omega
      subst hje
      go_wp2_with fail
      go_end0
      exact ⟨rfl, CR.out, WR.out⟩
end
end Go.Proofs.YtjojlcfoiknlhaaGreatDoor

namespace Go.Proofs.YtjojlcfoiknlhaaGreatDoor
open Go.RowKit

section
variable {B wb : Nat} {tv : Value} {bn : Wk} {T : List M.Ty} {m : Nat}

/-- One part of a union, by its place. -/
def wus (bn : Wk) (T : List M.Ty) (ls : List Int) (j : Nat) : List UInt8 := wup bn T (ls.getD j 0).toNat (brk (T.getD (ls.getD j 0).toNat M.ty0).kind (decide (j + 1 = ls.length)))

set_option maxHeartbeats 1000000 in
theorem wunion_any (IH : WCon B wb tv bn T m) (w : World) (bs : List UInt8) (h : Wsp w B wb tv bn T bs) (hBw : B ≤ w.heap.size) (la : Option Addr) (lc : Nat) (ls : List Int) (hn : ls.length ≤ 100000) (hin : ∀ x ∈ ls, 0 ≤ x ∧ x < T.length ∧ x + 1 ≤ m) (ho : w.ownsRow 0 3 1 (.slice la ls.length lc) ls.length (ints ls)) (hlen : bs.length + (rowb [32, 124, 32] (wus bn T ls) ls.length).length ≤ 100000000000000) :
    Calls Tryz.prog 75 #[.pointer (some ⟨wb, 0, none⟩), .slice la ls.length lc] w (WPost w B wb tv bn (bs ++ rowb [32, 124, 32] (wus bn T ls) ls.length)) := by
  have HR : Hid (∀ a, a = (w.alloc (.cells #[.pointer (some ⟨wb, 0, none⟩)] 84)).alloc (.cells #[.slice la ls.length lc] 43) → Calls Tryz.prog 73 #[.pointer (some ⟨wb, 0, none⟩), .int .i64 (ls.length : Int), .string ⟨#[32, 124, 32]⟩, .func (.func 116) #[] #[.pointer (some ⟨w.heap.size, 0, none⟩), .pointer (some ⟨w.heap.size + 1, 0, none⟩)]] a (WPost w B wb tv bn (bs ++ rowb [32, 124, 32] (wus bn T ls) ls.length))) := by
    intro a ha
    have hc : Chg (fun _ => False) w a := by subst ha; exact (Chg.alloc (fun _ => False) _ _).trans (Chg.alloc (fun _ => False) _ _) (fun _ _ x => x)
    have hs := h.still hc
    have hx : a.heap[w.heap.size]? = some (.cells #[.pointer (some ⟨wb, 0, none⟩)] 84 (0, 0)) := by
      subst ha
      rw [Below.heap_alloc _ _ _ (by simp)]
      exact heap_alloc_new w _
    have ht : a.heap[w.heap.size + 1]? = some (.cells #[.slice la ls.length lc] 43 (0, 0)) := by
      subst ha
      have := heap_alloc_new (w.alloc (.cells #[.pointer (some ⟨wb, 0, none⟩)] 84)) (.cells #[.slice la ls.length lc] 43)
      simpa using this
    have ho2 : a.ownsRow 0 3 1 (.slice la ls.length lc) ls.length (ints ls) := owns_chg ho hc (fun _ _ x => x)
    refine (row_union a bs hs.wrt (Nat.le_trans hBw hc.size) ls.length (by omega) ⟨#[32, 124, 32]⟩ _ _ (wus bn T ls) hlen ?_).mono ?_
    · intro a2 j bs' hk hw hj hl
      have hxx := hin ls[j] (List.getElem_mem hj)
      obtain ⟨z, hz⟩ : ∃ z : Nat, ls[j] = (z : Int) := ⟨ls[j].toNat, by omega⟩
      have hzT : z < T.length := by omega
      have e : wus bn T ls j = wup bn T z (brk T[z].kind (decide (j + 1 = ls.length))) := by
        unfold wus
        rw [show ls.getD j 0 = (z : Int) from by simp [hj, hz], Int.toNat_natCast, M.getD_at hzT]
      rw [e] at hl ⊢
      refine (union1_any IH a2 bs' (hs.kept hk hw) (Nat.le_trans hBw (Nat.le_trans hc.size hk.size)) j w.heap.size (w.heap.size + 1) la lc ls hj z hz (by omega) hzT _ rfl hl (hk.other hs.wrt hx (by decide) (by decide)) (hk.other hs.wrt ht (by decide) (by decide)) (hk.own hs.wrt ho2 (by decide) (by decide))).mono ?_
      rintro e w' ⟨rfl, h1, h2⟩
      exact ⟨rfl, hk.trans h1, h2⟩
    · rintro e w' ⟨rfl, h1, h2⟩
      exact ⟨rfl, (Wkp.still hc).trans h1, h2⟩
  clear h ho hin hlen
  generalize rowb [32, 124, 32] (wus bn T ls) ls.length = tx at *
  go_enter Tryz.func75, Tryz.ntmps75
  go_wp2_with fail
  refine (HR.out _ rfl).mono ?_
  rintro e w1 ⟨rfl, h1, h2⟩
  go_wp2
  go_end0
  exact ⟨rfl, h1, h2⟩
end
end Go.Proofs.YtjojlcfoiknlhaaGreatDoor

namespace Go.Proofs.YtjojlcfoiknlhaaGreatDoor

def rowx (sep : List UInt8) (f : Nat → List UInt8) : Nat → List UInt8
  | 0 => []
  | n + 1 => rowx sep f n ++ (sep ++ f n)
theorem rowx_cons (sep : List UInt8) (f : Nat → List UInt8) : ∀ n, rowx sep f (n + 1) = sep ++ f 0 ++ rowx sep (fun j => f (j + 1)) n
  | 0 => by simp [rowx]
  | n + 1 => by
    rw [rowx, rowx_cons sep f n, rowx]
    simp
theorem rowb_cons (sep : List UInt8) (f : Nat → List UInt8) : ∀ n, rowb sep f (n + 1) = f 0 ++ rowx sep (fun j => f (j + 1)) n
  | 0 => by simp [rowb, rowx]
  | n + 1 => by
    rw [rowb, rowb_cons sep f n, rowx]
    simp
theorem rowb_congr (sep : List UInt8) {f g : Nat → List UInt8} : ∀ n, (∀ j, j < n → f j = g j) → rowb sep f n = rowb sep g n
  | 0, _ => rfl
  | n + 1, h => by rw [rowb, rowb, rowb_congr sep n (fun j hj => h j (by omega)), h n (by omega)]

/-- A type that is none. -/
def tr0 : M.Tr := .nd 0 [] []
theorem txtC_false : ∀ r : List M.Tr, M.txtC false r = rowx [44, 32] (fun j => M.txt' (r.getD j tr0)) r.length
  | [] => by simp [M.txtC, rowx]
  | t :: r => by
    rw [M.txtC, txtC_false r, List.length_cons, rowx_cons]
    simp
theorem txtC_true : ∀ r : List M.Tr, M.txtC true r = rowb [44, 32] (fun j => M.txt' (r.getD j tr0)) r.length
  | [] => by simp [M.txtC, rowb]
  | t :: r => by
    rw [M.txtC, txtC_false r, List.length_cons, rowb_cons]
    simp

/-- A part of a union. -/
def upt (t : M.Tr) (last : Bool) : List UInt8 := if brk t.k last then [40] ++ M.txt' t ++ [41] else M.txt' t
theorem upt_eq (t : M.Tr) (r : List M.Tr) : (if t.k = 10 ∨ t.k = 9 ∧ r.length ≠ 0 then [40] ++ M.txt' t ++ [41] else M.txt' t) = upt t (decide (0 + 1 = (t :: r).length)) := by
  unfold upt brk
  have e : decide (0 + 1 = (t :: r).length) = decide (r.length = 0) := by
    rw [Bool.eq_iff_iff]; simp
  rw [e]
  by_cases h10 : t.k = 10
  · simp [h10]
  · by_cases h9 : t.k = 9
    · by_cases hr : r.length = 0 <;> simp [h9, hr]
    · simp [h10, h9]
theorem txtU_false : ∀ r : List M.Tr, M.txtU false r = rowx [32, 124, 32] (fun j => upt (r.getD j tr0) (decide (j + 1 = r.length))) r.length
  | [] => by simp [M.txtU, rowx]
  | t :: r => by
    rw [M.txtU, txtU_false r, upt_eq, List.length_cons, rowx_cons]
    simp
theorem txtU_true : ∀ r : List M.Tr, M.txtU true r = rowb [32, 124, 32] (fun j => upt (r.getD j tr0) (decide (j + 1 = r.length))) r.length
  | [] => by simp [M.txtU, rowb]
  | t :: r => by
    rw [M.txtU, txtU_false r, upt_eq, List.length_cons, rowb_cons]
    simp

theorem wtr_k (bn : Wk) (t : M.Tr) : (wtr bn t).k = t.k := by
  unfold wtr
  split
  · exact M.srt_k t
  · rfl
theorem wtr_ne (bn : Wk) {k : Int} {ns : List (List UInt8)} {ks : List M.Tr} (h : k ≠ 7) : wtr bn (.nd k ns ks) = .nd k ns (ks.map (wtr bn)) := by
  cases hb : bn.b
  · have e : wtr bn = id := by funext t; simp [wtr, hb]
    rw [e]
    simp
  · have e : wtr bn = M.srt := by funext t; simp [wtr, hb]
    rw [e]
    exact M.srt_ne h

section
variable {bn : Wk} {T : List M.Ty} {i : Nat}
theorem wtx_plain (hT : M.TsOk T) (hi : i < T.length) (h1 : 1 ≤ T[i].kind) (h2 : T[i].kind ≤ 6) : wtx bn T i = M.word T[i].kind := by
  unfold wtx
  rw [M.tr_eq hT hi, wtr_ne bn (by omega), M.txt', if_neg (by omega), if_neg (by omega), if_neg (by omega), if_neg (by omega)]
theorem wtx_arr (hT : M.TsOk T) (hi : i < T.length) (h : T[i].kind = 8) : wtx bn T i = [91] ++ wtx bn T T[i].of'.toNat ++ [93] := by
  unfold wtx
  rw [M.tr_eq hT hi, wtr_ne bn (by omega), M.txt', if_neg (by omega), if_pos h, if_pos (.inl h)]
  simp [M.txtH]
theorem no_fields (hT : M.TsOk T) (hi : i < T.length) (h : T[i].kind = 9 ∨ T[i].kind = 10) : T[i].fields = [] := by
  rcases hT i hi with ht | ht | ht | ht | ht
  · omega
  · omega
  · omega
  · exact ht.2.1
  · exact ht.2.1
theorem wtx_fn (hT : M.TsOk T) (hi : i < T.length) (h : T[i].kind = 9) : wtx bn T i = [40] ++ rowb [44, 32] (fun j => wtx bn T (T[i].list.getD j 0).toNat) T[i].list.length ++ [41, 32, 61, 62, 32] ++ wtx bn T T[i].of'.toNat := by
  have e : rowb [44, 32] (fun j => wtx bn T (T[i].list.getD j 0).toNat) T[i].list.length = M.txtC true ((T[i].list.map fun x => M.tr T x.toNat).map (wtr bn)) := by
    rw [txtC_true, List.length_map, List.length_map]
    refine rowb_congr _ _ fun j hj => ?_
    unfold wtx
    simp [hj]
  rw [e]
  unfold wtx
  rw [M.tr_eq hT hi, wtr_ne bn (by omega), M.txt', if_neg (by omega), if_neg (by omega), if_pos h, if_pos (.inr h), no_fields hT hi (.inl h)]
  simp [M.txtB]
theorem wtx_uni (hT : M.TsOk T) (hi : i < T.length) (h : T[i].kind = 10) : wtx bn T i = rowb [32, 124, 32] (wus bn T T[i].list) T[i].list.length := by
  have e : rowb [32, 124, 32] (wus bn T T[i].list) T[i].list.length = M.txtU true ((T[i].list.map fun x => M.tr T x.toNat).map (wtr bn)) := by
    rw [txtU_true, List.length_map, List.length_map]
    refine rowb_congr _ _ fun j hj => ?_
    have hx := (hT i hi).lst T[i].list[j] (List.getElem_mem hj)
    have hz : T[i].list[j].toNat < T.length := by omega
    unfold wus wup upt wtx
    have e1 : (M.tr T T[i].list[j].toNat).k = T[T[i].list[j].toNat].kind := by rw [M.tr_eq hT hz]; rfl
    simp [hj, wtr_k, e1, hz]
  rw [e]
  unfold wtx
  rw [M.tr_eq hT hi, wtr_ne bn (by omega), M.txt', if_neg (by omega), if_neg (by omega), if_neg (by omega), if_pos h, if_neg (by omega), no_fields hT hi (.inr h)]
  simp
end
end Go.Proofs.YtjojlcfoiknlhaaGreatDoor

namespace Go.Proofs.YtjojlcfoiknlhaaGreatDoor
open Go.RowKit

set_option maxHeartbeats 1000000 in
set_option maxRecDepth 100000 in
theorem bstring_any {w : World} {B wb : Nat} {tv : Value} {bn : Wk} {l : List UInt8} (h : Wrt w B wb tv bn l) (h0 : l ≠ []) :
    Calls Tryz.prog 38 #[.pointer (some ⟨wb, 0, none⟩)] w fun e w' => e = .returned (.string ⟨l.toArray⟩) ∧ Below B w w' := by
  obtain ⟨hB, p, v, hbk, _, hown⟩ := h
  have hl0 : l.length ≠ 0 := by simpa using h0
  obtain ⟨g, cap, cur, rfl, hbg, hg, hnc, hcm, hcs, htake⟩ : ∃ g cap cur, v = .slice (some ⟨g, 0, none⟩) l.length cap ∧ B ≤ g ∧ w.heap[g]? = some (.cells cur 5 (0, 0)) ∧ l.length ≤ cap ∧ cap ≤ maxLen ∧ cur.size = cap * 1 ∧ cur.toList.take (l.length * 1) = Lib.byteCells l := by
    rcases hown.2 with ⟨_, hz⟩ | ⟨g, cap, cur, hv, r⟩
    · exact absurd hz hl0
    · exact ⟨g, cap, cur, hv, r⟩
  have c1 : w.drew.cell? ⟨wb, 1, none⟩ = some (.slice (some ⟨g, 0, none⟩) l.length cap) := by
    have : w.drew.heap[wb]? = some (.cells (#[p, .slice (some ⟨g, 0, none⟩) l.length cap, tv, .bool bn.b] ++ bn.rest) bn.e (0, 0)) := hbk
    rw [cell_of_row w.drew wb 1 _ _ _ this]; exact head_get1
  have hSD : (Builtin.unsafeSliceData_ #[74] 110 #[.slice (some ⟨g, 0, none⟩) l.length cap]).run Tryz.prog w.drew = .ok (.pointer (some ⟨g, 0, none⟩)) w.drew :=
    Lib.run_unsafeSliceData_row _ _ _ _ _ _ (by omega)
  have hUS : (Builtin.unsafeString_ #[110, 3] 9 #[.pointer (some ⟨g, 0, none⟩), .int .i64 l.length]).run Tryz.prog w.drew = .ok (.string ⟨l.toArray⟩) (w.drew.freeze ⟨g, 0, none⟩ l.length) := by
    refine Lib.run_unsafeString_row w.drew 110 3 9 5 Tryz.underlying110 Tryz.cellsByte g cur.size (by have hg' : w.drew.heap[g]? = some (.cells cur 5 (0, 0)) := hg; simp [World.shape?, hg']) l h0 (by omega) (by unfold maxLen at hcm; omega) ?_
    intro j x hx
    have := hown.cells (g := g) rfl j (.int .u8 x.toNat) (by simp [Lib.byteCells, hx])
    exact this
  clear hown hbk htake hg hcs
  go_enter Tryz.func38, Tryz.ntmps38
  go_wp2
  go_region
  all_goals (go_wp2; go_ret; exact ⟨rfl, Lib.below_freeze (Below.drew (Below.refl B w)) (p := ⟨g, 0, none⟩) hbg _⟩)
end Go.Proofs.YtjojlcfoiknlhaaGreatDoor
