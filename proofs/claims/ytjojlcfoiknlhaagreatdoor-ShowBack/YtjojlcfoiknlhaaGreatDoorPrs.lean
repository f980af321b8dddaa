/-
  The contract of tree.Parse: it returns the nodes and types of the text, in memory of its own, or the first fault.
-/
import Derived.Test.YtjojlcfoiknlhaaGreatDoorNodeF
import Derived.Test.YtjojlcfoiknlhaaGreatDoorNodeE
import Derived.Test.YtjojlcfoiknlhaaGreatDoorScanC
import Derived.Test.YtjojlcfoiknlhaaGreatDoorPlainC
namespace Go.Proofs.YtjojlcfoiknlhaaGreatDoor
open Go.RowKit

/-- Nodes that lie in memory from a block on. -/
def NdOwn (w : World) (lo : Nat) (v : Value) (N : List M.Nd) : Prop := ∃ nx, w.ownsRow lo 63 9 v N.length nx ∧ Rws (NdV w (fun g => lo ≤ g)) N nx

def PrAns (l : List UInt8) (w : World) (e : Ending) (w' : World) : Prop :=
  Below w.heap.size w w' ∧ ((∃ er p, M.PRes l (.inl (er, p)) ∧ e = .returned (.tuple #[.agg #[.slice none 0 0, .slice none 0 0, .int .i64 0], .agg #[.int .i64 er, .int .i64 p]])) ∨
    ∃ N T na nc ya yc, M.PRes l (.inr (N, T)) ∧ e = .returned (.tuple #[.agg #[.slice na N.length nc, .slice ya T.length yc, .int .i64 ((N.length : Int) - 1)], .agg #[.int .i64 0, .int .i64 0]]) ∧ NdOwn w' w.heap.size (.slice na N.length nc) N ∧ TyOwn w' w.heap.size (.slice ya T.length yc) T)

/-- Only the two results' blocks, and what is new, have changed. -/
def Res2 (w0 : Nat) (w w' : World) : Prop := Chg (fun k => k = w0 ∨ k = w0 + 1) w w'

theorem prs_bad {w w4 w9 : World} {l : List UInt8} {er p : Int} (hb : Below w.heap.size w w4) (hc : Res2 w.heap.size w4 w9) (ht : M.PRes l (.inl (er, p))) :
    PrAns l w (.returned (.tuple #[.agg #[.slice none 0 0, .slice none 0 0, .int .i64 0], .agg #[.int .i64 er, .int .i64 p]])) w9 :=
  ⟨hb.trans (Chg.toBelow hc (fun i hi x => by rcases x with x | x <;> omega) hb.size), .inl ⟨er, p, ht, rfl⟩⟩

theorem prs_good {w w4 w9 : World} {l : List UInt8} {na ya : Option Addr} {nc yc : Nat} {N : List M.Nd} {T : List M.Ty} {nx yx : List Value} {cs cs' : Array Value} (hb : Below w.heap.size w w4) (hc : Res2 w.heap.size w4 w9)
    (hq : w4.heap[w.heap.size]? = some (.cells cs 25 (0, 0))) (hq' : w4.heap[w.heap.size + 1]? = some (.cells cs' 28 (0, 0)))
    (hn : w4.ownsRow w.heap.size 63 9 (.slice na N.length nc) N.length nx) (hrn : Rws (NdV w4 (fun g => w.heap.size ≤ g)) N nx)
    (ho : w4.ownsRow w.heap.size 66 4 (.slice ya T.length yc) T.length yx) (hr : Rws (TyV w4 (fun g => w.heap.size ≤ g)) T yx) (ht : M.PRes l (.inr (N, T))) :
    PrAns l w (.returned (.tuple #[.agg #[.slice na N.length nc, .slice ya T.length yc, .int .i64 ((N.length : Int) - 1)], .agg #[.int .i64 0, .int .i64 0]])) w9 := by
  have key : ∀ g, (g = w.heap.size ∨ g = w.heap.size + 1) → ∀ cur e fz, w4.heap[g]? = some (.cells cur e fz) → e = 25 ∨ e = 28 := by
    rintro g (rfl | rfl) cur e fz hh
    · rw [hq] at hh
      simp only [Option.some.injEq, Obj.cells.injEq] at hh
      exact .inl hh.2.1.symm
    · rw [hq'] at hh
      simp only [Option.some.injEq, Obj.cells.injEq] at hh
      exact .inr hh.2.1.symm
  have k2 : ∀ g, w.heap.size ≤ g → g < w4.heap.size → (g = w.heap.size ∨ g = w.heap.size + 1) → (∃ cur e, w4.heap[g]? = some (.cells cur e (0, 0)) ∧ (e = 71 ∨ e = 3)) → False := by
    rintro g _ _ hx ⟨cur, e, hh, he⟩
    rcases key g hx _ _ _ hh with rfl | rfl <;> rcases he with he | he <;> exact absurd he (by decide)
  refine ⟨hb.trans (Chg.toBelow hc (fun i hi x => by rcases x with x | x <;> omega) hb.size), .inr ⟨N, T, na, nc, ya, yc, ht, rfl, ⟨nx, owns_chg hn hc (fun g hg hx => ?_), hrn.imp (NdV.chg hc k2 (fun _ x _ => x))⟩, ⟨yx, owns_chg ho hc (fun g hg hx => ?_), hr.imp (TyV.chg hc k2 (fun _ x _ => x))⟩⟩⟩
  · obtain ⟨_, cur, hh⟩ := owns_tag hn g hg
    rcases key g hx _ _ _ hh with h | h <;> exact absurd h (by decide)
  · obtain ⟨_, cur, hh⟩ := owns_tag ho g hg
    rcases key g hx _ _ _ hh with h | h <;> exact absurd h (by decide)

theorem Res2.put {w0 : Nat} {a b : World} {q o : Nat} {v : Value} (h : Res2 w0 a b) (hq : q = w0 ∨ q = w0 + 1) : Res2 w0 a (b.setCell ⟨q, o, none⟩ v) :=
  Chg.trans h (Chg.set b ⟨q, o, none⟩ v) (fun i _ x => by have x' : i = q := x; subst x'; exact hq)
theorem Res2.drew {w0 : Nat} {a b : World} (h : Res2 w0 a b) : Res2 w0 a b.drew := Chg.trans h (Chg.drewN (fun _ => False) b 1) (fun _ _ x => x.elim)
theorem Res2.alloc {w0 : Nat} {a b : World} {o : Obj} (h : Res2 w0 a b) : Res2 w0 a (b.alloc o) := Chg.trans h (Chg.alloc (fun _ => False) b o) (fun _ _ x => x.elim)

theorem res5 {w0 : Nat} {a : World} {v0 v1 v2 v3 v4 : Value} {o : Obj} : Res2 w0 a (((((((a.setCell ⟨w0, 0, none⟩ v0).setCell ⟨w0, 1, none⟩ v1).setCell ⟨w0, 2, none⟩ v2).setCell ⟨w0 + 1, 0, none⟩ v3).setCell ⟨w0 + 1, 1, none⟩ v4).alloc o).drew) :=
  ((((((Res2.put (Chg.refl _ _) (.inl rfl)).put (.inl rfl)).put (.inl rfl)).put (.inr rfl)).put (.inr rfl)).alloc).drew

theorem kept_result {B : Nat} {ok : Nat → Prop} {w w' : World} {q : Nat} {cs : Array Value} {e : TypeId} (hk : Kept B ok w w') (h : w.heap[q]? = some (.cells cs e (0, 0))) (he : e ≠ 53 ∧ e ≠ 63 ∧ e ≠ 66) : w'.heap[q]? = some (.cells cs e (0, 0)) := kept_block hk h he

set_option maxHeartbeats 4000000 in
set_option maxRecDepth 100000 in
theorem parse_any (s : ByteArray) (w : World) (hs : s.size ≤ maxLen) : Calls Tryz.prog 9 #[.string s] w (PrAns s.data.toList w) := by
  have HS := fun w1 => scan_any s w1 hs
  go_enter Tryz.func9, Tryz.ntmps9
  go_wp2_with fail
  refine (HS _).mono ?_
  clear HS
  rintro e w1 ⟨ad, c, rfl, ho, hb⟩
  have hz : w.heap.size + 1 < w1.heap.size := by have := hb.size; simp at this; omega
  have hza : w.heap.size < w1.heap.size := by omega
  have QP : Hid (w1.heap[w.heap.size]? = some (.cells #[.slice none 0 0, .slice none 0 0, .int .i64 0] 25 (0, 0))) := by
    show _ = _
    rw [hb.block w.heap.size (by simp; omega), Below.heap_alloc _ _ _ (by simp)]
    exact heap_alloc_new w _
  have QF : Hid (w1.heap[w.heap.size + 1]? = some (.cells #[.int .i64 0, .int .i64 0] 28 (0, 0))) := by
    show _ = _
    rw [hb.block (w.heap.size + 1) (by simp)]
    have := heap_alloc_new (w.alloc (.cells #[.slice none 0 0, .slice none 0 0, .int .i64 0] 25)) (.cells #[.int .i64 0, .int .i64 0] 28)
    simpa using this
  have HB := hide ((((Below.refl w.heap.size w).alloc (Nat.le_refl _) (.cells #[.slice none 0 0, .slice none 0 0, .int .i64 0] 25)).alloc (by simp) (.cells #[.int .i64 0, .int .i64 0] 28)).trans (hb.mono (by simp; omega)))
  have HO := hide (owns_base ho (by simp; omega : w.heap.size ≤ _))
  clear hb ho
  by_cases he : (M.scan s.data.toList).2.1 = 0
  · have he' : ((M.scan s.data.toList).2.1 != 0) = false := by simp [he]
    obtain ⟨hl1, hl0, hl2⟩ := M.scan_last _ he
    have hw1 : w.heap.size ≤ w1.heap.size := by omega
    have HW := whole_prog_any (w := (w1.alloc (.cells #[.int .i64 0, .int .i64 ((M.scan s.data.toList).2.2 : Int)] 28)).alloc (.cells #[.slice ad (M.scan s.data.toList).1.length c, .int .i64 0, .int .i64 0, .slice none 0 0, .slice none 0 0] 53))
      (B := w.heap.size) (pb := w1.heap.size + 1) (ok := fun g => w.heap.size ≤ g) ⟨hl1, hl2⟩ (fun m => (con_all ⟨hl1, hl2⟩ (M.nuL_scan _) m).2.2.2) (fun g hg => by simp at hg; omega) (by simp; omega) (pst_new (by simp) (by simp; omega) (fun g hg => by simp at hg; omega) hl0 (HO.out.alloc _))
    have HZ := hide he
    clear HO hl2
    go_wp2_with fail
    refine HW.mono ?_
    clear HW
    rintro e w4 ⟨hk, o, hev, hm⟩
    have QP4 : Hid (w4.heap[w.heap.size]? = some (.cells #[.slice none 0 0, .slice none 0 0, .int .i64 0] 25 (0, 0))) :=
      kept_result hk (by rw [Below.heap_alloc _ _ _ (by simp; omega), Below.heap_alloc _ _ _ hza]; exact QP.out) (by decide)
    have QF4 : Hid (w4.heap[w.heap.size + 1]? = some (.cells #[.int .i64 0, .int .i64 0] 28 (0, 0))) :=
      kept_result hk (by rw [Below.heap_alloc _ _ _ (by simp; omega), Below.heap_alloc _ _ _ hz]; exact QF.out) (by decide)
    have z4 : w.heap.size + 1 < w4.heap.size := by have := hk.size; simp at this; omega
    have z5 : w.heap.size < w4.heap.size := by omega
    have B4 := hide (((HB.out.alloc hw1 _).alloc (by simp; omega) _).trans (hk.below (by simp; omega)))
    have E4 := hide hev
    have q0 : w4.cell? ⟨w.heap.size, 0, none⟩ = some (.slice none 0 0) := by rw [cell_of_row w4 _ 0 _ _ _ QP4.out]; rfl
    have q1 : w4.cell? ⟨w.heap.size, 1, none⟩ = some (.slice none 0 0) := by rw [cell_of_row w4 _ 1 _ _ _ QP4.out]; rfl
    have q2 : w4.cell? ⟨w.heap.size, 2, none⟩ = some (.int .i64 0) := by rw [cell_of_row w4 _ 2 _ _ _ QP4.out]; rfl
    have qf : ∀ o, w4.frozen? ⟨w.heap.size, o, none⟩ = false := fun o => frozen_of_row w4 _ o _ _ QP4.out
    have p0 : w4.cell? ⟨w.heap.size + 1, 0, none⟩ = some (.int .i64 0) := by rw [cell_of_row w4 _ 0 _ _ _ QF4.out]; rfl
    have p1 : w4.cell? ⟨w.heap.size + 1, 1, none⟩ = some (.int .i64 0) := by rw [cell_of_row w4 _ 1 _ _ _ QF4.out]; rfl
    have pf : ∀ o, w4.frozen? ⟨w.heap.size + 1, o, none⟩ = false := fun o => frozen_of_row w4 _ o _ _ QF4.out
    clear hk hev hz hza HB QP QF
    cases o with
    | fail er p =>
      obtain ⟨rfl, hne⟩ := hm
      have hne' : (er != 0) = true := by simp [hne]
      have TR := hide (show M.PRes s.data.toList (.inl (er, p)) from ⟨hne, .inr ⟨HZ.out, .inl E4.out⟩⟩)
      clear E4
      go_wp2_with fail
      go_region
      all_goals go_wp2_with fail
      exact bodyPost_ret (v := .tuple #[.agg #[.slice none 0 0, .slice none 0 0, .int .i64 0], .agg #[.int .i64 er, .int .i64 p]]) (by simp [results, Tryz.results9, go_sem, q0, q1, q2, p0, p1, z4, z5]) rfl (prs_bad B4.out res5 TR.out)
    | ok s' x =>
      by_cases h6 : (M.tk (M.scan s.data.toList).1 s'.i).kind = 6
      · simp only [h6, if_true] at hm
        by_cases hmany : 1200 < s'.N.length ∨ 300 < s'.T.length
        · rw [if_pos hmany] at hm
          subst hm
          have TR := hide (show M.PRes s.data.toList (.inl (2, 0)) from ⟨by decide, .inr ⟨HZ.out, .inr ⟨s', x, E4.out, hmany, rfl, rfl⟩⟩⟩)
          clear hmany h6
          have hne' : ((2 : Int) != 0) = true := by decide
          clear E4
          go_wp2_with fail
          go_region
          all_goals go_wp2_with fail
          exact bodyPost_ret (v := .tuple #[.agg #[.slice none 0 0, .slice none 0 0, .int .i64 0], .agg #[.int .i64 2, .int .i64 0]]) (by simp [results, Tryz.results9, go_sem, q0, q1, q2, p0, p1, z4, z5]) rfl (prs_bad B4.out res5 TR.out)
        · rw [if_neg hmany] at hm
          obtain ⟨rfl, hp⟩ := hm
          have TR := hide (show M.PRes s.data.toList (.inr (s'.N, s'.T)) from ⟨HZ.out, s', x, E4.out, by omega, by omega, rfl, rfl⟩)
          obtain ⟨nv, yv, nx, yx, hb, hn, hy, hrn, hry⟩ := hp.blk
          obtain ⟨na, nc, rfl⟩ := owns_form hn
          obtain ⟨ya, yc, rfl⟩ := owns_form hy
          have c3 : w4.cell? ⟨w1.heap.size + 1, 3, none⟩ = some (.slice na s'.N.length nc) := by rw [cell_of_row w4 _ 3 _ _ _ hb]; rfl
          have c4 : w4.cell? ⟨w1.heap.size + 1, 4, none⟩ = some (.slice ya s'.T.length yc) := by rw [cell_of_row w4 _ 4 _ _ _ hb]; rfl
          have hlt := (Array.getElem?_eq_some_iff.1 hb).1
          have hsm : s'.N.length ≤ 1200 := by omega
          have OO := hide hy
          have RR := hide hry
          have ON := hide hn
          have RN := hide hrn
          clear hp hb hn hy hrn hry hmany h6 E4
          generalize hnn : s'.N.length = nn at *
          have HNN := hide hnn
          clear hnn
          go_wp2_with fail
          go_region
          go_wp2_with fail
          have hnn := HNN.out
          subst hnn
          exact bodyPost_ret (v := .tuple #[.agg #[.slice na s'.N.length nc, .slice ya s'.T.length yc, .int .i64 ((s'.N.length : Int) - 1)], .agg #[.int .i64 0, .int .i64 0]]) (by simp [results, Tryz.results9, go_sem, q0, q1, q2, p0, p1, z4, z5]) rfl (prs_good B4.out res5 QP4.out QF4.out ON.out RN.out OO.out RR.out TR.out)
      · exact absurd (M.prg_end E4.out) h6
  · have he' : ((M.scan s.data.toList).2.1 != 0) = true := by simp [he]
    have TR := hide (show M.PRes s.data.toList (.inl ((M.scan s.data.toList).2.1, ((M.scan s.data.toList).2.2 : Int))) from ⟨he, .inl ⟨rfl, rfl⟩⟩)
    have q0 : w1.cell? ⟨w.heap.size, 0, none⟩ = some (.slice none 0 0) := by rw [cell_of_row w1 _ 0 _ _ _ QP.out]; rfl
    have q1 : w1.cell? ⟨w.heap.size, 1, none⟩ = some (.slice none 0 0) := by rw [cell_of_row w1 _ 1 _ _ _ QP.out]; rfl
    have q2 : w1.cell? ⟨w.heap.size, 2, none⟩ = some (.int .i64 0) := by rw [cell_of_row w1 _ 2 _ _ _ QP.out]; rfl
    have qf : ∀ o, w1.frozen? ⟨w.heap.size, o, none⟩ = false := fun o => frozen_of_row w1 _ o _ _ QP.out
    have p0 : w1.cell? ⟨w.heap.size + 1, 0, none⟩ = some (.int .i64 0) := by rw [cell_of_row w1 _ 0 _ _ _ QF.out]; rfl
    have p1 : w1.cell? ⟨w.heap.size + 1, 1, none⟩ = some (.int .i64 0) := by rw [cell_of_row w1 _ 1 _ _ _ QF.out]; rfl
    have pf : ∀ o, w1.frozen? ⟨w.heap.size + 1, o, none⟩ = false := fun o => frozen_of_row w1 _ o _ _ QF.out
    clear HO QP QF he
    generalize (M.scan s.data.toList).2.1 = er at *
    generalize ((M.scan s.data.toList).2.2 : Int) = p at *
    go_wp2_with fail
    go_region
    all_goals go_wp2_with fail
    exact bodyPost_ret (v := .tuple #[.agg #[.slice none 0 0, .slice none 0 0, .int .i64 0], .agg #[.int .i64 er, .int .i64 p]]) (by simp [results, Tryz.results9, go_sem, q0, q1, q2, p0, p1, hz, hza]) rfl (prs_bad HB.out res5 TR.out)
end Go.Proofs.YtjojlcfoiknlhaaGreatDoor
