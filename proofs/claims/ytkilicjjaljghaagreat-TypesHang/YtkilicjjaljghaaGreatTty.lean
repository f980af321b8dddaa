/-
  The contract of tree.Type: it returns the types of the text, in memory of its own, or the first fault.
-/
import Derived.Test.YtkilicjjaljghaaGreatWho
import Derived.Test.YtkilicjjaljghaaGreatScan
import Derived.Test.YtkilicjjaljghaaGreatPlainA
namespace Go.Proofs.YtkilicjjaljghaaGreat
open Go.RowKit

/-- Types that lie in memory from a block on. -/
def TyOwn (w : World) (lo : Nat) (v : Value) (T : List M.Ty) : Prop := ∃ yx, w.ownsRow lo 52 4 v T.length yx ∧ Rws (TyV w (fun g => lo ≤ g)) T yx

def TyAns (l : List UInt8) (w : World) (e : Ending) (w' : World) : Prop :=
  Below w.heap.size w w' ∧ ((∃ er p, M.TRes l (.inl (er, p)) ∧ e = .returned (.tuple #[.slice none 0 0, .agg #[.int .i64 er, .int .i64 p]])) ∨
    ∃ T ad c, M.TRes l (.inr T) ∧ e = .returned (.tuple #[.slice ad T.length c, .agg #[.int .i64 0, .int .i64 0]]) ∧ TyOwn w' w.heap.size (.slice ad T.length c) T)

theorem pst_new {w : World} {B c pb : Nat} (hpb : pb = w.heap.size) {ad : Option Addr} {L : List M.Tk} {ok : Nat → Prop} (hB : B ≤ w.heap.size) (hok : ∀ g, w.heap.size ≤ g → ok g) (hL : 0 < L.length) (ho : w.ownsRow B 80 3 (.slice ad L.length c) L.length (rows L)) :
    Pst (w.alloc (.cells #[.slice ad L.length c, .int .i64 0, .int .i64 0, .slice none 0 0, .slice none 0 0] 96)) B pb (.slice ad L.length c) L ok 0 ⟨0, [], []⟩ := by
  subst hpb
  exact ⟨hB, hL, ⟨by simp, by simp⟩, owns_base (ho.alloc _) (Nat.zero_le _), ⟨hok _ (Nat.le_refl _), fun v g hv hg => by rw [World.cell?_alloc_new] at hv; cases hv; simp [Value.ownBlock] at hg, fun v g hv hg => by rw [World.cell?_alloc_new] at hv; cases hv; simp [Value.ownBlock] at hg⟩, _, _, [], [], heap_alloc_new w _, World.ownsRow_nil _ _ _ _, World.ownsRow_nil _ _ _ _, rfl, rfl⟩

theorem fin_bad {w w4 : World} {l : List UInt8} {er p : Int} {o : Obj} (hb : Below w.heap.size w w4) (hz : w.heap.size < w4.heap.size) (ht : M.TRes l (.inl (er, p))) :
    TyAns l w (.returned (.tuple #[.slice none 0 0, .agg #[.int .i64 er, .int .i64 p]])) (((w4.setCell ⟨w.heap.size, 0, none⟩ (.int .i64 er)).setCell ⟨w.heap.size, 1, none⟩ (.int .i64 p)).alloc o).drew :=
  ⟨(((hb.setCell (by simp) _).setCell (by simp) _).alloc (by simp; omega) _).drew, .inl ⟨er, p, ht, rfl⟩⟩

theorem fin_good {w w4 : World} {l : List UInt8} {ad : Option Addr} {c : Nat} {T : List M.Ty} {yx : List Value} {cs : Array Value} {a b : Value} {o : Obj} (hb : Below w.heap.size w w4) (hz : w.heap.size < w4.heap.size) (hq : w4.heap[w.heap.size]? = some (.cells cs 24 (0, 0)))
    (ho : w4.ownsRow w.heap.size 52 4 (.slice ad T.length c) T.length yx) (hr : Rws (TyV w4 (fun g => w.heap.size ≤ g)) T yx) (ht : M.TRes l (.inr T)) :
    TyAns l w (.returned (.tuple #[.slice ad T.length c, .agg #[.int .i64 0, .int .i64 0]])) (((w4.setCell ⟨w.heap.size, 0, none⟩ a).setCell ⟨w.heap.size, 1, none⟩ b).alloc o) := by
  have hc : Chg (fun k => k = w.heap.size) w4 (((w4.setCell ⟨w.heap.size, 0, none⟩ a).setCell ⟨w.heap.size, 1, none⟩ b).alloc o) :=
    ((Chg.set w4 ⟨w.heap.size, 0, none⟩ a).trans (Chg.set _ ⟨w.heap.size, 1, none⟩ b) (fun _ _ x => x)).trans (Chg.alloc (fun _ => False) _ _) (fun _ _ x => x.elim)
  refine ⟨((hb.setCell (by simp) _).setCell (by simp) _).alloc (by simp; omega) _, .inr ⟨T, ad, c, ht, rfl, yx, owns_chg ho hc (fun g hg hx => ?_), hr.imp (TyV.chg hc (fun g _ _ hx hh => ?_) (fun _ x _ => x))⟩⟩
  · subst hx
    obtain ⟨_, cur, hh⟩ := owns_tag ho _ hg
    rw [hq] at hh
    simp only [Option.some.injEq, Obj.cells.injEq] at hh
    exact absurd hh.2.1 (by decide)
  · subst hx
    obtain ⟨cur, e, hh, he⟩ := hh
    rw [hq] at hh
    simp only [Option.some.injEq, Obj.cells.injEq] at hh
    rcases he with rfl | rfl <;> exact absurd hh.2.1 (by decide)

set_option maxHeartbeats 2000000 in
theorem type_any (s : ByteArray) (w : World) (hs : s.size ≤ maxLen) : Calls Tryz.prog 29 #[.string s] w (TyAns s.data.toList w) := by
  have HS := fun w1 => scan_any s w1 hs
  go_enter Tryz.func29, Tryz.ntmps29
  go_wp2_with fail
  refine (HS _).mono ?_
  clear HS
  rintro e w1 ⟨ad, c, rfl, ho, hb⟩
  obtain ⟨qc, qf, hz⟩ := own_cell (Chg.below hb) (by simp)
  have q0 : w1.cell? ⟨w.heap.size, 0, none⟩ = some (.int .i64 0) := qc 0 _ rfl
  have q1 : w1.cell? ⟨w.heap.size, 1, none⟩ = some (.int .i64 0) := qc 1 _ rfl
  have HB := hide (((Below.refl w.heap.size w).alloc (Nat.le_refl _) (.cells #[.int .i64 0, .int .i64 0] 24)).trans (hb.mono (by simp)))
  have HQ := hide ((hb.block w.heap.size (by simp)).trans (heap_alloc_new w _))
  have HO := hide (owns_base ho (by simp : w.heap.size ≤ _))
  clear qc hb ho
  by_cases he : (M.scan s.data.toList).2.1 = 0
  · have he' : ((M.scan s.data.toList).2.1 != 0) = false := by simp [he]
    obtain ⟨hl1, hl0, hl2⟩ := M.scan_last _ he
    have hw1 : w.heap.size ≤ w1.heap.size := by omega
    have HW := whole_typ_any (w := (w1.alloc (.cells #[.int .i64 0, .int .i64 ((M.scan s.data.toList).2.2 : Int)] 24)).alloc (.cells #[.slice ad (M.scan s.data.toList).1.length c, .int .i64 0, .int .i64 0, .slice none 0 0, .slice none 0 0] 96))
      (B := w.heap.size) (pb := w1.heap.size + 1) (ok := fun g => w.heap.size ≤ g) ⟨hl1, hl2⟩ (fun g hg => by simp at hg; omega) (by simp; omega) (pst_new (by simp) (by simp; omega) (fun g hg => by simp at hg; omega) hl0 (HO.out.alloc _))
    have HE : Hid (∀ o, M.Ev (M.scan s.data.toList).1 (fun r => r.typ 0 ⟨0, [], []⟩) o → M.Ev (M.scan s.data.toList).1 (fun r => r.typ 0 ⟨0, [], []⟩) o) := fun _ h => h
    have HZ := hide he
    clear HO hl2
    go_wp2_with fail
    refine HW.mono ?_
    clear HW
    rintro e w4 ⟨hk, o, hev, hm⟩
    have HQ4 : Hid (w4.heap[w.heap.size]? = some (.cells #[.int .i64 0, .int .i64 0] 24 (0, 0))) := by
      have h2 : ((w1.alloc (.cells #[.int .i64 0, .int .i64 ((M.scan s.data.toList).2.2 : Int)] 24)).alloc (.cells #[.slice ad (M.scan s.data.toList).1.length c, .int .i64 0, .int .i64 0, .slice none 0 0, .slice none 0 0] 96)).heap[w.heap.size]? = some (.cells #[.int .i64 0, .int .i64 0] 24 (0, 0)) := by
        rw [Below.heap_alloc _ _ _ (by simp; omega), Below.heap_alloc _ _ _ hz]
        exact HQ.out
      show _ = _
      rw [hk.block w.heap.size (by simp; omega) (fun x => ?_)]
      · exact h2
      · obtain ⟨cs, e, fz, hh, r⟩ := x.2.1
        rw [h2] at hh
        simp only [Option.some.injEq, Obj.cells.injEq] at hh
        obtain ⟨_, rfl, _⟩ := hh
        rcases r with r | r | r <;> exact absurd r (by decide)
    have z4 : w.heap.size < w4.heap.size := by have := hk.size; simp at this; omega
    have B4 := hide (((HB.out.alloc hw1 _).alloc (by simp; omega) _).trans (hk.below (by simp; omega)))
    have E4 := hide hev
    have y0 : w4.cell? ⟨w.heap.size, 0, none⟩ = some (.int .i64 0) := by rw [cell_of_row w4 _ 0 _ _ _ HQ4.out]; rfl
    have y1 : w4.cell? ⟨w.heap.size, 1, none⟩ = some (.int .i64 0) := by rw [cell_of_row w4 _ 1 _ _ _ HQ4.out]; rfl
    have yf : ∀ o, w4.frozen? ⟨w.heap.size, o, none⟩ = false := fun o => frozen_of_row w4 _ o _ _ HQ4.out
    clear hk hev q0 q1 qf hz HB HE
    cases o with
    | fail er p =>
      obtain ⟨rfl, hne⟩ := hm
      have hne' : (er != 0) = true := by simp [hne]
      have TR := hide (show M.TRes s.data.toList (.inl (er, p)) from ⟨hne, .inr ⟨HZ.out, .inl E4.out⟩⟩)
      clear E4 HQ
      go_wp2_with fail
      go_region
      go_wp2_with fail
      exact bodyPost_ret (v := .tuple #[.slice none 0 0, .agg #[.int .i64 er, .int .i64 p]]) (by simp [results, Tryz.results29, go_sem, y0, y1, z4]) rfl (fin_bad B4.out z4 TR.out)
    | ok s' x =>
      by_cases h6 : (M.tk (M.scan s.data.toList).1 s'.i).kind = 6
      · simp only [h6, if_true] at hm
        by_cases hmany : 1200 < s'.N.length ∨ 300 < s'.T.length
        · rw [if_pos hmany] at hm
          subst hm
          have TR := hide (show M.TRes s.data.toList (.inl (2, 0)) from ⟨by decide, .inr ⟨HZ.out, .inr ⟨s', x, E4.out, by rw [if_pos h6]; exact ⟨hmany, rfl, rfl⟩⟩⟩⟩)
          clear hmany h6
          have hne' : ((2 : Int) != 0) = true := by decide
          clear E4 HQ
          go_wp2_with fail
          go_region
          go_wp2_with fail
          exact bodyPost_ret (v := .tuple #[.slice none 0 0, .agg #[.int .i64 2, .int .i64 0]]) (by simp [results, Tryz.results29, go_sem, y0, y1, z4]) rfl (fin_bad B4.out z4 TR.out)
        · rw [if_neg hmany] at hm
          obtain ⟨rfl, hp⟩ := hm
          have TR := hide (show M.TRes s.data.toList (.inr s'.T) from ⟨HZ.out, s', x, E4.out, h6, by omega, by omega, rfl⟩)
          have PP := hide hp
          obtain ⟨nv, yv, nx, yx, hb, hn, hy, hrn, hry⟩ := hp.blk
          obtain ⟨ya, yc, rfl⟩ := owns_form hy
          have c4 : w4.cell? ⟨w1.heap.size + 1, 4, none⟩ = some (.slice ya s'.T.length yc) := by rw [cell_of_row w4 _ 4 _ _ _ hb]; rfl
          have hlt := (Array.getElem?_eq_some_iff.1 hb).1
          have OO := hide hy
          have RR := hide hry
          clear hp hb hn hy hrn hry hmany h6 E4 HQ
          go_wp2_with fail
          exact bodyPost_ret (v := .tuple #[.slice ya s'.T.length yc, .agg #[.int .i64 0, .int .i64 0]]) (by simp [results, Tryz.results29, go_sem, y0, y1, z4]) rfl (fin_good B4.out z4 HQ4.out OO.out RR.out TR.out)
      · simp only [h6, if_false] at hm
        subst hm
        have TR := hide (show M.TRes s.data.toList (.inl (1, ((M.tk (M.scan s.data.toList).1 s'.i).at' : Int))) from ⟨by decide, .inr ⟨HZ.out, .inr ⟨s', x, E4.out, by rw [if_neg h6]; exact ⟨rfl, rfl⟩⟩⟩⟩)
        clear h6
        generalize ((M.tk (M.scan s.data.toList).1 s'.i).at' : Int) = pp at *
        have hne' : ((1 : Int) != 0) = true := by decide
        clear E4 HQ
        go_wp2_with fail
        go_region
        go_wp2_with fail
        exact bodyPost_ret (v := .tuple #[.slice none 0 0, .agg #[.int .i64 1, .int .i64 pp]]) (by simp [results, Tryz.results29, go_sem, y0, y1, z4]) rfl (fin_bad B4.out z4 TR.out)
  · have he' : ((M.scan s.data.toList).2.1 != 0) = true := by simp [he]
    have TR := hide (show M.TRes s.data.toList (.inl ((M.scan s.data.toList).2.1, ((M.scan s.data.toList).2.2 : Int))) from ⟨he, .inl ⟨rfl, rfl⟩⟩)
    clear HQ HO
    generalize (M.scan s.data.toList).2.1 = er at *
    generalize ((M.scan s.data.toList).2.2 : Int) = p at *
    go_wp2_with fail
    go_region
    go_wp2_with fail
    exact bodyPost_ret (v := .tuple #[.slice none 0 0, .agg #[.int .i64 er, .int .i64 p]]) (by simp [results, Tryz.results29, go_sem, q0, q1, hz]) rfl (fin_bad HB.out hz TR.out)
end Go.Proofs.YtkilicjjaljghaaGreat
