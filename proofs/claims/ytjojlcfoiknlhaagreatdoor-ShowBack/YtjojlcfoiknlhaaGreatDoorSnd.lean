/-
  The reference's comparison of two lists of nodes that are the same but for places.
-/
import Derived.Test.YtjojlcfoiknlhaaGreatDoorLastB
import Derived.Test.YtjojlcfoiknlhaaGreatDoorNodeA
import Derived.Test.YtjojlcfoiknlhaaGreatDoorPlainE
import Derived.Deep.RegionHeld3
import Derived.Deep.DeepCutAuto
import Derived.BigRegion
namespace Go.Proofs.YtjojlcfoiknlhaaGreatDoor
open Go.RowKit

def NdOk (w : World) (v : Value) (N : List M.Nd) : Prop := ∃ nx, w.ownsRow 0 63 9 v N.length nx ∧ Rws (NdV w (fun _ => True)) N nx
theorem NdOk.still {w w' : World} {v : Value} {N : List M.Nd} (h : NdOk w v N) (hc : Chg (fun _ => False) w w') : NdOk w' v N := by
  obtain ⟨nx, h1, h2⟩ := h
  exact ⟨nx, owns_chg h1 hc (fun _ _ x => x), h2.imp (NdV.chg hc (fun _ _ _ x => x.elim) (fun _ _ _ => trivial))⟩
theorem NdOk.cell {w : World} {na : Option Addr} {nc : Nat} {N : List M.Nd} (h : NdOk w (.slice na N.length nc) N) : ∀ i (hi : i < N.length), ∃ g la lc, na = some ⟨g, 0, none⟩ ∧ g < w.heap.size ∧ N.length ≤ nc ∧ nc ≤ maxLen ∧ w.cell? ⟨g, i * 9, none⟩ = some (.int .i64 N[i].kind) ∧ w.cell? ⟨g, i * 9 + 1, none⟩ = some (.int .i64 N[i].a) ∧ w.cell? ⟨g, i * 9 + 2, none⟩ = some (.int .i64 N[i].b) ∧ w.cell? ⟨g, i * 9 + 3, none⟩ = some (.int .i64 N[i].c) ∧
      w.cell? ⟨g, i * 9 + 4, none⟩ = some (.slice la N[i].list.length lc) ∧ w.cell? ⟨g, i * 9 + 5, none⟩ = some (.string ⟨N[i].text.toArray⟩) ∧ w.cell? ⟨g, i * 9 + 6, none⟩ = some (.int .i64 N[i].n) ∧ w.cell? ⟨g, i * 9 + 7, none⟩ = some (.int .i64 N[i].ty) ∧ w.cell? ⟨g, i * 9 + 8, none⟩ = some (.int .i64 N[i].at') ∧
      w.ownsRow 0 3 1 (.slice la N[i].list.length lc) N[i].list.length (ints N[i].list) := by
  intro i hi
  obtain ⟨nx, hn, hr⟩ := h
  obtain ⟨g, rfl, _, hg, hc1, hc2, hcell⟩ := owns_cell hn (by omega)
  obtain ⟨xs, ht, hx⟩ := Rws.at (z := 9) (fun _ _ h => h.len) i hi hr
  obtain ⟨lv, rfl, ho2, _⟩ := ht
  obtain ⟨la, lc, rfl⟩ := owns_form ho2
  refine ⟨g, la, lc, rfl, hg, hc1, hc2, hcell _ _ ?_, hcell _ _ ?_, hcell _ _ ?_, hcell _ _ ?_, hcell _ _ ?_, hcell _ _ ?_, hcell _ _ ?_, hcell _ _ ?_, hcell _ _ ?_, ho2⟩
  · have := hx 0 (by omega); simpa using this
  · have := hx 1 (by omega); simpa using this
  · have := hx 2 (by omega); simpa using this
  · have := hx 3 (by omega); simpa using this
  · have := hx 4 (by omega); simpa using this
  · have := hx 5 (by omega); simpa using this
  · have := hx 6 (by omega); simpa using this
  · have := hx 7 (by omega); simpa using this
  · have := hx 8 (by omega); simpa using this

theorem chg3 {w a b : World} (h : Chg (fun _ => False) w a) (k : Chg (fun _ => False) a b) : Chg (fun _ => False) w b := h.trans k (fun _ _ x => x)
theorem cell_calm {w w' : World} (hc : Chg (fun _ => False) w w') {a : Addr} {v : Value} (h : w.cell? a = some v) : w'.cell? a = some v := by
  have hq := World.block_lt_of_cell? w a h
  have hb := hc.block a.block hq (fun x => x)
  unfold World.cell? at *
  rw [hb]
  exact h

set_option maxHeartbeats 8000000 in
set_option maxRecDepth 100000 in
theorem sameNodes_any (w : World) (pa pb : Option Addr) (ca cb : Nat) (N N' : List M.Nd) (nn : Nat) (hnn : N.length = nn) (hlen : N'.length = nn) (hfl : N'.map M.Nd.fl = N.map M.Nd.fl) (hn : nn ≤ 1200) (hls : ∀ i (hi : i < N.length), N[i].list.length ≤ 1000000) (o1 : NdOk w (.slice pa nn ca) N) (o2 : NdOk w (.slice pb nn cb) N') :
    Calls Tryz.prog 31 #[.slice pa nn ca, .slice pb nn cb, .bool false] w fun e w' => e = .returned (.bool true) ∧ Chg (fun _ => False) w w' := by
  have O1 := hide o1
  have O2 := hide o2
  have LS := hide hls
  have HF : Hid (∀ j (h : j < N.length) (h' : j < N'.length), N'[j].fl = N[j].fl) := by
    intro j h h'
    have h1 : (N'.map M.Nd.fl)[j]'(by simpa using h') = N'[j].fl := by simp
    have h2 : (N.map M.Nd.fl)[j]'(by simpa using h) = N[j].fl := by simp
    rw [← h1, ← h2]
    simp only [hfl]
  clear o1 o2 hls hfl
  have HL := hide hlen
  have HN := hide hnn
  clear hlen hnn
  go_enter Tryz.func31, Tryz.ntmps31
  go_wp2_with fail
  go_loopw [7] (fun v wr => ∃ j : Nat, j ≤ nn ∧ v = .int .i64 (j : Int) ∧ Hid (Chg (fun _ => False) w wr)) (fun v _ => nn - (intOf v).toNat)
  case atStart => exact ⟨0, Nat.zero_le _, rfl, Chg.refl _ _⟩
  case round =>
    obtain ⟨j, hj, rfl, CR⟩ := hrel
    by_cases hjl : j < nn
    · have hj1 : j < N.length := by have := HN.out; omega
      have hj2 : j < N'.length := by have := HL.out; omega
      obtain ⟨g1, la, lc, rfl, hg1, hc1, hc2, x0, x1, x2, x3, x4, x5, x6, x7, x8, ol1⟩ := NdOk.cell (na := pa) (nc := ca) (by have := O1.out.still CR.out; rw [← HN.out] at this; exact this) j hj1
      obtain ⟨g2, lb, ld, rfl, hg2, hd1, hd2, y0, y1, y2, y3, y4, y5, y6, y7, y8, ol2⟩ := NdOk.cell (na := pb) (nc := cb) (by have := O2.out.still CR.out; rw [← HL.out] at this; exact this) j hj2
      have hls := LS.out j hj1
      have hf := HF.out j hj1 hj2
      have OL1 := hide ol1
      have OL2 := hide ol2
      unfold maxLen at hc2 hd2
      clear ol1 ol2
      generalize N[j] = n1 at *
      generalize N'[j] = n2 at *
      obtain ⟨kd', va', vb', vc', ls', tx', vn', vt', at1⟩ := n1
      obtain ⟨kd, va, vb, vc, ls, tx, vn, vt, at2⟩ := n2
      simp only [M.Nd.fl, M.Nd.mk.injEq] at hf
      obtain ⟨rfl, rfl, rfl, rfl, rfl, rfl, rfl, rfl, _⟩ := hf
      simp only at *
      go_wp2_with fail
      go_cut [8, 9] from 15 to 93 (fun v8 v9 wc => ∃ p q : Nat, v8 = .pointer (some ⟨p, 0, none⟩) ∧ v9 = .pointer (some ⟨q, 0, none⟩) ∧ Hid (Chg (fun _ => False) wr wc) ∧ wc.cell? ⟨p, 0, none⟩ = some (.int .i64 kd) ∧ wc.cell? ⟨p, 1, none⟩ = some (.int .i64 va) ∧ wc.cell? ⟨p, 2, none⟩ = some (.int .i64 vb) ∧ wc.cell? ⟨p, 3, none⟩ = some (.int .i64 vc) ∧ wc.cell? ⟨p, 4, none⟩ = some (.slice la ls.length lc) ∧ wc.cell? ⟨p, 5, none⟩ = some (.string ⟨tx.toArray⟩) ∧ wc.cell? ⟨p, 6, none⟩ = some (.int .i64 vn) ∧ wc.cell? ⟨p, 7, none⟩ = some (.int .i64 vt) ∧ wc.cell? ⟨q, 0, none⟩ = some (.int .i64 kd) ∧ wc.cell? ⟨q, 1, none⟩ = some (.int .i64 va) ∧ wc.cell? ⟨q, 2, none⟩ = some (.int .i64 vb) ∧ wc.cell? ⟨q, 3, none⟩ = some (.int .i64 vc) ∧ wc.cell? ⟨q, 4, none⟩ = some (.slice lb ls.length ld) ∧ wc.cell? ⟨q, 5, none⟩ = some (.string ⟨tx.toArray⟩) ∧ wc.cell? ⟨q, 6, none⟩ = some (.int .i64 vn) ∧ wc.cell? ⟨q, 7, none⟩ = some (.int .i64 vt))
      case first =>
        go_region_held3 (fun w' => w'.cell? ⟨g1, j * 9, none⟩ = some (.int .i64 kd) ∧ w'.cell? ⟨g1, j * 9 + 1, none⟩ = some (.int .i64 va) ∧ w'.cell? ⟨g1, j * 9 + 2, none⟩ = some (.int .i64 vb) ∧ w'.cell? ⟨g1, j * 9 + 3, none⟩ = some (.int .i64 vc) ∧ w'.cell? ⟨g1, j * 9 + 4, none⟩ = some (.slice la ls.length lc) ∧ w'.cell? ⟨g1, j * 9 + 5, none⟩ = some (.string ⟨tx.toArray⟩) ∧ w'.cell? ⟨g1, j * 9 + 6, none⟩ = some (.int .i64 vn) ∧ w'.cell? ⟨g1, j * 9 + 7, none⟩ = some (.int .i64 vt) ∧ w'.cell? ⟨g1, j * 9 + 8, none⟩ = some (.int .i64 at1) ∧ w'.cell? ⟨g2, j * 9, none⟩ = some (.int .i64 kd) ∧ w'.cell? ⟨g2, j * 9 + 1, none⟩ = some (.int .i64 va) ∧ w'.cell? ⟨g2, j * 9 + 2, none⟩ = some (.int .i64 vb) ∧ w'.cell? ⟨g2, j * 9 + 3, none⟩ = some (.int .i64 vc) ∧ w'.cell? ⟨g2, j * 9 + 4, none⟩ = some (.slice lb ls.length ld) ∧ w'.cell? ⟨g2, j * 9 + 5, none⟩ = some (.string ⟨tx.toArray⟩) ∧ w'.cell? ⟨g2, j * 9 + 6, none⟩ = some (.int .i64 vn) ∧ w'.cell? ⟨g2, j * 9 + 7, none⟩ = some (.int .i64 vt) ∧ w'.cell? ⟨g2, j * 9 + 8, none⟩ = some (.int .i64 at2))
          (go_keep) (fail)
        all_goals go_wp2_with fail
        all_goals go_meet
        all_goals exact ⟨_, _, rfl, rfl, ((Chg.alloc (fun _ => False) _ _).trans (Chg.alloc (fun _ => False) _ _) (fun _ _ x => x)).trans (Chg.drewN (fun _ => False) _ 1) (fun _ _ x => x), by simp [go_sem], by simp [go_sem], by simp [go_sem], by simp [go_sem], by simp [go_sem], by simp [go_sem], by simp [go_sem], by simp [go_sem], by simp [go_sem], by simp [go_sem], by simp [go_sem], by simp [go_sem], by simp [go_sem], by simp [go_sem], by simp [go_sem], by simp [go_sem]⟩
      case rest =>
        obtain ⟨p, q, rfl, rfl, CW, p0, p1, p2, p3, p4, p5, p6, p7, q0, q1, q2, q3, q4, q5, q6, q7⟩ := hcut
        have HI := hide (fun (a : World) (ha : Chg (fun _ => False) wc a) => sameInts_any a la lb lc ld ls (by omega) (owns_chg OL1.out (chg3 CW.out ha) (fun _ _ x => x)) (owns_chg OL2.out (chg3 CW.out ha) (fun _ _ x => x)))
        have PQ : Hid (∀ a, Chg (fun _ => False) wc a → a.cell? ⟨p, 0, none⟩ = some (.int .i64 kd) ∧ a.cell? ⟨p, 1, none⟩ = some (.int .i64 va) ∧ a.cell? ⟨p, 2, none⟩ = some (.int .i64 vb) ∧ a.cell? ⟨p, 3, none⟩ = some (.int .i64 vc) ∧ a.cell? ⟨p, 4, none⟩ = some (.slice la ls.length lc) ∧ a.cell? ⟨p, 5, none⟩ = some (.string ⟨tx.toArray⟩) ∧ a.cell? ⟨p, 6, none⟩ = some (.int .i64 vn) ∧ a.cell? ⟨p, 7, none⟩ = some (.int .i64 vt) ∧ a.cell? ⟨q, 0, none⟩ = some (.int .i64 kd) ∧ a.cell? ⟨q, 1, none⟩ = some (.int .i64 va) ∧ a.cell? ⟨q, 2, none⟩ = some (.int .i64 vb) ∧ a.cell? ⟨q, 3, none⟩ = some (.int .i64 vc) ∧ a.cell? ⟨q, 4, none⟩ = some (.slice lb ls.length ld) ∧ a.cell? ⟨q, 5, none⟩ = some (.string ⟨tx.toArray⟩) ∧ a.cell? ⟨q, 6, none⟩ = some (.int .i64 vn) ∧ a.cell? ⟨q, 7, none⟩ = some (.int .i64 vt)) := fun a h => ⟨cell_calm h p0, cell_calm h p1, cell_calm h p2, cell_calm h p3, cell_calm h p4, cell_calm h p5, cell_calm h p6, cell_calm h p7, cell_calm h q0, cell_calm h q1, cell_calm h q2, cell_calm h q3, cell_calm h q4, cell_calm h q5, cell_calm h q6, cell_calm h q7⟩
        clear x0 x1 x2 x3 x4 x5 x6 x7 x8 y0 y1 y2 y3 y4 y5 y6 y7 y8
        go_wp2_with fail
        refine (HI.out _ (Chg.refl _ _)).mono ?_
        rintro e w2 ⟨rfl, hc⟩
        obtain ⟨p0, p1, p2, p3, p4, p5, p6, p7, q0, q1, q2, q3, q4, q5, q6, q7⟩ := PQ.out w2 hc
        have C2 := hide (chg3 (chg3 CR.out CW.out) hc)
        go_wp2_with fail
        all_goals go_roundw
        case rel => exact ⟨j + 1, by omega, by go_num, C2.out⟩
        case measure => simp [intOf]; omega
    · have hje : j = nn := by omega
      subst hje
      go_wp2_with fail
      go_ret
      exact ⟨rfl, CR.out⟩
end Go.Proofs.YtjojlcfoiknlhaaGreatDoor
