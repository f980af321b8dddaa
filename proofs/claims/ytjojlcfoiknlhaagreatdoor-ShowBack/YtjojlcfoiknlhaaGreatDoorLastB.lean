/-
  The reference's comparison of two rows of numbers that are the same.
  The reference's comparison of two lists of types that are the same.
-/
import Derived.Test.YtjojlcfoiknlhaaGreatDoorWriteA
import Derived.Test.YtjojlcfoiknlhaaGreatDoorWriteC
import Derived.Deep.RegionHeld3
import Derived.Deep.DeepCutAuto
import Derived.BigRegion
namespace Go.Proofs.YtjojlcfoiknlhaaGreatDoor
open Go.RowKit

set_option maxHeartbeats 2000000 in
set_option maxRecDepth 100000 in
theorem sameInts_any (w : World) (la lb : Option Addr) (lc ld : Nat) (ls : List Int) (_hn : ls.length ≤ 1000000) (o1 : w.ownsRow 0 3 1 (.slice la ls.length lc) ls.length (ints ls)) (o2 : w.ownsRow 0 3 1 (.slice lb ls.length ld) ls.length (ints ls)) :
    Calls Tryz.prog 35 #[.slice la ls.length lc, .slice lb ls.length ld] w fun e w' => e = .returned (.bool true) ∧ Chg (fun _ => False) w w' := by
  have O1 := hide o1
  have O2 := hide o2
  clear o1 o2
  go_enter Tryz.func35, Tryz.ntmps35
  go_wp2_with fail
  go_loopw [5] (fun v wr => ∃ j : Nat, j ≤ ls.length ∧ v = .int .i64 (j : Int) ∧ Hid (Chg (fun _ => False) w wr)) (fun v _ => ls.length - (intOf v).toNat)
  case atStart => exact ⟨0, Nat.zero_le _, rfl, Chg.refl _ _⟩
  case round =>
    obtain ⟨j, hj, rfl, CR⟩ := hrel
    by_cases hjl : j < ls.length
    · obtain ⟨g1, e1, hg1, h11, h12, x1⟩ := ints_cell (owns_chg O1.out CR.out (fun _ _ x => x)) hjl
      obtain ⟨g2, e2, hg2, h21, h22, x2⟩ := ints_cell (owns_chg O2.out CR.out (fun _ _ x => x)) hjl
      subst e1 e2
      unfold maxLen at h12 h22
      generalize ls[j] = z at *
      go_wp2_with fail
      go_region
      all_goals go_wp2
      all_goals go_roundw
      case rel => exact ⟨j + 1, by omega, by go_num, CR.out.trans (Chg.drewN (fun _ => False) _ 1) (fun _ _ x => x)⟩
      case measure => simp [intOf]; omega
    · have hje : j = ls.length := by omega
      subst hje
      go_wp2_with fail
      go_ret
      exact ⟨rfl, CR.out⟩
end Go.Proofs.YtjojlcfoiknlhaaGreatDoor

namespace Go.Proofs.YtjojlcfoiknlhaaGreatDoor
open Go.RowKit

theorem chg2 {w a b : World} (h : Chg (fun _ => False) w a) (k : Chg (fun _ => False) a b) : Chg (fun _ => False) w b := h.trans k (fun _ _ x => x)

theorem cell_still {w w' : World} (hc : Chg (fun _ => False) w w') {a : Addr} {v : Value} (h : w.cell? a = some v) : w'.cell? a = some v := by
  have hq := World.block_lt_of_cell? w a h
  have hb := hc.block a.block hq (fun x => x)
  unfold World.cell? at *
  rw [hb]
  exact h
theorem tyown_chg {w w' : World} {lo : Nat} {v : Value} {T : List M.Ty} (h : TyOwn w lo v T) (hc : Chg (fun _ => False) w w') : TyOwn w' 0 v T := by
  obtain ⟨yx, h1, h2⟩ := h
  exact ⟨yx, owns_base (owns_chg h1 hc (fun _ _ x => x)) (Nat.zero_le _), h2.imp (TyV.chg hc (fun _ _ _ x => x.elim) (fun _ _ _ => Nat.zero_le _))⟩

set_option maxHeartbeats 8000000 in
set_option maxRecDepth 100000 in
theorem sameTypes_any (w : World) (pa pb : Option Addr) (ca cb : Nat) (T : List M.Ty) (_hn : T.length ≤ 300) (hls : ∀ i (hi : i < T.length), T[i].list.length ≤ 300 ∧ T[i].fields.length ≤ 300) (o1 : TyOwn w 0 (.slice pa T.length ca) T) (o2 : TyOwn w 0 (.slice pb T.length cb) T) :
    Calls Tryz.prog 15 #[.slice pa T.length ca, .slice pb T.length cb] w fun e w' => e = .returned (.bool true) ∧ Chg (fun _ => False) w w' := by
  have O1 := hide o1
  have O2 := hide o2
  have LS := hide hls
  clear o1 o2 hls
  go_enter Tryz.func15, Tryz.ntmps15
  go_wp2_with fail
  go_loopw [5] (fun v wr => ∃ j : Nat, j ≤ T.length ∧ v = .int .i64 (j : Int) ∧ Hid (Chg (fun _ => False) w wr)) (fun v _ => T.length - (intOf v).toNat)
  case atStart => exact ⟨0, Nat.zero_le _, rfl, Chg.refl _ _⟩
  case round =>
    obtain ⟨j, hj, rfl, CR⟩ := hrel
    by_cases hjl : j < T.length
    · obtain ⟨yx1, ho1, hr1⟩ := tyown_chg O1.out CR.out
      obtain ⟨yx2, ho2, hr2⟩ := tyown_chg O2.out CR.out
      obtain ⟨g1, fa, fc, la, lc, rfl, hg1, hc1, hc2, x0, x1, x2, x3, of1, ol1⟩ := tys_cell ho1 (hr1.imp (TyV.chg (Chg.refl (fun _ => False) _) (fun _ _ _ x => x.elim) (fun _ _ _ => trivial))) hjl
      obtain ⟨g2, fb, fd, lb, ld, rfl, hg2, hd1, hd2, y0, y1, y2, y3, of2, ol2⟩ := tys_cell ho2 (hr2.imp (TyV.chg (Chg.refl (fun _ => False) _) (fun _ _ _ x => x.elim) (fun _ _ _ => trivial))) hjl
      have hls := LS.out j hjl
      have OF1 := hide of1
      have OF2 := hide of2
      have OL1 := hide ol1
      have OL2 := hide ol2
      unfold maxLen at hc2 hd2
      clear ho1 hr1 ho2 hr2 of1 of2 ol1 ol2
      generalize T[j].kind = kk at *
      generalize T[j].of' = ko at *
      generalize T[j].fields = fs at *
      generalize T[j].list = ls at *
      go_wp2_with fail
      go_cut [6, 7] from 14 to 74 (fun v6 v7 wc => ∃ p q : Nat, v6 = .pointer (some ⟨p, 0, none⟩) ∧ v7 = .pointer (some ⟨q, 0, none⟩) ∧ Hid (Chg (fun _ => False) wr wc) ∧ wc.cell? ⟨p, 0, none⟩ = some (.int .i64 kk) ∧ wc.cell? ⟨p, 1, none⟩ = some (.slice fa fs.length fc) ∧ wc.cell? ⟨p, 2, none⟩ = some (.slice la ls.length lc) ∧ wc.cell? ⟨p, 3, none⟩ = some (.int .i64 ko) ∧
        wc.cell? ⟨q, 0, none⟩ = some (.int .i64 kk) ∧ wc.cell? ⟨q, 1, none⟩ = some (.slice fb fs.length fd) ∧ wc.cell? ⟨q, 2, none⟩ = some (.slice lb ls.length ld) ∧ wc.cell? ⟨q, 3, none⟩ = some (.int .i64 ko))
      case first =>
        go_region_held3 (fun w' => w'.cell? ⟨g1, j * 4, none⟩ = some (.int .i64 kk) ∧ w'.cell? ⟨g1, j * 4 + 1, none⟩ = some (.slice fa fs.length fc) ∧ w'.cell? ⟨g1, j * 4 + 2, none⟩ = some (.slice la ls.length lc) ∧ w'.cell? ⟨g1, j * 4 + 3, none⟩ = some (.int .i64 ko) ∧
            w'.cell? ⟨g2, j * 4, none⟩ = some (.int .i64 kk) ∧ w'.cell? ⟨g2, j * 4 + 1, none⟩ = some (.slice fb fs.length fd) ∧ w'.cell? ⟨g2, j * 4 + 2, none⟩ = some (.slice lb ls.length ld) ∧ w'.cell? ⟨g2, j * 4 + 3, none⟩ = some (.int .i64 ko))
          (go_keep) (fail)
        all_goals go_wp2_with fail
        all_goals go_meet
        all_goals exact ⟨_, _, rfl, rfl, ((Chg.alloc (fun _ => False) _ _).trans (Chg.alloc (fun _ => False) _ _) (fun _ _ x => x)).trans (Chg.drewN (fun _ => False) _ 1) (fun _ _ x => x), by simp [go_sem], by simp [go_sem], by simp [go_sem], by simp [go_sem], by simp [go_sem], by simp [go_sem], by simp [go_sem], by simp [go_sem]⟩
      case rest =>
        obtain ⟨p, q, rfl, rfl, CW, p0, p1, p2, p3, q0, q1, q2, q3⟩ := hcut
        have HI := hide (sameInts_any wc la lb lc ld ls (by omega) (owns_chg OL1.out CW.out (fun _ _ x => x)) (owns_chg OL2.out CW.out (fun _ _ x => x)))
        clear x0 x1 x2 x3 y0 y1 y2 y3
        have PQ : Hid (∀ a, Chg (fun _ => False) wc a → a.cell? ⟨p, 1, none⟩ = some (.slice fa fs.length fc) ∧ a.cell? ⟨q, 1, none⟩ = some (.slice fb fs.length fd)) := fun a ha => ⟨cell_still ha p1, cell_still ha q1⟩
        go_wp2_with fail
        refine HI.out.mono ?_
        rintro e w2 ⟨rfl, hc⟩
        obtain ⟨p1', q1'⟩ := PQ.out w2 hc
        have F1 := hide (fun (a : World) (ha : Chg (fun _ => False) w2 a) => owns_chg OF1.out (chg2 (chg2 CW.out hc) ha) (fun _ _ x => x))
        have F2 := hide (fun (a : World) (ha : Chg (fun _ => False) w2 a) => owns_chg OF2.out (chg2 (chg2 CW.out hc) ha) (fun _ _ x => x))
        have C2 := hide (chg2 (chg2 CR.out CW.out) hc)
        have PR : Hid (∀ a, Chg (fun _ => False) w2 a → a.cell? ⟨p, 1, none⟩ = some (.slice fa fs.length fc) ∧ a.cell? ⟨q, 1, none⟩ = some (.slice fb fs.length fd)) := fun a ha => ⟨cell_still ha p1', cell_still ha q1'⟩
        clear HI PQ p0 p1 p2 p3 q0 q1 q2 q3 hc
        go_wp2_with fail
        go_loopw [8] (fun v wr => ∃ k : Nat, k ≤ fs.length ∧ v = .int .i64 (k : Int) ∧ Hid (Chg (fun _ => False) w2 wr)) (fun v _ => fs.length - (intOf v).toNat)
        case atStart => exact ⟨0, Nat.zero_le _, rfl, Chg.refl _ _⟩
        case round =>
          obtain ⟨k, hk, rfl, CK⟩ := hrel
          obtain ⟨r1, r2⟩ := PR.out _ CK.out
          by_cases hkl : k < fs.length
          · obtain ⟨gf, e1, hgf, f11, f12, z0, z1⟩ := ofld_cell (F1.out _ CK.out) hkl
            obtain ⟨gh, e2, hgh, f21, f22, t0, t1⟩ := ofld_cell (F2.out _ CK.out) hkl
            subst e1 e2
            unfold maxLen at f12 f22
            generalize fs[k] = fk at *
            obtain ⟨nm, fx⟩ := fk
            simp only at z0 z1 t0 t1
            go_wp2_with fail
            go_region
            all_goals go_wp2
            all_goals go_roundw
            case rel => exact ⟨k + 1, by omega, by go_num, CK.out.trans (Chg.drewN (fun _ => False) _ 1) (fun _ _ x => x)⟩
            case measure => simp [intOf]; omega
          · have hke : k = fs.length := by omega
            subst hke
            go_wp2_with fail
            all_goals go_roundw
            case rel => exact ⟨j + 1, by omega, by go_num, chg2 C2.out CK.out⟩
            case measure => simp [intOf]; omega
    · have hje : j = T.length := by omega
      subst hje
      go_wp2_with fail
      go_ret
      exact ⟨rfl, CR.out⟩
end Go.Proofs.YtjojlcfoiknlhaaGreatDoor
