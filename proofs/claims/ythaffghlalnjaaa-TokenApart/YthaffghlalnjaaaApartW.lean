/-
  The walk of the statement TokenApart: it returns true, and nothing that was there has turned.
-/
import Derived.Test.YthaffghlalnjaaaSame
import Derived.Test.YthaffghlalnjaaaMathe
import Derived.Deep.DeepCutAuto
import Derived.Deep.CutBlock
namespace Go.Proofs.Ythaffghlalnjaaa
open Go.RowKit

theorem scan_len (l : List UInt8) : (M.scan l).1.length ≤ 1001 := by
  have key : ∀ (f : Nat) (l : List UInt8) (a : Nat) (acc : List M.Tk), acc.length ≤ 1000 → (M.scanF f l a acc).1.length ≤ 1001 := by
    intro f
    induction f with
    | zero => intro l a acc _; simp [M.scanF]
    | succ f ih =>
      intro l a acc h
      simp only [M.scanF]
      split
      · simp; omega
      split
      · simp
      split
      · simp
      · exact ih _ _ _ (by simp; omega)
  unfold M.scan
  split
  · simp
  · exact key _ _ _ _ (by simp)

theorem chk_le (l : List UInt8) : ∀ (ts : List M.Tk) (a : Nat) (pk : Int), M.chk l a pk ts → a ≤ l.length
  | [], a, _, h => by have : a = l.length := h; omega
  | t :: r, a, pk, h => Nat.le_trans h.1 h.2.1

set_option maxHeartbeats 2000000 in
set_option maxRecDepth 100000 in
theorem tokenApart_any (s : ByteArray) (w : World) (hs : s.size ≤ maxLen) : Calls Try.prog 4 #[.string s] w fun e w' => e = .returned (.bool true) ∧ Below w.heap.size w w' := by
  have hap := hide (M.scan_apart s.data.toList)
  have hno := hide (M.scan_none s.data.toList)
  have hs' := hs
  unfold maxLen at hs'
  go_enter Try.func4, Try.ntmps4
  go_wp2_with fail
  refine (begun_any _).mono ?_
  rintro e w1 ⟨rfl, hb1⟩
  have B1 := hide hb1
  clear hb1
  go_wp2_with fail
  refine (scan_any _ _ hs).mono ?_
  rintro e w2 ⟨ad, c, rfl, hown, hb2⟩
  have hlen : (M.scan s.data.toList).1.length ≤ 1001 := scan_len _
  generalize M.scan s.data.toList = R at *
  obtain ⟨L, er, pl⟩ := R
  simp only at hown hap hno hlen ⊢
  have B2 := hide hb2
  have H2 := hide hown
  clear hown hb2
  by_cases her : er = 0
  · subst her
    obtain ⟨hck, last, hla, hk6⟩ := hap.out rfl
    have hpos : 0 < L.length := by cases L with | nil => simp at hla | cons x xs => simp
    obtain ⟨g, rfl, _, hg, hcap, hcm, hcell⟩ := owns_at H2.out hpos
    have HC := hide hcell
    have HK := hide hck
    have HL := hide hla
    have H6 := hide hk6
    clear hcell hck hla hk6 hap hno
    go_wp2_with fail
    go_loopw [5, 6] (fun av iv wr => ∃ (k a : Nat) (pk : Int), k ≤ L.length ∧ iv = .int .i64 (k : Int) ∧ av = .int .i64 (a : Int) ∧ Hid (M.chk s.data.toList a pk (L.drop k)) ∧ Hid (∀ h : 0 < k ∧ k ≤ L.length, pk = (L[k - 1]'(by omega)).kind) ∧
        Hid (Below (w2.heap.size + 1) (w2.alloc (Obj.cells #[Value.int IntKind.i64 0, Value.int IntKind.i64 (pl : Int)] 25)) wr)) (fun _ iv _ => L.length - (intOf iv).toNat)
    case atStart => exact ⟨0, 0, 0, Nat.zero_le _, rfl, rfl, HK, fun h => absurd h.1 (by omega), Below.refl _ _⟩
    case round =>
      obtain ⟨k, a, pk, hk, rfl, rfl, hck, hpk, hbr⟩ := hrel
      have hal := chk_le _ _ _ _ hck.out
      rw [bl] at hal
      by_cases hlt : k < L.length
      · rw [List.drop_eq_getElem_cons hlt] at hck
        have hgr : g < w2.heap.size + 1 := by omega
        obtain ⟨x0, x1, x2⟩ := tok_cells hlt HC.out
        have y0 := (hbr.out.cell (p := ⟨g, k * 3, none⟩) hgr).trans ((World.cell?_alloc_past _ _ _ hg).trans x0)
        have y1 := (hbr.out.cell (p := ⟨g, k * 3 + 1, none⟩) hgr).trans ((World.cell?_alloc_past _ _ _ hg).trans x1)
        have y2 := (hbr.out.cell (p := ⟨g, k * 3 + 2, none⟩) hgr).trans ((World.cell?_alloc_past _ _ _ hg).trans x2)
        clear x0 x1 x2
        obtain ⟨tk, htk⟩ : ∃ tk, tk = L[k] := ⟨_, rfl⟩
        rw [← htk] at y0 y1 y2 hck
        have hsz3 : w2.heap.size + 1 ≤ wr.heap.size := by have := hbr.out.size; simpa using this
        obtain ⟨kd, tx, p⟩ := tk
        have HKD : Hid (kd = (L[k + 1 - 1]'(by omega)).kind) := by show _ = L[k].kind; rw [← htk]
        clear htk
        obtain ⟨k1, k2, k3, k4, k5⟩ := hck.out
        simp only at y0 y1 y2 k1 k2 k3 k4 k5
        have hte := chk_le _ _ _ _ k5
        rw [bl] at k2 hte
        obtain ⟨bx, hbx⟩ : ∃ bx : ByteArray, bx = ⟨tx.toArray⟩ := ⟨_, rfl⟩
        rw [← hbx] at y1
        have hbs : bx.size = tx.length := by rw [hbx]; simp [ByteArray.size]
        have hte2 : p + bx.size + (if kd = 4 then 2 else 0) ≤ s.size := by rw [hbs]; exact hte
        have HE : Hid (M.tend ⟨kd, tx, p⟩ = p + bx.size + (if kd = 4 then 2 else 0)) := by show _ = _; rw [hbs]; rfl
        have K3 := hide k3
        have K4 := hide k4
        have K5 := hide k5
        clear hck k3 k4 k5 hbs hbx hte
        have i1 : (a : Int) ≤ (p : Int) := by omega
        have i2 : (p : Int) ≤ (s.size : Int) := by omega
        have hd1 : decide (p < a) = false := by simp; omega
        have hd2 : decide (s.size < p) = false := by simp; omega
        go_upto_block 2 with fail
        go_cut [8] (fun _ wc => wc = wr.alloc (Obj.cells #[Value.int IntKind.i64 kd, Value.string bx, Value.int IntKind.i64 (p : Int)] 32))
        case first =>
          go_wp2_with fail
          go_loop [8] (fun kv => ∃ j : Nat, kv = .int .i64 (j : Int) ∧ a ≤ j ∧ j ≤ p) (fun kv => p - (intOf kv).toNat)
          case atStart => exact ⟨a, rfl, Nat.le_refl _, k1⟩
          case round =>
            obtain ⟨j, rfl, hj1, hj2⟩ := hrel
            by_cases hj : j < p
            · have hjs : j < s.size := by omega
              have hb := K3.out j (by rw [bl]; exact hjs) hj1 hj
              have hbb : M.blank s[j].toNat = true := hb
              have hc2 : ((s[j].toNat : Int) != 32) = false ∨ (((s[j].toNat : Int) != 32) = true ∧ ((s[j].toNat : Int) != 10) = false) := by simp [M.blank] at hbb; simp; omega
              clear hb hbb
              rcases hc2 with hc2 | ⟨hc2, hc3⟩
              all_goals
                go_wp2_with fail
                go_round
                case rel => exact ⟨j + 1, by go_num, by omega, by omega⟩
                case measure => simp [intOf]; omega
            · go_wp2_with fail
              go_meet
              rfl
        case rest =>
          subst hcut
          go_upto_region 18 with fail
          go_cut [9] (fun pv wc => (∃ b, pv = .bool b ∧ Hid (b = M.plain kd)) ∧ wc = wr.alloc (Obj.cells #[Value.int IntKind.i64 kd, Value.string bx, Value.int IntKind.i64 (p : Int)] 32))
          case first =>
            by_cases e1 : kd = 1
            · have e1' : (kd == 1) = true := by simp [e1]
              have HP : Hid (true = M.plain kd) := by show _ = _; simp [M.plain, e1]
              clear e1
              go_wp2_with fail
              go_meet
              exact ⟨⟨_, rfl, HP⟩, rfl⟩
            · have e1' : (kd == 1) = false := by simp [e1]
              by_cases e2 : kd = 2
              · have e2' : (kd == 2) = true := by simp [e2]
                have HP : Hid (true = M.plain kd) := by show _ = _; simp [M.plain, e2]
                clear e1 e2
                go_wp2_with fail
                go_meet
                exact ⟨⟨_, rfl, HP⟩, rfl⟩
              · have e2' : (kd == 2) = false := by simp [e2]
                have HP : Hid ((kd == 3) = M.plain kd) := by show _ = _; simp [M.plain, e1, e2]
                clear e1 e2
                go_wp2_with fail
                go_meet
                exact ⟨⟨_, rfl, HP⟩, rfl⟩
          case rest =>
            obtain ⟨⟨b, rfl, hbp⟩, rfl⟩ := hcut
            go_upto_region 19 with fail
            go_cut [126] (fun cv wc => cv = .bool false ∧ wc = wr.alloc (Obj.cells #[Value.int IntKind.i64 kd, Value.string bx, Value.int IntKind.i64 (p : Int)] 32))
            case first =>
              by_cases hk0 : k = 0
              · subst hk0
                go_wp2_with fail
                go_meet
                exact ⟨rfl, rfl⟩
              · have hkp : (0 : Int) < (k : Int) := by omega
                cases b
                · go_wp2_with fail
                  go_meet
                  exact ⟨rfl, rfl⟩
                · by_cases hpa : p = a
                  · have hpa' : ((p : Int) == (a : Int)) = true := by simp; omega
                    have K := K4.out hbp.out.symm hpa
                    have hk1 : k - 1 < L.length := by omega
                    obtain ⟨x0, _, _⟩ := tok_cells hk1 HC.out
                    have y3 := (hbr.out.cell (p := ⟨g, (k - 1) * 3, none⟩) hgr).trans ((World.cell?_alloc_past _ _ _ hg).trans x0)
                    have hpk1 := hpk.out ⟨by omega, by omega⟩
                    rw [← hpk1] at y3
                    have K' := hide K
                    clear x0 hpa hpk1 K
                    have hgw : g < wr.heap.size := by omega
                    cases hpp : M.plain pk
                    · have f1 : (pk == 1) = false := by simp [M.plain] at hpp; simp; omega
                      have f2 : (pk == 2) = false := by simp [M.plain] at hpp; simp; omega
                      have f3 : (pk == 3) = false := by simp [M.plain] at hpp; simp; omega
                      clear hpp
                      go_wp2_with fail
                      go_meet
                      exact ⟨rfl, rfl⟩
                    · obtain ⟨f0, f4⟩ := K'.out hpp
                      have f1 : (pk == 1) = false := by simp; omega
                      have f2 : (pk == 2) = false := by simp; omega
                      have f3 : (pk == 3) = true := by simp; omega
                      have f5 : (kd != 3) = true := by simp; omega
                      clear hpp f0 f4
                      go_wp2_with fail
                      go_meet
                      exact ⟨rfl, rfl⟩
                  · have hpa' : ((p : Int) == (a : Int)) = false := by simp; omega
                    go_wp2_with fail
                    go_meet
                    exact ⟨rfl, rfl⟩
            case rest =>
              obtain ⟨rfl, rfl⟩ := hcut
              by_cases h4 : kd = 4
              · have h4' : (kd == 4) = true := by simp [h4]
                rw [if_pos h4] at HE hte2
                have H4 := hide h4
                clear h4
                go_wp2_with fail
                go_roundw
                case rel => exact ⟨k + 1, p + bx.size + 2, kd, by omega, by go_num, by go_num, by show M.chk _ _ _ _; rw [← HE.out]; exact K5.out, fun _ => HKD.out, hbr.out.alloc hsz3 _⟩
                case measure => simp [intOf]; omega
              · have h4' : (kd == 4) = false := by simp [h4]
                rw [if_neg h4] at HE hte2
                clear h4
                go_wp2_with fail
                go_roundw
                case rel => exact ⟨k + 1, p + bx.size, kd, by omega, by go_num, by go_num, by show M.chk _ _ _ _; rw [show p + bx.size = p + bx.size + 0 from rfl, ← HE.out]; exact K5.out, fun _ => HKD.out, hbr.out.alloc hsz3 _⟩
                case measure => simp [intOf]; omega
      · have hkl : k = L.length := by omega
        have hae : a = s.size := by
          have := hck.out
          rw [List.drop_of_length_le (by omega)] at this
          have h2 : a = s.data.toList.length := this
          rw [bl] at h2
          exact h2
        have hn1 : L.length - 1 < L.length := by omega
        obtain ⟨x0, _, _⟩ := tok_cells hn1 HC.out
        have y0 := (hbr.out.cell (p := ⟨g, (L.length - 1) * 3, none⟩) (by show g < _; omega)).trans ((World.cell?_alloc_past _ _ _ hg).trans x0)
        have h6 : L[L.length - 1].kind = 6 := by
          have := HL.out
          rw [List.getLast?_eq_getElem?, List.getElem?_eq_getElem hn1] at this
          rw [Option.some.inj this]; exact H6.out
        rw [h6] at y0
        have hae' : ((a : Int) == (s.size : Int)) = true := by simp; omega
        have hpos' : (0 : Int) < (L.length : Int) := by omega
        have HKL := hide hkl
        have HAE := hide hae
        clear hkl hae x0 h6 hck hpk
        go_wp2_with fail
        go_ret
        have s1 := B1.out.size
        have s2 := B2.out.size
        exact ⟨rfl, ((B1.out.trans (B2.out.mono s1)).alloc (by omega) _).trans (hbr.out.mono (by omega))⟩
  · have hL := hno.out her
    subst hL
    have hne : (er != 0) = true := by simp [her]
    clear hap hno her
    go_wp2
    go_ret
    exact ⟨rfl, ((B1.out.trans (B2.out.mono B1.out.size)).alloc (Nat.le_trans B1.out.size B2.out.size) _)⟩
end Go.Proofs.Ythaffghlalnjaaa
