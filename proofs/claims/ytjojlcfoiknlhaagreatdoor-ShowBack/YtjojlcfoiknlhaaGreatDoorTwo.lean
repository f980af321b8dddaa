/-
  The contracts of two, row, sum, product and comparison.
-/
import Derived.Test.YtjojlcfoiknlhaaGreatDoorNodeA
namespace Go.Proofs.YtjojlcfoiknlhaaGreatDoor
open Go.RowKit

section
variable {w : World} {B pb : Nat} {tv : Value} {L : List M.Tk} {ok : Nat → Prop} {d : Nat} {s : M.St}

/-- Texts that lie in a row of their own. -/
def StrsB (w : World) (b : Nat) (ms : List (List UInt8)) : Prop := w.heap[b]? = some (.cells (strV ms) 9 (0, 0))
theorem StrsB.strs {b : Nat} {ms : List (List UInt8)} (h : StrsB w b ms) : Strs w b ms :=
  ⟨(Array.getElem?_eq_some_iff.1 h).1, fun j hj => by rw [cell_of_row w b j _ _ _ h]; simp [strV, hj]⟩
theorem StrsB.kept {ok : Nat → Prop} {w' : World} {b : Nat} {ms : List (List UInt8)} (h : StrsB w b ms) (hk : Kept B ok w w') : StrsB w' b ms := by
  unfold StrsB at h ⊢
  rw [hk.block b (Array.getElem?_eq_some_iff.1 h).1 (fun x => ?_)]
  · exact h
  · obtain ⟨cs, e, fz, hh, r⟩ := x.2.1
    rw [h] at hh
    simp only [Option.some.injEq, Obj.cells.injEq] at hh
    obtain ⟨_, rfl, _⟩ := hh
    rcases r with r | r | r <;> exact absurd r (by decide)

theorem isM_kind {i : Nat} {ms : List (List UInt8)} (h : M.isM L i ms = true) : (M.tk L i).kind ≠ 6 := by
  intro h6
  simp [M.isM, h6] at h

set_option maxHeartbeats 1000000 in
theorem two_operand_any (hL : LOk L) (m : Nat) (φ : Nat → M.St → M.Sp → Option (M.Out Int)) (hU : ∀ m', m' < m → ConN B pb tv L 216 φ m') (left : Nat) (hl : left < s.N.length) (hk6 : (M.tk L s.i).kind ≠ 6) (hm : L.length - s.i ≤ m) (hok : ∀ g, w.heap.size ≤ g → ok g) (hB : B ≤ w.heap.size) (h : Pst w B pb tv L ok d s) :
    Calls Tryz.prog 203 #[.pointer (some ⟨pb, 0, none⟩), .int .i64 (left : Int), .func (.func 216) #[.pointer (some ⟨pb, 0, none⟩)] #[]] w (PostN w B pb tv L ok d s (fun r => M.two L s (left : Int) (fun s => φ d s r))) := by
  have hi := h.at'
  have hs := hL.short
  have hfw := h.few
  have HT := take_any hL h hk6
  have hf1 := tok_text
  have HV : Hid (∀ o, M.Ev L (fun r => M.obind (φ d s.nx r) fun s' x => M.addN s' ⟨12, (left : Int), x, 0, [], (M.tk L s.i).text, 0, -1, M.atN s' (left : Int)⟩) o → M.Ev L (fun r => M.two L s (left : Int) (fun s => φ d s r)) o) := fun o ho => ho
  clear h hk6
  generalize M.tk L s.i = tk at *
  obtain ⟨kd, tx, pl⟩ := tk
  simp only [tkv] at HT HV
  go_enter Tryz.func203, Tryz.ntmps203
  go_wp2_with fail
  refine HT.mono ?_
  clear HT
  rintro e w1 ⟨rfl, hk, hp⟩
  have K1 := hide hk
  have hi1 := hp.at'
  have HM := hU (L.length - s.nx.i) (by simp only [M.St.nx]; omega) w1 ok d s.nx (Nat.le_refl _) (fun g hg => hok g (Nat.le_trans hk.size hg)) (Nat.le_trans hB hk.size) hp
  clear hk hp
  go_wp2_with fail
  refine HM.mono ?_
  clear HM
  rintro e w2 ⟨hk, o, hev, hpost⟩
  have K2 := hide (K1.out.trans hk)
  have E2 := hide hev
  clear hk hev K1
  cases o with
  | fail er p =>
    obtain ⟨rfl, he⟩ := hpost
    exact ⟨rfl, postN_fail K2.out (HV.out _ (M.Ev.bad E2.out)) he⟩
  | ok s2 x =>
    obtain ⟨rfl, hp, hg, hx⟩ := hpost
    have hl2 : left < s2.N.length := by have := hg.2.2.2; simp only [M.St.nx] at this; omega
    have P2 := hide hp
    have G2 := hide hg
    obtain ⟨nv, yv, nx, yx, hb, hn, hy, hrn, hry⟩ := hp.blk
    obtain ⟨na, nc, rfl⟩ := owns_form hn
    obtain ⟨g, rfl, _, hgl, hgc, hgm, hcell⟩ := owns_cell hn (by omega)
    obtain ⟨nd, hnd, hat⟩ := Rws.at (fun _ _ h => NdV.len h) left hl2 hrn
    have hfew := hp.few
    have hi2 := hp.at'
    have hlt := (Array.getElem?_eq_some_iff.1 hb).1
    have c3 : w2.cell? ⟨pb, 3, none⟩ = some (.slice (some ⟨g, 0, none⟩) s2.N.length nc) := by rw [cell_of_row w2 pb 3 _ _ _ hb]; rfl
    have c8 : w2.cell? ⟨g, left * 9 + 8, none⟩ = some (.int .i64 (s2.N[left].at')) := by
      obtain ⟨lv, rfl, _⟩ := hnd
      exact hcell _ _ ((hat 8 (by omega)).trans rfl)
    have hA : M.atN s2 (left : Int) = s2.N[left].at' := by simp [M.atN, List.getD, hl2]
    generalize s2.N[left].at' = pa at *
    unfold maxLen at hgm
    clear hp hg hb hn hy hrn hry hcell hnd hat
    have HA := fun w3 (h3 : Pst w3 B pb (tv) L ok d s2) (hz : w.heap.size ≤ w3.heap.size) => add_any hL h3 ⟨12, (left : Int), x, 0, [], tx, 0, -1, pa⟩ 0 none 0 0 ⟨_, rfl, World.ownsRow_nil _ _ _ _, by simp [Value.ownBlock]⟩ rfl (by have := G2.out; simp only [Grow, M.St.nx] at this; omega) (Nat.le_trans hB hz) (fun g hg => hok g (Nat.le_trans hz hg))
    have EV := hide (HV.out _ (M.Ev.bind E2.out (k := fun _ s' x => M.addN s' ⟨12, (left : Int), x, 0, [], tx, 0, -1, M.atN s' (left : Int)⟩) (M.Ev.pure.eq (fun _ => by rw [hA]; rfl))))
    have hz2 := K2.out.size
    have GX := hide (show Grow s ⟨s2.i, s2.N ++ [⟨12, (left : Int), x, 0, [], tx, 0, -1, pa⟩], s2.T⟩ by
      have h2 := G2.out
      simp only [Grow, M.St.nx, List.length_append, List.length_cons, List.length_nil] at h2 ⊢
      omega)
    clear hA E2
    go_wp2_with fail
    refine (HA w2 P2.out (by omega)).mono ?_
    clear HA
    rintro e w3 ⟨rfl, hk, hp⟩
    have K3 := hide (K2.out.trans hk)
    have P3 := hide hp
    clear hk hp
    go_wp2_with fail
    go_ret
    exact postN_ok K3.out EV.out P3.out GX.out (by simp; omega)

set_option maxHeartbeats 1000000 in
theorem two_product_any (hL : LOk L) (m : Nat) (φ : Nat → M.St → M.Sp → Option (M.Out Int)) (hU : ∀ m', m' < m → ConN B pb tv L 212 φ m') (left : Nat) (hl : left < s.N.length) (hk6 : (M.tk L s.i).kind ≠ 6) (hm : L.length - s.i ≤ m) (hok : ∀ g, w.heap.size ≤ g → ok g) (hB : B ≤ w.heap.size) (h : Pst w B pb tv L ok d s) :
    Calls Tryz.prog 203 #[.pointer (some ⟨pb, 0, none⟩), .int .i64 (left : Int), .func (.func 212) #[.pointer (some ⟨pb, 0, none⟩)] #[]] w (PostN w B pb tv L ok d s (fun r => M.two L s (left : Int) (fun s => φ d s r))) := by
  have hi := h.at'
  have hs := hL.short
  have hfw := h.few
  have HT := take_any hL h hk6
  have hf1 := tok_text
  have HV : Hid (∀ o, M.Ev L (fun r => M.obind (φ d s.nx r) fun s' x => M.addN s' ⟨12, (left : Int), x, 0, [], (M.tk L s.i).text, 0, -1, M.atN s' (left : Int)⟩) o → M.Ev L (fun r => M.two L s (left : Int) (fun s => φ d s r)) o) := fun o ho => ho
  clear h hk6
  generalize M.tk L s.i = tk at *
  obtain ⟨kd, tx, pl⟩ := tk
  simp only [tkv] at HT HV
  go_enter Tryz.func203, Tryz.ntmps203
  go_wp2_with fail
  refine HT.mono ?_
  clear HT
  rintro e w1 ⟨rfl, hk, hp⟩
  have K1 := hide hk
  have hi1 := hp.at'
  have HM := hU (L.length - s.nx.i) (by simp only [M.St.nx]; omega) w1 ok d s.nx (Nat.le_refl _) (fun g hg => hok g (Nat.le_trans hk.size hg)) (Nat.le_trans hB hk.size) hp
  clear hk hp
  go_wp2_with fail
  refine HM.mono ?_
  clear HM
  rintro e w2 ⟨hk, o, hev, hpost⟩
  have K2 := hide (K1.out.trans hk)
  have E2 := hide hev
  clear hk hev K1
  cases o with
  | fail er p =>
    obtain ⟨rfl, he⟩ := hpost
    exact ⟨rfl, postN_fail K2.out (HV.out _ (M.Ev.bad E2.out)) he⟩
  | ok s2 x =>
    obtain ⟨rfl, hp, hg, hx⟩ := hpost
    have hl2 : left < s2.N.length := by have := hg.2.2.2; simp only [M.St.nx] at this; omega
    have P2 := hide hp
    have G2 := hide hg
    obtain ⟨nv, yv, nx, yx, hb, hn, hy, hrn, hry⟩ := hp.blk
    obtain ⟨na, nc, rfl⟩ := owns_form hn
    obtain ⟨g, rfl, _, hgl, hgc, hgm, hcell⟩ := owns_cell hn (by omega)
    obtain ⟨nd, hnd, hat⟩ := Rws.at (fun _ _ h => NdV.len h) left hl2 hrn
    have hfew := hp.few
    have hi2 := hp.at'
    have hlt := (Array.getElem?_eq_some_iff.1 hb).1
    have c3 : w2.cell? ⟨pb, 3, none⟩ = some (.slice (some ⟨g, 0, none⟩) s2.N.length nc) := by rw [cell_of_row w2 pb 3 _ _ _ hb]; rfl
    have c8 : w2.cell? ⟨g, left * 9 + 8, none⟩ = some (.int .i64 (s2.N[left].at')) := by
      obtain ⟨lv, rfl, _⟩ := hnd
      exact hcell _ _ ((hat 8 (by omega)).trans rfl)
    have hA : M.atN s2 (left : Int) = s2.N[left].at' := by simp [M.atN, List.getD, hl2]
    generalize s2.N[left].at' = pa at *
    unfold maxLen at hgm
    clear hp hg hb hn hy hrn hry hcell hnd hat
    have HA := fun w3 (h3 : Pst w3 B pb (tv) L ok d s2) (hz : w.heap.size ≤ w3.heap.size) => add_any hL h3 ⟨12, (left : Int), x, 0, [], tx, 0, -1, pa⟩ 0 none 0 0 ⟨_, rfl, World.ownsRow_nil _ _ _ _, by simp [Value.ownBlock]⟩ rfl (by have := G2.out; simp only [Grow, M.St.nx] at this; omega) (Nat.le_trans hB hz) (fun g hg => hok g (Nat.le_trans hz hg))
    have EV := hide (HV.out _ (M.Ev.bind E2.out (k := fun _ s' x => M.addN s' ⟨12, (left : Int), x, 0, [], tx, 0, -1, M.atN s' (left : Int)⟩) (M.Ev.pure.eq (fun _ => by rw [hA]; rfl))))
    have hz2 := K2.out.size
    have GX := hide (show Grow s ⟨s2.i, s2.N ++ [⟨12, (left : Int), x, 0, [], tx, 0, -1, pa⟩], s2.T⟩ by
      have h2 := G2.out
      simp only [Grow, M.St.nx, List.length_append, List.length_cons, List.length_nil] at h2 ⊢
      omega)
    clear hA E2
    go_wp2_with fail
    refine (HA w2 P2.out (by omega)).mono ?_
    clear HA
    rintro e w3 ⟨rfl, hk, hp⟩
    have K3 := hide (K2.out.trans hk)
    have P3 := hide hp
    clear hk hp
    go_wp2_with fail
    go_ret
    exact postN_ok K3.out EV.out P3.out GX.out (by simp; omega)

set_option maxHeartbeats 1000000 in
theorem two_sum_any (hL : LOk L) (m : Nat) (φ : Nat → M.St → M.Sp → Option (M.Out Int)) (hU : ∀ m', m' < m → ConN B pb tv L 202 φ m') (left : Nat) (hl : left < s.N.length) (hk6 : (M.tk L s.i).kind ≠ 6) (hm : L.length - s.i ≤ m) (hok : ∀ g, w.heap.size ≤ g → ok g) (hB : B ≤ w.heap.size) (h : Pst w B pb tv L ok d s) :
    Calls Tryz.prog 203 #[.pointer (some ⟨pb, 0, none⟩), .int .i64 (left : Int), .func (.func 202) #[.pointer (some ⟨pb, 0, none⟩)] #[]] w (PostN w B pb tv L ok d s (fun r => M.two L s (left : Int) (fun s => φ d s r))) := by
  have hi := h.at'
  have hs := hL.short
  have hfw := h.few
  have HT := take_any hL h hk6
  have hf1 := tok_text
  have HV : Hid (∀ o, M.Ev L (fun r => M.obind (φ d s.nx r) fun s' x => M.addN s' ⟨12, (left : Int), x, 0, [], (M.tk L s.i).text, 0, -1, M.atN s' (left : Int)⟩) o → M.Ev L (fun r => M.two L s (left : Int) (fun s => φ d s r)) o) := fun o ho => ho
  clear h hk6
  generalize M.tk L s.i = tk at *
  obtain ⟨kd, tx, pl⟩ := tk
  simp only [tkv] at HT HV
  go_enter Tryz.func203, Tryz.ntmps203
  go_wp2_with fail
  refine HT.mono ?_
  clear HT
  rintro e w1 ⟨rfl, hk, hp⟩
  have K1 := hide hk
  have hi1 := hp.at'
  have HM := hU (L.length - s.nx.i) (by simp only [M.St.nx]; omega) w1 ok d s.nx (Nat.le_refl _) (fun g hg => hok g (Nat.le_trans hk.size hg)) (Nat.le_trans hB hk.size) hp
  clear hk hp
  go_wp2_with fail
  refine HM.mono ?_
  clear HM
  rintro e w2 ⟨hk, o, hev, hpost⟩
  have K2 := hide (K1.out.trans hk)
  have E2 := hide hev
  clear hk hev K1
  cases o with
  | fail er p =>
    obtain ⟨rfl, he⟩ := hpost
    exact ⟨rfl, postN_fail K2.out (HV.out _ (M.Ev.bad E2.out)) he⟩
  | ok s2 x =>
    obtain ⟨rfl, hp, hg, hx⟩ := hpost
    have hl2 : left < s2.N.length := by have := hg.2.2.2; simp only [M.St.nx] at this; omega
    have P2 := hide hp
    have G2 := hide hg
    obtain ⟨nv, yv, nx, yx, hb, hn, hy, hrn, hry⟩ := hp.blk
    obtain ⟨na, nc, rfl⟩ := owns_form hn
    obtain ⟨g, rfl, _, hgl, hgc, hgm, hcell⟩ := owns_cell hn (by omega)
    obtain ⟨nd, hnd, hat⟩ := Rws.at (fun _ _ h => NdV.len h) left hl2 hrn
    have hfew := hp.few
    have hi2 := hp.at'
    have hlt := (Array.getElem?_eq_some_iff.1 hb).1
    have c3 : w2.cell? ⟨pb, 3, none⟩ = some (.slice (some ⟨g, 0, none⟩) s2.N.length nc) := by rw [cell_of_row w2 pb 3 _ _ _ hb]; rfl
    have c8 : w2.cell? ⟨g, left * 9 + 8, none⟩ = some (.int .i64 (s2.N[left].at')) := by
      obtain ⟨lv, rfl, _⟩ := hnd
      exact hcell _ _ ((hat 8 (by omega)).trans rfl)
    have hA : M.atN s2 (left : Int) = s2.N[left].at' := by simp [M.atN, List.getD, hl2]
    generalize s2.N[left].at' = pa at *
    unfold maxLen at hgm
    clear hp hg hb hn hy hrn hry hcell hnd hat
    have HA := fun w3 (h3 : Pst w3 B pb (tv) L ok d s2) (hz : w.heap.size ≤ w3.heap.size) => add_any hL h3 ⟨12, (left : Int), x, 0, [], tx, 0, -1, pa⟩ 0 none 0 0 ⟨_, rfl, World.ownsRow_nil _ _ _ _, by simp [Value.ownBlock]⟩ rfl (by have := G2.out; simp only [Grow, M.St.nx] at this; omega) (Nat.le_trans hB hz) (fun g hg => hok g (Nat.le_trans hz hg))
    have EV := hide (HV.out _ (M.Ev.bind E2.out (k := fun _ s' x => M.addN s' ⟨12, (left : Int), x, 0, [], tx, 0, -1, M.atN s' (left : Int)⟩) (M.Ev.pure.eq (fun _ => by rw [hA]; rfl))))
    have hz2 := K2.out.size
    have GX := hide (show Grow s ⟨s2.i, s2.N ++ [⟨12, (left : Int), x, 0, [], tx, 0, -1, pa⟩], s2.T⟩ by
      have h2 := G2.out
      simp only [Grow, M.St.nx, List.length_append, List.length_cons, List.length_nil] at h2 ⊢
      omega)
    clear hA E2
    go_wp2_with fail
    refine (HA w2 P2.out (by omega)).mono ?_
    clear HA
    rintro e w3 ⟨rfl, hk, hp⟩
    have K3 := hide (K2.out.trans hk)
    have P3 := hide hp
    clear hk hp
    go_wp2_with fail
    go_ret
    exact postN_ok K3.out EV.out P3.out GX.out (by simp; omega)

set_option maxHeartbeats 1000000 in
theorem row_operand_any (hL : LOk L) (m : Nat) (bb : Bool) (φ : Nat → M.St → M.Sp → Option (M.Out Int)) (hφ : ∀ d s r, φ d s r = (if bb then r.prod d else r.oper d) s) (hU : ∀ m', m' ≤ m → ConN B pb tv L 216 φ m') (b : Nat) (hsg : StrsB w b (M.rowSigns bb)) (n : Nat) (hn : n = (M.rowSigns bb).length) (hm : L.length - s.i ≤ m) (hok : ∀ g, w.heap.size ≤ g → ok g) (hB : B ≤ w.heap.size) (h : Pst w B pb tv L ok d s) :
    Calls Tryz.prog 211 #[.pointer (some ⟨pb, 0, none⟩), .func (.func 216) #[.pointer (some ⟨pb, 0, none⟩)] #[], .slice (some ⟨b, 0, none⟩) n n] w (PostN w B pb tv L ok d s (fun r => M.obind (φ d s r) fun s x => r.row bb d s x)) := by
  have hi := h.at'
  have hs := hL.short
  have HM := hU m (Nat.le_refl _) w ok d s hm hok hB h
  clear h
  go_enter Tryz.func211, Tryz.ntmps211
  go_wp2_with fail
  refine HM.mono ?_
  clear HM
  rintro e w1 ⟨hk, o, hev, hpost⟩
  have K1 := hide hk
  have S1 := hide (hsg.kept hk)
  have E1 := hide hev
  clear hk hev
  cases o with
  | fail er p =>
    obtain ⟨rfl, he⟩ := hpost
    exact ⟨rfl, postN_fail K1.out (M.Ev.bad E1.out) he⟩
  | ok s1 x =>
    obtain ⟨rfl, hp, hg, hx⟩ := hpost
    have P1 := hide hp
    have G1 := hide hg
    clear hp hg
    obtain ⟨kx, rfl⟩ := Int.eq_ofNat_of_zero_le hx.1
    have V1 := hide (fun o ho => M.Ev.bind (k := fun r s x => r.row bb d s x) E1.out ho (o := o))
    clear E1 hsg
    subst hn
    go_wp2_with fail
    go_loopw [7] (fun v wr => ∃ (k : Nat) (s' : M.St), v = .int .i64 (k : Int) ∧ k < s'.N.length ∧ Hid (Kept B ok w wr) ∧ Hid (StrsB wr b (M.rowSigns bb)) ∧ Hid (Grow s s') ∧ Hid (Pst wr B pb tv L ok d s') ∧
        Hid (∀ o, M.Ev L (fun r => r.row bb d s' (k : Int)) o → M.Ev L (fun r => M.obind (φ d s r) fun s x => r.row bb d s x) o)) (fun _ wr => L.length - nxt wr pb)
    case atStart => exact ⟨kx, s1, rfl, by omega, K1.out, S1.out, G1.out, P1.out, V1.out⟩
    case round =>
      clear V1 P1 G1 S1 K1 hx
      obtain ⟨k, s', rfl, hk, KR, SR, GR, PR, VR⟩ := hrel
      have HI := is_any hL PR.out b (M.rowSigns bb).length (M.rowSigns bb) SR.out.strs (by cases bb <;> decide)
      have hi' := PR.out.at'
      have hj : s.i < s'.i := GR.out.1
      have hnx := PR.out.nxt
      generalize hq : M.isM L s'.i (M.rowSigns bb) = q at *
      have Q1 := hide hq
      clear hq
      go_wp2_with fail
      refine HI.mono ?_
      clear HI
      rintro e w2 ⟨rfl, hc⟩
      have K2 := hide (KR.out.trans (still_kept hc))
      have P2 := hide (PR.out.still hc)
      have S2 := hide (SR.out.kept (still_kept (B := B) (ok := ok) hc))
      clear hc KR PR SR
      cases q
      · have EV := hide (VR.out _ (M.Ev.step (M.Ev.pure.eq (o := .ok s' (k : Int)) (fun r => by show (if M.isM L s'.i (M.rowSigns bb) then _ else _) = _; rw [Q1.out]; rfl))))
        clear VR
        go_wp2_with fail
        go_ret
        exact postN_ok K2.out EV.out P2.out GR.out (by omega)
      · have HT := two_operand_any hL m φ (fun m' h => hU m' (by omega)) k hk (isM_kind Q1.out) (by omega) (fun g hg => hok g (Nat.le_trans K2.out.size hg)) (Nat.le_trans hB K2.out.size) P2.out
        have VT := hide (fun o (ho : M.Ev L (fun r => M.obind (M.two L s' (k : Int) (fun s => φ d s r)) fun s y => r.row bb d s y) o) => VR.out o (M.Ev.step (ho.eq (fun r => by
          show (if M.isM L s'.i (M.rowSigns bb) then M.obind (M.two L s' (k : Int) (if bb then r.prod d else r.oper d)) _ else _) = _
          rw [Q1.out, show (fun s => φ d s r) = (if bb then r.prod d else r.oper d) from funext fun s => hφ d s r]
          rfl))))
        clear VR P2
        go_wp2_with fail
        refine HT.mono ?_
        clear HT
        rintro e w3 ⟨hk3, o, hev, hpost⟩
        have K3 := hide (K2.out.trans hk3)
        have S3 := hide (S2.out.kept hk3)
        have E3 := hide hev
        clear hk3 hev K2 S2
        cases o with
        | fail er p =>
          obtain ⟨rfl, he⟩ := hpost
          exact ⟨rfl, postN_fail K3.out (VT.out _ (M.Ev.bad E3.out)) he⟩
        | ok s3 y =>
          obtain ⟨rfl, hp, hg, hy⟩ := hpost
          obtain ⟨ky, rfl⟩ := Int.eq_ofNat_of_zero_le hy.1
          have P3 := hide hp
          have G3 := hide hg
          have V3 := hide (fun o ho => VT.out o (M.Ev.bind (k := fun r s x => r.row bb d s x) E3.out ho))
          have hi3 := hp.at'
          clear hp hg VT
          go_wp2_with fail
          go_roundw
          case rel =>
            have h1 := GR.out
            have h2 := G3.out
            simp only [Grow] at h1 h2
            exact ⟨ky, s3, rfl, by omega, K3.out, S3.out, ⟨by omega, by omega, by omega, by omega⟩, P3.out, V3.out⟩
          case measure =>
            have h2 := G3.out.1
            have h3 := P3.out.nxt
            rw [h3, hnx]
            omega

set_option maxHeartbeats 1000000 in
theorem row_product_any (hL : LOk L) (m : Nat) (bb : Bool) (φ : Nat → M.St → M.Sp → Option (M.Out Int)) (hφ : ∀ d s r, φ d s r = (if bb then r.prod d else r.oper d) s) (hU : ∀ m', m' ≤ m → ConN B pb tv L 212 φ m') (b : Nat) (hsg : StrsB w b (M.rowSigns bb)) (n : Nat) (hn : n = (M.rowSigns bb).length) (hm : L.length - s.i ≤ m) (hok : ∀ g, w.heap.size ≤ g → ok g) (hB : B ≤ w.heap.size) (h : Pst w B pb tv L ok d s) :
    Calls Tryz.prog 211 #[.pointer (some ⟨pb, 0, none⟩), .func (.func 212) #[.pointer (some ⟨pb, 0, none⟩)] #[], .slice (some ⟨b, 0, none⟩) n n] w (PostN w B pb tv L ok d s (fun r => M.obind (φ d s r) fun s x => r.row bb d s x)) := by
  have hi := h.at'
  have hs := hL.short
  have HM := hU m (Nat.le_refl _) w ok d s hm hok hB h
  clear h
  go_enter Tryz.func211, Tryz.ntmps211
  go_wp2_with fail
  refine HM.mono ?_
  clear HM
  rintro e w1 ⟨hk, o, hev, hpost⟩
  have K1 := hide hk
  have S1 := hide (hsg.kept hk)
  have E1 := hide hev
  clear hk hev
  cases o with
  | fail er p =>
    obtain ⟨rfl, he⟩ := hpost
    exact ⟨rfl, postN_fail K1.out (M.Ev.bad E1.out) he⟩
  | ok s1 x =>
    obtain ⟨rfl, hp, hg, hx⟩ := hpost
    have P1 := hide hp
    have G1 := hide hg
    clear hp hg
    obtain ⟨kx, rfl⟩ := Int.eq_ofNat_of_zero_le hx.1
    have V1 := hide (fun o ho => M.Ev.bind (k := fun r s x => r.row bb d s x) E1.out ho (o := o))
    clear E1 hsg
    subst hn
    go_wp2_with fail
    go_loopw [7] (fun v wr => ∃ (k : Nat) (s' : M.St), v = .int .i64 (k : Int) ∧ k < s'.N.length ∧ Hid (Kept B ok w wr) ∧ Hid (StrsB wr b (M.rowSigns bb)) ∧ Hid (Grow s s') ∧ Hid (Pst wr B pb tv L ok d s') ∧
        Hid (∀ o, M.Ev L (fun r => r.row bb d s' (k : Int)) o → M.Ev L (fun r => M.obind (φ d s r) fun s x => r.row bb d s x) o)) (fun _ wr => L.length - nxt wr pb)
    case atStart => exact ⟨kx, s1, rfl, by omega, K1.out, S1.out, G1.out, P1.out, V1.out⟩
    case round =>
      clear V1 P1 G1 S1 K1 hx
      obtain ⟨k, s', rfl, hk, KR, SR, GR, PR, VR⟩ := hrel
      have HI := is_any hL PR.out b (M.rowSigns bb).length (M.rowSigns bb) SR.out.strs (by cases bb <;> decide)
      have hi' := PR.out.at'
      have hj : s.i < s'.i := GR.out.1
      have hnx := PR.out.nxt
      generalize hq : M.isM L s'.i (M.rowSigns bb) = q at *
      have Q1 := hide hq
      clear hq
      go_wp2_with fail
      refine HI.mono ?_
      clear HI
      rintro e w2 ⟨rfl, hc⟩
      have K2 := hide (KR.out.trans (still_kept hc))
      have P2 := hide (PR.out.still hc)
      have S2 := hide (SR.out.kept (still_kept (B := B) (ok := ok) hc))
      clear hc KR PR SR
      cases q
      · have EV := hide (VR.out _ (M.Ev.step (M.Ev.pure.eq (o := .ok s' (k : Int)) (fun r => by show (if M.isM L s'.i (M.rowSigns bb) then _ else _) = _; rw [Q1.out]; rfl))))
        clear VR
        go_wp2_with fail
        go_ret
        exact postN_ok K2.out EV.out P2.out GR.out (by omega)
      · have HT := two_product_any hL m φ (fun m' h => hU m' (by omega)) k hk (isM_kind Q1.out) (by omega) (fun g hg => hok g (Nat.le_trans K2.out.size hg)) (Nat.le_trans hB K2.out.size) P2.out
        have VT := hide (fun o (ho : M.Ev L (fun r => M.obind (M.two L s' (k : Int) (fun s => φ d s r)) fun s y => r.row bb d s y) o) => VR.out o (M.Ev.step (ho.eq (fun r => by
          show (if M.isM L s'.i (M.rowSigns bb) then M.obind (M.two L s' (k : Int) (if bb then r.prod d else r.oper d)) _ else _) = _
          rw [Q1.out, show (fun s => φ d s r) = (if bb then r.prod d else r.oper d) from funext fun s => hφ d s r]
          rfl))))
        clear VR P2
        go_wp2_with fail
        refine HT.mono ?_
        clear HT
        rintro e w3 ⟨hk3, o, hev, hpost⟩
        have K3 := hide (K2.out.trans hk3)
        have S3 := hide (S2.out.kept hk3)
        have E3 := hide hev
        clear hk3 hev K2 S2
        cases o with
        | fail er p =>
          obtain ⟨rfl, he⟩ := hpost
          exact ⟨rfl, postN_fail K3.out (VT.out _ (M.Ev.bad E3.out)) he⟩
        | ok s3 y =>
          obtain ⟨rfl, hp, hg, hy⟩ := hpost
          obtain ⟨ky, rfl⟩ := Int.eq_ofNat_of_zero_le hy.1
          have P3 := hide hp
          have G3 := hide hg
          have V3 := hide (fun o ho => VT.out o (M.Ev.bind (k := fun r s x => r.row bb d s x) E3.out ho))
          have hi3 := hp.at'
          clear hp hg VT
          go_wp2_with fail
          go_roundw
          case rel =>
            have h1 := GR.out
            have h2 := G3.out
            simp only [Grow] at h1 h2
            exact ⟨ky, s3, rfl, by omega, K3.out, S3.out, ⟨by omega, by omega, by omega, by omega⟩, P3.out, V3.out⟩
          case measure =>
            have h2 := G3.out.1
            have h3 := P3.out.nxt
            rw [h3, hnx]
            omega

set_option maxHeartbeats 400000 in
theorem product_any (hL : LOk L) (m : Nat) (hU : ∀ m', m' ≤ m → ConN B pb tv L 216 (fun d s r => r.oper d s) m') : ConN B pb tv L 212 (fun d s r => r.prod d s) m := by
  intro w ok d s hm hok hB h
  have HR := row_operand_any (w := w.alloc (.cells (strV (M.rowSigns false)) 9)) hL m false (fun d s r => r.oper d s) (fun _ _ _ => rfl) hU w.heap.size (heap_alloc_new w _) 1 rfl hm (fun g hg => hok g (by simp at hg; omega)) (by simp; omega) (h.alloc _)
  have HV : Hid (∀ o, M.Ev L (fun r => M.obind (r.oper d s) fun s x => r.row false d s x) o → M.Ev L (fun r => r.prod d s) o) := fun o ho => M.Ev.step (ho.eq fun r => rfl)
  clear h hU
  go_enter Tryz.func212, Tryz.ntmps212
  go_wp2_with fail
  refine HR.mono ?_
  clear HR
  rintro e w1 ⟨hk, o, hev, hpost⟩
  have K1 := hide (((Kept.refl B ok w).alloc _).trans hk)
  have E1 := hide (HV.out o hev)
  clear hk hev HV
  cases o with
  | fail er p =>
    obtain ⟨rfl, he⟩ := hpost
    exact ⟨rfl, postN_fail K1.out E1.out he⟩
  | ok s1 x =>
    obtain ⟨rfl, hp, hg, hx⟩ := hpost
    have P1 := hide hp
    have G1 := hide hg
    clear hp hg
    go_wp2_with fail
    go_ret
    exact postN_ok K1.out E1.out P1.out G1.out hx
set_option maxHeartbeats 400000 in
theorem sum_any (hL : LOk L) (m : Nat) (hU : ∀ m', m' ≤ m → ConN B pb tv L 212 (fun d s r => r.prod d s) m') : ConN B pb tv L 202 (fun d s r => r.sum d s) m := by
  intro w ok d s hm hok hB h
  have HR := row_product_any (w := w.alloc (.cells (strV (M.rowSigns true)) 9)) hL m true (fun d s r => r.prod d s) (fun _ _ _ => rfl) hU w.heap.size (heap_alloc_new w _) 2 rfl hm (fun g hg => hok g (by simp at hg; omega)) (by simp; omega) (h.alloc _)
  have HV : Hid (∀ o, M.Ev L (fun r => M.obind (r.prod d s) fun s x => r.row true d s x) o → M.Ev L (fun r => r.sum d s) o) := fun o ho => M.Ev.step (ho.eq fun r => rfl)
  clear h hU
  go_enter Tryz.func202, Tryz.ntmps202
  go_wp2_with fail
  refine HR.mono ?_
  clear HR
  rintro e w1 ⟨hk, o, hev, hpost⟩
  have K1 := hide (((Kept.refl B ok w).alloc _).trans hk)
  have E1 := hide (HV.out o hev)
  clear hk hev HV
  cases o with
  | fail er p =>
    obtain ⟨rfl, he⟩ := hpost
    exact ⟨rfl, postN_fail K1.out E1.out he⟩
  | ok s1 x =>
    obtain ⟨rfl, hp, hg, hx⟩ := hpost
    have P1 := hide hp
    have G1 := hide hg
    clear hp hg
    go_wp2_with fail
    go_ret
    exact postN_ok K1.out E1.out P1.out G1.out hx

set_option maxHeartbeats 1000000 in
theorem comparison_any (hL : LOk L) (m : Nat) (hU : ∀ m', m' ≤ m → ConN B pb tv L 202 (fun d s r => r.sum d s) m') : ConN B pb tv L 188 (fun d s r => r.comp d s) m := by
  intro w ok d s hm hok hB h
  have hi := h.at'
  have hs := hL.short
  have HM := hU m (Nat.le_refl _) w ok d s hm hok hB h
  have HV : Hid (∀ o, M.Ev L (fun r => M.obind (r.sum d s) fun s x => if M.isM L s.i [[61, 61], [60]] then M.two L s x (r.sum d) else some (.ok s x)) o → M.Ev L (fun r => r.comp d s) o) := fun o ho => M.Ev.step (ho.eq fun r => rfl)
  clear h
  go_enter Tryz.func188, Tryz.ntmps188
  go_wp2_with fail
  refine HM.mono ?_
  clear HM
  rintro e w1 ⟨hk, o, hev, hpost⟩
  have K1 := hide hk
  have E1 := hide hev
  clear hk hev
  cases o with
  | fail er p =>
    obtain ⟨rfl, he⟩ := hpost
    exact ⟨rfl, postN_fail K1.out (HV.out _ (M.Ev.bad E1.out)) he⟩
  | ok s1 x =>
    obtain ⟨rfl, hp, hg, hx⟩ := hpost
    obtain ⟨kx, rfl⟩ := Int.eq_ofNat_of_zero_le hx.1
    have HI := is_any hL (hp.alloc (.cells (strV [[61, 61], [60]]) 9)) w1.heap.size 2 [[61, 61], [60]] (strs_many _ _ _) (by decide)
    have P1 := hide hp
    have G1 := hide hg
    have hi1 := hp.at'
    have hj := hg.1
    have V1 := hide (fun o ho => HV.out o (M.Ev.bind E1.out ho))
    clear hp hg HV E1
    generalize hq : M.isM L s1.i [[61, 61], [60]] = q at *
    have Q1 := hide hq
    clear hq
    go_wp2_with fail
    refine HI.mono ?_
    clear HI
    rintro e w2 ⟨rfl, hc⟩
    have K2 := hide (K1.out.trans (((Kept.refl B ok w1).alloc _).trans (still_kept hc)))
    have P2 := hide ((P1.out.alloc _).still hc)
    clear hc P1 K1
    cases q
    · have EV := hide (V1.out _ (M.Ev.pure.eq (o := .ok s1 (kx : Int)) (fun r => by simp)))
      go_wp2_with fail
      go_ret
      exact postN_ok K2.out EV.out P2.out G1.out hx
    · have HT := two_sum_any hL m (fun d s r => r.sum d s) (fun m' h => hU m' (by omega)) kx (by omega) (isM_kind Q1.out) (by omega) (fun g hg => hok g (Nat.le_trans K2.out.size hg)) (Nat.le_trans hB K2.out.size) P2.out
      clear P2
      go_wp2_with fail
      refine HT.mono ?_
      clear HT
      rintro e w3 ⟨hk3, o, hev, hpost⟩
      have K3 := hide (K2.out.trans hk3)
      have E3 := hide (V1.out _ (hev.eq (fun r => if_pos trivial)))
      clear hk3 hev K2 V1
      cases o with
      | fail er p =>
        obtain ⟨rfl, he⟩ := hpost
        exact ⟨rfl, postN_fail K3.out E3.out he⟩
      | ok s3 y =>
        obtain ⟨rfl, hp, hg, hy⟩ := hpost
        have P3 := hide hp
        have G3 := hide (show Grow s s3 by
          have h1 := G1.out
          have h2 := hg
          simp only [Grow] at h1 h2 ⊢
          omega)
        clear hp hg
        go_wp2_with fail
        go_ret
        exact postN_ok K3.out E3.out P3.out G3.out hy
end
end Go.Proofs.YtjojlcfoiknlhaaGreatDoor
