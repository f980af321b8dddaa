/-
  The contract of withTail.
-/
import Derived.Test.YtjojlcfoiknlhaaGreatDoorLse
namespace Go.Proofs.YtjojlcfoiknlhaaGreatDoor
open Go.RowKit

section
variable {w : World} {B pb : Nat} {tv : Value} {L : List M.Tk} {ok : Nat → Prop} {d : Nat} {s : M.St}

/-- Blocks that are not ok have changed, and nothing that a parser holds. -/
theorem Pst.free {S : Nat → Prop} {w' : World} {ok' : Nat → Prop} (h : Pst w B pb tv L ok d s) (hc : Chg S w w') (hs : ∀ k, S k → ¬ ok k ∧ tv.ownBlock ≠ some k) (ho : ∀ g, ok g → g < w.heap.size → ok' g) : Pst w' B pb tv L ok' d s := by
  obtain ⟨h1, h2, h3, h4, h5, nv, yv, nx, yx, hb, hn, hy, hrn, hry⟩ := h
  have hlt := (Array.getElem?_eq_some_iff.1 hb).1
  have c3 : w.cell? ⟨pb, 3, none⟩ = some nv := by rw [cell_of_row w pb 3 _ _ _ hb]; rfl
  have c4 : w.cell? ⟨pb, 4, none⟩ = some yv := by rw [cell_of_row w pb 4 _ _ _ hb]; rfl
  have hbw : w'.heap[pb]? = w.heap[pb]? := hc.block pb hlt (fun x => (hs pb x).1 h5.1)
  have key : ∀ g, ok g → g < w.heap.size → S g → (∃ cur e, w.heap[g]? = some (.cells cur e (0, 0)) ∧ (e = 71 ∨ e = 3)) → False := fun g hg _ hx _ => (hs g hx).1 hg
  refine ⟨h1, h2, h3, owns_chg h4 hc fun g hg x => (hs g x).2 hg, ⟨ho _ h5.1 hlt, fun v g hv hg => ?_, fun v g hv hg => ?_⟩, nv, yv, nx, yx, hbw.trans hb, owns_chg hn hc fun g hg x => (hs g x).1 (h5.2.1 _ g c3 hg), owns_chg hy hc fun g hg x => (hs g x).1 (h5.2.2 _ g c4 hg), hrn.imp (NdV.chg hc key ho), hry.imp (TyV.chg hc key ho)⟩
  · rw [World.cell?_of_block (a := ⟨pb, 3, none⟩) hbw, c3] at hv
    cases hv
    exact ho g (h5.2.1 _ g c3 hg) (hn.lt g hg).2
  · rw [World.cell?_of_block (a := ⟨pb, 4, none⟩) hbw, c4] at hv
    cases hv
    exact ho g (h5.2.2 _ g c4 hg) (hy.lt g hg).2
theorem kept_free {ok : Nat → Prop} {a b : World} {q : Nat} {o : Obj} (hk : Kept B ok a b) (h : a.heap[q]? = some o) (hn : ¬ ok q) : b.heap[q]? = some o := (hk.block q (Array.getElem?_eq_some_iff.1 h).1 (fun x => hn x.2.2)).trans h

/-- The At of a node. -/
theorem Pst.nodeAt (h : Pst w B pb tv L ok d s) {k : Nat} (hk : k < s.N.length) : ∃ g c, w.cell? ⟨pb, 3, none⟩ = some (.slice (some ⟨g, 0, none⟩) s.N.length c) ∧ s.N.length ≤ c ∧ c ≤ maxLen ∧ g < w.heap.size ∧ pb < w.heap.size ∧ w.cell? ⟨g, k * 9 + 8, none⟩ = some (.int .i64 (M.atN s (k : Int))) := by
  obtain ⟨nv, yv, nx, yx, hb, hn, hy, hrn, hry⟩ := h.blk
  obtain ⟨na, nc, rfl⟩ := owns_form hn
  obtain ⟨g, rfl, _, hgl, hgc, hgm, hcell⟩ := owns_cell hn (by omega)
  obtain ⟨nd, hnd, hat⟩ := Rws.at (fun _ _ h => NdV.len h) k hk hrn
  refine ⟨g, nc, by rw [cell_of_row w pb 3 _ _ _ hb]; rfl, hgc, hgm, hgl, (Array.getElem?_eq_some_iff.1 hb).1, ?_⟩
  obtain ⟨lv, rfl, _⟩ := hnd
  have hA : M.atN s (k : Int) = s.N[k].at' := by simp [M.atN, List.getD, hk]
  rw [hA]
  exact hcell _ _ ((hat 8 (by omega)).trans rfl)

theorem ev_tail {hd : Int} {o : M.Out Int} (h : M.Ev L (fun r => if M.isM L s.i [[40]] then M.obind (r.list .expr [41] d s.nx [] []) fun s' l => M.obind (M.addN s' ⟨7, hd, 0, 0, l, [], 0, -1, M.atN s hd⟩) fun s x => r.tail d s x
    else if M.isM L s.i [[46]] then
      if (M.tk L (s.i + 1)).kind = 1 then M.obind (M.addN s.nx.nx ⟨8, hd, 0, 0, [], (M.tk L (s.i + 1)).text, 0, -1, M.atN s hd⟩) fun s x => r.tail d s x else M.flt L (s.i + 1) 1
    else if M.isM L s.i [[91]] then M.obind (r.expr d s.nx) fun s' x => M.obind (M.need L s' [93]) fun s' _ => M.obind (M.addN s' ⟨9, hd, x, 0, [], [], 0, -1, M.atN s hd⟩) fun s x => r.tail d s x
    else if M.isM L s.i [[97, 115]] then M.obind (r.typ d s.nx) fun s' t => M.obind (M.addN s' ⟨14, hd, 0, 0, [], [], 0, t, M.atN s hd⟩) fun s x => r.tail d s x
    else some (.ok s hd)) o) : M.Ev L (fun r => r.tail d s hd) o := M.Ev.step h

theorem postH_fail {φ : M.Sp → Option (M.Out Int)} {w' : World} {er p : Int} (hk : Kept B ok w w') (hev : M.Ev L φ (.fail er p)) (he : er ≠ 0) : PostH w B pb tv L ok d s φ (gu er p) w' := ⟨hk, _, hev, rfl, he⟩

set_option maxHeartbeats 8000000 in
set_option maxRecDepth 100000 in
theorem withTail_any (hL : LOk L) (m : Nat) (hE : ∀ m', m' < m → ConN B pb tv L 159 (fun d s r => r.expr d s) m') : ConH B pb tv L m := by
  intro w ok d s k hk hm hok hB h
  have hs := hL.short
  have H0 := hide h
  have HEG := hide hE
  have hfw := h.few
  clear h hE
  go_enter Tryz.func221, Tryz.ntmps221
  go_wp2_with fail
  go_loopw [1] (fun v wr => ∃ (hd : Nat) (s' : M.St), v = .int .i64 (hd : Int) ∧ hd < s'.N.length ∧ Hid (Kept B ok w wr) ∧ Hid (GrowE s s') ∧ Hid (Pst wr B pb tv L ok d s') ∧ Hid (∀ o, M.Ev L (fun r => r.tail d s' (hd : Int)) o → M.Ev L (fun r => r.tail d s (k : Int)) o)) (fun _ wr => L.length - nxt wr pb)
  case atStart => exact ⟨k, s, rfl, hk, Kept.refl _ _ _, ⟨Nat.le_refl _, by omega, by omega, by omega⟩, H0.out, fun _ x => x⟩
  case round =>
    clear H0 hfw hk
    obtain ⟨hd, s', rfl, hhd, KR, GR, PR, VR⟩ := hrel
    obtain ⟨g, nc, c3, hc1, hc2, hg, hpl, c8⟩ := PR.out.nodeAt hhd
    unfold maxLen at hc2
    have hi := PR.out.at'
    have hfew := PR.out.few
    have hnx := PR.out.nxt
    have hgr := GR.out
    simp only [GrowE] at hgr
    have hwr : w.heap.size ≤ wr.heap.size := KR.out.size
    have VT := hide (fun o ho => VR.out o (ev_tail (s := s') (hd := (hd : Int)) ho))
    clear VR
    generalize hpa : M.atN s' (hd : Int) = pa at *
    clear hpa
    have ha1 : Chg (fun _ => False) wr (wr.alloc (.cells #[.int .i64 0, .int .i64 (hd : Int), .int .i64 0, .int .i64 0, .slice none 0 0, .string ⟨#[]⟩, .int .i64 0, .int .i64 (-1), .int .i64 pa] 63)) := Chg.alloc _ _ _
    have P1 := hide (PR.out.chg (ok' := fun g => ok g ∧ g ≠ wr.heap.size) ha1 (fun _ _ _ _ x => x.elim) (fun g hg hl => ⟨hg, by omega⟩))
    have Q1 : Hid ((wr.alloc (.cells #[.int .i64 0, .int .i64 (hd : Int), .int .i64 0, .int .i64 0, .slice none 0 0, .string ⟨#[]⟩, .int .i64 0, .int .i64 (-1), .int .i64 pa] 63)).heap[wr.heap.size]? = some (.cells #[.int .i64 0, .int .i64 (hd : Int), .int .i64 0, .int .i64 0, .slice none 0 0, .string ⟨#[]⟩, .int .i64 0, .int .i64 (-1), .int .i64 pa] 63 (0, 0))) := heap_alloc_new wr _
    have K1 := hide (KR.out.alloc (.cells #[.int .i64 0, .int .i64 (hd : Int), .int .i64 0, .int .i64 0, .slice none 0 0, .string ⟨#[]⟩, .int .i64 0, .int .i64 (-1), .int .i64 pa] 63))
    have htok : tv.ownBlock ≠ some wr.heap.size := PR.out.tokLt (Nat.le_refl _)
    have HT1 := hide (took_any hL P1.out [40])
    have PR0 := hide PR.out
    clear KR PR ha1 P1
    generalize hq1 : M.isM L s'.i [[40]] = q1 at *
    generalize hq2 : M.isM L s'.i [[46]] = q2 at *
    generalize hq3 : M.isM L s'.i [[91]] = q3 at *
    generalize hq4 : M.isM L s'.i [[97, 115]] = q4 at *
    have W1 := hide (⟨hq1, hq2, hq3, hq4⟩ : _ ∧ _ ∧ _ ∧ _)
    clear hq1 hq2 hq3 hq4
    go_wp2_with fail
    refine HT1.out.mono ?_
    rintro e w2 ⟨rfl, k2, p2⟩
    have K2 := hide (K1.out.trans (k2.mono fun _ x => x.1))
    have Q2 := hide (kept_free k2 Q1.out (fun x => x.2 rfl))
    have hw2 : wr.heap.size < w2.heap.size := (Array.getElem?_eq_some_iff.1 Q2.out).1
    have P2 := hide p2
    clear k2 p2 HT1 K1 Q1
    cases q1
    case true =>
      have P3 : Hid (Pst w2 B pb tv L (fun g => ok g ∧ g ≠ wr.heap.size) d s'.nx) := P2.out
      have hi3 := P3.out.at'
      clear P2
      have HL1 := hide (list_expression_any (w := w2) (ok := (fun g => ok g ∧ g ≠ wr.heap.size)) hL (L.length - s'.nx.i) (fun m' hm' => HEG.out m' (by simp only [M.St.nx] at *; omega)) [41] (Nat.le_refl _) (fun g hg => ⟨hok g (by omega), by omega⟩) (by omega) P3.out)
      clear P3
      go_wp2_with fail
      refine HL1.out.mono ?_
      rintro e w3 ⟨k3, o, hev, hpost⟩
      have K3 := hide (K2.out.trans (k3.mono fun _ x => x.1))
      have QQ := hide (kept_free k3 Q2.out (fun x => x.2 rfl))
      have E3 := hide hev
      have hw3 : w2.heap.size ≤ w3.heap.size := k3.size
      clear k3 hev HL1 K2 Q2
      cases o with
      | fail er p =>
        obtain ⟨rfl, he⟩ := hpost
        exact ⟨rfl, postH_fail K3.out (VT.out _ ((M.Ev.bad (k := fun r s' l => M.obind (M.addN s' (M.Nd.mk 7 (hd : Int) 0 0 l [] 0 (-1) pa)) fun s x => r.tail d s x) E3.out).eq (fun r => by simp))) he⟩
      | ok s3 l =>
        obtain ⟨la, lc, rfl, ho3, hl3, hp3, hg3⟩ := hpost
        have h3 := hg3
        simp only [Grow, M.St.nx] at h3
        have EV := hide (fun o (ho : M.Ev L (fun r => r.tail d ⟨s3.i, s3.N ++ [(M.Nd.mk 7 (hd : Int) 0 0 l [] 0 (-1) pa)], s3.T⟩ (s3.N.length : Int)) o) => VT.out o ((M.Ev.bind E3.out (k := fun r s' l => M.obind (M.addN s' (M.Nd.mk 7 (hd : Int) 0 0 l [] 0 (-1) pa)) fun s x => r.tail d s x) (ho.eq (fun r => rfl))).eq (fun r => by simp)))
        have hc5 : Chg (fun k => k = wr.heap.size) w3 ((w3.setCell ⟨wr.heap.size, 0, none⟩ (.int .i64 7)).setCell ⟨wr.heap.size, 4, none⟩ (.slice la l.length lc)) := ((Chg.set w3 ⟨wr.heap.size, 0, none⟩ (.int .i64 7)).trans (Chg.set _ ⟨wr.heap.size, 4, none⟩ (.slice la l.length lc)) (fun _ _ x => x))
        have PP := hide (hp3.free (ok' := ok) hc5 (fun k hk => ⟨fun x => x.2 hk, by rw [show k = wr.heap.size from hk]; exact htok⟩) (fun g hg _ => hg.1))
        have O5 := hide (owns_chg ho3 hc5 (fun g hg x => by
          have x' : g = wr.heap.size := x
          have := (owns_tag ho3 g hg).1
          omega))
        have KK := hide (K3.out.trans' hc5 (fun i hi x => by have x' : i = wr.heap.size := x; omega))
        have q0' : w3.cell? ⟨wr.heap.size, 0, none⟩ = some (.int .i64 0) := by rw [cell_of_row w3 _ 0 _ _ _ QQ.out]; rfl
        have q1' : w3.cell? ⟨wr.heap.size, 1, none⟩ = some (.int .i64 (hd : Int)) := by rw [cell_of_row w3 _ 1 _ _ _ QQ.out]; rfl
        have q2' : w3.cell? ⟨wr.heap.size, 2, none⟩ = some (.int .i64 0) := by rw [cell_of_row w3 _ 2 _ _ _ QQ.out]; rfl
        have q3' : w3.cell? ⟨wr.heap.size, 3, none⟩ = some (.int .i64 0) := by rw [cell_of_row w3 _ 3 _ _ _ QQ.out]; rfl
        have q4' : w3.cell? ⟨wr.heap.size, 4, none⟩ = some (.slice none 0 0) := by rw [cell_of_row w3 _ 4 _ _ _ QQ.out]; rfl
        have q5' : w3.cell? ⟨wr.heap.size, 5, none⟩ = some (.string ⟨#[]⟩) := by rw [cell_of_row w3 _ 5 _ _ _ QQ.out]; rfl
        have q6' : w3.cell? ⟨wr.heap.size, 6, none⟩ = some (.int .i64 0) := by rw [cell_of_row w3 _ 6 _ _ _ QQ.out]; rfl
        have q7' : w3.cell? ⟨wr.heap.size, 7, none⟩ = some (.int .i64 (-1)) := by rw [cell_of_row w3 _ 7 _ _ _ QQ.out]; rfl
        have q8' : w3.cell? ⟨wr.heap.size, 8, none⟩ = some (.int .i64 pa) := by rw [cell_of_row w3 _ 8 _ _ _ QQ.out]; rfl
        have z0' := frozen_of_row w3 wr.heap.size 0 _ _ QQ.out
        have z4' := frozen_of_row w3 wr.heap.size 4 _ _ QQ.out
        have zl' := (Array.getElem?_eq_some_iff.1 QQ.out).1
        clear hp3 hg3 ho3 hc5 E3 QQ K3
        have HA := hide (addTyped_any hL PP.out (M.Nd.mk 7 (hd : Int) 0 0 l [] 0 (-1) pa) la l.length lc ⟨_, rfl, owns_base O5.out (Nat.zero_le _), fun g hg => hok g (by have := (owns_tag O5.out g hg).1; omega)⟩ (by omega) (by have := KK.out.size; omega) (fun g hg => hok g (by have := KK.out.size; omega)))
        clear PP
        go_wp2_with fail
        refine HA.out.mono ?_
        rintro e w6 ⟨rfl, k6, p6⟩
        have K6 := hide (KK.out.trans k6)
        have P6 := hide p6
        clear k6 p6 HA KK
        go_wp2
        go_roundw
        case rel => exact ⟨s3.N.length, ⟨s3.i, s3.N ++ [(M.Nd.mk 7 (hd : Int) 0 0 l [] 0 (-1) pa)], s3.T⟩, rfl, by simp, K6.out, (show GrowE s _ from by simp only [GrowE, List.length_append, List.length_cons, List.length_nil]; omega), P6.out, EV.out⟩
        case measure =>
          have h4 := P6.out.nxt
          rw [h4, hnx]
          simp only
          omega
    case false =>
      have PXw2b : Hid (Pst w2 B pb tv L (fun g => ok g ∧ g ≠ wr.heap.size) d s') := P2.out
      clear P2
      have HT2 := took_any hL PXw2b.out [46]
      rw [W1.out.2.1] at HT2
      have HT3 := hide HT2
      clear HT2 PXw2b
      go_wp2_with fail
      refine HT3.out.mono ?_
      rintro e w2b ⟨rfl, k2, p2⟩
      have hsw2b : w2.heap.size ≤ w2b.heap.size := k2.size
      have K2' := hide (K2.out.trans (k2.mono fun _ x => x.1))
      have Q2' := hide (kept_free k2 Q2.out (fun x => x.2 rfl))
      clear K2 Q2
      have K2 := hide K2'.out
      have Q2 := hide Q2'.out
      have P2 := hide p2
      clear k2 p2 HT3 K2' Q2'
      cases q2
      case true =>
        have P3 : Hid (Pst w2b B pb tv L (fun g => ok g ∧ g ≠ wr.heap.size) d s'.nx) := P2.out
        have hi3 := P3.out.at'
        clear P2
        have HN1 := hide (pname_any hL P3.out)
        have etk : M.tk L s'.nx.i = M.tk L (s'.i + 1) := rfl
        rw [etk] at HN1
        clear P3 etk
        have VT2 := hide (fun o (ho : M.Ev L (fun r => if (M.tk L (s'.i + 1)).kind = 1 then M.obind (M.addN s'.nx.nx (M.Nd.mk 8 (hd : Int) 0 0 [] (M.tk L (s'.i + 1)).text 0 (-1) pa)) fun s x => r.tail d s x else M.flt L (s'.i + 1) 1) o) => VT.out o (ho.eq (fun r => by simp)))
        clear VT
        go_wp2_with fail
        refine HN1.out.mono ?_
        rintro e w3 ⟨k3, hpost⟩
        have K3 := hide (K2.out.trans (k3.mono fun _ x => x.1))
        have QQ := hide (kept_free k3 Q2.out (fun x => x.2 rfl))
        have hw3 : w2b.heap.size ≤ w3.heap.size := k3.size
        clear k3 HN1 K2 Q2
        rcases hpost with ⟨hkd, rfl, hp3⟩ | ⟨hkd, rfl⟩
        · have EV0 := hide (fun o (ho : M.Ev L (fun r => r.tail d ⟨s'.nx.nx.i, s'.nx.nx.N ++ [M.Nd.mk 8 (hd : Int) 0 0 [] (M.tk L (s'.i + 1)).text 0 (-1) pa], s'.nx.nx.T⟩ (s'.nx.nx.N.length : Int)) o) => VT2.out o (ho.eq (fun r => by rw [if_pos hkd]; rfl)))
          generalize (M.tk L (s'.i + 1)).text = tx at *
          have EV := hide EV0.out
          clear EV0 VT2
          have hi5 := hp3.at'
          simp only [M.St.nx] at hi5
          have hc5 : Chg (fun k => k = wr.heap.size) w3 ((w3.setCell ⟨wr.heap.size, 0, none⟩ (.int .i64 8)).setCell ⟨wr.heap.size, 5, none⟩ (.string ⟨tx.toArray⟩)) := ((Chg.set w3 ⟨wr.heap.size, 0, none⟩ (.int .i64 8)).trans (Chg.set _ ⟨wr.heap.size, 5, none⟩ (.string ⟨tx.toArray⟩)) (fun _ _ x => x))
          have PP := hide (hp3.free (ok' := ok) hc5 (fun k hk => ⟨fun x => x.2 hk, by rw [show k = wr.heap.size from hk]; exact htok⟩) (fun g hg _ => hg.1))
          have KK := hide (K3.out.trans' hc5 (fun i hi x => by have x' : i = wr.heap.size := x; omega))
          have q0' : w3.cell? ⟨wr.heap.size, 0, none⟩ = some (.int .i64 0) := by rw [cell_of_row w3 _ 0 _ _ _ QQ.out]; rfl
          have q1' : w3.cell? ⟨wr.heap.size, 1, none⟩ = some (.int .i64 (hd : Int)) := by rw [cell_of_row w3 _ 1 _ _ _ QQ.out]; rfl
          have q2' : w3.cell? ⟨wr.heap.size, 2, none⟩ = some (.int .i64 0) := by rw [cell_of_row w3 _ 2 _ _ _ QQ.out]; rfl
          have q3' : w3.cell? ⟨wr.heap.size, 3, none⟩ = some (.int .i64 0) := by rw [cell_of_row w3 _ 3 _ _ _ QQ.out]; rfl
          have q4' : w3.cell? ⟨wr.heap.size, 4, none⟩ = some (.slice none 0 0) := by rw [cell_of_row w3 _ 4 _ _ _ QQ.out]; rfl
          have q5' : w3.cell? ⟨wr.heap.size, 5, none⟩ = some (.string ⟨#[]⟩) := by rw [cell_of_row w3 _ 5 _ _ _ QQ.out]; rfl
          have q6' : w3.cell? ⟨wr.heap.size, 6, none⟩ = some (.int .i64 0) := by rw [cell_of_row w3 _ 6 _ _ _ QQ.out]; rfl
          have q7' : w3.cell? ⟨wr.heap.size, 7, none⟩ = some (.int .i64 (-1)) := by rw [cell_of_row w3 _ 7 _ _ _ QQ.out]; rfl
          have q8' : w3.cell? ⟨wr.heap.size, 8, none⟩ = some (.int .i64 pa) := by rw [cell_of_row w3 _ 8 _ _ _ QQ.out]; rfl
          have z0' := frozen_of_row w3 wr.heap.size 0 _ _ QQ.out
          have z5' := frozen_of_row w3 wr.heap.size 5 _ _ QQ.out
          have zl' := (Array.getElem?_eq_some_iff.1 QQ.out).1
          clear hp3 hc5 QQ K3
          have HA := hide (addTyped_any hL PP.out (M.Nd.mk 8 (hd : Int) 0 0 [] tx 0 (-1) pa) none 0 0 ⟨_, rfl, World.ownsRow_nil _ _ _ _, by simp [Value.ownBlock]⟩ (by simp only [M.St.nx]; omega) (by have := KK.out.size; omega) (fun g hg => hok g (by have := KK.out.size; omega)))
          clear PP
          go_wp2_with fail
          refine HA.out.mono ?_
          rintro e w6 ⟨rfl, k6, p6⟩
          have K6 := hide (KK.out.trans k6)
          have P6 := hide p6
          clear k6 p6 HA KK
          go_wp2
          go_roundw
          case rel => exact ⟨s'.nx.nx.N.length, ⟨s'.nx.nx.i, s'.nx.nx.N ++ [(M.Nd.mk 8 (hd : Int) 0 0 [] tx 0 (-1) pa)], s'.nx.nx.T⟩, rfl, by simp, K6.out, (show GrowE s _ from by simp only [GrowE, M.St.nx, List.length_append, List.length_cons, List.length_nil]; omega), P6.out, EV.out⟩
          case measure =>
            have h4 := P6.out.nxt
            rw [h4, hnx]
            simp only [M.St.nx]
            omega
        · exact ⟨rfl, postH_fail K3.out (VT2.out _ (M.Ev.pure.eq (fun r => by rw [if_neg hkd]; rfl))) (by decide)⟩
      case false =>
        have PXw2c : Hid (Pst w2b B pb tv L (fun g => ok g ∧ g ≠ wr.heap.size) d s') := P2.out
        clear P2
        have HT2 := took_any hL PXw2c.out [91]
        rw [W1.out.2.2.1] at HT2
        have HT3 := hide HT2
        clear HT2 PXw2c
        go_wp2_with fail
        refine HT3.out.mono ?_
        rintro e w2c ⟨rfl, k2, p2⟩
        have hsw2c : w2b.heap.size ≤ w2c.heap.size := k2.size
        have K2' := hide (K2.out.trans (k2.mono fun _ x => x.1))
        have Q2' := hide (kept_free k2 Q2.out (fun x => x.2 rfl))
        clear K2 Q2
        have K2 := hide K2'.out
        have Q2 := hide Q2'.out
        have P2 := hide p2
        clear k2 p2 HT3 K2' Q2'
        cases q3
        case true =>
          have P3 : Hid (Pst w2c B pb tv L (fun g => ok g ∧ g ≠ wr.heap.size) d s'.nx) := P2.out
          have hi3 := P3.out.at'
          clear P2
          have HX1 := hide (HEG.out (L.length - s'.nx.i) (by simp only [M.St.nx] at *; omega) w2c (fun g => ok g ∧ g ≠ wr.heap.size) d s'.nx (Nat.le_refl _) (fun g hg => ⟨hok g (by omega), by omega⟩) (by omega) P3.out)
          clear P3
          go_wp2_with fail
          refine HX1.out.mono ?_
          rintro e w3 ⟨k3, o, hev, hpost⟩
          have K3 := hide (K2.out.trans (k3.mono fun _ x => x.1))
          have QQ := hide (kept_free k3 Q2.out (fun x => x.2 rfl))
          have E3 := hide hev
          have hw3 : w2c.heap.size ≤ w3.heap.size := k3.size
          clear k3 hev HX1 K2 Q2
          cases o with
          | fail er p =>
            obtain ⟨rfl, he⟩ := hpost
            exact ⟨rfl, postH_fail K3.out (VT.out _ ((M.Ev.bad (k := fun r s' x => M.obind (M.need L s' [93]) fun s' _ => M.obind (M.addN s' (M.Nd.mk 9 (hd : Int) x 0 [] [] 0 (-1) pa)) fun s x => r.tail d s x) E3.out).eq (fun r => by simp))) he⟩
          | ok s3 x =>
            obtain ⟨rfl, hp3, hg3, hx3⟩ := hpost
            have h3 := hg3
            simp only [Grow, M.St.nx] at h3
            have VN := hide (fun o (ho : M.Ev L (fun r => (fun r s' x => M.obind (M.need L s' [93]) fun s' _ => M.obind (M.addN s' (M.Nd.mk 9 (hd : Int) x 0 [] [] 0 (-1) pa)) fun s x => r.tail d s x) r s3 x) o) => VT.out o ((M.Ev.bind E3.out (k := fun r s' x => M.obind (M.need L s' [93]) fun s' _ => M.obind (M.addN s' (M.Nd.mk 9 (hd : Int) x 0 [] [] 0 (-1) pa)) fun s x => r.tail d s x) ho).eq (fun r => by simp)))
            clear VT E3
            have hc5 : Chg (fun k => k = wr.heap.size) w3 ((w3.setCell ⟨wr.heap.size, 0, none⟩ (.int .i64 9)).setCell ⟨wr.heap.size, 2, none⟩ (.int .i64 x)) := ((Chg.set w3 ⟨wr.heap.size, 0, none⟩ (.int .i64 9)).trans (Chg.set _ ⟨wr.heap.size, 2, none⟩ (.int .i64 x)) (fun _ _ x => x))
            have PP1 := hide (hp3.free (ok' := (fun g => ok g ∧ g ≠ wr.heap.size)) hc5 (fun k hk => ⟨fun x => x.2 hk, by rw [show k = wr.heap.size from hk]; exact htok⟩) (fun g hg _ => hg))
            have KK1 := hide (K3.out.trans' hc5 (fun i hi x => by have x' : i = wr.heap.size := x; omega))
            have QQ1 : Hid (((w3.setCell ⟨wr.heap.size, 0, none⟩ (.int .i64 9)).setCell ⟨wr.heap.size, 2, none⟩ (.int .i64 x)).heap[wr.heap.size]? = some (.cells #[.int .i64 9, .int .i64 (hd : Int), .int .i64 x, .int .i64 0, .slice none 0 0, .string ⟨#[]⟩, .int .i64 0, .int .i64 (-1), .int .i64 pa] 63 (0, 0))) := by
              show _ = _
              have h1 := heap_setCell_same w3 wr.heap.size 0 _ _ (.int .i64 9) QQ.out
              rw [heap_setCell_same _ wr.heap.size 2 _ _ (.int .i64 x) h1]
              rfl
            have q0' : w3.cell? ⟨wr.heap.size, 0, none⟩ = some (.int .i64 0) := by rw [cell_of_row w3 _ 0 _ _ _ QQ.out]; rfl
            have q1' : w3.cell? ⟨wr.heap.size, 1, none⟩ = some (.int .i64 (hd : Int)) := by rw [cell_of_row w3 _ 1 _ _ _ QQ.out]; rfl
            have q2' : w3.cell? ⟨wr.heap.size, 2, none⟩ = some (.int .i64 0) := by rw [cell_of_row w3 _ 2 _ _ _ QQ.out]; rfl
            have q3' : w3.cell? ⟨wr.heap.size, 3, none⟩ = some (.int .i64 0) := by rw [cell_of_row w3 _ 3 _ _ _ QQ.out]; rfl
            have q4' : w3.cell? ⟨wr.heap.size, 4, none⟩ = some (.slice none 0 0) := by rw [cell_of_row w3 _ 4 _ _ _ QQ.out]; rfl
            have q5' : w3.cell? ⟨wr.heap.size, 5, none⟩ = some (.string ⟨#[]⟩) := by rw [cell_of_row w3 _ 5 _ _ _ QQ.out]; rfl
            have q6' : w3.cell? ⟨wr.heap.size, 6, none⟩ = some (.int .i64 0) := by rw [cell_of_row w3 _ 6 _ _ _ QQ.out]; rfl
            have q7' : w3.cell? ⟨wr.heap.size, 7, none⟩ = some (.int .i64 (-1)) := by rw [cell_of_row w3 _ 7 _ _ _ QQ.out]; rfl
            have q8' : w3.cell? ⟨wr.heap.size, 8, none⟩ = some (.int .i64 pa) := by rw [cell_of_row w3 _ 8 _ _ _ QQ.out]; rfl
            have z0' := frozen_of_row w3 wr.heap.size 0 _ _ QQ.out
            have z2' := frozen_of_row w3 wr.heap.size 2 _ _ QQ.out
            have zl' := (Array.getElem?_eq_some_iff.1 QQ.out).1
            have HN := hide (need_any hL PP1.out [93])
            clear hp3 hc5 QQ K3 PP1
            go_wp2_with fail
            refine HN.out.mono ?_
            rintro e w4 ⟨k4, hpost⟩
            have KK := hide (KK1.out.trans (k4.mono fun _ x => x.1))
            have Q4 := hide (kept_free k4 QQ1.out (fun x => x.2 rfl))
            have hw4 : w3.heap.size ≤ w4.heap.size := by have := k4.size; simpa using this
            clear k4 KK1 QQ1 HN
            rcases hpost with ⟨hq, rfl, hp4⟩ | ⟨hq, rfl⟩
            · have hi4 := hp4.at'
              have PP := hide (hp4.mono (ok' := ok) (fun g hg _ => hg.1))
              have EV := hide (fun o (ho : M.Ev L (fun r => r.tail d ⟨s3.nx.i, s3.nx.N ++ [(M.Nd.mk 9 (hd : Int) x 0 [] [] 0 (-1) pa)], s3.nx.T⟩ (s3.nx.N.length : Int)) o) => VN.out o (ho.eq (fun r => by simp only [M.need, hq, if_true]; rfl)))
              clear VN hp4
              simp only [M.St.nx] at hi4
              have a0 : w4.cell? ⟨wr.heap.size, 0, none⟩ = some (.int .i64 9) := by rw [cell_of_row w4 _ 0 _ _ _ Q4.out]; rfl
              have a1 : w4.cell? ⟨wr.heap.size, 1, none⟩ = some (.int .i64 (hd : Int)) := by rw [cell_of_row w4 _ 1 _ _ _ Q4.out]; rfl
              have a2 : w4.cell? ⟨wr.heap.size, 2, none⟩ = some (.int .i64 x) := by rw [cell_of_row w4 _ 2 _ _ _ Q4.out]; rfl
              have a3 : w4.cell? ⟨wr.heap.size, 3, none⟩ = some (.int .i64 0) := by rw [cell_of_row w4 _ 3 _ _ _ Q4.out]; rfl
              have a4 : w4.cell? ⟨wr.heap.size, 4, none⟩ = some (.slice none 0 0) := by rw [cell_of_row w4 _ 4 _ _ _ Q4.out]; rfl
              have a5 : w4.cell? ⟨wr.heap.size, 5, none⟩ = some (.string ⟨#[]⟩) := by rw [cell_of_row w4 _ 5 _ _ _ Q4.out]; rfl
              have a6 : w4.cell? ⟨wr.heap.size, 6, none⟩ = some (.int .i64 0) := by rw [cell_of_row w4 _ 6 _ _ _ Q4.out]; rfl
              have a7 : w4.cell? ⟨wr.heap.size, 7, none⟩ = some (.int .i64 (-1)) := by rw [cell_of_row w4 _ 7 _ _ _ Q4.out]; rfl
              have a8 : w4.cell? ⟨wr.heap.size, 8, none⟩ = some (.int .i64 pa) := by rw [cell_of_row w4 _ 8 _ _ _ Q4.out]; rfl
              have a9 := (Array.getElem?_eq_some_iff.1 Q4.out).1
              have HA := hide (addTyped_any hL PP.out (M.Nd.mk 9 (hd : Int) x 0 [] [] 0 (-1) pa) none 0 0 ⟨_, rfl, World.ownsRow_nil _ _ _ _, by simp [Value.ownBlock]⟩ (by simp only [M.St.nx]; omega) (by have := KK.out.size; omega) (fun g hg => hok g (by have := KK.out.size; omega)))
              clear PP
              go_wp2_with fail
              refine HA.out.mono ?_
              rintro e w6 ⟨rfl, k6, p6⟩
              have K6 := hide (KK.out.trans k6)
              have P6 := hide p6
              clear k6 p6 HA KK
              go_wp2
              go_roundw
              case rel => exact ⟨s3.nx.N.length, ⟨s3.nx.i, s3.nx.N ++ [(M.Nd.mk 9 (hd : Int) x 0 [] [] 0 (-1) pa)], s3.nx.T⟩, rfl, by simp, K6.out, (show GrowE s _ from by simp only [GrowE, M.St.nx, List.length_append, List.length_cons, List.length_nil]; omega), P6.out, EV.out⟩
              case measure =>
                have h4 := P6.out.nxt
                rw [h4, hnx]
                simp only [M.St.nx]
                omega
            · exact ⟨rfl, postH_fail KK.out (VN.out _ (M.Ev.pure.eq (fun r => by simp only [M.need, hq]; rfl))) (by decide)⟩
        case false =>
          have PXw2d : Hid (Pst w2c B pb tv L (fun g => ok g ∧ g ≠ wr.heap.size) d s') := P2.out
          clear P2
          have HT2 := took_any hL PXw2d.out [97, 115]
          rw [W1.out.2.2.2] at HT2
          have HT3 := hide HT2
          clear HT2 PXw2d
          go_wp2_with fail
          refine HT3.out.mono ?_
          rintro e w2d ⟨rfl, k2, p2⟩
          have hsw2d : w2c.heap.size ≤ w2d.heap.size := k2.size
          have K2' := hide (K2.out.trans (k2.mono fun _ x => x.1))
          have Q2' := hide (kept_free k2 Q2.out (fun x => x.2 rfl))
          clear K2 Q2
          have K2 := hide K2'.out
          have Q2 := hide Q2'.out
          have P2 := hide p2
          clear k2 p2 HT3 K2' Q2'
          cases q4
          case true =>
            have P3 : Hid (Pst w2d B pb tv L (fun g => ok g ∧ g ≠ wr.heap.size) d s'.nx) := P2.out
            have hi3 := P3.out.at'
            clear P2
            have HX1 := hide (typ_con (B := B) (pb := pb) (tv := tv) hL (L.length - s'.nx.i) w2d (fun g => ok g ∧ g ≠ wr.heap.size) d s'.nx (Nat.le_refl _) (fun g hg => ⟨hok g (by omega), by omega⟩) (by omega) P3.out)
            clear P3
            go_wp2_with fail
            refine HX1.out.mono ?_
            rintro e w3 ⟨k3, o, hev, hpost⟩
            have K3 := hide (K2.out.trans (k3.mono fun _ x => x.1))
            have QQ := hide (kept_free k3 Q2.out (fun x => x.2 rfl))
            have E3 := hide hev
            have hw3 : w2d.heap.size ≤ w3.heap.size := k3.size
            clear k3 hev HX1 K2 Q2
            cases o with
            | fail er p =>
              obtain ⟨rfl, he⟩ := hpost
              exact ⟨rfl, postH_fail K3.out (VT.out _ ((M.Ev.bad (k := fun r s' t => M.obind (M.addN s' (M.Nd.mk 14 (hd : Int) 0 0 [] [] 0 t pa)) fun s x => r.tail d s x) E3.out).eq (fun r => by simp))) he⟩
            | ok s3 x =>
              obtain ⟨rfl, hp3, hg3⟩ := hpost
              have h3 := hg3
              simp only [Grow, M.St.nx] at h3
              have EV := hide (fun o (ho : M.Ev L (fun r => r.tail d ⟨s3.i, s3.N ++ [(M.Nd.mk 14 (hd : Int) 0 0 [] [] 0 x pa)], s3.T⟩ (s3.N.length : Int)) o) => VT.out o ((M.Ev.bind E3.out (k := fun r s' t => M.obind (M.addN s' (M.Nd.mk 14 (hd : Int) 0 0 [] [] 0 t pa)) fun s x => r.tail d s x) (ho.eq (fun r => rfl))).eq (fun r => by simp)))
              have hc5 : Chg (fun k => k = wr.heap.size) w3 ((w3.setCell ⟨wr.heap.size, 0, none⟩ (.int .i64 14)).setCell ⟨wr.heap.size, 7, none⟩ (.int .i64 x)) := ((Chg.set w3 ⟨wr.heap.size, 0, none⟩ (.int .i64 14)).trans (Chg.set _ ⟨wr.heap.size, 7, none⟩ (.int .i64 x)) (fun _ _ x => x))
              have PP := hide (hp3.free (ok' := ok) hc5 (fun k hk => ⟨fun x => x.2 hk, by rw [show k = wr.heap.size from hk]; exact htok⟩) (fun g hg _ => hg.1))
              have KK := hide (K3.out.trans' hc5 (fun i hi x => by have x' : i = wr.heap.size := x; omega))
              have q0' : w3.cell? ⟨wr.heap.size, 0, none⟩ = some (.int .i64 0) := by rw [cell_of_row w3 _ 0 _ _ _ QQ.out]; rfl
              have q1' : w3.cell? ⟨wr.heap.size, 1, none⟩ = some (.int .i64 (hd : Int)) := by rw [cell_of_row w3 _ 1 _ _ _ QQ.out]; rfl
              have q2' : w3.cell? ⟨wr.heap.size, 2, none⟩ = some (.int .i64 0) := by rw [cell_of_row w3 _ 2 _ _ _ QQ.out]; rfl
              have q3' : w3.cell? ⟨wr.heap.size, 3, none⟩ = some (.int .i64 0) := by rw [cell_of_row w3 _ 3 _ _ _ QQ.out]; rfl
              have q4' : w3.cell? ⟨wr.heap.size, 4, none⟩ = some (.slice none 0 0) := by rw [cell_of_row w3 _ 4 _ _ _ QQ.out]; rfl
              have q5' : w3.cell? ⟨wr.heap.size, 5, none⟩ = some (.string ⟨#[]⟩) := by rw [cell_of_row w3 _ 5 _ _ _ QQ.out]; rfl
              have q6' : w3.cell? ⟨wr.heap.size, 6, none⟩ = some (.int .i64 0) := by rw [cell_of_row w3 _ 6 _ _ _ QQ.out]; rfl
              have q7' : w3.cell? ⟨wr.heap.size, 7, none⟩ = some (.int .i64 (-1)) := by rw [cell_of_row w3 _ 7 _ _ _ QQ.out]; rfl
              have q8' : w3.cell? ⟨wr.heap.size, 8, none⟩ = some (.int .i64 pa) := by rw [cell_of_row w3 _ 8 _ _ _ QQ.out]; rfl
              have z0' := frozen_of_row w3 wr.heap.size 0 _ _ QQ.out
              have z7' := frozen_of_row w3 wr.heap.size 7 _ _ QQ.out
              have zl' := (Array.getElem?_eq_some_iff.1 QQ.out).1
              clear hp3 hg3 hc5 E3 QQ K3
              have HA := hide (addTyped_any hL PP.out (M.Nd.mk 14 (hd : Int) 0 0 [] [] 0 x pa) none 0 0 ⟨_, rfl, World.ownsRow_nil _ _ _ _, by simp [Value.ownBlock]⟩ (by omega) (by have := KK.out.size; omega) (fun g hg => hok g (by have := KK.out.size; omega)))
              clear PP
              go_wp2_with fail
              refine HA.out.mono ?_
              rintro e w6 ⟨rfl, k6, p6⟩
              have K6 := hide (KK.out.trans k6)
              have P6 := hide p6
              clear k6 p6 HA KK
              go_wp2
              go_roundw
              case rel => exact ⟨s3.N.length, ⟨s3.i, s3.N ++ [(M.Nd.mk 14 (hd : Int) 0 0 [] [] 0 x pa)], s3.T⟩, rfl, by simp, K6.out, (show GrowE s _ from by simp only [GrowE, List.length_append, List.length_cons, List.length_nil]; omega), P6.out, EV.out⟩
              case measure =>
                have h4 := P6.out.nxt
                rw [h4, hnx]
                simp only
                omega
          case false =>
            have PE : Hid (Pst w2d B pb tv L (fun g => ok g ∧ g ≠ wr.heap.size) d s') := P2.out
            have PF := hide (PE.out.mono (ok' := ok) (fun g hg _ => hg.1))
            have EE := hide (VT.out (.ok s' (hd : Int)) (M.Ev.pure.eq (fun r => by simp)))
            have GE := hide GR.out
            clear P2 PE
            go_wp2_with fail
            go_ret
            exact ⟨K2.out, _, EE.out, rfl, PF.out, GE.out, by omega, by omega⟩
end
end Go.Proofs.YtjojlcfoiknlhaaGreatDoor
