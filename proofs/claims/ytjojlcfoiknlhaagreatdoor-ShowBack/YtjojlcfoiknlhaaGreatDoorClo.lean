/-
  The contract of the closure that reads one part of an object.
-/
import Derived.Test.YtjojlcfoiknlhaaGreatDoorSme
import Derived.Test.YtjojlcfoiknlhaaGreatDoorPlainC
namespace Go.Proofs.YtjojlcfoiknlhaaGreatDoor
open Go.RowKit

section
variable {B pb : Nat} {tv : Value} {L : List M.Tk}

theorem KeptS.andThen {ok : Nat → Prop} {lo : Nat} {a b c : World} (h : KeptS B ok lo a b) (k : Kept B ok b c) : KeptS B ok lo a c := by
  refine ⟨k.os.trans h.os, k.tape.trans h.tape, k.output.trans h.output, Nat.le_trans h.size k.size, fun i hi hn => ?_⟩
  have h1 := h.block i hi hn
  refine (k.block i (Nat.lt_of_lt_of_le hi h.size) (fun x => hn ?_)).trans h1
  obtain ⟨x1, ⟨cs, e, fz, hh, r⟩, x3⟩ := x
  exact .inl ⟨x1, ⟨cs, e, fz, by rw [← h1]; exact hh, r⟩, x3⟩
theorem keptS_block {ok : Nat → Prop} {lo : Nat} {w w' : World} {q : Nat} {cs : Array Value} {e : TypeId} (hk : KeptS B ok lo w w') (h : w.heap[q]? = some (.cells cs e (0, 0))) (he : e ≠ 53 ∧ e ≠ 63 ∧ e ≠ 66 ∧ e ≠ 85 ∧ e ≠ 9) : w'.heap[q]? = some (.cells cs e (0, 0)) := by
  refine (hk.block q (Array.getElem?_eq_some_iff.1 h).1 (fun hx => ?_)).trans h
  have key : ∀ cs' e' fz, w.heap[q]? = some (.cells cs' e' fz) → e' = e := by
    intro cs' e' fz hh'
    rw [h] at hh'
    simp only [Option.some.injEq, Obj.cells.injEq] at hh'
    exact hh'.2.1.symm
  rcases hx with ⟨_, ⟨cs', e', fz, hh', r⟩, _⟩ | ⟨_, cs', e', fz, hh', r⟩
  · have := key _ _ _ hh'
    subst this
    rcases r with r | r | r
    · exact he.1 r
    · exact he.2.1 r
    · exact he.2.2.1 r
  · have := key _ _ _ hh'
    subst this
    rcases r with r | r
    · exact he.2.2.2.1 r
    · exact he.2.2.2.2 r

/-- What a closure that reads a part of a list answers. -/
def PostP (w : World) (B pb : Nat) (tv : Value) (L : List M.Tk) (ok : Nat → Prop) (d : Nat) (s : M.St) (lo nb : Nat) (φ : M.Sp → Option (M.Out (Int × List (List UInt8)))) (e : Ending) (w' : World) : Prop :=
  KeptS B ok lo w w' ∧ ∃ o, M.Ev L φ o ∧ match o with
    | .ok s' x => e = .returned (.int .i64 x.1) ∧ Nms w' lo nb x.2 ∧ Pst w' B pb tv L ok d s' ∧ Grow s s'
    | .fail er p => e = gu er p ∧ er ≠ 0

set_option maxHeartbeats 2000000 in
set_option maxRecDepth 100000 in
theorem object1_any (hL : LOk L) (m : Nat) (hE : ∀ m', m' ≤ m → ConN B pb tv L 159 (fun d s r => r.expr d s) m') (w : World) (ok : Nat → Prop) (d : Nat) (s : M.St) (lo nb bx : Nat) (names : List (List UInt8)) (hbx : w.heap[bx]? = some (.cells #[.pointer (some ⟨pb, 0, none⟩)] 51 (0, 0))) (hn : Nms w lo nb names) (hl : names.length ≤ 1001) (hlo : lo ≤ w.heap.size) (hm : L.length - s.i ≤ m) (hok : ∀ g, w.heap.size ≤ g → ok g) (hB : B ≤ w.heap.size) (h : Pst w B pb tv L ok d s) :
    Calls Tryz.prog 235 #[.pointer (some ⟨bx, 0, none⟩), .pointer (some ⟨nb, 0, none⟩)] w (PostP w B pb tv L ok d s lo nb (fun r => M.part L r d s names .obj)) := by
  have hi := h.at'
  have hs := hL.short
  have hfw := h.few
  have hlx := (Array.getElem?_eq_some_iff.1 hbx).1
  have BX : Hid (∀ a, Chg (fun _ => False) w a → a.heap[bx]? = some (.cells #[.pointer (some ⟨pb, 0, none⟩)] 51 (0, 0))) := fun a ha => (ha.block bx hlx (fun x => x)).trans hbx
  have cb0 : w.cell? ⟨bx, 0, none⟩ = some (.pointer (some ⟨pb, 0, none⟩)) := by rw [cell_of_row w bx 0 _ _ _ hbx]; rfl
  have HA : Hid (∀ a, Chg (fun _ => False) w a → Calls Tryz.prog 91 #[.pointer (some ⟨pb, 0, none⟩)] a fun e w' => e = .returned (.int .i64 ((M.tk L s.i).at' : Int)) ∧ Hid (Chg (fun _ => False) w w') ∧ w'.cell? ⟨bx, 0, none⟩ = some (.pointer (some ⟨pb, 0, none⟩))) := fun a ha => (at_any hL (h.still ha)).mono (by
    rintro e w' ⟨he, hc⟩
    have hc2 := ha.trans hc (fun _ _ x => x)
    exact ⟨he, hc2, by rw [cell_of_row w' bx 0 _ _ _ (BX.out w' hc2)]; rfl⟩)
  have V : Hid (∀ o, M.Ev L (fun r => M.obind (M.newName L s names) fun s1 nm => M.obind (M.need L s1 [58]) fun s2 _ => M.obind (r.expr d s2) fun s3 x => M.obind (M.addN s3 (M.Nd.mk 15 x 0 0 [] nm 0 (-1) ((M.tk L s.i).at' : Int))) fun s4 y => some (.ok s4 (y, names ++ [nm]))) o → M.Ev L (fun r => M.part L r d s names .obj) o) := fun o ho => ho
  have HN : Hid (∀ a, Chg (fun _ => False) w a → Calls Tryz.prog 164 #[.pointer (some ⟨pb, 0, none⟩), .pointer (some ⟨nb, 0, none⟩)] a fun e w' =>
      (∃ er p, e = gu er p ∧ Hid (PostP w B pb tv L ok d s lo nb (fun r => M.part L r d s names .obj) (gu er p) w')) ∨
      (∃ s1 nm, e = .returned (.string ⟨nm.toArray⟩) ∧ Hid (M.newName L s names = some (.ok s1 nm)) ∧ KeptS B ok lo a w' ∧ Nms w' lo nb (names ++ [nm]) ∧ Pst w' B pb tv L ok d s1)) := by
    intro a ha
    refine (newName_any hL (h.still ha) lo nb names (hn.chg ha (fun _ _ _ _ x => x.elim)) hl (Nat.le_trans hlo ha.size)).mono ?_
    rintro e w' ⟨hk, hr⟩
    rcases hnn : M.newName L s names with _ | ⟨s1, nm⟩ | ⟨er, p⟩
    · rw [hnn] at hr
      exact hr.elim
    · rw [hnn] at hr
      exact .inr ⟨s1, nm, hr.1, hide rfl, hk, hr.2.1, hr.2.2⟩
    · rw [hnn] at hr
      have her : er ≠ 0 := by
        unfold M.newName M.flt at hnn
        split at hnn
        · split at hnn
          · simp at hnn; omega
          · simp at hnn
        · simp at hnn; omega
      exact .inl ⟨er, p, hr, KeptS.after (still_kept ha) hk, _, V.out _ (M.Ev.bad (M.Ev.pure.eq (fun r => hnn))), rfl, her⟩
  clear h hn hbx
  generalize ((M.tk L s.i).at' : Int) = at0 at *
  go_enter Tryz.func235, Tryz.ntmps235
  go_wp2_with fail
  go_region_with (first | (go_at_call 91; refine (HA.out _ (Chg.drewN _ _ 1)).mono ?_; rintro e w1 ⟨rfl, hc, cb1⟩) | (go_at_call 164; refine (HN.out _ (Hid.out (by assumption))).mono ?_; rintro e w2 (⟨er, p, rfl, HF⟩ | ⟨s1, nm, rfl, hnn, hk2, hn2, hp2⟩); exact ⟨rfl, HF.out⟩))
  all_goals
    have K2 := hide (KeptS.after (still_kept (Hid.out hc)) hk2)
    have hb2 := keptS_block hk2 (BX.out w1 (Hid.out hc)) (by decide)
    have cb2 : w2.cell? ⟨bx, 0, none⟩ = some (.pointer (some ⟨pb, 0, none⟩)) := by rw [cell_of_row w2 bx 0 _ _ _ hb2]; rfl
    have HD := hide (need_any hL hp2 [58])
    have N2 := hide hn2
    have V2 := hide (fun o (ho : M.Ev L (fun r => M.obind (M.need L s1 [58]) fun s2 (_ : Unit) => M.obind (r.expr d s2) fun s3 x => M.obind (M.addN s3 (M.Nd.mk 15 x 0 0 [] nm 0 (-1) at0)) fun s4 y => some (.ok s4 (y, names ++ [nm]))) o) => V.out o (M.Ev.bind (k := fun r s1 nm => M.obind (M.need L s1 [58]) fun s2 _ => M.obind (r.expr d s2) fun s3 x => M.obind (M.addN s3 (M.Nd.mk 15 x 0 0 [] nm 0 (-1) at0)) fun s4 y => some (.ok s4 (y, names ++ [nm]))) (M.Ev.pure.eq (fun r => Hid.out hnn)) ho))
    have hs1 : s1 = s.nx := newName_ok (Hid.out hnn)
    have B2 := hide hb2
    clear hk2 hp2 hn2 hc cb0 cb1 HA HN V BX hb2
    go_wp2_with fail
    refine HD.out.mono ?_
    rintro e w3 ⟨hk3, hr⟩
    have K3 := hide (K2.out.andThen hk3)
    have N3 := hide (N2.out.kept hk3)
    have B3 := hide (kept_block hk3 B2.out (by decide))
    clear hk3 K2 N2 B2 HD cb2
    rcases hr with ⟨hb, rfl, hp⟩ | ⟨hb, rfl⟩
    case inr => exact ⟨rfl, K3.out, _, V2.out _ (M.Ev.bad (need_no hb)), rfl, by decide⟩
    have V3 := hide (fun o (ho : M.Ev L (fun r => M.obind (r.expr d s1.nx) fun s3 x => M.obind (M.addN s3 (M.Nd.mk 15 x 0 0 [] nm 0 (-1) at0)) fun s4 y => some (.ok s4 (y, names ++ [nm]))) o) => V2.out o (M.Ev.bind (k := fun r s2 (_ : Unit) => M.obind (r.expr d s2) fun s3 x => M.obind (M.addN s3 (M.Nd.mk 15 x 0 0 [] nm 0 (-1) at0)) fun s4 y => some (.ok s4 (y, names ++ [nm]))) (need_yes hb) ho))
    have hi3 := hp.at'
    have cb3 : w3.cell? ⟨bx, 0, none⟩ = some (.pointer (some ⟨pb, 0, none⟩)) := by rw [cell_of_row w3 bx 0 _ _ _ B3.out]; rfl
    have HX : Hid (∀ a, Chg (fun _ => False) w3 a → Calls Tryz.prog 159 #[.pointer (some ⟨pb, 0, none⟩)] a fun e w4 =>
        (∃ er p, e = gu er p ∧ Hid (PostP w B pb tv L ok d s lo nb (fun r => M.part L r d s names .obj) (gu er p) w4)) ∨
        (∃ s4 x, e = .returned (.int .i64 x) ∧ w4.cell? ⟨bx, 0, none⟩ = some (.pointer (some ⟨pb, 0, none⟩)) ∧ Hid (KeptS B ok lo w w4 ∧ Nms w4 lo nb (names ++ [nm]) ∧ Pst w4 B pb tv L ok d s4 ∧ Grow s1.nx s4 ∧ M.Ev L (fun r => M.part L r d s names .obj) (.ok ⟨s4.i, s4.N ++ [(M.Nd.mk 15 x 0 0 [] nm 0 (-1) at0)], s4.T⟩ ((s4.N.length : Int), names ++ [nm]))))) := by
      intro a ha
      refine (hE (L.length - s1.nx.i) (by rw [hs1]; simp only [M.St.nx]; omega) a ok d s1.nx (Nat.le_refl _) (fun g hg => hok g (Nat.le_trans K3.out.size (Nat.le_trans ha.size hg))) (Nat.le_trans hB (Nat.le_trans K3.out.size ha.size)) (hp.still ha)).mono ?_
      rintro e w4 ⟨k4, o, hev, hpost⟩
      have k34 : Kept B ok w3 w4 := (still_kept ha).trans k4
      cases o with
      | fail er p =>
        obtain ⟨rfl, he⟩ := hpost
        exact .inl ⟨er, p, rfl, K3.out.andThen k34, _, V3.out _ (M.Ev.bad hev), rfl, he⟩
      | ok s4 x =>
        obtain ⟨rfl, hp4, hg4, hx4⟩ := hpost
        refine .inr ⟨s4, x, rfl, by rw [cell_of_row w4 bx 0 _ _ _ (kept_block k34 B3.out (by decide))]; rfl, K3.out.andThen k34, N3.out.kept k34, hp4, hg4, V3.out _ (M.Ev.bind (k := fun r s3 x => M.obind (M.addN s3 (M.Nd.mk 15 x 0 0 [] nm 0 (-1) at0)) fun s4 y => some (.ok s4 (y, names ++ [nm]))) hev (M.Ev.pure.eq (fun r => rfl)))⟩
    have HY : Hid (∀ w4 s4 x, KeptS B ok lo w w4 ∧ Nms w4 lo nb (names ++ [nm]) ∧ Pst w4 B pb tv L ok d s4 ∧ Grow s1.nx s4 ∧ M.Ev L (fun r => M.part L r d s names .obj) (.ok ⟨s4.i, s4.N ++ [(M.Nd.mk 15 x 0 0 [] nm 0 (-1) at0)], s4.T⟩ ((s4.N.length : Int), names ++ [nm])) → Calls Tryz.prog 51 #[.pointer (some ⟨pb, 0, none⟩), .agg #[.int .i64 15, .int .i64 x, .int .i64 0, .int .i64 0, .slice none 0 0, .string ⟨nm.toArray⟩, .int .i64 0, .int .i64 0, .int .i64 at0]] w4 fun e w5 =>
        e = .returned (.int .i64 (s4.N.length : Int)) ∧ Hid (PostP w B pb tv L ok d s lo nb (fun r => M.part L r d s names .obj) (.returned (.int .i64 (s4.N.length : Int))) w5)) := by
      rintro w4 s4 x ⟨k4, n4, p4, g4, e4⟩
      have g5 : _ ∧ _ ∧ _ ∧ _ := g4
      rw [hs1] at g5
      simp only [M.St.nx] at g5
      refine (add_any hL p4 (M.Nd.mk 15 x 0 0 [] nm 0 (-1) at0) 0 none 0 0 ⟨_, rfl, World.ownsRow_nil _ _ _ _, by simp [Value.ownBlock]⟩ rfl (by omega) (Nat.le_trans hB k4.size) (fun g hg => hok g (Nat.le_trans k4.size hg))).mono ?_
      rintro e w5 ⟨rfl, k5, p5⟩
      refine ⟨rfl, k4.andThen k5, _, e4, rfl, n4.kept k5, p5, ?_⟩
      simp only [Grow, List.length_append, List.length_cons, List.length_nil]
      omega
    clear V2 V3 hb hp K3 N3 B3
    go_wp2_with fail
    go_region_with (first | (go_at_call 159; refine (HX.out _ (Chg.drewN _ _ 1)).mono ?_; rintro e w4 (⟨er, p, rfl, H4⟩ | ⟨s4, x, rfl, cb4, H4⟩); exact ⟨rfl, H4.out⟩) | (go_at_call 51; refine (HY.out _ _ _ (Hid.out H4)).mono ?_; rintro e w5 ⟨rfl, H5⟩))
    all_goals go_wp2_with fail
    all_goals go_ret
    all_goals exact H5.out
end
end Go.Proofs.YtjojlcfoiknlhaaGreatDoor
