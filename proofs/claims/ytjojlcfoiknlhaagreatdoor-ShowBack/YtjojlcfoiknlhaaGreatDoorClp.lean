/-
  The contract of the closure that reads one parameter of a function.
-/
import Derived.Test.YtjojlcfoiknlhaaGreatDoorClo
namespace Go.Proofs.YtjojlcfoiknlhaaGreatDoor
open Go.RowKit

section
variable {B pb : Nat} {tv : Value} {L : List M.Tk}

set_option maxHeartbeats 2000000 in
set_option maxRecDepth 100000 in
theorem function1_any (hL : LOk L) (w : World) (ok : Nat → Prop) (d : Nat) (s : M.St) (lo nb bx : Nat) (names : List (List UInt8)) (hbx : w.heap[bx]? = some (.cells #[.pointer (some ⟨pb, 0, none⟩)] 51 (0, 0))) (hn : Nms w lo nb names) (hl : names.length ≤ 1001) (hlo : lo ≤ w.heap.size) (hok : ∀ g, w.heap.size ≤ g → ok g) (hB : B ≤ w.heap.size) (h : Pst w B pb tv L ok d s) :
    Calls Tryz.prog 234 #[.pointer (some ⟨bx, 0, none⟩), .pointer (some ⟨nb, 0, none⟩)] w (PostP w B pb tv L ok d s lo nb (fun r => M.part L r d s names .par)) := by
  have hi := h.at'
  have hs := hL.short
  have hfw := h.few
  have hlx := (Array.getElem?_eq_some_iff.1 hbx).1
  have BX : Hid (∀ a, Chg (fun _ => False) w a → a.heap[bx]? = some (.cells #[.pointer (some ⟨pb, 0, none⟩)] 51 (0, 0))) := fun a ha => (ha.block bx hlx (fun x => x)).trans hbx
  have cb0 : w.cell? ⟨bx, 0, none⟩ = some (.pointer (some ⟨pb, 0, none⟩)) := by rw [cell_of_row w bx 0 _ _ _ hbx]; rfl
  have HA : Hid (∀ a, Chg (fun _ => False) w a → Calls Tryz.prog 91 #[.pointer (some ⟨pb, 0, none⟩)] a fun e w' => e = .returned (.int .i64 ((M.tk L s.i).at' : Int)) ∧ Hid (Chg (fun _ => False) w w') ∧ w'.cell? ⟨bx, 0, none⟩ = some (.pointer (some ⟨pb, 0, none⟩))) := fun a ha => (at_any hL (h.still ha)).mono (by
    rintro e w' ⟨he, hc⟩
    have hc2 := ha.trans hc (fun _ _ x => x)
    exact ⟨he, hc2, by rw [cell_of_row w' bx 0 _ _ _ (BX.out w' hc2)]; rfl⟩)
  have V : Hid (∀ o, M.Ev L (fun r => M.obind (M.newName L s names) fun s1 nm => M.obind (M.typeIf L r d s1) fun s3 x => M.obind (M.addN s3 (M.Nd.mk 16 0 0 0 [] nm 0 x ((M.tk L s.i).at' : Int))) fun s4 y => some (.ok s4 (y, names ++ [nm]))) o → M.Ev L (fun r => M.part L r d s names .par) o) := fun o ho => ho
  have HN : Hid (∀ a, Chg (fun _ => False) w a → Calls Tryz.prog 164 #[.pointer (some ⟨pb, 0, none⟩), .pointer (some ⟨nb, 0, none⟩)] a fun e w' =>
      (∃ er p, e = gu er p ∧ Hid (PostP w B pb tv L ok d s lo nb (fun r => M.part L r d s names .par) (gu er p) w')) ∨
      (∃ s1 nm, e = .returned (.string ⟨nm.toArray⟩) ∧ Hid (M.newName L s names = some (.ok s1 nm)) ∧ KeptS B ok lo a w' ∧ Nms w' lo nb (names ++ [nm]) ∧ Pst w' B pb tv L ok d s1)) := by
    intro a ha
    refine (newName_any hL (h.still ha) lo nb names (hn.chg ha (fun _ _ _ _ x => x.elim)) hl (Nat.le_trans hlo ha.size)).mono ?_
    rintro e w' ⟨hk, hr⟩
    rcases hnn : M.newName L s names with _ | ⟨s1, nm⟩ | ⟨er, p⟩
    · rw [hnn] at hr
      exact hr.elim
    · rw [hnn] at hr
      exact .inr ⟨s1, nm, hr.1, hide rfl, hk, hr.2.1, hr.2.2⟩
    · rw [hnn] at hr
      have her : er ≠ 0 := by
        unfold M.newName M.flt at hnn
        split at hnn
        · split at hnn
          · simp at hnn; omega
          · simp at hnn
        · simp at hnn; omega
      exact .inl ⟨er, p, hr, KeptS.after (still_kept ha) hk, _, V.out _ (M.Ev.bad (M.Ev.pure.eq (fun r => hnn))), rfl, her⟩
  clear h hn hbx
  generalize ((M.tk L s.i).at' : Int) = at0 at *
  go_enter Tryz.func234, Tryz.ntmps234
  go_wp2_with fail
  go_region_with (first | (go_at_call 91; refine (HA.out _ (Chg.drewN _ _ 1)).mono ?_; rintro e w1 ⟨rfl, hc, cb1⟩) | (go_at_call 164; refine (HN.out _ (Hid.out (by assumption))).mono ?_; rintro e w2 (⟨er, p, rfl, HF⟩ | ⟨s1, nm, rfl, hnn, hk2, hn2, hp2⟩); exact ⟨rfl, HF.out⟩))
  all_goals
    have K3 := hide (KeptS.after (still_kept (Hid.out hc)) hk2)
    have B3 := hide (keptS_block hk2 (BX.out w1 (Hid.out hc)) (by decide))
    have cb3 : w2.cell? ⟨bx, 0, none⟩ = some (.pointer (some ⟨pb, 0, none⟩)) := by rw [cell_of_row w2 bx 0 _ _ _ B3.out]; rfl
    have N3 := hide hn2
    have V3 := hide (fun o (ho : M.Ev L (fun r => M.obind (M.typeIf L r d s1) fun s3 x => M.obind (M.addN s3 (M.Nd.mk 16 0 0 0 [] nm 0 x at0)) fun s4 y => some (.ok s4 (y, names ++ [nm]))) o) => V.out o (M.Ev.bind (k := fun r s1 nm => M.obind (M.typeIf L r d s1) fun s3 x => M.obind (M.addN s3 (M.Nd.mk 16 0 0 0 [] nm 0 x at0)) fun s4 y => some (.ok s4 (y, names ++ [nm]))) (M.Ev.pure.eq (fun r => Hid.out hnn)) ho))
    have hs1 : s1 = s.nx := newName_ok (Hid.out hnn)
    have P3 := hide hp2
    have hi3 := hp2.at'
    clear hk2 hp2 hn2 hc cb0 cb1 HA HN V BX
    have HX : Hid (∀ a, Chg (fun _ => False) w2 a → Calls Tryz.prog 158 #[.pointer (some ⟨pb, 0, none⟩)] a fun e w4 =>
        (∃ er p, e = gu er p ∧ Hid (PostP w B pb tv L ok d s lo nb (fun r => M.part L r d s names .par) (gu er p) w4)) ∨
        (∃ s4 x, e = .returned (.int .i64 x) ∧ w4.cell? ⟨bx, 0, none⟩ = some (.pointer (some ⟨pb, 0, none⟩)) ∧ Hid (KeptS B ok lo w w4 ∧ Nms w4 lo nb (names ++ [nm]) ∧ Pst w4 B pb tv L ok d s4 ∧ GrowE s1 s4 ∧ M.Ev L (fun r => M.part L r d s names .par) (.ok ⟨s4.i, s4.N ++ [(M.Nd.mk 16 0 0 0 [] nm 0 x at0)], s4.T⟩ ((s4.N.length : Int), names ++ [nm]))))) := by
      intro a ha
      refine (typeIfAny_any hL (P3.out.still ha) (fun g hg => hok g (Nat.le_trans K3.out.size (Nat.le_trans ha.size hg))) (Nat.le_trans hB (Nat.le_trans K3.out.size ha.size))).mono ?_
      rintro e w4 ⟨k4, o, hev, hpost⟩
      have k34 : Kept B ok w2 w4 := (still_kept ha).trans k4
      cases o with
      | fail er p =>
        obtain ⟨rfl, he⟩ := hpost
        exact .inl ⟨er, p, rfl, K3.out.andThen k34, _, V3.out _ (M.Ev.bad hev), rfl, he⟩
      | ok s4 x =>
        obtain ⟨rfl, hp4, hg4⟩ := hpost
        refine .inr ⟨s4, x, rfl, by rw [cell_of_row w4 bx 0 _ _ _ (kept_block k34 B3.out (by decide))]; rfl, K3.out.andThen k34, N3.out.kept k34, hp4, hg4, V3.out _ (M.Ev.bind (k := fun r s3 x => M.obind (M.addN s3 (M.Nd.mk 16 0 0 0 [] nm 0 x at0)) fun s4 y => some (.ok s4 (y, names ++ [nm]))) hev (M.Ev.pure.eq (fun r => rfl)))⟩
    have HY : Hid (∀ w4 s4 x, KeptS B ok lo w w4 ∧ Nms w4 lo nb (names ++ [nm]) ∧ Pst w4 B pb tv L ok d s4 ∧ GrowE s1 s4 ∧ M.Ev L (fun r => M.part L r d s names .par) (.ok ⟨s4.i, s4.N ++ [(M.Nd.mk 16 0 0 0 [] nm 0 x at0)], s4.T⟩ ((s4.N.length : Int), names ++ [nm])) → Calls Tryz.prog 94 #[.pointer (some ⟨pb, 0, none⟩), .agg #[.int .i64 16, .int .i64 0, .int .i64 0, .int .i64 0, .slice none 0 0, .string ⟨nm.toArray⟩, .int .i64 0, .int .i64 x, .int .i64 at0]] w4 fun e w5 =>
        e = .returned (.int .i64 (s4.N.length : Int)) ∧ Hid (PostP w B pb tv L ok d s lo nb (fun r => M.part L r d s names .par) (.returned (.int .i64 (s4.N.length : Int))) w5)) := by
      rintro w4 s4 x ⟨k4, n4, p4, g4, e4⟩
      have g5 : _ ∧ _ ∧ _ ∧ _ := g4
      rw [hs1] at g5
      simp only [M.St.nx] at g5
      refine (addTyped_any hL p4 (M.Nd.mk 16 0 0 0 [] nm 0 x at0) none 0 0 ⟨_, rfl, World.ownsRow_nil _ _ _ _, by simp [Value.ownBlock]⟩ (by omega) (Nat.le_trans hB k4.size) (fun g hg => hok g (Nat.le_trans k4.size hg))).mono ?_
      rintro e w5 ⟨rfl, k5, p5⟩
      refine ⟨rfl, k4.andThen k5, _, e4, rfl, n4.kept k5, p5, ?_⟩
      simp only [Grow, List.length_append, List.length_cons, List.length_nil]
      omega
    clear V3 P3 K3 N3 B3
    go_wp2_with fail
    go_region_with (first | (go_at_call 158; refine (HX.out _ (Chg.drewN _ _ 1)).mono ?_; rintro e w4 (⟨er, p, rfl, H4⟩ | ⟨s4, x, rfl, cb4, H4⟩); exact ⟨rfl, H4.out⟩) | (go_at_call 94; refine (HY.out _ _ _ (Hid.out H4)).mono ?_; rintro e w5 ⟨rfl, H5⟩))
    all_goals go_wp2_with fail
    all_goals go_ret
    all_goals exact H5.out
end
end Go.Proofs.YtjojlcfoiknlhaaGreatDoor
