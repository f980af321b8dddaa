/-
  The contracts of anyStatement and statement.
  The contract of strconv.Atoi lies in the text of the library's contracts.
  The contract of number.
-/
import Derived.Test.YtjojlcfoiknlhaaGreatDoorNodeC
import Derived.Test.YtjojlcfoiknlhaaGreatDoorShelf
import Derived.Test.YtjojlcfoiknlhaaGreatDoorPlainC
namespace Go.Proofs.YtjojlcfoiknlhaaGreatDoor
open Go.RowKit

set_option linter.unusedSimpArgs false
section
variable {B pb : Nat} {tv : Value} {L : List M.Tk}

/-- An answer of what was called last is one's own. -/
theorem postN_nx {w w1 w2 : World} {ok : Nat → Prop} {d : Nat} {s : M.St} {φ ψ : M.Sp → Option (M.Out Int)} {e : Ending} (hk : Kept B ok w w1) (h : PostN w1 B pb tv L ok d s.nx φ e w2) (hv : ∀ o, M.Ev L φ o → M.Ev L ψ o) : PostN w B pb tv L ok d s ψ e w2 := by
  obtain ⟨k, o, ev, hp⟩ := h
  refine ⟨hk.trans k, o, hv o ev, ?_⟩
  cases o with
  | fail er p => exact hp
  | ok s' x =>
    obtain ⟨h1, h2, h3, h4⟩ := hp
    exact ⟨h1, h2, grow_nx h3, h4⟩
theorem postN_same {w w1 w2 : World} {ok : Nat → Prop} {d : Nat} {s : M.St} {φ ψ : M.Sp → Option (M.Out Int)} {e : Ending} (hk : Kept B ok w w1) (h : PostN w1 B pb tv L ok d s φ e w2) (hv : ∀ o, M.Ev L φ o → M.Ev L ψ o) : PostN w B pb tv L ok d s ψ e w2 := by
  obtain ⟨k, o, ev, hp⟩ := h
  refine ⟨hk.trans k, o, hv o ev, ?_⟩
  cases o with
  | fail er p => exact hp
  | ok s' x => exact hp
/-- What has returned or panicked. -/
theorem postN_end {w w2 : World} {ok : Nat → Prop} {d : Nat} {s : M.St} {φ : M.Sp → Option (M.Out Int)} {e : Ending} (h : PostN w B pb tv L ok d s φ e w2) : (∃ x, e = .returned (.int .i64 x)) ∨ ∃ er p, e = gu er p := by
  obtain ⟨k, o, ev, hp⟩ := h
  cases o with
  | fail er p => exact .inr ⟨er, p, hp.1⟩
  | ok s' x => exact .inl ⟨x, hp.1⟩

set_option maxHeartbeats 2000000 in
set_option maxRecDepth 100000 in
theorem anyStatement_any (hL : LOk L) (hX : ∀ (d : Nat) (s s' : M.St) (x : Int), M.Ev L (fun r => r.expr d s) (.ok s' x) → (s.N.length : Int) ≤ x) (m : Nat) (hE : ∀ m', m' ≤ m → ConN B pb tv L 159 (fun d s r => r.expr d s) m') (hK : ∀ m', m' < m → ConN B pb tv L 161 (fun d s r => r.block d s) m') : ConN B pb tv L 93 (fun d s r => r.any d s) m := by
  intro w ok d s hm hok hB h
  have hi := h.at'
  have hs := hL.short
  have HA := hide (at_any hL h)
  have FS : Hid (∀ a, Chg (fun _ => False) w a → Pst a B pb tv L ok d s) := fun a ha => h.still ha
  have V : Hid (∀ o φ, M.Ev L φ o → (∀ r, (M.step L r).any d s = φ r) → M.Ev L (fun r => r.any d s) o) := fun o φ ho he => M.Ev.step (ho.eq (fun r => he r))
  clear h
  generalize hat : ((M.tk L s.i).at' : Int) = at0 at *
  have AT := hide hat
  clear hat
  go_enter Tryz.func93, Tryz.ntmps93
  go_wp2_with fail
  refine HA.out.mono ?_
  rintro e w0 ⟨rfl, hc⟩
  have K := hide (still_kept (B := B) (ok := ok) hc)
  have P := hide (FS.out w0 hc)
  clear hc HA FS
  have HT := took_any hL P.out [108, 101, 116]
  generalize hq : M.isM L s.i [[108, 101, 116]] = q0 at HT
  have Q0 := hide hq
  have HT2 := hide HT
  clear hq HT P
  go_wp2_with fail
  refine HT2.out.mono ?_
  rintro e w1 ⟨rfl, hk, hp⟩
  have K' := hide (K.out.trans hk)
  clear hk HT2 K
  have K := hide K'.out
  clear K'
  cases q0
  case true =>
    have P : Hid (Pst w1 B pb tv L ok d s.nx) := hp
    clear hp
    have H1 := hide (let_any hL (L.length - s.nx.i) (fun m' hm' => hE m' (by simp only [M.St.nx] at hm'; omega)) at0 w1 ok d s.nx (Nat.le_refl _) (fun g hg => hok g (Nat.le_trans K.out.size hg)) (Nat.le_trans hB K.out.size) P.out)
    clear P
    go_wp2_with fail
    refine H1.out.mono ?_
    rintro e w9 hpost
    have PX := hide (postN_nx K.out hpost (fun o ho => V.out o _ ho (fun r => by simp only [M.step, Q0.out, Bool.false_eq_true, if_false, if_true, AT.out]; try rfl)))
    have hend := postN_end hpost
    clear hpost H1 K V
    rcases hend with ⟨x, rfl⟩ | ⟨er, p, rfl⟩
    · go_wp2_with fail
      go_ret
      exact PX.out
    · exact ⟨rfl, PX.out⟩
  have P : Hid (Pst w1 B pb tv L ok d s) := hp
  clear hp
  have HT := took_any hL P.out [112, 114, 105, 110, 116]
  generalize hq : M.isM L s.i [[112, 114, 105, 110, 116]] = q1 at HT
  have Q1 := hide hq
  have HT2 := hide HT
  clear hq HT P
  go_wp2_with fail
  refine HT2.out.mono ?_
  rintro e w2 ⟨rfl, hk, hp⟩
  have K' := hide (K.out.trans hk)
  clear hk HT2 K
  have K := hide K'.out
  clear K'
  cases q1
  case true =>
    have P : Hid (Pst w2 B pb tv L ok d s.nx) := hp
    clear hp
    have H1 := hide (oneExpression_any hL (L.length - s.nx.i) (fun m' hm' => hE m' (by simp only [M.St.nx] at hm'; omega)) 21 at0 w2 ok d s.nx (Nat.le_refl _) (fun g hg => hok g (Nat.le_trans K.out.size hg)) (Nat.le_trans hB K.out.size) P.out)
    clear P
    go_wp2_with fail
    refine H1.out.mono ?_
    rintro e w9 hpost
    have PX := hide (postN_nx K.out hpost (fun o ho => V.out o _ ho (fun r => by simp only [M.step, Q0.out, Q1.out, Bool.false_eq_true, if_false, if_true, AT.out]; try rfl)))
    have hend := postN_end hpost
    clear hpost H1 K V
    rcases hend with ⟨x, rfl⟩ | ⟨er, p, rfl⟩
    · go_wp2_with fail
      go_ret
      exact PX.out
    · exact ⟨rfl, PX.out⟩
  have P : Hid (Pst w2 B pb tv L ok d s) := hp
  clear hp
  have HT := took_any hL P.out [114, 101, 116, 117, 114, 110]
  generalize hq : M.isM L s.i [[114, 101, 116, 117, 114, 110]] = q2 at HT
  have Q2 := hide hq
  have HT2 := hide HT
  clear hq HT P
  go_wp2_with fail
  refine HT2.out.mono ?_
  rintro e w3 ⟨rfl, hk, hp⟩
  have K' := hide (K.out.trans hk)
  clear hk HT2 K
  have K := hide K'.out
  clear K'
  cases q2
  case true =>
    have P : Hid (Pst w3 B pb tv L ok d s.nx) := hp
    clear hp
    have H1 := hide (oneExpression_any hL (L.length - s.nx.i) (fun m' hm' => hE m' (by simp only [M.St.nx] at hm'; omega)) 24 at0 w3 ok d s.nx (Nat.le_refl _) (fun g hg => hok g (Nat.le_trans K.out.size hg)) (Nat.le_trans hB K.out.size) P.out)
    clear P
    go_wp2_with fail
    refine H1.out.mono ?_
    rintro e w9 hpost
    have PX := hide (postN_nx K.out hpost (fun o ho => V.out o _ ho (fun r => by simp only [M.step, Q0.out, Q1.out, Q2.out, Bool.false_eq_true, if_false, if_true, AT.out]; try rfl)))
    have hend := postN_end hpost
    clear hpost H1 K V
    rcases hend with ⟨x, rfl⟩ | ⟨er, p, rfl⟩
    · go_wp2_with fail
      go_ret
      exact PX.out
    · exact ⟨rfl, PX.out⟩
  have P : Hid (Pst w3 B pb tv L ok d s) := hp
  clear hp
  have HT := took_any hL P.out [105, 102]
  generalize hq : M.isM L s.i [[105, 102]] = q3 at HT
  have Q3 := hide hq
  have HT2 := hide HT
  clear hq HT P
  go_wp2_with fail
  refine HT2.out.mono ?_
  rintro e w4 ⟨rfl, hk, hp⟩
  have K' := hide (K.out.trans hk)
  clear hk HT2 K
  have K := hide K'.out
  clear K'
  cases q3
  case true =>
    have P : Hid (Pst w4 B pb tv L ok d s.nx) := hp
    clear hp
    have H1 := hide (branch_any hL (L.length - s.nx.i) (fun m' hm' => hE m' (by simp only [M.St.nx] at hm'; omega)) (fun m' hm' => hK m' (by simp only [M.St.nx] at hm'; omega)) at0 w4 ok d s.nx (Nat.le_refl _) (fun g hg => hok g (Nat.le_trans K.out.size hg)) (Nat.le_trans hB K.out.size) P.out)
    clear P
    go_wp2_with fail
    refine H1.out.mono ?_
    rintro e w9 hpost
    have PX := hide (postN_nx K.out hpost (fun o ho => V.out o _ ho (fun r => by simp only [M.step, Q0.out, Q1.out, Q2.out, Q3.out, cnd_bind, Bool.false_eq_true, if_false, if_true, AT.out]; try rfl)))
    have hend := postN_end hpost
    clear hpost H1 K V
    rcases hend with ⟨x, rfl⟩ | ⟨er, p, rfl⟩
    · go_wp2_with fail
      go_ret
      exact PX.out
    · exact ⟨rfl, PX.out⟩
  have P : Hid (Pst w4 B pb tv L ok d s) := hp
  clear hp
  have HT := took_any hL P.out [119, 104, 105, 108, 101]
  generalize hq : M.isM L s.i [[119, 104, 105, 108, 101]] = q4 at HT
  have Q4 := hide hq
  have HT2 := hide HT
  clear hq HT P
  go_wp2_with fail
  refine HT2.out.mono ?_
  rintro e w5 ⟨rfl, hk, hp⟩
  have K' := hide (K.out.trans hk)
  clear hk HT2 K
  have K := hide K'.out
  clear K'
  cases q4
  case true =>
    have P : Hid (Pst w5 B pb tv L ok d s.nx) := hp
    clear hp
    have H1 := hide (loop_any hL (L.length - s.nx.i) (fun m' hm' => hE m' (by simp only [M.St.nx] at hm'; omega)) (fun m' hm' => hK m' (by simp only [M.St.nx] at hm'; omega)) at0 w5 ok d s.nx (Nat.le_refl _) (fun g hg => hok g (Nat.le_trans K.out.size hg)) (Nat.le_trans hB K.out.size) P.out)
    clear P
    go_wp2_with fail
    refine H1.out.mono ?_
    rintro e w9 hpost
    have PX := hide (postN_nx K.out hpost (fun o ho => V.out o _ ho (fun r => by simp only [M.step, Q0.out, Q1.out, Q2.out, Q3.out, Q4.out, cnd_bind, Bool.false_eq_true, if_false, if_true, AT.out]; try rfl)))
    have hend := postN_end hpost
    clear hpost H1 K V
    rcases hend with ⟨x, rfl⟩ | ⟨er, p, rfl⟩
    · go_wp2_with fail
      go_ret
      exact PX.out
    · exact ⟨rfl, PX.out⟩
  have P : Hid (Pst w5 B pb tv L ok d s) := hp
  clear hp
  have H1 := hide (doOrSet_any hL hX m hE w5 ok d s hm (fun g hg => hok g (Nat.le_trans K.out.size hg)) (Nat.le_trans hB K.out.size) P.out)
  clear P
  go_wp2_with fail
  refine H1.out.mono ?_
  rintro e w9 hpost
  have PX := hide (postN_same K.out hpost (fun o ho => V.out o _ ho (fun r => by simp only [M.step, Q0.out, Q1.out, Q2.out, Q3.out, Q4.out, Bool.false_eq_true, if_false, if_true, AT.out]; try rfl)))
  have hend := postN_end hpost
  clear hpost H1 K V
  rcases hend with ⟨x, rfl⟩ | ⟨er, p, rfl⟩
  · go_wp2_with fail
    go_ret
    exact PX.out
  · exact ⟨rfl, PX.out⟩

set_option maxHeartbeats 2000000 in
set_option maxRecDepth 100000 in
theorem statement_any (hL : LOk L) (m : Nat) (hU : ConN B pb tv L 93 (fun d s r => r.any d s) m) : ConN B pb tv L 50 (fun d s r => r.stmt d s) m := by
  intro w ok d s hm hok hB h
  have HI := hide (is_any hL (h.alloc (.cells (strV [[108, 101, 116], [112, 114, 105, 110, 116], [114, 101, 116, 117, 114, 110], [105, 102], [119, 104, 105, 108, 101]]) 9)) w.heap.size 5 [[108, 101, 116], [112, 114, 105, 110, 116], [114, 101, 116, 117, 114, 110], [105, 102], [119, 104, 105, 108, 101]] (strs_many _ _ _) (by decide))
  have HB : Hid (∀ a, Chg (fun _ => False) w a → Calls Tryz.prog 92 #[.pointer (some ⟨pb, 0, none⟩)] a fun e w' => e = .returned (.bool (M.begE L s.i)) ∧ Chg (fun _ => False) a w') := fun a ha => begE_any hL (h.still ha)
  have HN : Hid (∀ a, Chg (fun _ => False) w a → ∀ b, Calls Tryz.prog 60 #[.pointer (some ⟨pb, 0, none⟩), .bool b, .func (.func 93) #[.pointer (some ⟨pb, 0, none⟩)] #[]] a (PostN a B pb tv L ok d s (fun r => M.inside L b d s (fun d s => r.any d s)))) := fun a hc b => inside_anyStatement_any (w := a) (ok := ok) hL m _ hU b hm (fun g hg => hok g (Nat.le_trans hc.size hg)) (Nat.le_trans hB hc.size) (h.still hc)
  have V : Hid (∀ b o, b = M.begS L s.i → M.Ev L (fun r => M.inside L b d s (fun d s => r.any d s)) o → M.Ev L (fun r => r.stmt d s) o) := fun b o hb ho => M.Ev.step (ho.eq (fun r => by rw [hb]; rfl))
  have hbs : M.begS L s.i = (M.isM L s.i [[108, 101, 116], [112, 114, 105, 110, 116], [114, 101, 116, 117, 114, 110], [105, 102], [119, 104, 105, 108, 101]] || M.begE L s.i) := rfl
  rw [hbs] at V
  clear hbs h hU
  generalize M.isM L s.i [[108, 101, 116], [112, 114, 105, 110, 116], [114, 101, 116, 117, 114, 110], [105, 102], [119, 104, 105, 108, 101]] = q at *
  generalize M.begE L s.i = q2 at *
  go_enter Tryz.func50, Tryz.ntmps50
  go_wp2_with fail
  refine HI.out.mono ?_
  rintro e w1 ⟨rfl, hc⟩
  have C1 : Hid (Chg (fun _ => False) w w1) := (Chg.alloc (fun _ => False) _ _).trans hc (fun _ _ x => x)
  clear hc HI
  cases q
  · go_wp2_with fail
    refine (HB.out w1 C1.out).mono ?_
    rintro e w2 ⟨rfl, hc⟩
    have C2 : Hid (Chg (fun _ => False) w w2) := C1.out.trans hc (fun _ _ x => x)
    clear hc C1 HB
    go_wp2_with fail
    refine (HN.out w2 C2.out q2).mono ?_
    rintro e w9 hpost
    have PX := hide (postN_same (still_kept C2.out) hpost (fun o ho => V.out q2 o (by simp) ho))
    have hend := postN_end hpost
    clear hpost V C2 HN
    rcases hend with ⟨x, rfl⟩ | ⟨er, p, rfl⟩
    · go_wp2_with fail
      go_ret
      exact PX.out
    · exact ⟨rfl, PX.out⟩
  · go_wp2_with fail
    refine (HN.out w1 C1.out true).mono ?_
    rintro e w9 hpost
    have PX := hide (postN_same (still_kept C1.out) hpost (fun o ho => V.out true o (by simp) ho))
    have hend := postN_end hpost
    clear hpost V C1 HN
    rcases hend with ⟨x, rfl⟩ | ⟨er, p, rfl⟩
    · go_wp2_with fail
      go_ret
      exact PX.out
    · exact ⟨rfl, PX.out⟩
end
end Go.Proofs.YtjojlcfoiknlhaaGreatDoor



namespace Go.Proofs.YtjojlcfoiknlhaaGreatDoor
open Go.RowKit

theorem Chg.bytes (S : Nat → Prop) (w : World) (e : TypeId) (t : ByteArray) : Chg S w (Lib.bytesWorld w e t) := by
  exact ⟨rfl, rfl, rfl, by rw [Lib.bytesWorld_size]; omega, fun k hk _ => Lib.bytesWorld_at_old w e t k hk⟩

section
variable {B pb : Nat} {tv : Value} {L : List M.Tk}

set_option maxHeartbeats 1600000 in
set_option maxRecDepth 100000 in
theorem numberN_any (hL : LOk L) (hN : M.NuL L) (at0 : Int) (w : World) (ok : Nat → Prop) (d : Nat) (s : M.St) (h3 : (M.tk L s.i).kind = 3) (hok : ∀ g, w.heap.size ≤ g → ok g) (hB : B ≤ w.heap.size) (h : Pst w B pb tv L ok d s) :
    Calls Tryz.prog 227 #[.pointer (some ⟨pb, 0, none⟩), .int .i64 at0] w (PostN w B pb tv L ok d s (fun _ => M.addN s.nx ⟨1, 0, 0, 0, [], [], M.value (M.tk L s.i).text, -1, at0⟩)) := by
  have hi := h.at'
  have hs := hL.short
  have hfw := h.few
  have HT := hide (take_any hL h (by rw [h3]; decide))
  have hnu := hN s.i h3
  have hf1 := @tok_text
  have HO := hide (fun a => Tryz.strconv_Atoi ⟨(M.tk L s.i).text.toArray⟩ (M.value (M.tk L s.i).text) (by have := hnu.2.1; simp [ByteArray.size]; omega) (by simpa using M.atoi_value _ hnu) a)
  clear h hnu
  generalize M.value (M.tk L s.i).text = vv at *
  generalize M.tk L s.i = tt at *
  clear h3
  go_enter Tryz.func227, Tryz.ntmps227
  go_wp2_with fail
  refine HT.out.mono ?_
  rintro e w1 ⟨rfl, hk, hp⟩
  have K1 := hide hk
  have P1 := hide hp
  clear hk hp HT
  simp only [tkv]
  go_wp2_with fail
  refine (HO.out w1).mono ?_
  rintro e w2 ⟨rfl, t, rfl⟩
  have K2 := hide (K1.out.trans (still_kept (Chg.bytes _ w1 5 t)))
  have P2 := hide (P1.out.still (Chg.bytes _ w1 5 t))
  clear K1 P1 HO
  generalize Lib.bytesWorld w1 5 t = w2 at *
  have hj := P2.out.at'
  simp only [M.St.nx] at hj
  have HA := hide (add_any hL P2.out (M.Nd.mk 1 0 0 0 [] [] vv (-1) at0) 0 none 0 0 ⟨_, rfl, World.ownsRow_nil _ _ _ _, by simp [Value.ownBlock]⟩ rfl (by simp only [M.St.nx]; omega) (Nat.le_trans hB K2.out.size) (fun g hg => hok g (Nat.le_trans K2.out.size hg)))
  have GX := hide (show Grow s ⟨s.nx.i, s.nx.N ++ [M.Nd.mk 1 0 0 0 [] [] vv (-1) at0], s.nx.T⟩ by
    simp only [Grow, M.St.nx, List.length_append, List.length_cons, List.length_nil]
    omega)
  have hxx : (0 : Int) ≤ (s.nx.N.length : Int) ∧ (s.nx.N.length : Int) < ((s.nx.N ++ [M.Nd.mk 1 0 0 0 [] [] vv (-1) at0]).length : Int) := by simp; omega
  clear P2
  go_wp2_with fail
  refine HA.out.mono ?_
  rintro e w9 ⟨rfl, k9, p9⟩
  have K9 := hide (K2.out.trans k9)
  have P9 := hide p9
  clear k9 p9 HA
  go_wp2_with fail
  go_ret
  exact postN_ok K9.out M.Ev.pure P9.out GX.out hxx
end
end Go.Proofs.YtjojlcfoiknlhaaGreatDoor
