/-
  The contract of simple, over those of function and object.
-/
import Derived.Test.YtjojlcfoiknlhaaGreatDoorNodeD
namespace Go.Proofs.YtjojlcfoiknlhaaGreatDoor
open Go.RowKit

set_option linter.unusedSimpArgs false
/-- The contract of a method that is told where a node begins. -/
def ConA (B pb : Nat) (tv : Value) (L : List M.Tk) (K : Nat) (φ : Int → Nat → M.St → M.Sp → Option (M.Out Int)) (m : Nat) : Prop :=
  ∀ (at0 : Int) (w : World) (ok : Nat → Prop) (d : Nat) (s : M.St), L.length - s.i ≤ m → (∀ g, w.heap.size ≤ g → ok g) → B ≤ w.heap.size → Pst w B pb tv L ok d s →
    Calls Tryz.prog K #[.pointer (some ⟨pb, 0, none⟩), .int .i64 at0] w (PostN w B pb tv L ok d s (φ at0 d s))
def fnS (L : List M.Tk) (at0 : Int) (d : Nat) (s : M.St) (r : M.Sp) : Option (M.Out Int) := M.obind (M.need L s [40]) fun s1 _ => M.obind (r.list .par [41] d s1 [] []) fun s2 l => M.obind (M.typeIf L r d s2) fun s3 t => M.obind (r.block d s3) fun s4 x => M.addN s4 ⟨6, x, 0, 0, l, [], 0, t, at0⟩
def objS (at0 : Int) (d : Nat) (s : M.St) (r : M.Sp) : Option (M.Out Int) := M.obind (r.list .obj [125] d s [] []) fun s' l => M.addN s' ⟨10, 0, 0, 0, l, [], 0, -1, at0⟩

section
variable {B pb : Nat} {tv : Value} {L : List M.Tk}

set_option maxHeartbeats 2000000 in
set_option maxRecDepth 100000 in
theorem simple_any (hL : LOk L) (hN : M.NuL L) (m : Nat) (hE : ∀ m', m' < m → ConN B pb tv L 159 (fun d s r => r.expr d s) m') (hF : ∀ m', m' < m → ConA B pb tv L 228 (fnS L) m') (hO : ∀ m', m' < m → ConA B pb tv L 229 objS m') : ConN B pb tv L 222 (fun d s r => r.simple d s) m := by
  intro w ok d s hm hok hB h
  have hi := h.at'
  have hs := hL.short
  have hfw := h.few
  have HA := hide (at_any hL h)
  have FS : Hid (∀ a, Chg (fun _ => False) w a → Pst a B pb tv L ok d s) := fun a ha => h.still ha
  have FT : Hid (∀ a, Chg (fun _ => False) w a → Calls Tryz.prog 89 #[.pointer (some ⟨pb, 0, none⟩)] a fun e w' => e = .returned (tkv (M.tk L s.i)) ∧ Chg (fun _ => False) a w') := fun a ha => token_any hL (h.still ha)
  have TK : Hid (∀ a, (M.tk L s.i).kind ≠ 6 → Pst a B pb tv L ok d s → Calls Tryz.prog 187 #[.pointer (some ⟨pb, 0, none⟩)] a fun e w' => e = .returned (tkv (M.tk L s.i)) ∧ Kept B ok a w' ∧ Pst w' B pb tv L ok d s.nx) := fun a hk ha => take_any hL ha hk
  have NB : Hid (∀ at0 a, (M.tk L s.i).kind = 3 → (∀ g, a.heap.size ≤ g → ok g) → B ≤ a.heap.size → Pst a B pb tv L ok d s → Calls Tryz.prog 227 #[.pointer (some ⟨pb, 0, none⟩), .int .i64 at0] a (PostN a B pb tv L ok d s (fun _ => M.addN s.nx ⟨1, 0, 0, 0, [], [], M.value (M.tk L s.i).text, -1, at0⟩))) := fun at0 a h3 ho hb ha => numberN_any hL hN at0 a ok d s h3 ho hb ha
  have V : Hid (∀ o φ, M.Ev L φ o → (∀ r, (M.step L r).simple d s = φ r) → M.Ev L (fun r => r.simple d s) o) := fun o φ ho he => M.Ev.step (ho.eq (fun r => he r))
  have hf0 := tok_kind
  have hf1 := tok_text
  clear h
  generalize hat : ((M.tk L s.i).at' : Int) = at0 at *
  have AT := hide hat
  clear hat
  generalize hkd : (M.tk L s.i).kind = kd at *
  have KD := hide hkd
  clear hkd
  generalize htx : (M.tk L s.i).text = tx at *
  have TX := hide htx
  clear htx
  have tke : tkv (M.tk L s.i) = .agg #[.int .i64 kd, .string ⟨tx.toArray⟩, .int .i64 at0] := by rw [tkv, KD.out, TX.out, AT.out]
  rw [tke] at FT TK
  clear tke
  go_enter Tryz.func222, Tryz.ntmps222
  go_wp2_with fail
  refine HA.out.mono ?_
  rintro e wa ⟨rfl, hc⟩
  have C1 := hide hc
  clear hc HA
  go_wp2_with fail
  refine (FT.out wa C1.out).mono ?_
  rintro e w0 ⟨rfl, hc⟩
  have C2 : Hid (Chg (fun _ => False) w w0) := C1.out.trans hc (fun _ _ x => x)
  have K := hide (still_kept (B := B) (ok := ok) C2.out)
  have P := hide (FS.out w0 C2.out)
  clear hc FT FS C1 C2
  by_cases h3 : kd = 3
  case pos =>
    subst h3
    have H1 := hide (NB.out at0 w0 rfl (fun g hg => hok g (Nat.le_trans K.out.size hg)) (Nat.le_trans hB K.out.size) P.out)
    clear P NB
    go_wp2_with fail
    refine H1.out.mono ?_
    rintro e w9 hpost
    have PX := hide (postN_same K.out hpost (fun o ho => V.out o _ ho (fun r => by simp only [M.step, KD.out, TX.out, AT.out, if_pos, Bool.false_eq_true, if_false, if_true]; try rfl)))
    have hend := postN_end hpost
    clear hpost H1 K V
    rcases hend with ⟨x, rfl⟩ | ⟨er, p, rfl⟩
    · go_wp2_with fail
      go_ret
      exact PX.out
    · exact ⟨rfl, PX.out⟩
  clear NB
  have b3 : (kd == 3) = false := by simp [h3]
  by_cases h4 : kd = 4
  case pos =>
    subst h4
    have H1 := hide (TK.out w0 (by decide) P.out)
    clear P TK
    go_wp2_with fail
    refine H1.out.mono ?_
    rintro e w1 ⟨rfl, hk, hp⟩
    have K' := hide (K.out.trans hk)
    have P := hide hp
    clear hk hp H1 K
    have K := hide K'.out
    clear K'
    have hj := P.out.at'
    have HX := hide (add_any hL P.out (M.Nd.mk 2 0 0 0 [] tx 0 (-1) at0) 0 none 0 0 ⟨_, rfl, World.ownsRow_nil _ _ _ _, by simp [Value.ownBlock]⟩ rfl (by simp only [M.St.nx] at *; omega) (Nat.le_trans hB K.out.size) (fun g hg => hok g (Nat.le_trans K.out.size hg)))
    have EV := hide (V.out _ (fun r => M.addN s.nx (M.Nd.mk 2 0 0 0 [] tx 0 (-1) at0)) M.Ev.pure (fun r => by simp only [M.step, KD.out, TX.out, AT.out, (by decide : ¬ (4 : Int) = 3), Bool.false_eq_true, if_false, if_true]; try rfl))
    have GX := hide (show Grow s ⟨(s.nx).i, (s.nx).N ++ [(M.Nd.mk 2 0 0 0 [] tx 0 (-1) at0)], (s.nx).T⟩ by
      simp only [Grow, M.St.nx, List.length_append, List.length_cons, List.length_nil] at *
      omega)
    have hxx : (0 : Int) ≤ ((s.nx).N.length : Int) ∧ ((s.nx).N.length : Int) < (((s.nx).N ++ [(M.Nd.mk 2 0 0 0 [] tx 0 (-1) at0)]).length : Int) := by simp; omega
    clear P V
    go_wp2_with fail
    refine HX.out.mono ?_
    rintro e w9 ⟨rfl, k9, p9⟩
    have K9 := hide (K.out.trans k9)
    have P9 := hide p9
    clear k9 p9 HX
    go_wp2_with fail
    go_ret
    exact postN_ok K9.out EV.out P9.out GX.out hxx
  have b4 : (kd == 4) = false := by simp [h4]
  by_cases h1 : kd = 1
  case pos =>
    subst h1
    have H1 := hide (TK.out w0 (by decide) P.out)
    clear P TK
    go_wp2_with fail
    refine H1.out.mono ?_
    rintro e w1 ⟨rfl, hk, hp⟩
    have K' := hide (K.out.trans hk)
    have P := hide hp
    clear hk hp H1 K
    have K := hide K'.out
    clear K'
    have hj := P.out.at'
    have HX := hide (add_any hL P.out (M.Nd.mk 5 0 0 0 [] tx 0 (-1) at0) 0 none 0 0 ⟨_, rfl, World.ownsRow_nil _ _ _ _, by simp [Value.ownBlock]⟩ rfl (by simp only [M.St.nx] at *; omega) (Nat.le_trans hB K.out.size) (fun g hg => hok g (Nat.le_trans K.out.size hg)))
    have EV := hide (V.out _ (fun r => M.addN s.nx (M.Nd.mk 5 0 0 0 [] tx 0 (-1) at0)) M.Ev.pure (fun r => by simp only [M.step, KD.out, TX.out, AT.out, (by decide : ¬ (1 : Int) = 3), (by decide : ¬ (1 : Int) = 4), Bool.false_eq_true, if_false, if_true]; try rfl))
    have GX := hide (show Grow s ⟨(s.nx).i, (s.nx).N ++ [(M.Nd.mk 5 0 0 0 [] tx 0 (-1) at0)], (s.nx).T⟩ by
      simp only [Grow, M.St.nx, List.length_append, List.length_cons, List.length_nil] at *
      omega)
    have hxx : (0 : Int) ≤ ((s.nx).N.length : Int) ∧ ((s.nx).N.length : Int) < (((s.nx).N ++ [(M.Nd.mk 5 0 0 0 [] tx 0 (-1) at0)]).length : Int) := by simp; omega
    clear P V
    go_wp2_with fail
    refine HX.out.mono ?_
    rintro e w9 ⟨rfl, k9, p9⟩
    have K9 := hide (K.out.trans k9)
    have P9 := hide p9
    clear k9 p9 HX
    go_wp2_with fail
    go_ret
    exact postN_ok K9.out EV.out P9.out GX.out hxx
  have b1 : (kd == 1) = false := by simp [h1]
  clear TK
  have HT := took_any hL P.out [116, 114, 117, 101]
  generalize hq : M.isM L s.i [[116, 114, 117, 101]] = q0 at HT
  have Q0 := hide hq
  have HT2 := hide HT
  clear hq HT P
  go_wp2_with fail
  refine HT2.out.mono ?_
  rintro e w1 ⟨rfl, hk, hp⟩
  have K' := hide (K.out.trans hk)
  clear hk HT2 K
  have K := hide K'.out
  clear K'
  cases q0
  case true =>
    have P : Hid (Pst w1 B pb tv L ok d s.nx) := hp
    have hj := hp.at'
    clear hp
    have HX := hide (add_any hL P.out (M.Nd.mk 3 0 0 0 [] [] 1 (-1) at0) 0 none 0 0 ⟨_, rfl, World.ownsRow_nil _ _ _ _, by simp [Value.ownBlock]⟩ rfl (by simp only [M.St.nx] at *; omega) (Nat.le_trans hB K.out.size) (fun g hg => hok g (Nat.le_trans K.out.size hg)))
    have EV := hide (V.out _ (fun r => M.addN s.nx (M.Nd.mk 3 0 0 0 [] [] 1 (-1) at0)) M.Ev.pure (fun r => by simp only [M.step, KD.out, TX.out, AT.out, h3, h4, h1, Q0.out, Bool.false_eq_true, if_false, if_true]; try rfl))
    have GX := hide (show Grow s ⟨(s.nx).i, (s.nx).N ++ [(M.Nd.mk 3 0 0 0 [] [] 1 (-1) at0)], (s.nx).T⟩ by
      simp only [Grow, M.St.nx, List.length_append, List.length_cons, List.length_nil] at *
      omega)
    have hxx : (0 : Int) ≤ ((s.nx).N.length : Int) ∧ ((s.nx).N.length : Int) < (((s.nx).N ++ [(M.Nd.mk 3 0 0 0 [] [] 1 (-1) at0)]).length : Int) := by simp; omega
    clear P V
    go_wp2_with fail
    refine HX.out.mono ?_
    rintro e w9 ⟨rfl, k9, p9⟩
    have K9 := hide (K.out.trans k9)
    have P9 := hide p9
    clear k9 p9 HX
    go_wp2_with fail
    go_ret
    exact postN_ok K9.out EV.out P9.out GX.out hxx
  have P : Hid (Pst w1 B pb tv L ok d s) := hp
  clear hp
  have HT := took_any hL P.out [102, 97, 108, 115, 101]
  generalize hq : M.isM L s.i [[102, 97, 108, 115, 101]] = q1 at HT
  have Q1 := hide hq
  have HT2 := hide HT
  clear hq HT P
  go_wp2_with fail
  refine HT2.out.mono ?_
  rintro e w2 ⟨rfl, hk, hp⟩
  have K' := hide (K.out.trans hk)
  clear hk HT2 K
  have K := hide K'.out
  clear K'
  cases q1
  case true =>
    have P : Hid (Pst w2 B pb tv L ok d s.nx) := hp
    have hj := hp.at'
    clear hp
    have HX := hide (add_any hL P.out (M.Nd.mk 3 0 0 0 [] [] 0 (-1) at0) 0 none 0 0 ⟨_, rfl, World.ownsRow_nil _ _ _ _, by simp [Value.ownBlock]⟩ rfl (by simp only [M.St.nx] at *; omega) (Nat.le_trans hB K.out.size) (fun g hg => hok g (Nat.le_trans K.out.size hg)))
    have EV := hide (V.out _ (fun r => M.addN s.nx (M.Nd.mk 3 0 0 0 [] [] 0 (-1) at0)) M.Ev.pure (fun r => by simp only [M.step, KD.out, TX.out, AT.out, h3, h4, h1, Q0.out, Q1.out, Bool.false_eq_true, if_false, if_true]; try rfl))
    have GX := hide (show Grow s ⟨(s.nx).i, (s.nx).N ++ [(M.Nd.mk 3 0 0 0 [] [] 0 (-1) at0)], (s.nx).T⟩ by
      simp only [Grow, M.St.nx, List.length_append, List.length_cons, List.length_nil] at *
      omega)
    have hxx : (0 : Int) ≤ ((s.nx).N.length : Int) ∧ ((s.nx).N.length : Int) < (((s.nx).N ++ [(M.Nd.mk 3 0 0 0 [] [] 0 (-1) at0)]).length : Int) := by simp; omega
    clear P V
    go_wp2_with fail
    refine HX.out.mono ?_
    rintro e w9 ⟨rfl, k9, p9⟩
    have K9 := hide (K.out.trans k9)
    have P9 := hide p9
    clear k9 p9 HX
    go_wp2_with fail
    go_ret
    exact postN_ok K9.out EV.out P9.out GX.out hxx
  have P : Hid (Pst w2 B pb tv L ok d s) := hp
  clear hp
  have HT := took_any hL P.out [110, 117, 108, 108]
  generalize hq : M.isM L s.i [[110, 117, 108, 108]] = q2 at HT
  have Q2 := hide hq
  have HT2 := hide HT
  clear hq HT P
  go_wp2_with fail
  refine HT2.out.mono ?_
  rintro e w3 ⟨rfl, hk, hp⟩
  have K' := hide (K.out.trans hk)
  clear hk HT2 K
  have K := hide K'.out
  clear K'
  cases q2
  case true =>
    have P : Hid (Pst w3 B pb tv L ok d s.nx) := hp
    have hj := hp.at'
    clear hp
    have HX := hide (add_any hL P.out (M.Nd.mk 4 0 0 0 [] [] 0 (-1) at0) 0 none 0 0 ⟨_, rfl, World.ownsRow_nil _ _ _ _, by simp [Value.ownBlock]⟩ rfl (by simp only [M.St.nx] at *; omega) (Nat.le_trans hB K.out.size) (fun g hg => hok g (Nat.le_trans K.out.size hg)))
    have EV := hide (V.out _ (fun r => M.addN s.nx (M.Nd.mk 4 0 0 0 [] [] 0 (-1) at0)) M.Ev.pure (fun r => by simp only [M.step, KD.out, TX.out, AT.out, h3, h4, h1, Q0.out, Q1.out, Q2.out, Bool.false_eq_true, if_false, if_true]; try rfl))
    have GX := hide (show Grow s ⟨(s.nx).i, (s.nx).N ++ [(M.Nd.mk 4 0 0 0 [] [] 0 (-1) at0)], (s.nx).T⟩ by
      simp only [Grow, M.St.nx, List.length_append, List.length_cons, List.length_nil] at *
      omega)
    have hxx : (0 : Int) ≤ ((s.nx).N.length : Int) ∧ ((s.nx).N.length : Int) < (((s.nx).N ++ [(M.Nd.mk 4 0 0 0 [] [] 0 (-1) at0)]).length : Int) := by simp; omega
    clear P V
    go_wp2_with fail
    refine HX.out.mono ?_
    rintro e w9 ⟨rfl, k9, p9⟩
    have K9 := hide (K.out.trans k9)
    have P9 := hide p9
    clear k9 p9 HX
    go_wp2_with fail
    go_ret
    exact postN_ok K9.out EV.out P9.out GX.out hxx
  have P : Hid (Pst w3 B pb tv L ok d s) := hp
  clear hp
  have HT := took_any hL P.out [102, 110]
  generalize hq : M.isM L s.i [[102, 110]] = q3 at HT
  have Q3 := hide hq
  have HT2 := hide HT
  clear hq HT P
  go_wp2_with fail
  refine HT2.out.mono ?_
  rintro e w4 ⟨rfl, hk, hp⟩
  have K' := hide (K.out.trans hk)
  clear hk HT2 K
  have K := hide K'.out
  clear K'
  cases q3
  case true =>
    have P : Hid (Pst w4 B pb tv L ok d s.nx) := hp
    have hj := hp.at'
    clear hp
    have H1 := hide (hF (L.length - s.nx.i) (by simp only [M.St.nx]; omega) at0 w4 ok d s.nx (Nat.le_refl _) (fun g hg => hok g (Nat.le_trans K.out.size hg)) (Nat.le_trans hB K.out.size) P.out)
    clear P
    go_wp2_with fail
    refine H1.out.mono ?_
    rintro e w9 hpost
    have PX := hide (postN_nx K.out hpost (fun o ho => V.out o _ ho (fun r => by simp only [M.step, KD.out, TX.out, AT.out, h3, h4, h1, Q0.out, Q1.out, Q2.out, Q3.out, Bool.false_eq_true, if_false, if_true]; try rfl)))
    have hend := postN_end hpost
    clear hpost H1 K V
    rcases hend with ⟨x, rfl⟩ | ⟨er, p, rfl⟩
    · go_wp2_with fail
      go_ret
      exact PX.out
    · exact ⟨rfl, PX.out⟩
  have P : Hid (Pst w4 B pb tv L ok d s) := hp
  clear hp
  have HT := took_any hL P.out [91]
  generalize hq : M.isM L s.i [[91]] = q4 at HT
  have Q4 := hide hq
  have HT2 := hide HT
  clear hq HT P
  go_wp2_with fail
  refine HT2.out.mono ?_
  rintro e w5 ⟨rfl, hk, hp⟩
  have K' := hide (K.out.trans hk)
  clear hk HT2 K
  have K := hide K'.out
  clear K'
  cases q4
  case true =>
    have P : Hid (Pst w5 B pb tv L ok d s.nx) := hp
    have hj := hp.at'
    clear hp
    have H1 := hide (list_expression_any (w := w5) (ok := ok) hL (L.length - s.nx.i) (fun m' hm' => hE m' (by simp only [M.St.nx] at hm'; omega)) [93] (Nat.le_refl _) (fun g hg => hok g (Nat.le_trans K.out.size hg)) (Nat.le_trans hB K.out.size) P.out)
    clear P
    go_wp2_with fail
    refine H1.out.mono ?_
    rintro e w7 ⟨hk, o, hev, hpost⟩
    have K' := hide (K.out.trans hk)
    have E1 := hide hev
    have hz := K.out.size
    clear hk hev H1 K
    have K := hide K'.out
    clear K'
    have VL := hide (fun o (ho : M.Ev L (fun r => M.obind (r.list .expr [93] d s.nx [] []) fun s' l => M.addN s' (M.Nd.mk 11 0 0 0 l [] 0 (-1) at0)) o) => V.out o _ ho (fun r => by simp only [M.step, KD.out, TX.out, AT.out, h3, h4, h1, Q0.out, Q1.out, Q2.out, Q3.out, Q4.out, Bool.false_eq_true, if_false, if_true]; try rfl))
    cases o with
    | fail er p =>
      obtain ⟨rfl, he⟩ := hpost
      exact ⟨rfl, postN_fail K.out (VL.out _ (M.Ev.bad E1.out)) he⟩
    | ok s1 l =>
      obtain ⟨la, lc, rfl, ho, hl, hp, hg⟩ := hpost
      have hg1 : _ ∧ _ ∧ _ ∧ _ := hg
      simp only [M.St.nx] at hg1
      have P := hide hp
      have O1 := hide ho
      have hi1 := hp.at'
      clear hp ho hg
      have HX := hide (add_any hL P.out (M.Nd.mk 11 0 0 0 l [] 0 (-1) at0) 0 la l.length lc ⟨_, rfl, owns_base O1.out (Nat.zero_le _), fun g hg => hok g (by have := (owns_tag O1.out g hg).1; omega)⟩ rfl (by simp only [M.St.nx] at *; omega) (Nat.le_trans hB K.out.size) (fun g hg => hok g (Nat.le_trans K.out.size hg)))
      have EV := hide (VL.out _ (M.Ev.bind (k := fun r s' l => M.addN s' (M.Nd.mk 11 0 0 0 l [] 0 (-1) at0)) E1.out M.Ev.pure))
      have GX := hide (show Grow s ⟨(s1).i, (s1).N ++ [(M.Nd.mk 11 0 0 0 l [] 0 (-1) at0)], (s1).T⟩ by
        simp only [Grow, M.St.nx, List.length_append, List.length_cons, List.length_nil] at *
        omega)
      have hxx : (0 : Int) ≤ ((s1).N.length : Int) ∧ ((s1).N.length : Int) < (((s1).N ++ [(M.Nd.mk 11 0 0 0 l [] 0 (-1) at0)]).length : Int) := by simp; omega
      clear P V
      go_wp2_with fail
      refine HX.out.mono ?_
      rintro e w9 ⟨rfl, k9, p9⟩
      have K9 := hide (K.out.trans k9)
      have P9 := hide p9
      clear k9 p9 HX
      go_wp2_with fail
      go_ret
      exact postN_ok K9.out EV.out P9.out GX.out hxx
  have P : Hid (Pst w5 B pb tv L ok d s) := hp
  clear hp
  have HT := took_any hL P.out [123]
  generalize hq : M.isM L s.i [[123]] = q5 at HT
  have Q5 := hide hq
  have HT2 := hide HT
  clear hq HT P
  go_wp2_with fail
  refine HT2.out.mono ?_
  rintro e w6 ⟨rfl, hk, hp⟩
  have K' := hide (K.out.trans hk)
  clear hk HT2 K
  have K := hide K'.out
  clear K'
  cases q5
  case true =>
    have P : Hid (Pst w6 B pb tv L ok d s.nx) := hp
    have hj := hp.at'
    clear hp
    have H1 := hide (hO (L.length - s.nx.i) (by simp only [M.St.nx]; omega) at0 w6 ok d s.nx (Nat.le_refl _) (fun g hg => hok g (Nat.le_trans K.out.size hg)) (Nat.le_trans hB K.out.size) P.out)
    clear P
    go_wp2_with fail
    refine H1.out.mono ?_
    rintro e w9 hpost
    have PX := hide (postN_nx K.out hpost (fun o ho => V.out o _ ho (fun r => by simp only [M.step, KD.out, TX.out, AT.out, h3, h4, h1, Q0.out, Q1.out, Q2.out, Q3.out, Q4.out, Q5.out, Bool.false_eq_true, if_false, if_true]; try rfl)))
    have hend := postN_end hpost
    clear hpost H1 K V
    rcases hend with ⟨x, rfl⟩ | ⟨er, p, rfl⟩
    · go_wp2_with fail
      go_ret
      exact PX.out
    · exact ⟨rfl, PX.out⟩
  have P : Hid (Pst w6 B pb tv L ok d s) := hp
  clear hp
  have H1 := hide (brackets_any hL m hE w6 ok d s hm (fun g hg => hok g (Nat.le_trans K.out.size hg)) (Nat.le_trans hB K.out.size) P.out)
  clear P
  go_wp2_with fail
  refine H1.out.mono ?_
  rintro e w9 hpost
  have PX := hide (postN_same K.out hpost (fun o ho => V.out o _ ho (fun r => by simp only [M.step, KD.out, TX.out, AT.out, h3, h4, h1, Q0.out, Q1.out, Q2.out, Q3.out, Q4.out, Q5.out, Bool.false_eq_true, if_false, if_true]; try rfl)))
  have hend := postN_end hpost
  clear hpost H1 K V
  rcases hend with ⟨x, rfl⟩ | ⟨er, p, rfl⟩
  · go_wp2_with fail
    go_ret
    exact PX.out
  · exact ⟨rfl, PX.out⟩
end
end Go.Proofs.YtjojlcfoiknlhaaGreatDoor
