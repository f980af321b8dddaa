/-
  The contracts of condition, let, oneExpression, loop and branch's first part.
  The contracts of branch, block and statement.
-/
import Derived.Test.YtjojlcfoiknlhaaGreatDoorWtl
namespace Go.Proofs.YtjojlcfoiknlhaaGreatDoor
open Go.RowKit

/-- What stands in brackets behind if and while. -/
def cndS (L : List M.Tk) (d : Nat) (s : M.St) (r : M.Sp) : Option (M.Out Int) := M.obind (M.need L s [40]) fun s _ => M.obind (r.expr d s) fun s x => M.obind (M.need L s [41]) fun s _ => some (.ok s x)
theorem obind_assoc {α β γ : Type} (x : Option (M.Out α)) (f : M.St → α → Option (M.Out β)) (g : M.St → β → Option (M.Out γ)) : M.obind (M.obind x f) g = M.obind x fun s a => M.obind (f s a) g := by
  rcases x with _ | ⟨s, a⟩ | ⟨e, p⟩ <;> rfl
theorem cnd_bind (L : List M.Tk) (d : Nat) (s : M.St) (r : M.Sp) {β : Type} (k : M.St → Int → Option (M.Out β)) : M.obind (cndS L d s r) k = M.obind (M.need L s [40]) fun s _ => M.obind (r.expr d s) fun s x => M.obind (M.need L s [41]) fun s _ => k s x := by
  unfold cndS
  simp only [obind_assoc]
  rfl

section
variable {B pb : Nat} {tv : Value} {L : List M.Tk}

/-- What condition answers: two tokens more than it needs. -/
def PostC (w : World) (B pb : Nat) (tv : Value) (L : List M.Tk) (ok : Nat → Prop) (d : Nat) (s : M.St) (φ : M.Sp → Option (M.Out Int)) (e : Ending) (w' : World) : Prop :=
  Kept B ok w w' ∧ ∃ o, M.Ev L φ o ∧ match o with
    | .ok s' x => e = .returned (.int .i64 x) ∧ Pst w' B pb tv L ok d s' ∧ (s.i < s'.i ∧ s'.N.length + s.i + 2 ≤ s.N.length + s'.i ∧ s'.T.length + s.i ≤ s.T.length + s'.i ∧ s.N.length ≤ s'.N.length) ∧ 0 ≤ x ∧ x < s'.N.length
    | .fail er p => e = gu er p ∧ er ≠ 0
theorem postC_fail {w w' : World} {ok : Nat → Prop} {d : Nat} {s : M.St} {φ : M.Sp → Option (M.Out Int)} {er p : Int} (hk : Kept B ok w w') (hev : M.Ev L φ (.fail er p)) (he : er ≠ 0) : PostC w B pb tv L ok d s φ (gu er p) w' := ⟨hk, _, hev, rfl, he⟩

set_option maxHeartbeats 2000000 in
set_option maxRecDepth 100000 in
theorem condition_any (hL : LOk L) (m : Nat) (hE : ∀ m', m' ≤ m → ConN B pb tv L 159 (fun d s r => r.expr d s) m') (w : World) (ok : Nat → Prop) (d : Nat) (s : M.St) (hm : L.length - s.i ≤ m) (hok : ∀ g, w.heap.size ≤ g → ok g) (hB : B ≤ w.heap.size) (h : Pst w B pb tv L ok d s) :
    Calls Tryz.prog 160 #[.pointer (some ⟨pb, 0, none⟩)] w (PostC w B pb tv L ok d s (fun r => M.obind (M.need L s [40]) fun t0 (_ : Unit) => M.obind (r.expr d t0) fun t1 x => M.obind (M.need L t1 [41]) fun t2 (_ : Unit) => some (M.Out.ok t2 x))) := by
  have hi0 := h.at'
  have hs := hL.short
  have hfw := h.few
  have K := hide (Kept.refl B ok w)
  generalize hFF : (fun (r : M.Sp) => M.obind (M.need L s [40]) fun t0 (_ : Unit) => M.obind (r.expr d t0) fun t1 x => M.obind (M.need L t1 [41]) fun t2 (_ : Unit) => some (M.Out.ok t2 x)) = FF
  have V : Hid (∀ o, M.Ev L (fun r => M.obind (M.need L s [40]) fun t0 (_ : Unit) => M.obind (r.expr d t0) fun t1 x => M.obind (M.need L t1 [41]) fun t2 (_ : Unit) => some (M.Out.ok t2 x)) o → M.Ev L FF o) := by
    rw [← hFF]
    exact fun _ x => x
  have P := hide h
  clear h hFF
  go_enter Tryz.func160, Tryz.ntmps160
  have H1 := hide (need_any hL P.out [40])
  clear P
  go_wp2_with fail
  refine H1.out.mono ?_
  rintro e w1 ⟨hk, hr⟩
  have K' := hide (K.out.trans hk)
  clear hk H1 K
  have K := hide K'.out
  clear K'
  rcases hr with ⟨hb, rfl, hp⟩ | ⟨hb, rfl⟩
  case inr => exact ⟨rfl, postC_fail K.out (V.out _ (M.Ev.bad (k := fun r t0 (_ : Unit) => M.obind (r.expr d t0) fun t1 x => M.obind (M.need L t1 [41]) fun t2 (_ : Unit) => some (M.Out.ok t2 x)) (need_no hb))) (by decide)⟩
  have V' := hide (fun o (ho : M.Ev L (fun r => M.obind (r.expr d (s).nx) fun t1 x => M.obind (M.need L t1 [41]) fun t2 (_ : Unit) => some (M.Out.ok t2 x)) o) => V.out o (M.Ev.bind (k := fun r t0 (_ : Unit) => M.obind (r.expr d t0) fun t1 x => M.obind (M.need L t1 [41]) fun t2 (_ : Unit) => some (M.Out.ok t2 x)) (need_yes hb) ho))
  clear V hb
  have V := hide V'.out
  clear V'
  have P := hide hp
  have hi1 := hp.at'
  clear hp
  have H1 := hide (hE (L.length - ((s).nx).i) (by simp only [M.St.nx]; omega) w1 ok d ((s).nx) (Nat.le_refl _) (fun g hg => hok g (Nat.le_trans K.out.size hg)) (Nat.le_trans hB K.out.size) P.out)
  clear P
  go_wp2_with fail
  refine H1.out.mono ?_
  rintro e w2 ⟨hk, o, hev, hpost⟩
  have K' := hide (K.out.trans hk)
  have E1 := hide hev
  clear hk hev H1 K
  have K := hide K'.out
  clear K'
  cases o with
  | fail er p =>
    obtain ⟨rfl, he⟩ := hpost
    exact ⟨rfl, postC_fail K.out (V.out _ (M.Ev.bad (k := fun r t1 x => M.obind (M.need L t1 [41]) fun t2 (_ : Unit) => some (M.Out.ok t2 x)) E1.out)) he⟩
  | ok s2 x =>
    obtain ⟨rfl, hp, hg, hx2⟩ := hpost
    have hg2 : _ ∧ _ ∧ _ ∧ _ := hg
    simp only [M.St.nx] at hg2
    have V' := hide (fun o (ho : M.Ev L (fun r => M.obind (M.need L s2 [41]) fun t2 (_ : Unit) => some (M.Out.ok t2 x)) o) => V.out o (M.Ev.bind (k := fun r t1 x => M.obind (M.need L t1 [41]) fun t2 (_ : Unit) => some (M.Out.ok t2 x)) E1.out ho))
    clear V E1
    have V := hide V'.out
    clear V'
    have P := hide hp
    have hi2 := hp.at'
    clear hp hg
    have H1 := hide (need_any hL P.out [41])
    clear P
    go_wp2_with fail
    refine H1.out.mono ?_
    rintro e w3 ⟨hk, hr⟩
    have K' := hide (K.out.trans hk)
    clear hk H1 K
    have K := hide K'.out
    clear K'
    rcases hr with ⟨hb, rfl, hp⟩ | ⟨hb, rfl⟩
    case inr => exact ⟨rfl, postC_fail K.out (V.out _ (M.Ev.bad (k := fun r t2 (_ : Unit) => some (M.Out.ok t2 x)) (need_no hb))) (by decide)⟩
    have V' := hide (fun o (ho : M.Ev L (fun r => some (M.Out.ok (s2).nx x)) o) => V.out o (M.Ev.bind (k := fun r t2 (_ : Unit) => some (M.Out.ok t2 x)) (need_yes hb) ho))
    clear V hb
    have V := hide V'.out
    clear V'
    have P := hide hp
    have hi3 := hp.at'
    clear hp
    have EV := hide (V.out _ M.Ev.pure)
    have GX : Hid (s.i < ((s2).nx).i ∧ ((s2).nx).N.length + s.i + 2 ≤ s.N.length + ((s2).nx).i ∧ ((s2).nx).T.length + s.i ≤ s.T.length + ((s2).nx).i ∧ s.N.length ≤ ((s2).nx).N.length) := (show _ ∧ _ ∧ _ ∧ _ from by simp only [M.St.nx]; omega)
    clear V
    go_wp2_with fail
    go_ret
    exact ⟨K.out, _, EV.out, rfl, P.out, GX.out, hx2⟩

set_option maxHeartbeats 2000000 in
set_option maxRecDepth 100000 in
theorem let_any (hL : LOk L) (m : Nat) (hE : ∀ m', m' ≤ m → ConN B pb tv L 159 (fun d s r => r.expr d s) m') (at0 : Int) (w : World) (ok : Nat → Prop) (d : Nat) (s : M.St) (hm : L.length - s.i ≤ m) (hok : ∀ g, w.heap.size ≤ g → ok g) (hB : B ≤ w.heap.size) (h : Pst w B pb tv L ok d s) :
    Calls Tryz.prog 126 #[.pointer (some ⟨pb, 0, none⟩), .int .i64 at0] w (PostN w B pb tv L ok d s (fun r => if (M.tk L (s).i).kind = 1 then M.obind (M.typeIf L r d (s).nx) fun t0 ty => M.obind (M.need L t0 [61]) fun t1 (_ : Unit) => M.obind (r.expr d t1) fun t2 x => M.obind (M.need L t2 [59]) fun t3 (_ : Unit) => M.addN t3 (M.Nd.mk 17 x 0 0 [] (M.tk L (s).i).text 0 ty at0) else M.flt L (s).i 1)) := by
  have hi0 := h.at'
  have hs := hL.short
  have hfw := h.few
  have K := hide (Kept.refl B ok w)
  generalize hFF : (fun (r : M.Sp) => if (M.tk L (s).i).kind = 1 then M.obind (M.typeIf L r d (s).nx) fun t0 ty => M.obind (M.need L t0 [61]) fun t1 (_ : Unit) => M.obind (r.expr d t1) fun t2 x => M.obind (M.need L t2 [59]) fun t3 (_ : Unit) => M.addN t3 (M.Nd.mk 17 x 0 0 [] (M.tk L (s).i).text 0 ty at0) else M.flt L (s).i 1) = FF
  have V : Hid (∀ o, M.Ev L (fun r => if (M.tk L (s).i).kind = 1 then M.obind (M.typeIf L r d (s).nx) fun t0 ty => M.obind (M.need L t0 [61]) fun t1 (_ : Unit) => M.obind (r.expr d t1) fun t2 x => M.obind (M.need L t2 [59]) fun t3 (_ : Unit) => M.addN t3 (M.Nd.mk 17 x 0 0 [] (M.tk L (s).i).text 0 ty at0) else M.flt L (s).i 1) o → M.Ev L FF o) := by
    rw [← hFF]
    exact fun _ x => x
  have P := hide h
  clear h hFF
  go_enter Tryz.func126, Tryz.ntmps126
  have H1 := hide (pname_any hL P.out)
  clear P
  go_wp2_with fail
  refine H1.out.mono ?_
  rintro e w1 ⟨hk, hr⟩
  have K' := hide (K.out.trans hk)
  clear hk H1 K
  have K := hide K'.out
  clear K'
  rcases hr with ⟨hb, rfl, hp⟩ | ⟨hb, rfl⟩
  case inr => exact ⟨rfl, postN_fail K.out (V.out _ (M.Ev.pure.eq (fun r => by rw [if_neg hb]; rfl))) (by decide)⟩
  have V' := hide (fun o (ho : M.Ev L (fun r => M.obind (M.typeIf L r d (s).nx) fun t0 ty => M.obind (M.need L t0 [61]) fun t1 (_ : Unit) => M.obind (r.expr d t1) fun t2 x => M.obind (M.need L t2 [59]) fun t3 (_ : Unit) => M.addN t3 (M.Nd.mk 17 x 0 0 [] (M.tk L (s).i).text 0 ty at0)) o) => V.out o (ho.eq (fun r => by rw [if_pos hb])))
  clear V hb
  have V := hide V'.out
  clear V'
  generalize (M.tk L (s).i).text = nm at *
  have P := hide hp
  have hi1 := hp.at'
  clear hp
  have H1 := hide (typeIfAny_any hL P.out (fun g hg => hok g (Nat.le_trans K.out.size hg)) (Nat.le_trans hB K.out.size))
  clear P
  go_wp2_with fail
  refine H1.out.mono ?_
  rintro e w2 ⟨hk, o, hev, hpost⟩
  have K' := hide (K.out.trans hk)
  have E1 := hide hev
  clear hk hev H1 K
  have K := hide K'.out
  clear K'
  cases o with
  | fail er p =>
    obtain ⟨rfl, he⟩ := hpost
    exact ⟨rfl, postN_fail K.out (V.out _ (M.Ev.bad (k := fun r t1 ty => M.obind (M.need L t1 [61]) fun t2 (_ : Unit) => M.obind (r.expr d t2) fun t3 x => M.obind (M.need L t3 [59]) fun t4 (_ : Unit) => M.addN t4 (M.Nd.mk 17 x 0 0 [] nm 0 ty at0)) E1.out)) he⟩
  | ok s2 ty =>
    obtain ⟨rfl, hp, hg⟩ := hpost
    have hg2 : _ ∧ _ ∧ _ ∧ _ := hg
    simp only [M.St.nx] at hg2
    have V' := hide (fun o (ho : M.Ev L (fun r => M.obind (M.need L s2 [61]) fun t2 (_ : Unit) => M.obind (r.expr d t2) fun t3 x => M.obind (M.need L t3 [59]) fun t4 (_ : Unit) => M.addN t4 (M.Nd.mk 17 x 0 0 [] nm 0 ty at0)) o) => V.out o (M.Ev.bind (k := fun r t1 ty => M.obind (M.need L t1 [61]) fun t2 (_ : Unit) => M.obind (r.expr d t2) fun t3 x => M.obind (M.need L t3 [59]) fun t4 (_ : Unit) => M.addN t4 (M.Nd.mk 17 x 0 0 [] nm 0 ty at0)) E1.out ho))
    clear V E1
    have V := hide V'.out
    clear V'
    have P := hide hp
    have hi2 := hp.at'
    clear hp hg
    have H1 := hide (need_any hL P.out [61])
    clear P
    go_wp2_with fail
    refine H1.out.mono ?_
    rintro e w3 ⟨hk, hr⟩
    have K' := hide (K.out.trans hk)
    clear hk H1 K
    have K := hide K'.out
    clear K'
    rcases hr with ⟨hb, rfl, hp⟩ | ⟨hb, rfl⟩
    case inr => exact ⟨rfl, postN_fail K.out (V.out _ (M.Ev.bad (k := fun r t2 (_ : Unit) => M.obind (r.expr d t2) fun t3 x => M.obind (M.need L t3 [59]) fun t4 (_ : Unit) => M.addN t4 (M.Nd.mk 17 x 0 0 [] nm 0 ty at0)) (need_no hb))) (by decide)⟩
    have V' := hide (fun o (ho : M.Ev L (fun r => M.obind (r.expr d (s2).nx) fun t3 x => M.obind (M.need L t3 [59]) fun t4 (_ : Unit) => M.addN t4 (M.Nd.mk 17 x 0 0 [] nm 0 ty at0)) o) => V.out o (M.Ev.bind (k := fun r t2 (_ : Unit) => M.obind (r.expr d t2) fun t3 x => M.obind (M.need L t3 [59]) fun t4 (_ : Unit) => M.addN t4 (M.Nd.mk 17 x 0 0 [] nm 0 ty at0)) (need_yes hb) ho))
    clear V hb
    have V := hide V'.out
    clear V'
    have P := hide hp
    have hi3 := hp.at'
    clear hp
    have H1 := hide (hE (L.length - ((s2).nx).i) (by simp only [M.St.nx]; omega) w3 ok d ((s2).nx) (Nat.le_refl _) (fun g hg => hok g (Nat.le_trans K.out.size hg)) (Nat.le_trans hB K.out.size) P.out)
    clear P
    go_wp2_with fail
    refine H1.out.mono ?_
    rintro e w4 ⟨hk, o, hev, hpost⟩
    have K' := hide (K.out.trans hk)
    have E1 := hide hev
    clear hk hev H1 K
    have K := hide K'.out
    clear K'
    cases o with
    | fail er p =>
      obtain ⟨rfl, he⟩ := hpost
      exact ⟨rfl, postN_fail K.out (V.out _ (M.Ev.bad (k := fun r t3 x => M.obind (M.need L t3 [59]) fun t4 (_ : Unit) => M.addN t4 (M.Nd.mk 17 x 0 0 [] nm 0 ty at0)) E1.out)) he⟩
    | ok s4 x =>
      obtain ⟨rfl, hp, hg, hx4⟩ := hpost
      have hg4 : _ ∧ _ ∧ _ ∧ _ := hg
      simp only [M.St.nx] at hg4
      have V' := hide (fun o (ho : M.Ev L (fun r => M.obind (M.need L s4 [59]) fun t4 (_ : Unit) => M.addN t4 (M.Nd.mk 17 x 0 0 [] nm 0 ty at0)) o) => V.out o (M.Ev.bind (k := fun r t3 x => M.obind (M.need L t3 [59]) fun t4 (_ : Unit) => M.addN t4 (M.Nd.mk 17 x 0 0 [] nm 0 ty at0)) E1.out ho))
      clear V E1
      have V := hide V'.out
      clear V'
      have P := hide hp
      have hi4 := hp.at'
      clear hp hg
      have H1 := hide (need_any hL P.out [59])
      clear P
      go_wp2_with fail
      refine H1.out.mono ?_
      rintro e w5 ⟨hk, hr⟩
      have K' := hide (K.out.trans hk)
      clear hk H1 K
      have K := hide K'.out
      clear K'
      rcases hr with ⟨hb, rfl, hp⟩ | ⟨hb, rfl⟩
      case inr => exact ⟨rfl, postN_fail K.out (V.out _ (M.Ev.bad (k := fun r t4 (_ : Unit) => M.addN t4 (M.Nd.mk 17 x 0 0 [] nm 0 ty at0)) (need_no hb))) (by decide)⟩
      have V' := hide (fun o (ho : M.Ev L (fun r => M.addN (s4).nx (M.Nd.mk 17 x 0 0 [] nm 0 ty at0)) o) => V.out o (M.Ev.bind (k := fun r t4 (_ : Unit) => M.addN t4 (M.Nd.mk 17 x 0 0 [] nm 0 ty at0)) (need_yes hb) ho))
      clear V hb
      have V := hide V'.out
      clear V'
      have P := hide hp
      have hi5 := hp.at'
      clear hp
      have HA := hide (addTyped_any hL P.out (M.Nd.mk 17 x 0 0 [] nm 0 ty at0) none 0 0 ⟨_, rfl, World.ownsRow_nil _ _ _ _, by simp [Value.ownBlock]⟩ (by simp only [M.St.nx]; omega) (Nat.le_trans hB K.out.size) (fun g hg => hok g (Nat.le_trans K.out.size hg)))
      have EV := hide (V.out _ M.Ev.pure)
      have GX := hide (show Grow s ⟨((s4).nx).i, ((s4).nx).N ++ [(M.Nd.mk 17 x 0 0 [] nm 0 ty at0)], ((s4).nx).T⟩ by
        simp only [Grow, M.St.nx, List.length_append, List.length_cons, List.length_nil]
        omega)
      have hxx : (0 : Int) ≤ (((s4).nx).N.length : Int) ∧ (((s4).nx).N.length : Int) < ((((s4).nx).N ++ [(M.Nd.mk 17 x 0 0 [] nm 0 ty at0)]).length : Int) := by simp; omega
      clear P V
      go_wp2_with fail
      refine HA.out.mono ?_
      rintro e w9 ⟨rfl, k9, p9⟩
      have K9 := hide (K.out.trans k9)
      have P9 := hide p9
      clear k9 p9 HA
      go_wp2_with fail
      go_ret
      exact postN_ok K9.out EV.out P9.out GX.out hxx

set_option maxHeartbeats 2000000 in
set_option maxRecDepth 100000 in
theorem oneExpression_any (hL : LOk L) (m : Nat) (hE : ∀ m', m' ≤ m → ConN B pb tv L 159 (fun d s r => r.expr d s) m') (kd at0 : Int) (w : World) (ok : Nat → Prop) (d : Nat) (s : M.St) (hm : L.length - s.i ≤ m) (hok : ∀ g, w.heap.size ≤ g → ok g) (hB : B ≤ w.heap.size) (h : Pst w B pb tv L ok d s) :
    Calls Tryz.prog 127 #[.pointer (some ⟨pb, 0, none⟩), .int .i64 kd, .int .i64 at0] w (PostN w B pb tv L ok d s (fun r => M.obind (r.expr d s) fun t0 x => M.obind (M.need L t0 [59]) fun t1 (_ : Unit) => M.addN t1 (M.Nd.mk kd x 0 0 [] [] 0 (-1) at0))) := by
  have hi0 := h.at'
  have hs := hL.short
  have hfw := h.few
  have K := hide (Kept.refl B ok w)
  generalize hFF : (fun (r : M.Sp) => M.obind (r.expr d s) fun t0 x => M.obind (M.need L t0 [59]) fun t1 (_ : Unit) => M.addN t1 (M.Nd.mk kd x 0 0 [] [] 0 (-1) at0)) = FF
  have V : Hid (∀ o, M.Ev L (fun r => M.obind (r.expr d s) fun t0 x => M.obind (M.need L t0 [59]) fun t1 (_ : Unit) => M.addN t1 (M.Nd.mk kd x 0 0 [] [] 0 (-1) at0)) o → M.Ev L FF o) := by
    rw [← hFF]
    exact fun _ x => x
  have P := hide h
  clear h hFF
  go_enter Tryz.func127, Tryz.ntmps127
  have H1 := hide (hE (L.length - (s).i) (by omega) w ok d (s) (Nat.le_refl _) (fun g hg => hok g (Nat.le_trans K.out.size hg)) (Nat.le_trans hB K.out.size) P.out)
  clear P
  go_wp2_with fail
  refine H1.out.mono ?_
  rintro e w1 ⟨hk, o, hev, hpost⟩
  have K' := hide (K.out.trans hk)
  have E1 := hide hev
  clear hk hev H1 K
  have K := hide K'.out
  clear K'
  cases o with
  | fail er p =>
    obtain ⟨rfl, he⟩ := hpost
    exact ⟨rfl, postN_fail K.out (V.out _ (M.Ev.bad (k := fun r t0 x => M.obind (M.need L t0 [59]) fun t1 (_ : Unit) => M.addN t1 (M.Nd.mk kd x 0 0 [] [] 0 (-1) at0)) E1.out)) he⟩
  | ok s1 x =>
    obtain ⟨rfl, hp, hg, hx1⟩ := hpost
    have hg1 : _ ∧ _ ∧ _ ∧ _ := hg
    skip
    have V' := hide (fun o (ho : M.Ev L (fun r => M.obind (M.need L s1 [59]) fun t1 (_ : Unit) => M.addN t1 (M.Nd.mk kd x 0 0 [] [] 0 (-1) at0)) o) => V.out o (M.Ev.bind (k := fun r t0 x => M.obind (M.need L t0 [59]) fun t1 (_ : Unit) => M.addN t1 (M.Nd.mk kd x 0 0 [] [] 0 (-1) at0)) E1.out ho))
    clear V E1
    have V := hide V'.out
    clear V'
    have P := hide hp
    have hi1 := hp.at'
    clear hp hg
    have H1 := hide (need_any hL P.out [59])
    clear P
    go_wp2_with fail
    refine H1.out.mono ?_
    rintro e w2 ⟨hk, hr⟩
    have K' := hide (K.out.trans hk)
    clear hk H1 K
    have K := hide K'.out
    clear K'
    rcases hr with ⟨hb, rfl, hp⟩ | ⟨hb, rfl⟩
    case inr => exact ⟨rfl, postN_fail K.out (V.out _ (M.Ev.bad (k := fun r t1 (_ : Unit) => M.addN t1 (M.Nd.mk kd x 0 0 [] [] 0 (-1) at0)) (need_no hb))) (by decide)⟩
    have V' := hide (fun o (ho : M.Ev L (fun r => M.addN (s1).nx (M.Nd.mk kd x 0 0 [] [] 0 (-1) at0)) o) => V.out o (M.Ev.bind (k := fun r t1 (_ : Unit) => M.addN t1 (M.Nd.mk kd x 0 0 [] [] 0 (-1) at0)) (need_yes hb) ho))
    clear V hb
    have V := hide V'.out
    clear V'
    have P := hide hp
    have hi2 := hp.at'
    clear hp
    have HA := hide (add_any hL P.out (M.Nd.mk kd x 0 0 [] [] 0 (-1) at0) 0 none 0 0 ⟨_, rfl, World.ownsRow_nil _ _ _ _, by simp [Value.ownBlock]⟩ rfl (by simp only [M.St.nx]; omega) (Nat.le_trans hB K.out.size) (fun g hg => hok g (Nat.le_trans K.out.size hg)))
    have EV := hide (V.out _ M.Ev.pure)
    have GX := hide (show Grow s ⟨((s1).nx).i, ((s1).nx).N ++ [(M.Nd.mk kd x 0 0 [] [] 0 (-1) at0)], ((s1).nx).T⟩ by
      simp only [Grow, M.St.nx, List.length_append, List.length_cons, List.length_nil]
      omega)
    have hxx : (0 : Int) ≤ (((s1).nx).N.length : Int) ∧ (((s1).nx).N.length : Int) < ((((s1).nx).N ++ [(M.Nd.mk kd x 0 0 [] [] 0 (-1) at0)]).length : Int) := by simp; omega
    clear P V
    go_wp2_with fail
    refine HA.out.mono ?_
    rintro e w9 ⟨rfl, k9, p9⟩
    have K9 := hide (K.out.trans k9)
    have P9 := hide p9
    clear k9 p9 HA
    go_wp2_with fail
    go_ret
    exact postN_ok K9.out EV.out P9.out GX.out hxx

set_option maxHeartbeats 2000000 in
set_option maxRecDepth 100000 in
theorem loop_any (hL : LOk L) (m : Nat) (hE : ∀ m', m' ≤ m → ConN B pb tv L 159 (fun d s r => r.expr d s) m') (hK : ∀ m', m' ≤ m → ConN B pb tv L 161 (fun d s r => r.block d s) m') (at0 : Int) (w : World) (ok : Nat → Prop) (d : Nat) (s : M.St) (hm : L.length - s.i ≤ m) (hok : ∀ g, w.heap.size ≤ g → ok g) (hB : B ≤ w.heap.size) (h : Pst w B pb tv L ok d s) :
    Calls Tryz.prog 129 #[.pointer (some ⟨pb, 0, none⟩), .int .i64 at0] w (PostN w B pb tv L ok d s (fun r => M.obind (cndS L d s r) fun t0 x => M.obind (r.block d t0) fun t1 y => M.addN t1 (M.Nd.mk 23 x y 0 [] [] 0 (-1) at0))) := by
  have hi0 := h.at'
  have hs := hL.short
  have hfw := h.few
  have K := hide (Kept.refl B ok w)
  generalize hFF : (fun (r : M.Sp) => M.obind (cndS L d s r) fun t0 x => M.obind (r.block d t0) fun t1 y => M.addN t1 (M.Nd.mk 23 x y 0 [] [] 0 (-1) at0)) = FF
  have V : Hid (∀ o, M.Ev L (fun r => M.obind (cndS L d s r) fun t0 x => M.obind (r.block d t0) fun t1 y => M.addN t1 (M.Nd.mk 23 x y 0 [] [] 0 (-1) at0)) o → M.Ev L FF o) := by
    rw [← hFF]
    exact fun _ x => x
  have P := hide h
  clear h hFF
  go_enter Tryz.func129, Tryz.ntmps129
  have H1 := hide (condition_any hL (L.length - (s).i) (fun m' hm' => hE m' (by omega)) w ok d (s) (Nat.le_refl _) (fun g hg => hok g (Nat.le_trans K.out.size hg)) (Nat.le_trans hB K.out.size) P.out)
  clear P
  go_wp2_with fail
  refine H1.out.mono ?_
  rintro e w1 ⟨hk, o, hev, hpost⟩
  have K' := hide (K.out.trans hk)
  have E1 := hide hev
  clear hk hev H1 K
  have K := hide K'.out
  clear K'
  cases o with
  | fail er p =>
    obtain ⟨rfl, he⟩ := hpost
    exact ⟨rfl, postN_fail K.out (V.out _ (M.Ev.bad (k := fun r t0 x => M.obind (r.block d t0) fun t1 y => M.addN t1 (M.Nd.mk 23 x y 0 [] [] 0 (-1) at0)) E1.out)) he⟩
  | ok s1 x =>
    obtain ⟨rfl, hp, hg, hx1⟩ := hpost
    have hg1 : _ ∧ _ ∧ _ ∧ _ := hg
    skip
    have V' := hide (fun o (ho : M.Ev L (fun r => M.obind (r.block d s1) fun t1 y => M.addN t1 (M.Nd.mk 23 x y 0 [] [] 0 (-1) at0)) o) => V.out o (M.Ev.bind (k := fun r t0 x => M.obind (r.block d t0) fun t1 y => M.addN t1 (M.Nd.mk 23 x y 0 [] [] 0 (-1) at0)) E1.out ho))
    clear V E1
    have V := hide V'.out
    clear V'
    have P := hide hp
    have hi1 := hp.at'
    clear hp hg
    have H1 := hide (hK (L.length - (s1).i) (by omega) w1 ok d (s1) (Nat.le_refl _) (fun g hg => hok g (Nat.le_trans K.out.size hg)) (Nat.le_trans hB K.out.size) P.out)
    clear P
    go_wp2_with fail
    refine H1.out.mono ?_
    rintro e w2 ⟨hk, o, hev, hpost⟩
    have K' := hide (K.out.trans hk)
    have E1 := hide hev
    clear hk hev H1 K
    have K := hide K'.out
    clear K'
    cases o with
    | fail er p =>
      obtain ⟨rfl, he⟩ := hpost
      exact ⟨rfl, postN_fail K.out (V.out _ (M.Ev.bad (k := fun r t1 y => M.addN t1 (M.Nd.mk 23 x y 0 [] [] 0 (-1) at0)) E1.out)) he⟩
    | ok s2 y =>
      obtain ⟨rfl, hp, hg, hx2⟩ := hpost
      have hg2 : _ ∧ _ ∧ _ ∧ _ := hg
      skip
      have V' := hide (fun o (ho : M.Ev L (fun r => M.addN s2 (M.Nd.mk 23 x y 0 [] [] 0 (-1) at0)) o) => V.out o (M.Ev.bind (k := fun r t1 y => M.addN t1 (M.Nd.mk 23 x y 0 [] [] 0 (-1) at0)) E1.out ho))
      clear V E1
      have V := hide V'.out
      clear V'
      have P := hide hp
      have hi2 := hp.at'
      clear hp hg
      have HA := hide (add_any hL P.out (M.Nd.mk 23 x y 0 [] [] 0 (-1) at0) 0 none 0 0 ⟨_, rfl, World.ownsRow_nil _ _ _ _, by simp [Value.ownBlock]⟩ rfl (by omega) (Nat.le_trans hB K.out.size) (fun g hg => hok g (Nat.le_trans K.out.size hg)))
      have EV := hide (V.out _ M.Ev.pure)
      have GX := hide (show Grow s ⟨(s2).i, (s2).N ++ [(M.Nd.mk 23 x y 0 [] [] 0 (-1) at0)], (s2).T⟩ by
        simp only [Grow, List.length_append, List.length_cons, List.length_nil]
        omega)
      have hxx : (0 : Int) ≤ ((s2).N.length : Int) ∧ ((s2).N.length : Int) < (((s2).N ++ [(M.Nd.mk 23 x y 0 [] [] 0 (-1) at0)]).length : Int) := by simp; omega
      clear P V
      go_wp2_with fail
      refine HA.out.mono ?_
      rintro e w9 ⟨rfl, k9, p9⟩
      have K9 := hide (K.out.trans k9)
      have P9 := hide p9
      clear k9 p9 HA
      go_wp2_with fail
      go_ret
      exact postN_ok K9.out EV.out P9.out GX.out hxx
end
end Go.Proofs.YtjojlcfoiknlhaaGreatDoor

namespace Go.Proofs.YtjojlcfoiknlhaaGreatDoor
open Go.RowKit

section
variable {B pb : Nat} {tv : Value} {L : List M.Tk}

set_option maxHeartbeats 2000000 in
set_option maxRecDepth 100000 in
theorem branch_any (hL : LOk L) (m : Nat) (hE : ∀ m', m' ≤ m → ConN B pb tv L 159 (fun d s r => r.expr d s) m') (hK : ∀ m', m' ≤ m → ConN B pb tv L 161 (fun d s r => r.block d s) m') (at0 : Int) (w : World) (ok : Nat → Prop) (d : Nat) (s : M.St) (hm : L.length - s.i ≤ m) (hok : ∀ g, w.heap.size ≤ g → ok g) (hB : B ≤ w.heap.size) (h : Pst w B pb tv L ok d s) :
    Calls Tryz.prog 128 #[.pointer (some ⟨pb, 0, none⟩), .int .i64 at0] w (PostN w B pb tv L ok d s (fun r => M.obind (cndS L d s r) fun t0 x => M.obind (r.block d t0) fun t1 y => M.obind (if M.isM L (t1).i [[101, 108, 115, 101]] then r.block d (t1).nx else some (.ok (t1) (-1))) fun t2 z => M.addN t2 (M.Nd.mk 22 x y z [] [] 0 (-1) at0))) := by
  have hi0 := h.at'
  have hs := hL.short
  have hfw := h.few
  have K := hide (Kept.refl B ok w)
  generalize hFF : (fun (r : M.Sp) => M.obind (cndS L d s r) fun t0 x => M.obind (r.block d t0) fun t1 y => M.obind (if M.isM L (t1).i [[101, 108, 115, 101]] then r.block d (t1).nx else some (.ok (t1) (-1))) fun t2 z => M.addN t2 (M.Nd.mk 22 x y z [] [] 0 (-1) at0)) = FF
  have V : Hid (∀ o, M.Ev L (fun r => M.obind (cndS L d s r) fun t0 x => M.obind (r.block d t0) fun t1 y => M.obind (if M.isM L (t1).i [[101, 108, 115, 101]] then r.block d (t1).nx else some (.ok (t1) (-1))) fun t2 z => M.addN t2 (M.Nd.mk 22 x y z [] [] 0 (-1) at0)) o → M.Ev L FF o) := by
    rw [← hFF]
    exact fun _ x => x
  have P := hide h
  clear h hFF
  go_enter Tryz.func128, Tryz.ntmps128
  have H1 := hide (condition_any hL (L.length - (s).i) (fun m' hm' => hE m' (by omega)) w ok d (s) (Nat.le_refl _) (fun g hg => hok g (Nat.le_trans K.out.size hg)) (Nat.le_trans hB K.out.size) P.out)
  clear P
  go_wp2_with fail
  refine H1.out.mono ?_
  rintro e w1 ⟨hk, o, hev, hpost⟩
  have K' := hide (K.out.trans hk)
  have E1 := hide hev
  clear hk hev H1 K
  have K := hide K'.out
  clear K'
  cases o with
  | fail er p =>
    obtain ⟨rfl, he⟩ := hpost
    exact ⟨rfl, postN_fail K.out (V.out _ (M.Ev.bad (k := fun r t0 x => M.obind (r.block d t0) fun t1 y => M.obind (if M.isM L (t1).i [[101, 108, 115, 101]] then r.block d (t1).nx else some (.ok (t1) (-1))) fun t2 z => M.addN t2 (M.Nd.mk 22 x y z [] [] 0 (-1) at0)) E1.out)) he⟩
  | ok s1 x =>
    obtain ⟨rfl, hp, hg, hx1⟩ := hpost
    have hg1 : _ ∧ _ ∧ _ ∧ _ := hg
    skip
    have V' := hide (fun o (ho : M.Ev L (fun r => M.obind (r.block d s1) fun t1 y => M.obind (if M.isM L (t1).i [[101, 108, 115, 101]] then r.block d (t1).nx else some (.ok (t1) (-1))) fun t2 z => M.addN t2 (M.Nd.mk 22 x y z [] [] 0 (-1) at0)) o) => V.out o (M.Ev.bind (k := fun r t0 x => M.obind (r.block d t0) fun t1 y => M.obind (if M.isM L (t1).i [[101, 108, 115, 101]] then r.block d (t1).nx else some (.ok (t1) (-1))) fun t2 z => M.addN t2 (M.Nd.mk 22 x y z [] [] 0 (-1) at0)) E1.out ho))
    clear V E1
    have V := hide V'.out
    clear V'
    have P := hide hp
    have hi1 := hp.at'
    clear hp hg
    have H1 := hide (hK (L.length - (s1).i) (by omega) w1 ok d (s1) (Nat.le_refl _) (fun g hg => hok g (Nat.le_trans K.out.size hg)) (Nat.le_trans hB K.out.size) P.out)
    clear P
    go_wp2_with fail
    refine H1.out.mono ?_
    rintro e w2 ⟨hk, o, hev, hpost⟩
    have K' := hide (K.out.trans hk)
    have E1 := hide hev
    clear hk hev H1 K
    have K := hide K'.out
    clear K'
    cases o with
    | fail er p =>
      obtain ⟨rfl, he⟩ := hpost
      exact ⟨rfl, postN_fail K.out (V.out _ (M.Ev.bad (k := fun r t1 y => M.obind (if M.isM L (t1).i [[101, 108, 115, 101]] then r.block d (t1).nx else some (.ok (t1) (-1))) fun t2 z => M.addN t2 (M.Nd.mk 22 x y z [] [] 0 (-1) at0)) E1.out)) he⟩
    | ok s2 y =>
      obtain ⟨rfl, hp, hg, hx2⟩ := hpost
      have hg2 : _ ∧ _ ∧ _ ∧ _ := hg
      skip
      have V' := hide (fun o (ho : M.Ev L (fun r => M.obind (if M.isM L (s2).i [[101, 108, 115, 101]] then r.block d (s2).nx else some (.ok (s2) (-1))) fun t2 z => M.addN t2 (M.Nd.mk 22 x y z [] [] 0 (-1) at0)) o) => V.out o (M.Ev.bind (k := fun r t1 y => M.obind (if M.isM L (t1).i [[101, 108, 115, 101]] then r.block d (t1).nx else some (.ok (t1) (-1))) fun t2 z => M.addN t2 (M.Nd.mk 22 x y z [] [] 0 (-1) at0)) E1.out ho))
      clear V E1
      have V := hide V'.out
      clear V'
      have P := hide hp
      have hi2 := hp.at'
      clear hp hg
      have H1 := took_any hL P.out [101, 108, 115, 101]
      generalize hq : M.isM L (s2).i [[101, 108, 115, 101]] = q at H1
      have HQ := hide hq
      have H2 := hide H1
      clear P hq H1
      go_wp2_with fail
      refine H2.out.mono ?_
      rintro e w3 ⟨rfl, hk, hp⟩
      have K' := hide (K.out.trans hk)
      clear hk H2 K
      have K := hide K'.out
      clear K'
      cases q
      case false =>
        have P : Hid (Pst w3 B pb tv L ok d (s2)) := hp
        have V' := hide (fun o (ho : M.Ev L (fun r => M.addN s2 (M.Nd.mk 22 x y (-1) [] [] 0 (-1) at0)) o) => V.out o (M.Ev.bind (k := fun r t2 z => M.addN t2 (M.Nd.mk 22 x y z [] [] 0 (-1) at0)) (M.Ev.pure.eq (fun r => by rw [HQ.out]; rfl)) ho))
        clear V hp
        have V := hide V'.out
        clear V'
        have HA := hide (add_any hL P.out (M.Nd.mk 22 x y (-1) [] [] 0 (-1) at0) 0 none 0 0 ⟨_, rfl, World.ownsRow_nil _ _ _ _, by simp [Value.ownBlock]⟩ rfl (by omega) (Nat.le_trans hB K.out.size) (fun g hg => hok g (Nat.le_trans K.out.size hg)))
        have EV := hide (V.out _ M.Ev.pure)
        have GX := hide (show Grow s ⟨(s2).i, (s2).N ++ [(M.Nd.mk 22 x y (-1) [] [] 0 (-1) at0)], (s2).T⟩ by
          simp only [Grow, List.length_append, List.length_cons, List.length_nil]
          omega)
        have hxx : (0 : Int) ≤ ((s2).N.length : Int) ∧ ((s2).N.length : Int) < (((s2).N ++ [(M.Nd.mk 22 x y (-1) [] [] 0 (-1) at0)]).length : Int) := by simp; omega
        clear P V
        go_wp2_with fail
        refine HA.out.mono ?_
        rintro e w9 ⟨rfl, k9, p9⟩
        have K9 := hide (K.out.trans k9)
        have P9 := hide p9
        clear k9 p9 HA
        go_wp2_with fail
        go_ret
        exact postN_ok K9.out EV.out P9.out GX.out hxx
      case true =>
        have P : Hid (Pst w3 B pb tv L ok d (s2).nx) := hp
        have hj2 := hp.at'
        simp only [M.St.nx] at hj2
        clear hp
        have H1 := hide (hK (L.length - (s2).nx.i) (by simp only [M.St.nx]; omega) w3 ok d (s2).nx (Nat.le_refl _) (fun g hg => hok g (Nat.le_trans K.out.size hg)) (Nat.le_trans hB K.out.size) P.out)
        clear P
        go_wp2_with fail
        refine H1.out.mono ?_
        rintro e w3b ⟨hk, o, hev, hpost⟩
        have K' := hide (K.out.trans hk)
        have E1 := hide (hev.eq (ψ := fun r => if M.isM L (s2).i [[101, 108, 115, 101]] then r.block d (s2).nx else some (.ok (s2) (-1))) (fun r => by rw [HQ.out]; rfl))
        clear hk hev H1 K
        have K := hide K'.out
        clear K'
        cases o with
        | fail er p =>
          obtain ⟨rfl, he⟩ := hpost
          exact ⟨rfl, postN_fail K.out (V.out _ (M.Ev.bad (k := fun r t2 z => M.addN t2 (M.Nd.mk 22 x y z [] [] 0 (-1) at0)) E1.out)) he⟩
        | ok s3 z =>
          obtain ⟨rfl, hp, hg, hx3⟩ := hpost
          have hg3 : _ ∧ _ ∧ _ ∧ _ := hg
          simp only [M.St.nx] at hg3
          have V' := hide (fun o (ho : M.Ev L (fun r => M.addN s3 (M.Nd.mk 22 x y z [] [] 0 (-1) at0)) o) => V.out o (M.Ev.bind (k := fun r t2 z => M.addN t2 (M.Nd.mk 22 x y z [] [] 0 (-1) at0)) E1.out ho))
          clear V E1
          have V := hide V'.out
          clear V'
          have P := hide hp
          have hi3 := hp.at'
          clear hp hg
          have HA := hide (add_any hL P.out (M.Nd.mk 22 x y z [] [] 0 (-1) at0) 0 none 0 0 ⟨_, rfl, World.ownsRow_nil _ _ _ _, by simp [Value.ownBlock]⟩ rfl (by omega) (Nat.le_trans hB K.out.size) (fun g hg => hok g (Nat.le_trans K.out.size hg)))
          have EV := hide (V.out _ M.Ev.pure)
          have GX := hide (show Grow s ⟨(s3).i, (s3).N ++ [(M.Nd.mk 22 x y z [] [] 0 (-1) at0)], (s3).T⟩ by
            simp only [Grow, List.length_append, List.length_cons, List.length_nil]
            omega)
          have hxx : (0 : Int) ≤ ((s3).N.length : Int) ∧ ((s3).N.length : Int) < (((s3).N ++ [(M.Nd.mk 22 x y z [] [] 0 (-1) at0)]).length : Int) := by simp; omega
          clear P V
          go_wp2_with fail
          refine HA.out.mono ?_
          rintro e w9 ⟨rfl, k9, p9⟩
          have K9 := hide (K.out.trans k9)
          have P9 := hide p9
          clear k9 p9 HA
          go_wp2_with fail
          go_ret
          exact postN_ok K9.out EV.out P9.out GX.out hxx

theorem ev_blockL_end {d : Nat} {s : M.St} {acc : List Int} (hq : M.isM L s.i [[125]] = true) : M.Ev L (fun r => r.blockL d s acc) (.ok s.nx acc) :=
  M.Ev.step (M.Ev.pure.eq fun r => by show (if M.isM L s.i [[125]] then _ else _) = _; rw [hq]; rfl)
theorem ev_blockL_more {d : Nat} {s : M.St} {acc : List Int} {o : M.Out (List Int)} (hq : M.isM L s.i [[125]] = false) (h : M.Ev L (fun r => M.obind (r.stmt d s) fun s x => r.blockL d s (acc ++ [x])) o) : M.Ev L (fun r => r.blockL d s acc) o :=
  M.Ev.step (h.eq fun r => by show (if M.isM L s.i [[125]] then _ else _) = _; rw [hq]; rfl)

set_option maxHeartbeats 2000000 in
set_option maxRecDepth 100000 in
theorem block_any (hL : LOk L) (m : Nat) (hS : ∀ m', m' < m → ConN B pb tv L 50 (fun d s r => r.stmt d s) m') : ConN B pb tv L 161 (fun d s r => r.block d s) m := by
  intro w ok d s hm hok hB h
  have hi := h.at'
  have hs := hL.short
  have hfw := h.few
  have HA := hide (at_any hL h)
  have FS : Hid (∀ a, Chg (fun _ => False) w a → Pst a B pb tv L ok d s) := fun a ha => h.still ha
  have V : Hid (∀ o, M.Ev L (fun r => M.obind (M.need L s [123]) fun s1 _ => M.obind (r.blockL d s1 []) fun s2 l => M.addN s2 (M.Nd.mk 26 0 0 0 l [] 0 (-1) ((M.tk L s.i).at' : Int))) o → M.Ev L (fun r => r.block d s) o) := fun o ho => M.Ev.step (ho.eq (fun r => rfl))
  obtain ⟨i0, hi0, hz0, hz1, hz2⟩ := info_parts Tryz.infoInt
  clear h
  generalize ((M.tk L s.i).at' : Int) = at0 at *
  go_enter Tryz.func161, Tryz.ntmps161
  go_wp2_with fail
  refine HA.out.mono ?_
  rintro e w1 ⟨rfl, hc⟩
  have K1 := hide (still_kept (B := B) (ok := ok) hc)
  have H1 := hide (need_any hL (FS.out w1 hc) [123])
  clear hc HA FS
  go_wp2_with fail
  refine H1.out.mono ?_
  rintro e w2 ⟨hk, hr⟩
  have K2 := hide (K1.out.trans hk)
  clear hk H1 K1
  rcases hr with ⟨hb, rfl, hp⟩ | ⟨hb, rfl⟩
  case inr => exact ⟨rfl, postN_fail K2.out (V.out _ (M.Ev.bad (need_no hb))) (by decide)⟩
  have V2 := hide (fun o (ho : M.Ev L (fun r => M.obind (r.blockL d s.nx []) fun s2 l => M.addN s2 (M.Nd.mk 26 0 0 0 l [] 0 (-1) at0)) o) => V.out o (M.Ev.bind (k := fun r s1 (_ : Unit) => M.obind (r.blockL d s1 []) fun s2 l => M.addN s2 (M.Nd.mk 26 0 0 0 l [] 0 (-1) at0)) (need_yes hb) ho))
  have P2 := hide hp
  clear hb hp V
  go_wp2_with fail
  go_loopw [4] (fun v wr => ∃ (acc : List Int) (s' : M.St) (ad : Option Addr) (c : Nat), v = .slice ad acc.length c ∧ acc.length ≤ s'.i ∧ Hid (Kept B ok w wr) ∧ Hid (GrowE s.nx s') ∧ Hid (wr.ownsRow w.heap.size 3 1 (.slice ad acc.length c) acc.length (ints acc)) ∧
      Hid (Pst wr B pb tv L (fun g => ok g ∧ some g ≠ Value.ownBlock (.slice ad acc.length c)) d s') ∧ Hid (∀ o, M.Ev L (fun r => M.obind (r.blockL d s' acc) fun s2 l => M.addN s2 (M.Nd.mk 26 0 0 0 l [] 0 (-1) at0)) o → M.Ev L (fun r => r.block d s) o)) (fun _ wr => L.length - nxt wr pb)
  case atStart => exact ⟨[], s.nx, none, 0, rfl, by simp, K2.out, ⟨Nat.le_refl _, by omega, by omega, by omega⟩, World.ownsRow_nil _ _ _ _, P2.out.mono (fun g hg _ => ⟨hg, by simp [Value.ownBlock]⟩), V2.out⟩
  case round =>
    clear K2 P2 V2
    obtain ⟨acc, s', ad, c, rfl, hacc, KR, GR, OR, PR, VR⟩ := hrel
    have HT := took_any hL PR.out [125]
    have hi' := PR.out.at'
    have hnx := PR.out.nxt
    have hfw' := PR.out.few
    have hge := GR.out
    simp only [GrowE, M.St.nx] at hge
    generalize hq : M.isM L s'.i [[125]] = q at *
    have Q1 := hide hq
    clear hq
    go_wp2_with fail
    refine HT.mono ?_
    clear HT
    rintro e w3 ⟨rfl, hk, hp⟩
    have K3 := hide (KR.out.trans (hk.mono fun _ h => h.1))
    have O3 := hide (owns_kept OR.out hk (by decide))
    have P3 := hide hp
    clear hk hp OR PR KR
    cases q
    · have PX : Hid (Pst w3 B pb tv L (fun g => ok g ∧ some g ≠ Value.ownBlock (.slice ad acc.length c)) d s') := P3.out
      clear P3
      have HM := hide (hS (L.length - s'.i) (by omega) w3 _ d s' (Nat.le_refl _) (fun g hg => ⟨hok g (Nat.le_trans K3.out.size hg), fun hx => by have := (O3.out.lt g hx.symm).2; omega⟩) (Nat.le_trans hB K3.out.size) PX.out)
      clear PX
      go_wp2_with fail
      refine HM.out.mono ?_
      rintro e w4 ⟨hk, o, hev, hpost⟩
      have K4 := hide (K3.out.trans (hk.mono fun _ h => h.1))
      have O4 := hide (owns_kept O3.out hk (by decide))
      have E4 := hide hev
      clear hk hev K3 O3 HM
      cases o with
      | fail er p =>
        obtain ⟨rfl, he⟩ := hpost
        exact ⟨rfl, postN_fail K4.out (VR.out _ (M.Ev.bad (ev_blockL_more Q1.out (M.Ev.bad (k := fun r s x => r.blockL d s (acc ++ [x])) E4.out)))) he⟩
      | ok s4 y =>
        obtain ⟨rfl, hp, hg, _⟩ := hpost
        have P4 := hide hp
        have hg4 : _ ∧ _ ∧ _ ∧ _ := hg
        have hi4 := hp.at'
        clear hp hg
        have VN := hide (fun o (ho : M.Ev L (fun r => M.obind (r.blockL d s4 (acc ++ [y])) fun s2 l => M.addN s2 (M.Nd.mk 26 0 0 0 l [] 0 (-1) at0)) o) => VR.out o (by
          obtain ⟨f1, h1⟩ := E4.out
          obtain ⟨f2, h2⟩ := ho
          refine ⟨f1 + f2 + 1, fun f hf => ?_⟩
          obtain ⟨g, rfl⟩ : ∃ g, f = g + 1 := ⟨f - 1, by omega⟩
          have a1 : (M.sp' L g).stmt d s' = some (.ok s4 y) := h1 g (by omega)
          have a2 := h2 g (by omega)
          have a3 := h2 (g + 1) (by omega)
          show M.obind (if M.isM L s'.i [[125]] then some (.ok s'.nx acc) else M.obind ((M.sp' L g).stmt d s') fun s x => (M.sp' L g).blockL d s (acc ++ [x])) _ = some o
          rw [Q1.out, if_neg (by decide), a1]
          exact a2))
        clear VR
        have hw3 := hide (O4.out.alloc (.cells #[.int .i64 y] 3))
        go_wp2_with (at_builtin; refine wpList_append_own_at _ rfl _ _ 43 rfl w.heap.size 3 i0 (.int .i64 0) 1 8 Tryz.underlying43 hi0 hz0 hz1 hz2 rfl (by decide) _ _ _ rfl hw3.out ⟨w4.heap.size, 0, none⟩ 1 1 [.int .i64 y] rfl rfl ?c1 ?c2 ?c3 ?c4 ?c5 ?_)
        case c1 => exact cell_one_new _ _ _
        case c2 => intro u hu; simp at hu; rcases hu with rfl; rfl
        case c3 => simp only [maxLen]; omega
        case c4 => omega
        case c5 => have := K4.out.size; simp; omega
        intro v' w5 hown2 hg2 _ hat
        obtain ⟨ad2, c2, hv2⟩ := owns_form hown2
        rw [hv2] at hown2 hat ⊢
        have PG := hide ((P4.out.alloc (.cells #[.int .i64 y] 3)).grown (v := .slice ad acc.length c) (v' := .slice ad2 (acc.length + 1) c2) (O4.out.alloc _) (.inl rfl) hg2 (by simpa using hat))
        have KG := hide ((K4.out.alloc (.cells #[.int .i64 y] 3)).grown (O4.out.alloc _) hg2)
        have OG := hide hown2
        clear hown2 hg2 hat hw3 P4 O4 K4 hv2
        go_wp2_with fail
        go_roundw
        case rel =>
          refine ⟨acc ++ [y], s4, ad2, c2, by simp, by simp; omega, KG.out, (show GrowE s.nx s4 from by simp only [GrowE, M.St.nx]; omega), ?_, ?_, VN.out⟩
          · have := OG.out
            show World.ownsRow _ _ _ _ _ _ _
            rw [ints_snoc]
            simpa using this
          · have := PG.out
            show Pst _ _ _ _ _ _ _ _
            simpa using this
        case measure =>
          have h3 := PG.out.nxt
          rw [h3, hnx]
          omega
    · have PX : Hid (Pst w3 B pb tv L (fun g => ok g ∧ some g ≠ Value.ownBlock (.slice ad acc.length c)) d s'.nx) := P3.out
      have PY := hide (PX.out.mono (ok' := ok) (fun g hg _ => hg.1))
      have hi3 := PX.out.at'
      clear P3 PX
      have HAd := hide (add_any hL PY.out (M.Nd.mk 26 0 0 0 acc [] 0 (-1) at0) 0 ad acc.length c ⟨_, rfl, owns_base O3.out (Nat.zero_le _), fun g hg => hok g (owns_tag O3.out g hg).1⟩ rfl (by simp only [M.St.nx]; omega) (Nat.le_trans hB K3.out.size) (fun g hg => hok g (Nat.le_trans K3.out.size hg)))
      have EV := hide (VR.out _ (M.Ev.bind (k := fun _ s2 l => M.addN s2 (M.Nd.mk 26 0 0 0 l [] 0 (-1) at0)) (ev_blockL_end Q1.out) M.Ev.pure))
      have GX := hide (show Grow s ⟨s'.nx.i, s'.nx.N ++ [M.Nd.mk 26 0 0 0 acc [] 0 (-1) at0], s'.nx.T⟩ by
        simp only [Grow, M.St.nx, List.length_append, List.length_cons, List.length_nil]
        omega)
      clear PY VR O3
      go_wp2_with fail
      refine HAd.out.mono ?_
      rintro e w9 ⟨rfl, k9, p9⟩
      have K9 := hide (K3.out.trans k9)
      have P9 := hide p9
      clear k9 p9 HAd
      go_wp2_with fail
      go_ret
      exact postN_ok K9.out EV.out P9.out GX.out (by simp only [M.St.nx, List.length_append, List.length_cons, List.length_nil]; omega)
end
end Go.Proofs.YtjojlcfoiknlhaaGreatDoor
