/-
  The contracts of list over expression, typeIfAny, brackets and operand.
-/
import Derived.Test.YtjojlcfoiknlhaaGreatDoorTwo
namespace Go.Proofs.YtjojlcfoiknlhaaGreatDoor
open Go.RowKit

section
variable {w : World} {B pb : Nat} {tv : Value} {L : List M.Tk} {ok : Nat → Prop} {d : Nat} {s : M.St}

/-- What withTail answers: it may read nothing. -/
def PostH (w : World) (B pb : Nat) (tv : Value) (L : List M.Tk) (ok : Nat → Prop) (d : Nat) (s : M.St) (φ : M.Sp → Option (M.Out Int)) (e : Ending) (w' : World) : Prop :=
  Kept B ok w w' ∧ ∃ o, M.Ev L φ o ∧ match o with
    | .ok s' x => e = .returned (.int .i64 x) ∧ Pst w' B pb tv L ok d s' ∧ GrowE s s' ∧ 0 ≤ x ∧ x < s'.N.length
    | .fail er p => e = gu er p ∧ er ≠ 0
def ConH (B pb : Nat) (tv : Value) (L : List M.Tk) (m : Nat) : Prop :=
  ∀ (w : World) (ok : Nat → Prop) (d : Nat) (s : M.St) (k : Nat), k < s.N.length → L.length - s.i ≤ m → (∀ g, w.heap.size ≤ g → ok g) → B ≤ w.heap.size → Pst w B pb tv L ok d s →
    Calls Tryz.prog 221 #[.pointer (some ⟨pb, 0, none⟩), .int .i64 (k : Int)] w (PostH w B pb tv L ok d s (fun r => r.tail d s (k : Int)))

set_option maxHeartbeats 1000000 in
theorem list_expression_any (hL : LOk L) (m : Nat) (hTyp : ∀ m', m' ≤ m → ConN B pb tv L 159 (fun d s r => r.expr d s) m') (E : List UInt8) (hm : L.length - s.i ≤ m) (hok : ∀ g, w.heap.size ≤ g → ok g) (hB : B ≤ w.heap.size) (h : Pst w B pb tv L ok d s) :
    Calls Tryz.prog 165 #[.pointer (some ⟨pb, 0, none⟩), .string ⟨E.toArray⟩, .func (.func 159) #[.pointer (some ⟨pb, 0, none⟩)] #[]] w (PostL w B pb tv L ok d s (fun r => r.list .expr E d s [] [])) := by
  have hs := hL.short
  have hi := h.at'
  have HP := hide h
  clear h
  go_enter Tryz.func165, Tryz.ntmps165
  go_wp2_with fail
  go_loopw [7] (fun v wr => ∃ (acc : List Int) (s' : M.St) (ad : Option Addr) (c : Nat), v = .slice ad acc.length c ∧ acc.length ≤ s'.i ∧ Hid (Kept B ok w wr) ∧ Hid (GrowE s s') ∧ Hid (wr.ownsRow w.heap.size 3 1 (.slice ad acc.length c) acc.length (ints acc)) ∧
      Hid (Pst wr B pb tv L (fun g => ok g ∧ some g ≠ Value.ownBlock (.slice ad acc.length c)) d s') ∧ Hid (∀ o, M.Ev L (fun r => r.list .expr E d s' [] acc) o → M.Ev L (fun r => r.list .expr E d s [] []) o)) (fun _ wr => L.length - nxt wr pb)
  case atStart => exact ⟨[], s, none, 0, rfl, by simp, Kept.refl _ _ _, ⟨Nat.le_refl _, by omega, by omega, by omega⟩, World.ownsRow_nil _ _ _ _, HP.out.mono (fun g hg _ => ⟨hg, by simp [Value.ownBlock]⟩), fun _ h => h⟩
  case round =>
    obtain ⟨acc, s', ad, c, rfl, hacc, KR, GR, OR, PR, VR⟩ := hrel
    have HT := took_any hL PR.out E
    have hi' := PR.out.at'
    have hnx := PR.out.nxt
    generalize hq : M.isM L s'.i [E] = q at *
    have Q1 := hide hq
    clear hq
    go_wp2_with fail
    refine HT.mono ?_
    clear HT
    rintro e w3 ⟨rfl, hk, hp⟩
    have K3 := hide (KR.out.trans (hk.mono fun _ h => h.1))
    have P3 := hide hp
    have O3 := hide (owns_kept OR.out hk (by decide))
    clear hk hp OR PR KR
    cases q
    · have PX : Pst w3 B pb tv L (fun g => ok g ∧ some g ≠ Value.ownBlock (.slice ad acc.length c)) d s' := by simpa using P3.out
      clear P3
      by_cases hz : acc.length = 0
      · have HC : Hid ((if acc.length = 0 then some (.ok s' ()) else M.need L s' [44]) = some (M.Out.ok s' ())) := by show _ = _; rw [if_pos hz]
        have ha : acc = [] := List.eq_nil_of_length_eq_zero hz
        subst ha
        simp only [List.length_nil] at O3 PX hacc ⊢
        clear hz
        have hj : s.i ≤ s'.i := GR.out.1
        have HM := hTyp (L.length - s'.i) (by first | (simp only [M.St.nx]; omega) | omega) w3 _ d s' (Nat.le_refl _) (fun g hg => ⟨hok g (Nat.le_trans K3.out.size hg), fun hx => by have := (O3.out.lt g hx.symm).2; omega⟩) (Nat.le_trans hB K3.out.size) PX
        clear PX
        go_wp2_with fail
        refine HM.mono ?_
        clear HM
        rintro e w4 ⟨hk, o, hev, hpost⟩
        have K4 := hide (K3.out.trans (hk.mono fun _ h => h.1))
        have O4 := hide (owns_kept O3.out hk (by decide))
        have E4 := hide hev
        clear hk hev K3 O3
        cases o with
        | fail er p =>
          obtain ⟨rfl, he⟩ := hpost
          exact ⟨rfl, postL_fail K4.out (VR.out _ (ev_list_more Q1.out HC.out (M.Ev.bad (M.Ev.bad E4.out)))) he⟩
        | ok s4 y =>
          obtain ⟨rfl, hp, hg, _⟩ := hpost
          have P4 := hide hp
          have G4 := hide hg
          have hi4 := hp.at'
          clear hp hg
          have VN := hide (fun o (ho : M.Ev L (fun r => r.list .expr E d s4 [] ([] ++ [y])) o) => VR.out o (ev_list_more Q1.out HC.out (M.Ev.bind (M.Ev.bind E4.out (k := fun _ s x => some (.ok s (x, []))) M.Ev.pure) ho)))
          clear VR
          obtain ⟨i0, hi0, hz0, hz1, hz2⟩ := info_parts Tryz.infoInt
          have hw3 := hide (O4.out.alloc (.cells #[.int .i64 y] 3))
          have hl4 : 0 + 1 ≤ s4.i := by
            have h2 := G4.out.1
            first | (simp only [M.St.nx] at h2; omega) | omega
          go_wp2_with (at_builtin; refine wpList_append_own_at _ rfl _ _ 43 rfl w.heap.size 3 i0 (.int .i64 0) 1 8 Tryz.underlying43 hi0 hz0 hz1 hz2 rfl (by decide) _ _ _ rfl hw3.out ⟨w4.heap.size, 0, none⟩ 1 1 [.int .i64 y] rfl rfl ?c1 ?c2 ?c3 ?c4 ?c5 ?_)
          case c1 => exact cell_one_new _ _ _
          case c2 => intro u hu; simp at hu; rcases hu with rfl; rfl
          case c3 => simp only [maxLen]; omega
          case c4 => omega
          case c5 => have := K4.out.size; simp; omega
          · intro v' w5 hown2 hg2 _ hat
            obtain ⟨ad2, c2, hv2⟩ := owns_form hown2
            rw [hv2] at hown2 hat ⊢
            have PG := hide ((P4.out.alloc (.cells #[.int .i64 y] 3)).grown (v := .slice ad 0 c) (v' := .slice ad2 (0 + 1) c2) (O4.out.alloc _) (.inl rfl) hg2 (by simpa using hat))
            have KG := hide ((K4.out.alloc (.cells #[.int .i64 y] 3)).grown (O4.out.alloc _) hg2)
            have OG := hide hown2
            clear hown2 hg2 hat hw3 P4 O4 K4 hv2
            go_wp2_with fail
            go_roundw
            case rel =>
              have h1 := GR.out
              have h2 := G4.out
              simp only [Grow, GrowE] at h1 h2
              refine ⟨[y], s4, ad2, c2, by simp, by simp; omega, KG.out, ⟨by omega, by omega, by omega, by omega⟩, ?_, ?_, VN.out⟩
              · have := OG.out
                show World.ownsRow _ _ _ _ _ _ _
                simpa [ints] using this
              · have := PG.out
                show Pst _ _ _ _ _ _ _ _
                simpa using this
            case measure =>
              have h2 := G4.out
              have h3 := PG.out.nxt
              simp only [Grow] at h2
              rw [h3, hnx]
              omega
      · have hz' : (0 : Int) < (acc.length : Int) := by omega
        have HN := need_any hL PX [44]
        go_wp2_with fail
        refine HN.mono ?_
        clear HN
        rintro e w6 ⟨hk, hr⟩
        have K6 := hide (K3.out.trans (hk.mono fun _ h => h.1))
        have O6 := hide (owns_kept O3.out hk (by decide))
        clear hk K3 O3 PX
        rcases hr with ⟨hb, rfl, PX⟩ | ⟨hb, rfl⟩
        · have hi6 := PX.at'
          have HC : Hid ((if acc.length = 0 then some (.ok s' ()) else M.need L s' [44]) = some (M.Out.ok s'.nx ())) := by show _ = _; rw [if_neg hz, M.need, hb]; rfl
          clear hb
          have hj : s.i ≤ s'.i := GR.out.1
          have HM := hTyp (L.length - s'.nx.i) (by first | (simp only [M.St.nx]; omega) | omega) w6 _ d s'.nx (Nat.le_refl _) (fun g hg => ⟨hok g (Nat.le_trans K6.out.size hg), fun hx => by have := (O6.out.lt g hx.symm).2; omega⟩) (Nat.le_trans hB K6.out.size) PX
          clear PX
          go_wp2_with fail
          refine HM.mono ?_
          clear HM
          rintro e w4 ⟨hk, o, hev, hpost⟩
          have K4 := hide (K6.out.trans (hk.mono fun _ h => h.1))
          have O4 := hide (owns_kept O6.out hk (by decide))
          have E4 := hide hev
          clear hk hev K6 O6
          cases o with
          | fail er p =>
            obtain ⟨rfl, he⟩ := hpost
            exact ⟨rfl, postL_fail K4.out (VR.out _ (ev_list_more Q1.out HC.out (M.Ev.bad (M.Ev.bad E4.out)))) he⟩
          | ok s4 y =>
            obtain ⟨rfl, hp, hg, _⟩ := hpost
            have P4 := hide hp
            have G4 := hide hg
            have hi4 := hp.at'
            clear hp hg
            have VN := hide (fun o (ho : M.Ev L (fun r => r.list .expr E d s4 [] (acc ++ [y])) o) => VR.out o (ev_list_more Q1.out HC.out (M.Ev.bind (M.Ev.bind E4.out (k := fun _ s x => some (.ok s (x, []))) M.Ev.pure) ho)))
            clear VR
            obtain ⟨i0, hi0, hz0, hz1, hz2⟩ := info_parts Tryz.infoInt
            have hw3 := hide (O4.out.alloc (.cells #[.int .i64 y] 3))
            have hl4 : acc.length + 1 ≤ s4.i := by
              have h2 := G4.out.1
              first | (simp only [M.St.nx] at h2; omega) | omega
            go_wp2_with (at_builtin; refine wpList_append_own_at _ rfl _ _ 43 rfl w.heap.size 3 i0 (.int .i64 0) 1 8 Tryz.underlying43 hi0 hz0 hz1 hz2 rfl (by decide) _ _ _ rfl hw3.out ⟨w4.heap.size, 0, none⟩ 1 1 [.int .i64 y] rfl rfl ?c1 ?c2 ?c3 ?c4 ?c5 ?_)
            case c1 => exact cell_one_new _ _ _
            case c2 => intro u hu; simp at hu; rcases hu with rfl; rfl
            case c3 => simp only [maxLen]; omega
            case c4 => omega
            case c5 => have := K4.out.size; simp; omega
            · intro v' w5 hown2 hg2 _ hat
              obtain ⟨ad2, c2, hv2⟩ := owns_form hown2
              rw [hv2] at hown2 hat ⊢
              have PG := hide ((P4.out.alloc (.cells #[.int .i64 y] 3)).grown (v := .slice ad acc.length c) (v' := .slice ad2 (acc.length + 1) c2) (O4.out.alloc _) (.inl rfl) hg2 (by simpa using hat))
              have KG := hide ((K4.out.alloc (.cells #[.int .i64 y] 3)).grown (O4.out.alloc _) hg2)
              have OG := hide hown2
              clear hown2 hg2 hat hw3 P4 O4 K4 hv2
              go_wp2_with fail
              go_roundw
              case rel =>
                have h1 := GR.out
                have h2 := G4.out
                simp only [Grow, GrowE, M.St.nx] at h1 h2
                refine ⟨acc ++ [y], s4, ad2, c2, by simp, by simp; omega, KG.out, ⟨by omega, by omega, by omega, by omega⟩, ?_, ?_, VN.out⟩
                · have := OG.out
                  show World.ownsRow _ _ _ _ _ _ _
                  rw [ints_snoc]
                  simpa using this
                · have := PG.out
                  show Pst _ _ _ _ _ _ _ _
                  simpa using this
              case measure =>
                have h2 := G4.out
                have h3 := PG.out.nxt
                simp only [Grow, M.St.nx] at h2
                rw [h3, hnx]
                omega
        · exact ⟨rfl, postL_fail K6.out (VR.out _ (ev_list_bad Q1.out (by rw [if_neg hz, M.need, hb]; rfl))) (by decide)⟩
    · have PX : Pst w3 B pb tv L (fun g => ok g ∧ some g ≠ Value.ownBlock (.slice ad acc.length c)) d s'.nx := by simpa using P3.out
      have PY := hide (PX.mono (ok' := ok) (fun g hg _ => hg.1))
      have EV := hide (VR.out _ (ev_list_end Q1.out))
      have GX := hide (show Grow s s'.nx by
        have h2 := GR.out
        simp only [Grow, GrowE, M.St.nx] at h2 ⊢
        omega)
      clear VR P3 PX
      go_wp2_with fail
      go_ret
      exact postL_ok K3.out EV.out O3.out (by simp only [M.St.nx]; omega) PY.out GX.out


set_option maxHeartbeats 1000000 in
theorem brackets_any (hL : LOk L) (m : Nat) (hE : ∀ m', m' < m → ConN B pb tv L 159 (fun d s r => r.expr d s) m') :
    ConN B pb tv L 230 (fun d s r => M.obind (M.need L s [40]) fun s _ => M.obind (r.expr d s) fun s x => M.obind (M.need L s [41]) fun s _ => some (.ok s x)) m := by
  intro w ok d s hm hok hB h
  have hi := h.at'
  have hs := hL.short
  have H1 := need_any hL h [40]
  clear h
  go_enter Tryz.func230, Tryz.ntmps230
  go_wp2_with fail
  refine H1.mono ?_
  clear H1
  rintro e w1 ⟨hk, hr⟩
  have K1 := hide hk
  clear hk
  rcases hr with ⟨hb, rfl, hp⟩ | ⟨hb, rfl⟩
  · have V1 := hide (fun o ho => M.Ev.bind (k := fun r s (_ : Unit) => M.obind (r.expr d s) fun s x => M.obind (M.need L s [41]) fun s _ => some (M.Out.ok s x)) (need_yes hb) ho (o := o))
    have hi1 := hp.at'
    have HM := hE (L.length - s.nx.i) (by simp only [M.St.nx]; omega) w1 ok d s.nx (Nat.le_refl _) (fun g hg => hok g (Nat.le_trans K1.out.size hg)) (Nat.le_trans hB K1.out.size) hp
    clear hp hb
    go_wp2_with fail
    refine HM.mono ?_
    clear HM
    rintro e w2 ⟨hk, o, hev, hpost⟩
    have K2 := hide (K1.out.trans hk)
    have E2 := hide hev
    clear hk hev K1
    cases o with
    | fail er p =>
      obtain ⟨rfl, he⟩ := hpost
      exact ⟨rfl, postN_fail K2.out (V1.out _ (M.Ev.bad E2.out)) he⟩
    | ok s2 x =>
      obtain ⟨rfl, hp, hg, hx⟩ := hpost
      have H3 := need_any hL hp [41]
      have G2 := hide hg
      have V2 := hide (fun o ho => V1.out o (M.Ev.bind E2.out ho))
      clear hp hg V1 E2
      go_wp2_with fail
      refine H3.mono ?_
      clear H3
      rintro e w3 ⟨hk, hr⟩
      have K3 := hide (K2.out.trans hk)
      clear hk K2
      rcases hr with ⟨hb, rfl, hp⟩ | ⟨hb, rfl⟩
      · have EV := hide (V2.out _ (M.Ev.bind (need_yes hb) M.Ev.pure))
        have P3 := hide hp
        have G3 := hide (show Grow s s2.nx by
          have h2 := G2.out
          simp only [Grow, M.St.nx] at h2 ⊢
          omega)
        clear hp hb V2
        go_wp2_with fail
        go_ret
        exact postN_ok K3.out EV.out P3.out G3.out hx
      · exact ⟨rfl, postN_fail K3.out (V2.out _ (M.Ev.bad (need_no hb))) (by decide)⟩
  · exact ⟨rfl, postN_fail K1.out (M.Ev.bad (need_no hb)) (by decide)⟩

set_option maxHeartbeats 1000000 in
theorem typeIfAny_any (hL : LOk L) (h : Pst w B pb tv L ok d s) (hok : ∀ g, w.heap.size ≤ g → ok g) (hB : B ≤ w.heap.size) :
    Calls Tryz.prog 158 #[.pointer (some ⟨pb, 0, none⟩)] w fun e w' => Kept B ok w w' ∧ ∃ o, M.Ev L (fun r => M.typeIf L r d s) o ∧ match o with
      | .ok s' x => e = .returned (.int .i64 x) ∧ Pst w' B pb tv L ok d s' ∧ GrowE s s'
      | .fail er p => e = gu er p ∧ er ≠ 0 := by
  have H1 := took_any hL h [58]
  have HV : Hid (∀ o, M.Ev L (fun r => if M.isM L s.i [[58]] then r.typ d s.nx else some (.ok s (-1))) o → M.Ev L (fun r => M.typeIf L r d s) o) := fun o ho => ho
  clear h
  generalize M.isM L s.i [[58]] = q at *
  go_enter Tryz.func158, Tryz.ntmps158
  go_wp2_with fail
  refine H1.mono ?_
  clear H1
  rintro e w1 ⟨rfl, hk, hp⟩
  have K1 := hide hk
  cases q
  · have PX : Pst w1 B pb tv L ok d s := by simpa using hp
    have P1 := hide PX
    clear PX hp hk
    go_wp2_with fail
    go_ret
    exact ⟨K1.out, .ok s (-1), HV.out _ (M.Ev.pure.eq (fun r => by simp)), rfl, P1.out, ⟨Nat.le_refl _, by omega, by omega, by omega⟩⟩
  · have PX : Pst w1 B pb tv L ok d s.nx := by simpa using hp
    have HM := typ_con hL (L.length - s.nx.i) w1 ok d s.nx (Nat.le_refl _) (fun g hg => hok g (Nat.le_trans hk.size hg)) (Nat.le_trans hB hk.size) PX
    clear PX hp hk
    go_wp2_with fail
    refine HM.mono ?_
    clear HM
    rintro e w2 ⟨hk, o, hev, hpost⟩
    have K2 := hide (K1.out.trans hk)
    have E2 := hide (HV.out o (hev.eq (fun r => by simp)))
    clear hk hev K1
    cases o with
    | fail er p =>
      obtain ⟨rfl, he⟩ := hpost
      exact ⟨rfl, K2.out, _, E2.out, rfl, he⟩
    | ok s2 x =>
      obtain ⟨rfl, hp, hg⟩ := hpost
      have P2 := hide hp
      have G2 := hide (show GrowE s s2 by
        have h2 := hg
        simp only [Grow, GrowE, M.St.nx] at h2 ⊢
        omega)
      clear hp hg
      go_wp2_with fail
      go_ret
      exact ⟨K2.out, _, E2.out, rfl, P2.out, G2.out⟩

theorem kept_block {ok : Nat → Prop} {w w' : World} {q : Nat} {cs : Array Value} {e : TypeId} (hk : Kept B ok w w') (h : w.heap[q]? = some (.cells cs e (0, 0))) (he : e ≠ 53 ∧ e ≠ 63 ∧ e ≠ 66) : w'.heap[q]? = some (.cells cs e (0, 0)) := by
  rw [hk.block q (Array.getElem?_eq_some_iff.1 h).1 (fun x => ?_)]
  · exact h
  · obtain ⟨cs', e', fz, hh, r⟩ := x.2.1
    rw [h] at hh
    simp only [Option.some.injEq, Obj.cells.injEq] at hh
    obtain ⟨_, rfl, _⟩ := hh
    rcases r with r | r | r
    · exact he.1 r
    · exact he.2.1 r
    · exact he.2.2 r

set_option maxHeartbeats 1000000 in
theorem operand_any (hL : LOk L) (m : Nat) (hO : ∀ m', m' < m → ConN B pb tv L 216 (fun d s r => r.oper d s) m') (hS : ConN B pb tv L 222 (fun d s r => r.simple d s) m) (hT : ∀ m', m' < m → ConH B pb tv L m') :
    ConN B pb tv L 216 (fun d s r => r.oper d s) m := by
  intro w ok d s hm hok hB h
  have hi := h.at'
  have hs := hL.short
  have hfw := h.few
  have HI := is_any hL (h.alloc (.cells (strV [[33], [45], [116, 121, 112, 101, 111, 102]]) 9)) w.heap.size 3 [[33], [45], [116, 121, 112, 101, 111, 102]] (strs_many _ _ _) (by decide)
  have HK6 := hide (fun (hq : M.isM L s.i [[33], [45], [116, 121, 112, 101, 111, 102]] = true) => isM_kind hq)
  have HV : Hid (∀ o, M.Ev L (fun r => if M.isM L s.i [[33], [45], [116, 121, 112, 101, 111, 102]] then M.obind (M.inside L (M.begE L (s.i + 1)) d s.nx r.oper) fun s' x => M.addN s' ⟨13, x, 0, 0, [], (M.tk L s.i).text, 0, -1, (M.tk L s.i).at'⟩
    else M.obind (r.simple d s) fun s x => r.tail d s x) o → M.Ev L (fun r => r.oper d s) o) := fun o ho => M.Ev.step (ho.eq fun r => rfl)
  have HP := hide h
  clear h
  have hf1 := tok_text
  have hf2 := tok_at
  have HTk := hide (fun w1 (h1 : Pst w1 B pb tv L ok d s) => take_any hL h1)
  generalize M.isM L s.i [[33], [45], [116, 121, 112, 101, 111, 102]] = q at *
  generalize M.tk L s.i = tk at *
  obtain ⟨kd, tx, pl⟩ := tk
  simp only [tkv] at HTk HV HK6
  go_enter Tryz.func216, Tryz.ntmps216
  go_wp2_with fail
  refine HI.mono ?_
  clear HI
  rintro e w1 ⟨rfl, hc⟩
  have P1 := hide ((HP.out.alloc _).still hc)
  have K1 := hide (((Kept.refl B ok w).alloc _).trans (still_kept hc))
  clear hc HP
  cases q
  · have HM := hS w1 ok d s hm (fun g hg => hok g (Nat.le_trans K1.out.size hg)) (Nat.le_trans hB K1.out.size) P1.out
    clear P1
    go_wp2_with fail
    refine HM.mono ?_
    clear HM
    rintro e w2 ⟨hk, o, hev, hpost⟩
    have K2 := hide (K1.out.trans hk)
    have E2 := hide hev
    clear hk hev K1
    cases o with
    | fail er p =>
      obtain ⟨rfl, he⟩ := hpost
      exact ⟨rfl, postN_fail K2.out (HV.out _ ((M.Ev.bad E2.out).eq (fun r => by simp; rfl))) he⟩
    | ok s2 x =>
      obtain ⟨rfl, hp, hg, hx⟩ := hpost
      obtain ⟨kx, rfl⟩ := Int.eq_ofNat_of_zero_le hx.1
      have hi2 := hp.at'
      have hj := hg.1
      have HM := hT (L.length - s2.i) (by omega) w2 ok d s2 kx (by omega) (Nat.le_refl _) (fun g hg => hok g (Nat.le_trans K2.out.size hg)) (Nat.le_trans hB K2.out.size) hp
      have G2 := hide hg
      clear hp hg
      go_wp2_with fail
      refine HM.mono ?_
      clear HM
      rintro e w3 ⟨hk, o, hev, hpost⟩
      have K3 := hide (K2.out.trans hk)
      have E3 := hide (HV.out o ((M.Ev.bind (k := fun r s x => r.tail d s x) E2.out hev).eq (fun r => by simp)))
      clear hk hev K2 E2
      cases o with
      | fail er p =>
        obtain ⟨rfl, he⟩ := hpost
        exact ⟨rfl, postN_fail K3.out E3.out he⟩
      | ok s3 y =>
        obtain ⟨rfl, hp, hg, hy⟩ := hpost
        have P3 := hide hp
        have G3 := hide (show Grow s s3 by
          have h1 := G2.out
          have h2 := hg
          simp only [Grow, GrowE] at h1 h2 ⊢
          omega)
        clear hp hg
        go_wp2_with fail
        go_ret
        exact postN_ok K3.out E3.out P3.out G3.out hy
  · have V1 := hide (fun o (ho : M.Ev L (fun r => M.obind (M.inside L (M.begE L (s.i + 1)) d s.nx r.oper) fun s' x => M.addN s' ⟨13, x, 0, 0, [], tx, 0, -1, (pl : Int)⟩) o) => HV.out o (ho.eq (fun r => by simp)))
    clear HV
    go_wp2_with fail
    refine (HTk.out _ P1.out (HK6.out trivial)).mono ?_
    clear HTk
    rintro e w2 ⟨rfl, hk, hp⟩
    have K2 := hide ((K1.out.trans hk).alloc (.cells #[.int .i64 kd, .string ⟨tx.toArray⟩, .int .i64 (pl : Int)] 60))
    have P2 := hide (hp.alloc (.cells #[.int .i64 kd, .string ⟨tx.toArray⟩, .int .i64 (pl : Int)] 60))
    have Q2 := hide (heap_alloc_new w2 (.cells #[.int .i64 kd, .string ⟨tx.toArray⟩, .int .i64 (pl : Int)] 60))
    have hi2 := hp.at'
    have HBg := begE_any hL P2.out
    clear hk hp P1 K1
    generalize hbg : M.begE L s.nx.i = bg at *
    have B2 := hide hbg
    clear hbg
    go_wp2_with fail
    refine HBg.mono ?_
    clear HBg
    rintro e w3 ⟨rfl, hc⟩
    have K3 := hide (K2.out.trans (still_kept hc))
    have P3 := hide (P2.out.still hc)
    have Q3 := hide (kept_block (still_kept (B := B) (ok := ok) hc) Q2.out (by decide))
    have hw3 : w2.heap.size < w3.heap.size := by have := hc.size; simp at this; omega
    have HM := inside_operand_any (w := w3) (ok := ok) hL (L.length - s.nx.i) (fun d s r => r.oper d s) (hO _ (by simp only [M.St.nx]; omega)) bg (Nat.le_refl _) (fun g hg => hok g (Nat.le_trans K3.out.size hg)) (Nat.le_trans hB K3.out.size) P3.out
    clear hc P2 K2 Q2 P3
    go_wp2_with fail
    refine HM.mono ?_
    clear HM
    rintro e w4 ⟨hk, o, hev, hpost⟩
    have K4 := hide (K3.out.trans hk)
    have Q4 := hide (kept_block hk Q3.out (by decide))
    have hw4 : w2.heap.size < w4.heap.size := Nat.lt_of_lt_of_le hw3 hk.size
    have E4 := hide (hev.eq (ψ := fun r => M.inside L (M.begE L (s.i + 1)) d s.nx r.oper) (fun r => by rw [show M.begE L (s.i + 1) = bg from B2.out]))
    clear hk hev K3 Q3
    cases o with
    | fail er p =>
      obtain ⟨rfl, he⟩ := hpost
      exact ⟨rfl, postN_fail K4.out (V1.out _ (M.Ev.bad E4.out)) he⟩
    | ok s4 y =>
      obtain ⟨rfl, hp, hg, hy⟩ := hpost
      have HA := add_any hL hp ⟨13, y, 0, 0, [], tx, 0, -1, (pl : Int)⟩ 0 none 0 0 ⟨_, rfl, World.ownsRow_nil _ _ _ _, by simp [Value.ownBlock]⟩ rfl (by have := hg; simp only [Grow, M.St.nx] at this; omega) (Nat.le_trans hB K4.out.size) (fun g hg => hok g (Nat.le_trans K4.out.size hg))
      have EV := hide (V1.out _ (M.Ev.bind E4.out (k := fun _ s' x => M.addN s' ⟨13, x, 0, 0, [], tx, 0, -1, (pl : Int)⟩) M.Ev.pure))
      have GX := hide (show Grow s ⟨s4.i, s4.N ++ [⟨13, y, 0, 0, [], tx, 0, -1, (pl : Int)⟩], s4.T⟩ by
        have h2 := hg
        simp only [Grow, M.St.nx, List.length_append, List.length_cons, List.length_nil] at h2 ⊢
        omega)
      have x1 : w4.cell? ⟨w2.heap.size, 1, none⟩ = some (.string ⟨tx.toArray⟩) := by rw [cell_of_row w4 _ 1 _ _ _ Q4.out]; rfl
      have x2 : w4.cell? ⟨w2.heap.size, 2, none⟩ = some (.int .i64 (pl : Int)) := by rw [cell_of_row w4 _ 2 _ _ _ Q4.out]; rfl
      clear hp hg
      go_wp2_with fail
      refine HA.mono ?_
      clear HA
      rintro e w5 ⟨rfl, hk, hp⟩
      have K5 := hide (K4.out.trans hk)
      have P5 := hide hp
      clear hk hp
      go_wp2_with fail
      go_ret
      exact postN_ok K5.out EV.out P5.out GX.out (by simp; omega)
end
end Go.Proofs.YtjojlcfoiknlhaaGreatDoor
