/-
  The contracts of list, over typ, and of functionOrBrackets.
  The contracts of newName and objectType.
  The contract of objectType; the contract of typ, closed.
-/
import Derived.Test.YtjojlcfoiknlhaaGreatDoorParseB
namespace Go.Proofs.YtjojlcfoiknlhaaGreatDoor
open Go.RowKit

section
variable {w : World} {B pb : Nat} {tv : Value} {L : List M.Tk} {ok : Nat → Prop} {d : Nat} {s : M.St}

theorem ev_list_end {p : M.Part} {E : List UInt8} {nm : List (List UInt8)} {acc : List Int} (hq : M.isM L s.i [E] = true) : M.Ev L (fun r => r.list p E d s nm acc) (.ok s.nx acc) :=
  M.Ev.step (M.Ev.pure.eq fun r => by show (if M.isM L s.i [E] then _ else _) = _; rw [hq]; rfl)
theorem ev_list_more {p : M.Part} {E : List UInt8} {nm : List (List UInt8)} {acc : List Int} {s1 : M.St} {o : M.Out (List Int)} (hq : M.isM L s.i [E] = false) (hc : (if acc.length = 0 then some (.ok s ()) else M.need L s [44]) = some (.ok s1 ()))
    (h : M.Ev L (fun r => M.obind (M.part L r d s1 nm p) fun s x => r.list p E d s x.2 (acc ++ [x.1])) o) : M.Ev L (fun r => r.list p E d s nm acc) o :=
  M.Ev.step (h.eq fun r => by
    show (if M.isM L s.i [E] then _ else M.obind (if acc.length = 0 then some (.ok s ()) else M.need L s [44]) _) = _
    rw [hq, hc]; rfl)
theorem ev_list_bad {p : M.Part} {E : List UInt8} {nm : List (List UInt8)} {acc : List Int} {e q : Int} (hq : M.isM L s.i [E] = false) (hc : (if acc.length = 0 then some (.ok s ()) else M.need L s [44]) = some (.fail e q)) : M.Ev L (fun r => r.list p E d s nm acc) (.fail e q) :=
  M.Ev.step (M.Ev.pure.eq fun r => by
    show (if M.isM L s.i [E] then _ else M.obind (if acc.length = 0 then some (.ok s ()) else M.need L s [44]) _) = _
    rw [hq, hc]; rfl)

def GrowE (s s' : M.St) : Prop := s.i ≤ s'.i ∧ s'.N.length + s.i ≤ s.N.length + s'.i ∧ s'.T.length + s.i ≤ s.T.length + s'.i ∧ s.N.length ≤ s'.N.length

/-- What a method that reads a list answers. -/
def PostL (w : World) (B pb : Nat) (tv : Value) (L : List M.Tk) (ok : Nat → Prop) (d : Nat) (s : M.St) (φ : M.Sp → Option (M.Out (List Int))) (e : Ending) (w' : World) : Prop :=
  Kept B ok w w' ∧ ∃ o, M.Ev L φ o ∧ match o with
    | .ok s' l => ∃ ad c, e = .returned (.slice ad l.length c) ∧ w'.ownsRow w.heap.size 3 1 (.slice ad l.length c) l.length (ints l) ∧ l.length ≤ s'.i ∧ Pst w' B pb tv L ok d s' ∧ Grow s s'
    | .fail er p => e = gu er p ∧ er ≠ 0

theorem postL_fail {φ : M.Sp → Option (M.Out (List Int))} {w' : World} {er p : Int} (hk : Kept B ok w w') (hev : M.Ev L φ (.fail er p)) (he : er ≠ 0) : PostL w B pb tv L ok d s φ (gu er p) w' := ⟨hk, _, hev, rfl, he⟩
theorem postL_ok {φ : M.Sp → Option (M.Out (List Int))} {w' : World} {s' : M.St} {l : List Int} {ad : Option Addr} {c : Nat} (hk : Kept B ok w w') (hev : M.Ev L φ (.ok s' l)) (ho : w'.ownsRow w.heap.size 3 1 (.slice ad l.length c) l.length (ints l)) (hl : l.length ≤ s'.i) (hp : Pst w' B pb tv L ok d s') (hg : Grow s s') :
    PostL w B pb tv L ok d s φ (.returned (.slice ad l.length c)) w' := ⟨hk, _, hev, _, _, rfl, ho, hl, hp, hg⟩

set_option maxHeartbeats 1000000 in
theorem list_typ_any (hL : LOk L) (m : Nat) (hTyp : ∀ m', m' ≤ m → Con B pb tv L 32 (fun d s r => r.typ d s) m') (E : List UInt8) (hm : L.length - s.i ≤ m) (hok : ∀ g, w.heap.size ≤ g → ok g) (hB : B ≤ w.heap.size) (h : Pst w B pb tv L ok d s) :
    Calls Tryz.prog 165 #[.pointer (some ⟨pb, 0, none⟩), .string ⟨E.toArray⟩, .func (.func 32) #[.pointer (some ⟨pb, 0, none⟩)] #[]] w (PostL w B pb tv L ok d s (fun r => r.list .typ E d s [] [])) := by
  have hs := hL.short
  have hi := h.at'
  have HP := hide h
  clear h
  go_enter Tryz.func165, Tryz.ntmps165
  go_wp2_with fail
  go_loopw [7] (fun v wr => ∃ (acc : List Int) (s' : M.St) (ad : Option Addr) (c : Nat), v = .slice ad acc.length c ∧ acc.length ≤ s'.i ∧ Hid (Kept B ok w wr) ∧ Hid (GrowE s s') ∧ Hid (wr.ownsRow w.heap.size 3 1 (.slice ad acc.length c) acc.length (ints acc)) ∧
      Hid (Pst wr B pb tv L (fun g => ok g ∧ some g ≠ Value.ownBlock (.slice ad acc.length c)) d s') ∧ Hid (∀ o, M.Ev L (fun r => r.list .typ E d s' [] acc) o → M.Ev L (fun r => r.list .typ E d s [] []) o)) (fun _ wr => L.length - nxt wr pb)
  case atStart => exact ⟨[], s, none, 0, rfl, by simp, Kept.refl _ _ _, ⟨Nat.le_refl _, by omega, by omega, by omega⟩, World.ownsRow_nil _ _ _ _, HP.out.mono (fun g hg _ => ⟨hg, by simp [Value.ownBlock]⟩), fun _ h => h⟩
  case round =>
    obtain ⟨acc, s', ad, c, rfl, hacc, KR, GR, OR, PR, VR⟩ := hrel
    have HT := took_any hL PR.out E
    have hi' := PR.out.at'
    have hnx := PR.out.nxt
    generalize hq : M.isM L s'.i [E] = q at *
    have Q1 := hide hq
    clear hq
    go_wp2_with fail
    refine HT.mono ?_
    clear HT
    rintro e w3 ⟨rfl, hk, hp⟩
    have K3 := hide (KR.out.trans (hk.mono fun _ h => h.1))
    have P3 := hide hp
    have O3 := hide (owns_kept OR.out hk (by decide))
    clear hk hp OR PR KR
    cases q
    · have PX : Pst w3 B pb tv L (fun g => ok g ∧ some g ≠ Value.ownBlock (.slice ad acc.length c)) d s' := by simpa using P3.out
      clear P3
      by_cases hz : acc.length = 0
      · have HC : Hid ((if acc.length = 0 then some (.ok s' ()) else M.need L s' [44]) = some (M.Out.ok s' ())) := by show _ = _; rw [if_pos hz]
        have ha : acc = [] := List.eq_nil_of_length_eq_zero hz
        subst ha
        simp only [List.length_nil] at O3 PX hacc ⊢
        clear hz
        have hj : s.i ≤ s'.i := GR.out.1
        have HM := hTyp (L.length - s'.i) (by first | (simp only [M.St.nx]; omega) | omega) w3 _ d s' (Nat.le_refl _) (fun g hg => ⟨hok g (Nat.le_trans K3.out.size hg), fun hx => by have := (O3.out.lt g hx.symm).2; omega⟩) (Nat.le_trans hB K3.out.size) PX
        clear PX
        go_wp2_with fail
        refine HM.mono ?_
        clear HM
        rintro e w4 ⟨hk, o, hev, hpost⟩
        have K4 := hide (K3.out.trans (hk.mono fun _ h => h.1))
        have O4 := hide (owns_kept O3.out hk (by decide))
        have E4 := hide hev
        clear hk hev K3 O3
        cases o with
        | fail er p =>
          obtain ⟨rfl, he⟩ := hpost
          exact ⟨rfl, postL_fail K4.out (VR.out _ (ev_list_more Q1.out HC.out (M.Ev.bad (M.Ev.bad E4.out)))) he⟩
        | ok s4 y =>
          obtain ⟨rfl, hp, hg⟩ := hpost
          have P4 := hide hp
          have G4 := hide hg
          have hi4 := hp.at'
          clear hp hg
          have VN := hide (fun o (ho : M.Ev L (fun r => r.list .typ E d s4 [] ([] ++ [y])) o) => VR.out o (ev_list_more Q1.out HC.out (M.Ev.bind (M.Ev.bind E4.out (k := fun _ s x => some (.ok s (x, []))) M.Ev.pure) ho)))
          clear VR
          obtain ⟨i0, hi0, hz0, hz1, hz2⟩ := info_parts Tryz.infoInt
          have hw3 := hide (O4.out.alloc (.cells #[.int .i64 y] 3))
          have hl4 : 0 + 1 ≤ s4.i := by
            have h2 := G4.out.1
            first | (simp only [M.St.nx] at h2; omega) | omega
          go_wp2_with (at_builtin; refine wpList_append_own_at _ rfl _ _ 43 rfl w.heap.size 3 i0 (.int .i64 0) 1 8 Tryz.underlying43 hi0 hz0 hz1 hz2 rfl (by decide) _ _ _ rfl hw3.out ⟨w4.heap.size, 0, none⟩ 1 1 [.int .i64 y] rfl rfl ?c1 ?c2 ?c3 ?c4 ?c5 ?_)
          case c1 => exact cell_one_new _ _ _
          case c2 => intro u hu; simp at hu; rcases hu with rfl; rfl
          case c3 => simp only [maxLen]; omega
          case c4 => omega
          case c5 => have := K4.out.size; simp; omega
          · intro v' w5 hown2 hg2 _ hat
            obtain ⟨ad2, c2, hv2⟩ := owns_form hown2
            rw [hv2] at hown2 hat ⊢
            have PG := hide ((P4.out.alloc (.cells #[.int .i64 y] 3)).grown (v := .slice ad 0 c) (v' := .slice ad2 (0 + 1) c2) (O4.out.alloc _) (.inl rfl) hg2 (by simpa using hat))
            have KG := hide ((K4.out.alloc (.cells #[.int .i64 y] 3)).grown (O4.out.alloc _) hg2)
            have OG := hide hown2
            clear hown2 hg2 hat hw3 P4 O4 K4 hv2
            go_wp2_with fail
            go_roundw
            case rel =>
              have h1 := GR.out
              have h2 := G4.out
              simp only [Grow, GrowE] at h1 h2
              refine ⟨[y], s4, ad2, c2, by simp, by simp; omega, KG.out, ⟨by omega, by omega, by omega, by omega⟩, ?_, ?_, VN.out⟩
              · have := OG.out
                show World.ownsRow _ _ _ _ _ _ _
                simpa [ints] using this
              · have := PG.out
                show Pst _ _ _ _ _ _ _ _
                simpa using this
            case measure =>
              have h2 := G4.out
              have h3 := PG.out.nxt
              simp only [Grow] at h2
              rw [h3, hnx]
              omega
      · have hz' : (0 : Int) < (acc.length : Int) := by omega
        have HN := need_any hL PX [44]
        go_wp2_with fail
        refine HN.mono ?_
        clear HN
        rintro e w6 ⟨hk, hr⟩
        have K6 := hide (K3.out.trans (hk.mono fun _ h => h.1))
        have O6 := hide (owns_kept O3.out hk (by decide))
        clear hk K3 O3 PX
        rcases hr with ⟨hb, rfl, PX⟩ | ⟨hb, rfl⟩
        · have hi6 := PX.at'
          have HC : Hid ((if acc.length = 0 then some (.ok s' ()) else M.need L s' [44]) = some (M.Out.ok s'.nx ())) := by show _ = _; rw [if_neg hz, M.need, hb]; rfl
          clear hb
          have hj : s.i ≤ s'.i := GR.out.1
          have HM := hTyp (L.length - s'.nx.i) (by first | (simp only [M.St.nx]; omega) | omega) w6 _ d s'.nx (Nat.le_refl _) (fun g hg => ⟨hok g (Nat.le_trans K6.out.size hg), fun hx => by have := (O6.out.lt g hx.symm).2; omega⟩) (Nat.le_trans hB K6.out.size) PX
          clear PX
          go_wp2_with fail
          refine HM.mono ?_
          clear HM
          rintro e w4 ⟨hk, o, hev, hpost⟩
          have K4 := hide (K6.out.trans (hk.mono fun _ h => h.1))
          have O4 := hide (owns_kept O6.out hk (by decide))
          have E4 := hide hev
          clear hk hev K6 O6
          cases o with
          | fail er p =>
            obtain ⟨rfl, he⟩ := hpost
            exact ⟨rfl, postL_fail K4.out (VR.out _ (ev_list_more Q1.out HC.out (M.Ev.bad (M.Ev.bad E4.out)))) he⟩
          | ok s4 y =>
            obtain ⟨rfl, hp, hg⟩ := hpost
            have P4 := hide hp
            have G4 := hide hg
            have hi4 := hp.at'
            clear hp hg
            have VN := hide (fun o (ho : M.Ev L (fun r => r.list .typ E d s4 [] (acc ++ [y])) o) => VR.out o (ev_list_more Q1.out HC.out (M.Ev.bind (M.Ev.bind E4.out (k := fun _ s x => some (.ok s (x, []))) M.Ev.pure) ho)))
            clear VR
            obtain ⟨i0, hi0, hz0, hz1, hz2⟩ := info_parts Tryz.infoInt
            have hw3 := hide (O4.out.alloc (.cells #[.int .i64 y] 3))
            have hl4 : acc.length + 1 ≤ s4.i := by
              have h2 := G4.out.1
              first | (simp only [M.St.nx] at h2; omega) | omega
            go_wp2_with (at_builtin; refine wpList_append_own_at _ rfl _ _ 43 rfl w.heap.size 3 i0 (.int .i64 0) 1 8 Tryz.underlying43 hi0 hz0 hz1 hz2 rfl (by decide) _ _ _ rfl hw3.out ⟨w4.heap.size, 0, none⟩ 1 1 [.int .i64 y] rfl rfl ?c1 ?c2 ?c3 ?c4 ?c5 ?_)
            case c1 => exact cell_one_new _ _ _
            case c2 => intro u hu; simp at hu; rcases hu with rfl; rfl
            case c3 => simp only [maxLen]; omega
            case c4 => omega
            case c5 => have := K4.out.size; simp; omega
            · intro v' w5 hown2 hg2 _ hat
              obtain ⟨ad2, c2, hv2⟩ := owns_form hown2
              rw [hv2] at hown2 hat ⊢
              have PG := hide ((P4.out.alloc (.cells #[.int .i64 y] 3)).grown (v := .slice ad acc.length c) (v' := .slice ad2 (acc.length + 1) c2) (O4.out.alloc _) (.inl rfl) hg2 (by simpa using hat))
              have KG := hide ((K4.out.alloc (.cells #[.int .i64 y] 3)).grown (O4.out.alloc _) hg2)
              have OG := hide hown2
              clear hown2 hg2 hat hw3 P4 O4 K4 hv2
              go_wp2_with fail
              go_roundw
              case rel =>
                have h1 := GR.out
                have h2 := G4.out
                simp only [Grow, GrowE, M.St.nx] at h1 h2
                refine ⟨acc ++ [y], s4, ad2, c2, by simp, by simp; omega, KG.out, ⟨by omega, by omega, by omega, by omega⟩, ?_, ?_, VN.out⟩
                · have := OG.out
                  show World.ownsRow _ _ _ _ _ _ _
                  rw [ints_snoc]
                  simpa using this
                · have := PG.out
                  show Pst _ _ _ _ _ _ _ _
                  simpa using this
              case measure =>
                have h2 := G4.out
                have h3 := PG.out.nxt
                simp only [Grow, M.St.nx] at h2
                rw [h3, hnx]
                omega
        · exact ⟨rfl, postL_fail K6.out (VR.out _ (ev_list_bad Q1.out (by rw [if_neg hz, M.need, hb]; rfl))) (by decide)⟩
    · have PX : Pst w3 B pb tv L (fun g => ok g ∧ some g ≠ Value.ownBlock (.slice ad acc.length c)) d s'.nx := by simpa using P3.out
      have PY := hide (PX.mono (ok' := ok) (fun g hg _ => hg.1))
      have EV := hide (VR.out _ (ev_list_end Q1.out))
      have GX := hide (show Grow s s'.nx by
        have h2 := GR.out
        simp only [Grow, GrowE, M.St.nx] at h2 ⊢
        omega)
      clear VR P3 PX
      go_wp2_with fail
      go_ret
      exact postL_ok K3.out EV.out O3.out (by simp only [M.St.nx]; omega) PY.out GX.out

set_option maxHeartbeats 1000000 in
theorem fob_any (hL : LOk L) (m : Nat) (hTyp : ∀ m', m' ≤ m → Con B pb tv L 32 (fun d s r => r.typ d s) m') : Con B pb tv L 136 (fun d s r => r.fob d s) m := by
  intro w ok d s hm hok hB h
  have hs := hL.short
  have hi := h.at'
  have HF := hide h.few
  have H1 := list_typ_any hL m hTyp [41] hm hok hB h
  have HV : Hid (∀ o, M.Ev L (fun r => M.obind (r.list .typ [41] d s [] []) fun s l => if M.isM L s.i [[61, 62]] then M.obind (r.typ d s.nx) fun s x => M.addT s ⟨9, [], l, x⟩ else match l with | [x] => some (.ok s x) | _ => M.flt L s.i 1) o → M.Ev L (fun r => r.fob d s) o) := fun o ho => M.Ev.step (ho.eq (fun r => rfl))
  clear h
  go_enter Tryz.func136, Tryz.ntmps136
  go_wp2_with fail
  refine H1.mono ?_
  clear H1
  rintro e w1 ⟨hk, o, hev, hpost⟩
  have K1 := hide hk
  have E1 := hide hev
  clear hk hev
  cases o with
  | fail er p =>
    obtain ⟨rfl, he⟩ := hpost
    exact ⟨rfl, post_fail K1.out (HV.out _ (M.Ev.bad E1.out)) he⟩
  | ok s1 l =>
    obtain ⟨ad, c, rfl, ho, hl, hp, hg⟩ := hpost
    have P1 := hide hp
    have G1 := hide hg
    have O1 := hide ho
    have hi1 := hp.at'
    have HT := took_any hL hp [61, 62]
    clear hp hg ho
    have V1 := hide (fun o ho => HV.out o (M.Ev.bind E1.out ho))
    clear HV E1
    generalize hq : M.isM L s1.i [[61, 62]] = q at *
    have Q1 := hide hq
    clear hq
    go_wp2_with fail
    refine HT.mono ?_
    clear HT
    rintro e w2 ⟨rfl, hk, hp⟩
    have K2 := hide (K1.out.trans hk)
    have O2 := hide (owns_kept O1.out hk (by decide))
    have P2 := hide hp
    clear hk hp K1 O1 P1
    cases q
    · have PX : Pst w2 B pb tv L ok d s1 := by simpa using P2.out
      have HX := fail_any hL PX 1
      have PY := hide PX
      clear P2 PX
      by_cases h1 : l.length = 1
      · obtain ⟨x, rfl⟩ := List.length_eq_one_iff.1 h1
        obtain ⟨g, rfl, _, hg, hgc, hgm, hcell⟩ := owns_cell O2.out (by simp)
        have c0 : w2.cell? ⟨g, 0, none⟩ = some (.int .i64 x) := hcell 0 _ rfl
        clear hcell HX
        go_wp2_with fail
        go_ret
        exact post_ok K2.out (V1.out _ (M.Ev.pure.eq (fun r => by simp))) PY.out G1.out
      · have h1' : ((l.length : Int) == 1) = false := by simp; omega
        go_wp2_with fail
        refine HX.mono ?_
        clear HX
        rintro e w3 ⟨rfl, hc⟩
        refine ⟨rfl, post_fail (K2.out.trans (still_kept hc)) (V1.out _ (M.Ev.pure.eq (fun r => ?_))) (by decide)⟩
        simp only [Bool.false_eq_true, if_false]
        match l, h1 with
        | [], _ => rfl
        | [x], h => simp at h
        | _ :: _ :: _, _ => rfl
    · have PX : Pst w2 B pb tv L ok d s1.nx := by simpa using P2.out
      have hi2 := PX.at'
      have HM := hTyp (L.length - s1.nx.i) (by have := G1.out.1; simp only [M.St.nx]; omega) w2 ok d s1.nx (Nat.le_refl _) (fun g hg => hok g (Nat.le_trans K2.out.size hg)) (Nat.le_trans hB K2.out.size) PX
      clear P2 PX
      go_wp2_with fail
      refine HM.mono ?_
      clear HM
      rintro e w4 ⟨hk, o, hev, hpost⟩
      have K4 := hide (K2.out.trans hk)
      have O4 := hide (owns_kept O2.out hk (by decide))
      have E4 := hide hev
      clear hk hev K2 O2
      cases o with
      | fail er p =>
        obtain ⟨rfl, he⟩ := hpost
        exact ⟨rfl, post_fail K4.out (V1.out _ (M.Ev.eq (M.Ev.bad E4.out) (fun r => by simp; rfl))) he⟩
      | ok s4 y =>
        obtain ⟨rfl, hp, hg⟩ := hpost
        have P4 := hide hp
        have GX := hide (show Grow s ⟨s4.i, s4.N, s4.T ++ [⟨9, [], l, y⟩]⟩ ∧ s4.T.length + 1 ≤ s4.i by
            have h2 := G1.out
            have h3 := hg
            have h4 := HF.out
            simp only [Grow, M.St.nx, List.length_append, List.length_cons, List.length_nil] at h2 h3 ⊢
            omega)
        have HA := addType_any hL hp ⟨9, [], l, y⟩ none ad 0 0 l.length c ⟨_, _, rfl, World.ownsRow_nil _ _ _ _, owns_base O4.out (Nat.zero_le _), by simp [Value.ownBlock], fun g hg => hok g (owns_tag O4.out g hg).1⟩ GX.out.2 (Nat.le_trans hB K4.out.size) (fun g hg => hok g (Nat.le_trans K4.out.size hg))
        have EV := hide (V1.out _ (M.Ev.eq (M.Ev.bind E4.out (k := fun _ s x => M.addT s ⟨9, [], l, x⟩) M.Ev.pure) (fun r => by simp)))
        clear hp hg
        go_wp2_with fail
        refine HA.mono ?_
        clear HA
        rintro e w5 ⟨rfl, hk, hp⟩
        have K5 := hide (K4.out.trans hk)
        have P5 := hide hp
        clear hk hp
        go_wp2_with fail
        go_ret
        exact post_ok K5.out EV.out P5.out GX.out.1
end
end Go.Proofs.YtjojlcfoiknlhaaGreatDoor

namespace Go.Proofs.YtjojlcfoiknlhaaGreatDoor
open Go.RowKit

section
variable {w : World} {B pb : Nat} {tv : Value} {L : List M.Tk} {ok : Nat → Prop} {d : Nat} {s : M.St}

theorem Tryz.infoStr : (Tryz.prog.info? 9).map (fun i => (i.zero, i.size, i.bytes)) = some (some (.string ⟨#[]⟩), 1, 16) := by kernel_rfl

def svals (ms : List (List UInt8)) : List Value := ms.map fun m => .string ⟨m.toArray⟩
theorem svals_snoc (ms : List (List UInt8)) (m : List UInt8) : svals (ms ++ [m]) = svals ms ++ [.string ⟨m.toArray⟩] := by simp [svals]

/-- Names that lie in a variable of the call's own. -/
def Nms (w : World) (lo nb : Nat) (names : List (List UInt8)) : Prop :=
  lo ≤ nb ∧ ∃ ad c, w.heap[nb]? = some (.cells #[.slice ad names.length c] 85 (0, 0)) ∧ w.ownsRow lo 9 1 (.slice ad names.length c) names.length (svals names)

def tagS (w : World) (k : Nat) : Prop := ∃ cs e fz, w.heap[k]? = some (.cells cs e fz) ∧ (e = 85 ∨ e = 9)
def KeptS (B : Nat) (ok : Nat → Prop) (lo : Nat) (w w' : World) : Prop := Chg (fun k => (B ≤ k ∧ tag w k ∧ ok k) ∨ (lo ≤ k ∧ tagS w k)) w w'

theorem Nms.kept {ok : Nat → Prop} {w w' : World} {lo nb : Nat} {names : List (List UInt8)} (h : Nms w lo nb names) (hk : Kept B ok w w') : Nms w' lo nb names := by
  obtain ⟨h1, ad, c, h2, h3⟩ := h
  refine ⟨h1, ad, c, ?_, owns_kept h3 hk (by decide)⟩
  rw [hk.block nb (Array.getElem?_eq_some_iff.1 h2).1 (fun x => ?_)]
  · exact h2
  · obtain ⟨cs, e, fz, hh, r⟩ := x.2.1
    rw [h2] at hh
    simp only [Option.some.injEq, Obj.cells.injEq] at hh
    obtain ⟨_, rfl, _⟩ := hh
    rcases r with r | r | r <;> exact absurd r (by decide)

theorem keepS {w a b : World} {nb : Nat} {v : Value} (h1 : a.cell? ⟨nb, 0, none⟩ = some v) (h2 : Hid (Chg (fun _ => False) w a)) (hc : Chg (fun _ => False) a b) : b.cell? ⟨nb, 0, none⟩ = some v ∧ Hid (Chg (fun _ => False) w b) := by
  refine ⟨?_, h2.out.trans hc (fun _ _ x => x)⟩
  rw [World.cell?_of_block (hc.block nb (World.block_lt_of_cell? a _ h1) (fun x => x))]
  exact h1

theorem svals_at {w : World} {g : Nat} {ms : List (List UInt8)} (hg : g < w.heap.size) (hc : ∀ j u, (svals ms)[j]? = some u → w.cell? ⟨g, j, none⟩ = some u) : Strs w g ms :=
  ⟨hg, fun j hj => hc j _ (by simp [svals, hj])⟩

set_option maxHeartbeats 400000 in
theorem index_none (w : World) (ad : Option Addr) (c : Nat) (t : List UInt8) :
    Calls Tryz.prog 133 #[.slice ad 0 c, .string ⟨t.toArray⟩] w fun e w' => e = .returned (.int .i64 (-1)) ∧ w' = w := by
  go_enter Tryz.func133, Tryz.ntmps133
  go_wp2
  go_loop [8] (fun i => i = .int .i64 0) (fun _ => 0)
  case atStart => rfl
  case round =>
    subst hrel
    go_wp2
    go_ret
    exact ⟨rfl, rfl⟩

set_option maxHeartbeats 400000 in
theorem contains_none (w : World) (ad : Option Addr) (c : Nat) (t : List UInt8) :
    Calls Tryz.prog 101 #[.slice ad 0 c, .string ⟨t.toArray⟩] w fun e w' => e = .returned (.bool false) ∧ w' = w := by
  have H := index_none w ad c t
  go_enter Tryz.func101, Tryz.ntmps101
  go_wp2_with fail
  refine H.mono ?_
  clear H
  rintro e w1 ⟨rfl, rfl⟩
  go_wp2
  go_ret
  exact ⟨rfl, rfl⟩

/-- Contains, at texts that are owned. -/
theorem contains_own (w : World) (lo : Nat) (ad : Option Addr) (c : Nat) (ms : List (List UInt8)) (t : List UInt8) (h : w.ownsRow lo 9 1 (.slice ad ms.length c) ms.length (svals ms)) (hm : ms.length ≤ 4000) :
    Calls Tryz.prog 101 #[.slice ad ms.length c, .string ⟨t.toArray⟩] w fun e w' => e = .returned (.bool (M.has ms t)) ∧ w' = w := by
  by_cases hz : 0 < ms.length
  · obtain ⟨g, rfl, _, hg, _, _, hcell⟩ := owns_cell h hz
    exact contains_any w g c ms t (svals_at hg hcell) hm
  · have : ms = [] := List.eq_nil_of_length_eq_zero (by omega)
    subst this
    exact contains_none w ad c t

theorem Nms.push {w w1 w2 : World} {lo nb n c g cap : Nat} {ad : Option Addr} {xs : List Value} {x : Value} (h : Pst w B pb tv L ok d s) (hnb : lo ≤ nb) (hb : w.heap[nb]? = some (.cells #[.slice ad n c] 85 (0, 0))) (ho : w.ownsRow lo 9 1 (.slice ad n c) n xs) (h1 : Chg (fun _ => False) w w1)
    (hg : w1.grownBy w2 (Value.ownBlock (.slice ad n c))) (ho2 : w2.ownsRow lo 9 1 (.slice (some ⟨g, 0, none⟩) (n + 1) cap) (n + 1) (xs ++ [x])) :
    KeptS B ok lo w (w2.setCell ⟨nb, 0, none⟩ (.slice (some ⟨g, 0, none⟩) (n + 1) cap)) ∧ Pst (w2.setCell ⟨nb, 0, none⟩ (.slice (some ⟨g, 0, none⟩) (n + 1) cap)) B pb tv L ok d s ∧
      (w2.setCell ⟨nb, 0, none⟩ (.slice (some ⟨g, 0, none⟩) (n + 1) cap)).heap[nb]? = some (.cells #[.slice (some ⟨g, 0, none⟩) (n + 1) cap] 85 (0, 0)) ∧
      (w2.setCell ⟨nb, 0, none⟩ (.slice (some ⟨g, 0, none⟩) (n + 1) cap)).ownsRow lo 9 1 (.slice (some ⟨g, 0, none⟩) (n + 1) cap) (n + 1) (xs ++ [x]) := by
  have hlt := (Array.getElem?_eq_some_iff.1 hb).1
  have hb1 : w1.heap[nb]? = w.heap[nb]? := h1.block nb hlt (fun x => x)
  have ho1 : w1.ownsRow lo 9 1 (.slice ad n c) n xs := owns_chg ho h1 (fun _ _ x => x)
  have hne : some nb ≠ Value.ownBlock (.slice ad n c) := by
    intro hx
    obtain ⟨_, cur, hh⟩ := owns_tag ho1 nb hx.symm
    rw [hb1, hb] at hh
    simp only [Option.some.injEq, Obj.cells.injEq] at hh
    exact absurd hh.2.1 (by decide)
  have hb2 : w2.heap[nb]? = some (.cells #[.slice ad n c] 85 (0, 0)) := by rw [hg.block nb (Nat.lt_of_lt_of_le hlt h1.size) hne, hb1, hb]
  have hc3 : Chg (fun k => some k = Value.ownBlock (.slice ad n c) ∨ k = nb) w (w2.setCell ⟨nb, 0, none⟩ (.slice (some ⟨g, 0, none⟩) (n + 1) cap)) :=
    (((h1.mono fun _ _ x => x.elim).trans (Chg.grown hg) (fun _ _ x => x)).mono fun _ _ x => .inl x).trans (Chg.set _ _ _) (fun _ _ x => .inr x)
  have htag : ∀ k, (some k = Value.ownBlock (.slice ad n c) ∨ k = nb) → lo ≤ k ∧ ∃ cs e, w.heap[k]? = some (.cells cs e (0, 0)) ∧ (e = 85 ∨ e = 9) := by
    rintro k (hx | rfl)
    · obtain ⟨h2, cur, hh⟩ := owns_tag ho k hx.symm
      exact ⟨h2, cur, _, hh, .inr rfl⟩
    · exact ⟨hnb, _, _, hb, .inl rfl⟩
  refine ⟨hc3.mono fun k _ hx => ?_, h.chg hc3 (fun k cur e hk hx => ?_) (fun _ x _ => x), by rw [heap_setCell_same w2 nb 0 _ _ _ hb2]; rfl, owns_chg ho2 (Chg.set w2 ⟨nb, 0, none⟩ _) (fun k hk hx => ?_)⟩
  · obtain ⟨h2, cs, e, hh, r⟩ := htag k hx
    exact .inr ⟨h2, cs, e, _, hh, r⟩
  · obtain ⟨h2, cs, e', hh, r⟩ := htag k hx
    rw [hk] at hh
    simp only [Option.some.injEq, Obj.cells.injEq] at hh
    obtain ⟨_, rfl, _⟩ := hh
    refine ⟨by rcases r with rfl | rfl <;> decide, by rcases r with rfl | rfl <;> decide, by rcases r with rfl | rfl <;> decide, fun ht => ?_, fun hx2 => ?_⟩
    · obtain ⟨_, cur3, hh3⟩ := owns_tag h.toks k ht
      rw [hk] at hh3
      simp only [Option.some.injEq, Obj.cells.injEq] at hh3
      obtain ⟨_, rfl, _⟩ := hh3
      rcases r with r | r <;> exact absurd r (by decide)
    · rcases r with rfl | rfl <;> rcases hx2 with hx2 | hx2 <;> exact absurd hx2 (by decide)
  · have hx' : k = nb := hx
    subst hx'
    obtain ⟨_, cur2, hh2⟩ := owns_tag ho2 k hk
    rw [hb2] at hh2
    simp only [Option.some.injEq, Obj.cells.injEq] at hh2
    exact absurd hh2.2.1 (by decide)

theorem Kept.toS {lo : Nat} {w w' : World} (h : Kept B ok w w') : KeptS B ok lo w w' := Chg.mono h fun _ _ x => .inl x
theorem KeptS.after {lo : Nat} {a b c : World} (h : Kept B ok a b) (k : KeptS B ok lo b c) : KeptS B ok lo a c := by
  refine ⟨k.os.trans h.os, k.tape.trans h.tape, k.output.trans h.output, Nat.le_trans h.size k.size, fun i hi hn => ?_⟩
  have h1 := h.block i hi (fun x => hn (.inl x))
  refine (k.block i (Nat.lt_of_lt_of_le hi h.size) (fun x => hn ?_)).trans h1
  rcases x with ⟨x1, ⟨cs, e, fz, hh, r⟩, x3⟩ | ⟨x1, cs, e, fz, hh, r⟩
  · exact .inl ⟨x1, ⟨cs, e, fz, by rw [← h1]; exact hh, r⟩, x3⟩
  · exact .inr ⟨x1, cs, e, fz, by rw [← h1]; exact hh, r⟩

set_option maxRecDepth 100000 in
set_option maxHeartbeats 3000000 in
theorem newName_any (hL : LOk L) (h : Pst w B pb tv L ok d s) (lo nb : Nat) (names : List (List UInt8)) (hn : Nms w lo nb names) (hl : names.length ≤ 1001) (hlo : lo ≤ w.heap.size) :
    Calls Tryz.prog 164 #[.pointer (some ⟨pb, 0, none⟩), .pointer (some ⟨nb, 0, none⟩)] w fun e w' => KeptS B ok lo w w' ∧
      match M.newName L s names with
      | some (.ok s' nm) => e = .returned (.string ⟨nm.toArray⟩) ∧ Nms w' lo nb (names ++ [nm]) ∧ Pst w' B pb tv L ok d s'
      | some (.fail er p) => e = gu er p
      | none => False := by
  have H := fun w1 (h1 : Pst w1 B pb tv L ok d s) => token_any hL h1
  have HF := fun w1 (h1 : Pst w1 B pb tv L ok d s) => fail_any hL h1 6
  have HN := fun w1 (h1 : Pst w1 B pb tv L ok d s) => pname_any hL h1
  have HP := hide h
  have HM := hide hn
  obtain ⟨hnb, ad, c, hb, ho⟩ := hn
  have hlt := (Array.getElem?_eq_some_iff.1 hb).1
  have k0 : w.cell? ⟨nb, 0, none⟩ = some (.slice ad names.length c) := by rw [cell_of_row w nb 0 _ _ _ hb]; rfl
  have k1 : Hid (Chg (fun _ => False) w w.drew) := Chg.drewN (fun _ => False) w 1
  have hf0 := tok_kind
  have hf1 := tok_text
  unfold M.newName M.flt
  clear h
  generalize M.tk L s.i = tk at *
  obtain ⟨kd, tx, pl⟩ := tk
  simp only [tkv] at H HF HN ⊢
  by_cases hk : kd = 1
  · subst hk
    have HC : Hid (∀ w1 : World, Chg (fun _ => False) w w1 → Calls Tryz.prog 101 #[.slice ad names.length c, .string ⟨tx.toArray⟩] w1 fun e w' => e = .returned (.bool (M.has names tx)) ∧ w' = w1) :=
      fun w1 h1 => contains_own w1 lo ad c names tx (owns_chg ho h1 (fun _ _ x => x)) (by omega)
    generalize M.has names tx = r at *
    go_enter Tryz.func164, Tryz.ntmps164
    go_wp2_with fail
    go_region_held3 (fun w' => w'.cell? ⟨nb, 0, none⟩ = some (.slice ad names.length c) ∧ Hid (Chg (fun _ => False) w w'))
      (first
        | exact ⟨k0, k1⟩
        | exact keepS (by assumption) (by assumption) hc
        | (go_split_ands; exact keepS (by assumption) (by assumption) hc)
        | (go_split_ands; exact ⟨by assumption, by assumption⟩))
      (first
        | ((go_at_call 89; go_split_ands; refine (H _ (HP.out.still (Hid.out (by assumption)))).mono ?_; rintro e w' ⟨rfl, hc⟩))
        | ((go_at_call 101; go_split_ands; refine (HC.out _ (Hid.out (by assumption))).mono ?_; rintro e w' ⟨rfl, rfl⟩)))
    have C1 : Hid (Chg (fun _ => False) w w') := by assumption
    have P1 := hide (HP.out.still C1.out)
    cases r
    · go_wp2_with fail
      refine (HN _ P1.out).mono ?_
      rintro e w2 ⟨hk2, hr⟩
      rcases hr with ⟨_, rfl, hp2⟩ | ⟨hx, _⟩
      · have K2 := hide ((still_kept (B := B) (ok := ok) C1.out).trans hk2)
        have N2 := hide (HM.out.kept K2.out)
        have P2 := hide hp2
        obtain ⟨_, ad2, c2, hb2, ho2⟩ := N2.out
        have hlt2 := (Array.getElem?_eq_some_iff.1 hb2).1
        have q0 : w2.cell? ⟨nb, 0, none⟩ = some (.slice ad2 names.length c2) := by rw [cell_of_row w2 nb 0 _ _ _ hb2]; rfl
        have fz : w2.frozen? ⟨nb, 0, none⟩ = false := frozen_of_row w2 nb 0 _ _ hb2
        have hne : Value.ownBlock (.slice ad2 names.length c2) ≠ some nb := by
          intro hx
          obtain ⟨_, cur, hh⟩ := owns_tag ho2 nb hx
          rw [hb2] at hh
          simp only [Option.some.injEq, Obj.cells.injEq] at hh
          exact absurd hh.2.1 (by decide)
        have HX := hide (fun (w3 w4 : World) (g cap : Nat) => Nms.push (w1 := w3) (w2 := w4) (g := g) (cap := cap) (x := .string ⟨tx.toArray⟩) hp2 hnb hb2 ho2)
        have O2 := hide ho2
        have hlo2 : lo ≤ w2.heap.size := Nat.le_trans hlo K2.out.size
        obtain ⟨i0, hi, hz0, hz1, hz2⟩ := info_parts Tryz.infoStr
        clear hk2 hp2 hb2 ho2 HN HF H HC hb ho k0 k1
        have hw3 := hide (O2.out.alloc (.cells #[.string ⟨tx.toArray⟩] 9))
        go_wp2_with (at_builtin; refine wpList_append_lies _ rfl _ _ _ rfl lo 9 i0 _ 1 16 Tryz.underlying85 hi hz0 hz1 hz2 rfl (by decide) (.slice ad2 names.length c2) names.length (svals names) rfl hw3.out ⟨w2.heap.size, 0, none⟩ 1 1 [.string ⟨tx.toArray⟩] rfl rfl ?c1 ?c2 ?c0 ?c3 ?c4 ?c5 (w2.heap.size + 1) (by simp) ?_)
        case c1 => exact cell_one_new _ _ _
        case c2 => intro u hu; simp at hu; rcases hu with rfl; rfl
        case c0 => omega
        case c3 => simp only [maxLen]; omega
        case c4 => omega
        case c5 => simp; omega
        · intro gg cap w3 hown hgrow hat hlt3
          have z4 : w3.cell? ⟨nb, 0, none⟩ = some (.slice ad2 names.length c2) := by rw [hgrow.cell_far _ (by simp; omega) (Ne.symm hne)]; exact cell_old hlt2 q0
          have y4 : w3.frozen? ⟨nb, 0, none⟩ = false := by rw [hgrow.frozen_far _ (by simp; omega) (Ne.symm hne)]; exact frz_old hlt2 fz
          have HQ := hide (HX.out _ _ gg cap (Chg.alloc (fun _ => False) _ _) hgrow hown)
          clear hgrow hown HX hw3 O2 hne
          go_wp2_with fail
          go_ret
          refine ⟨KeptS.after K2.out HQ.out.1, rfl, ⟨hnb, some ⟨gg, 0, none⟩, cap, ?_, ?_⟩, HQ.out.2.1⟩
          · have := HQ.out.2.2.1
            simpa using this
          · have := HQ.out.2.2.2
            rw [svals_snoc]
            simpa using this
      · exact absurd rfl hx
    · go_wp2_with fail
      refine (HF _ P1.out).mono ?_
      rintro e w2 ⟨rfl, hc2⟩
      exact ⟨rfl, (still_kept (B := B) (ok := ok) (C1.out.trans hc2 (fun _ _ x => x))).toS, rfl⟩
  · have hk' : (kd == 1) = false := by simp [hk]
    clear hb ho
    go_enter Tryz.func164, Tryz.ntmps164
    go_wp2_with fail
    refine wp_region_held_drew (S := fun w' => Hid (Chg (fun _ => False) w w')) (by kernel_rfl) k1 (fun hHeld => ?_)
    refine wpAnyH_take (i := 0) (oi := Oper.mk (some 6) _ _ _ _ _) (v := .pointer (some ⟨pb, 0, none⟩)) rfl (by kernel_rfl) (by kernel_rfl) (by kernel_rfl) (fun _ _ _ h => h) (Or.inl ⟨by rfl, fun w _ => by go_simp⟩) (by assumption) ?_
    simp only [Act.put, List.setIfInBounds_toArray, List.set_cons_zero, List.set_cons_succ]
    refine wpAnyH_ready (rs := [1]) (by kernel_rfl) (by simp) ?_
    refine AllReadyH.cons (o := Oper.mk (some 7) _ _ _ _ _) rfl (fun K hK => ?_) AllReadyH.nil
    go_simp
    refine (H _ (HP.out.still k1.out)).mono ?_
    rintro e w' ⟨rfl, hc⟩
    have C1 := hide (k1.out.trans hc (fun _ _ x => x))
    refine hK _ _ C1 (fun _ => ?_)
    clear hK K hHeld
    refine wpAnyH_take (i := 2) (oi := Oper.mk (some 8) _ _ _ _ _) (v := .int .i64 kd) rfl (by kernel_rfl) (by kernel_rfl) (by kernel_rfl) (fun _ _ _ h => h) (Or.inl ⟨by rfl, fun w _ => by go_simp⟩) (by assumption) ?_
    simp only [Act.put, List.setIfInBounds_toArray, List.set_cons_zero, List.set_cons_succ]
    refine wpAnyH_take (i := 3) (oi := Oper.mk (some 9) _ _ _ _ _) (v := .bool false) rfl (by kernel_rfl) (by kernel_rfl) (by kernel_rfl) (fun _ _ _ h => h) (Or.inl ⟨by rfl, fun w _ => by go_simp⟩) (by assumption) ?_
    simp only [Act.put, List.setIfInBounds_toArray, List.set_cons_zero, List.set_cons_succ]
    refine wpAnyH_take (i := 4) (oi := Oper.mk (some 10) _ _ _ _ _) (v := .bool false) rfl (by kernel_rfl) (by kernel_rfl) (by kernel_rfl) (fun _ _ _ h => h) (Or.inl ⟨by rfl, fun w _ => by go_simp⟩) (by assumption) ?_
    simp only [Act.put, List.setIfInBounds_toArray, List.set_cons_zero, List.set_cons_succ]
    refine wpAnyH_take (i := 5) (oi := Oper.mk (some 11) _ _ _ _ _) (v := undef) rfl (by kernel_rfl) (by kernel_rfl) (by kernel_rfl) (fun _ _ _ h => h) (Or.inr ⟨by rfl, rfl⟩) (by assumption) ?_
    simp only [Act.put, List.setIfInBounds_toArray, List.set_cons_zero, List.set_cons_succ]
    refine wpAnyH_take (i := 6) (oi := Oper.mk (some 12) _ _ _ _ _) (v := undef) rfl (by kernel_rfl) (by kernel_rfl) (by kernel_rfl) (fun _ _ _ h => h) (Or.inr ⟨by rfl, rfl⟩) (by assumption) ?_
    simp only [Act.put, List.setIfInBounds_toArray, List.set_cons_zero, List.set_cons_succ]
    refine wpAnyH_take (i := 7) (oi := Oper.mk (some 13) _ _ _ _ _) (v := undef) rfl (by kernel_rfl) (by kernel_rfl) (by kernel_rfl) (fun _ _ _ h => h) (Or.inr ⟨by rfl, rfl⟩) (by assumption) ?_
    simp only [Act.put, List.setIfInBounds_toArray, List.set_cons_zero, List.set_cons_succ]
    refine wpAnyH_take (i := 8) (oi := Oper.mk (some 14) _ _ _ _ _) (v := undef) rfl (by kernel_rfl) (by kernel_rfl) (by kernel_rfl) (fun _ _ _ h => h) (Or.inr ⟨by rfl, rfl⟩) (by assumption) ?_
    simp only [Act.put, List.setIfInBounds_toArray, List.set_cons_zero, List.set_cons_succ]
    refine wpAnyH_take (i := 9) (oi := Oper.mk (some 15) _ _ _ _ _) (v := undef) rfl (by kernel_rfl) (by kernel_rfl) (by kernel_rfl) (fun _ _ _ h => h) (Or.inr ⟨by rfl, rfl⟩) (by assumption) ?_
    simp only [Act.put, List.setIfInBounds_toArray, List.set_cons_zero, List.set_cons_succ]
    refine wpAnyH_take (i := 10) (oi := Oper.mk (some 16) _ _ _ _ _) (v := undef) rfl (by kernel_rfl) (by kernel_rfl) (by kernel_rfl) (fun _ _ _ h => h) (Or.inr ⟨by rfl, rfl⟩) (by assumption) ?_
    simp only [Act.put, List.setIfInBounds_toArray, List.set_cons_zero, List.set_cons_succ]
    refine wpAnyH_take (i := 11) (oi := Oper.mk (some 17) _ _ _ _ _) (v := undef) rfl (by kernel_rfl) (by kernel_rfl) (by kernel_rfl) (fun _ _ _ h => h) (Or.inr ⟨by rfl, rfl⟩) (by assumption) ?_
    simp only [Act.put, List.setIfInBounds_toArray, List.set_cons_zero, List.set_cons_succ]
    refine wpAnyH_take (i := 12) (oi := Oper.mk (some 18) _ _ _ _ _) (v := .bool false) rfl (by kernel_rfl) (by kernel_rfl) (by kernel_rfl) (fun _ _ _ h => h) (Or.inl ⟨by rfl, fun w _ => by go_simp⟩) (by assumption) ?_
    simp only [Act.put, List.setIfInBounds_toArray, List.set_cons_zero, List.set_cons_succ]
    refine wpAnyH_done (by kernel_rfl) ?_ _
    have P1 := hide (HP.out.still C1.out)
    go_wp2_with fail
    refine (HN _ P1.out).mono ?_
    rintro e w2 ⟨hk2, hr⟩
    rcases hr with ⟨hx, _⟩ | ⟨_, rfl⟩
    · exact absurd hx hk
    · have K2 := (still_kept (B := B) (ok := ok) C1.out).trans hk2
      exact ⟨rfl, K2.toS, by simp [hk]; rfl⟩
end
end Go.Proofs.YtjojlcfoiknlhaaGreatDoor

namespace Go.Proofs.YtjojlcfoiknlhaaGreatDoor
open Go.RowKit

section
variable {w : World} {B pb : Nat} {tv : Value} {L : List M.Tk} {ok : Nat → Prop} {d : Nat} {s : M.St}

theorem Tryz.infoField : (Tryz.prog.info? 71).map (fun i => (i.zero, i.size, i.bytes)) = some (some (.agg #[.string ⟨#[]⟩, .int .i64 0]), 2, 24) := by kernel_rfl

theorem Kept.transS {a b c : World} (h : Kept B ok a b) (k : KeptS B ok a.heap.size b c) : Kept B ok a c := by
  refine ⟨k.os.trans h.os, k.tape.trans h.tape, k.output.trans h.output, Nat.le_trans h.size k.size, fun i hi hn => ?_⟩
  have h1 := h.block i hi hn
  refine (k.block i (Nat.lt_of_lt_of_le hi h.size) (fun x => ?_)).trans h1
  rcases x with ⟨x1, ⟨cs, e, fz, hh, r⟩, x3⟩ | ⟨x1, _⟩
  · exact hn ⟨x1, ⟨cs, e, fz, by rw [← h1]; exact hh, r⟩, x3⟩
  · omega

theorem owns_keptS {w w' : World} {lo base : Nat} {e : TypeId} {size : Nat} {v : Value} {n : Nat} {xs : List Value} (h : w.ownsRow base e size v n xs) (hc : KeptS B ok lo w w')
    (he : e ≠ 53 ∧ e ≠ 63 ∧ e ≠ 66 ∧ e ≠ 85 ∧ e ≠ 9) : w'.ownsRow base e size v n xs := by
  refine owns_chg h hc fun g hg hx => ?_
  obtain ⟨_, cur, hh⟩ := owns_tag h g hg
  have key : ∀ cs e' fz, w.heap[g]? = some (.cells cs e' fz) → e' = e := by
    intro cs e' fz hh'
    rw [hh] at hh'
    simp only [Option.some.injEq, Obj.cells.injEq] at hh'
    exact hh'.2.1.symm
  rcases hx with ⟨_, ⟨cs, e', fz, hh', r⟩, _⟩ | ⟨_, cs, e', fz, hh', r⟩
  · have := key _ _ _ hh'
    subst this
    rcases r with r | r | r
    · exact he.1 r
    · exact he.2.1 r
    · exact he.2.2.1 r
  · have := key _ _ _ hh'
    subst this
    rcases r with r | r
    · exact he.2.2.2.1 r
    · exact he.2.2.2.2 r

theorem Nms.chg {S : Nat → Prop} {w w' : World} {lo nb : Nat} {names : List (List UInt8)} (h : Nms w lo nb names) (hc : Chg S w w') (hs : ∀ k cs e, w.heap[k]? = some (.cells cs e (0, 0)) → S k → e ≠ 85 ∧ e ≠ 9) : Nms w' lo nb names := by
  obtain ⟨h1, ad, c, h2, h3⟩ := h
  refine ⟨h1, ad, c, ?_, owns_chg h3 hc (fun g hg hx => ?_)⟩
  · rw [hc.block nb (Array.getElem?_eq_some_iff.1 h2).1 (fun x => (hs nb _ _ h2 x).1 rfl)]
    exact h2
  · obtain ⟨_, cur, hh⟩ := owns_tag h3 g hg
    exact (hs g cur _ hh hx).2 rfl

theorem cell_two_new (w : World) (x y : Value) (t : TypeId) : ∀ j u, [x, y][j]? = some u → (w.alloc (.cells #[x, y] t)).cell? ((⟨w.heap.size, 0, none⟩ : Addr).add j) = some u := by
  intro j u hj
  have hadd : (⟨w.heap.size, 0, none⟩ : Addr).add j = ⟨w.heap.size, j, none⟩ := by unfold Addr.add; split <;> simp_all
  rw [hadd, World.cell?_alloc_new]
  rw [← hj]; simp

theorem newName_ok {names : List (List UInt8)} {s1 : M.St} {nm : List UInt8} (h : M.newName L s names = some (.ok s1 nm)) : s1 = s.nx := by
  unfold M.newName M.flt at h
  split at h
  · split at h
    · cases h
    · simp only [Option.some.injEq, M.Out.ok.injEq] at h
      exact h.1.symm
  · cases h
theorem newName_fail {names : List (List UInt8)} {er p : Int} (h : M.newName L s names = some (.fail er p)) : er ≠ 0 := by
  unfold M.newName M.flt at h
  split at h
  · split at h
    · simp only [Option.some.injEq, M.Out.fail.injEq] at h
      omega
    · cases h
  · simp only [Option.some.injEq, M.Out.fail.injEq] at h
    omega

theorem ev_obj_end {flds : List (List UInt8 × Int)} (hq : M.isM L s.i [[125]] = true) : M.Ev L (fun r => r.objL d s flds) (.ok ⟨s.nx.i, s.nx.N, s.nx.T ++ [⟨7, flds, [], 0⟩]⟩ s.nx.T.length) :=
  M.Ev.step (M.Ev.pure.eq fun r => by show (if M.isM L s.i [[125]] then _ else _) = _; rw [hq]; rfl)
theorem ev_obj_go {flds : List (List UInt8 × Int)} {o : M.Out Int} (hq : M.isM L s.i [[125]] = false)
    (h : M.Ev L (fun r => M.obind (M.newName L s (flds.map (·.1))) fun s nm => M.obind (M.need L s [58]) fun s _ => M.obind (r.typ d s) fun s x => M.obind (M.need L s [59]) fun s _ => r.objL d s (flds ++ [(nm, x)])) o) : M.Ev L (fun r => r.objL d s flds) o :=
  M.Ev.step (h.eq fun r => by show (if M.isM L s.i [[125]] then _ else _) = _; rw [hq]; rfl)
theorem need_yes {mk : List UInt8} (h : M.isM L s.i [mk] = true) : M.Ev L (fun _ => M.need L s mk) (.ok s.nx ()) := M.Ev.pure.eq fun r => by rw [M.need, h]; rfl
theorem need_no {mk : List UInt8} (h : M.isM L s.i [mk] = false) : M.Ev L (fun _ => M.need L s mk) (.fail 1 ((M.tk L s.i).at' : Int)) := M.Ev.pure.eq fun r => by rw [M.need, h]; rfl

set_option maxHeartbeats 2000000 in
theorem objectType_any (hL : LOk L) (m : Nat) (hTyp : ∀ m', m' ≤ m → Con B pb tv L 32 (fun d s r => r.typ d s) m') : Con B pb tv L 134 (fun d s r => r.objL d s []) m := by
  intro w ok d s hm hok hB h
  have hs := hL.short
  have hi := h.at'
  have HP := hide h
  clear h
  go_enter Tryz.func134, Tryz.ntmps134
  go_wp2_with fail
  go_loopw [4] (fun v wr => ∃ (flds : List (List UInt8 × Int)) (s' : M.St) (ad : Option Addr) (c : Nat), v = .slice ad flds.length c ∧ flds.length ≤ s'.i ∧ Hid (Nms wr w.heap.size w.heap.size (flds.map (·.1))) ∧ Hid (Kept B ok w wr) ∧ Hid (GrowE s s') ∧ Hid (wr.ownsRow w.heap.size 71 2 (.slice ad flds.length c) flds.length (frows flds)) ∧
      Hid (Pst wr B pb tv L (fun g => ok g ∧ some g ≠ Value.ownBlock (.slice ad flds.length c)) d s') ∧ Hid (∀ o, M.Ev L (fun r => r.objL d s' flds) o → M.Ev L (fun r => r.objL d s []) o)) (fun _ wr => L.length - nxt wr pb)
  case atStart =>
    refine ⟨[], s, none, 0, rfl, by simp, ⟨Nat.le_refl _, none, 0, heap_alloc_new w _, World.ownsRow_nil _ _ _ _⟩, (Kept.refl B ok w).alloc _, ⟨Nat.le_refl _, by omega, by omega, by omega⟩, World.ownsRow_nil _ _ _ _, (HP.out.alloc _).mono (fun g hg _ => ⟨hg, by simp [Value.ownBlock]⟩), fun _ h => h⟩
  case round =>
    obtain ⟨flds, s', ad, c, rfl, hacc, NR, KR, GR, OR, PR, VR⟩ := hrel
    have HT := took_any hL PR.out [125]
    have hi' := PR.out.at'
    have hnx := PR.out.nxt
    have hj : s.i ≤ s'.i := GR.out.1
    have hfw := PR.out.few
    generalize hq : M.isM L s'.i [[125]] = q at *
    have Q1 := hide hq
    clear hq
    go_wp2_with fail
    refine HT.mono ?_
    clear HT
    rintro e w3 ⟨rfl, hk, hp⟩
    have K3 := hide (KR.out.trans (hk.mono fun _ h => h.1))
    have P3 := hide hp
    have O3 := hide (owns_kept OR.out hk (by decide))
    have N3 := hide (NR.out.kept hk)
    clear hk hp OR PR KR NR
    cases q
    · have PX : Pst w3 B pb tv L (fun g => ok g ∧ some g ≠ Value.ownBlock (.slice ad flds.length c)) d s' := by simpa using P3.out
      have HN := newName_any hL PX w.heap.size w.heap.size (flds.map (·.1)) N3.out (by simp; omega) K3.out.size
      clear P3 PX N3
      have VG := hide (fun o ho => VR.out o (ev_obj_go Q1.out ho))
      clear VR
      generalize hnn : M.newName L s' (flds.map (·.1)) = NN at *
      have N0 := hide hnn
      clear hnn
      go_wp2_with fail
      refine HN.mono ?_
      clear HN
      rintro e w4 ⟨hk, hr⟩
      have K4 := hide (K3.out.transS (Chg.mono hk fun _ _ x => x.imp (fun y => ⟨y.1, y.2.1, y.2.2.1⟩) id))
      have O4 := hide (owns_keptS O3.out hk (by decide))
      clear hk K3 O3
      rcases NN with _ | ⟨s1, nm⟩ | ⟨er, p⟩
      · exact hr.elim
      · obtain ⟨rfl, hnm, hp⟩ := hr
        have hs1 : s1 = s'.nx := newName_ok N0.out
        subst hs1
        have HN5 := need_any hL hp [58]
        have N4 := hide hnm
        clear hp hnm
        have V4 := hide (fun o ho => VG.out o (M.Ev.bind (s := s'.nx) (x := nm) M.Ev.pure ho))
        clear VG
        go_wp2_with fail
        refine HN5.mono ?_
        clear HN5
        rintro e w5 ⟨hk, hr⟩
        have K5 := hide (K4.out.trans (hk.mono fun _ h => h.1))
        have O5 := hide (owns_kept O4.out hk (by decide))
        have N5 := hide (N4.out.kept hk)
        clear hk K4 O4 N4
        rcases hr with ⟨hb, rfl, hp⟩ | ⟨hb, rfl⟩
        · have hi5 := hp.at'
          have HM := hTyp (L.length - s'.nx.nx.i) (by simp only [M.St.nx]; omega) w5 _ d s'.nx.nx (Nat.le_refl _) (fun g hg => ⟨hok g (Nat.le_trans K5.out.size hg), fun hx => by have := (O5.out.lt g hx.symm).2; omega⟩) (Nat.le_trans hB K5.out.size) hp
          have V5 := hide (fun o ho => V4.out o (M.Ev.bind (need_yes hb) ho))
          clear hp hb V4
          go_wp2_with fail
          refine HM.mono ?_
          clear HM
          rintro e w6 ⟨hk, o, hev, hpost⟩
          have K6 := hide (K5.out.trans (hk.mono fun _ h => h.1))
          have O6 := hide (owns_kept O5.out hk (by decide))
          have N6 := hide (N5.out.kept hk)
          have E6 := hide hev
          clear hk hev K5 O5 N5
          cases o with
          | fail er p =>
            obtain ⟨rfl, he⟩ := hpost
            exact ⟨rfl, post_fail K6.out (V5.out _ (M.Ev.bad E6.out)) he⟩
          | ok s6 y =>
            obtain ⟨rfl, hp, hg⟩ := hpost
            have HN7 := need_any hL hp [59]
            have G6 := hide hg
            have V6 := hide (fun o ho => V5.out o (M.Ev.bind E6.out ho))
            clear hp hg V5 E6
            go_wp2_with fail
            refine HN7.mono ?_
            clear HN7
            rintro e w7 ⟨hk, hr⟩
            have K7 := hide (K6.out.trans (hk.mono fun _ h => h.1))
            have O7 := hide (owns_kept O6.out hk (by decide))
            have N7 := hide (N6.out.kept hk)
            clear hk K6 O6 N6
            rcases hr with ⟨hb, rfl, hp⟩ | ⟨hb, rfl⟩
            · have P7 := hide hp
              have hi7 := hp.at'
              have V7 := hide (fun o ho => V6.out o (M.Ev.bind (need_yes hb) ho))
              clear hp hb V6
              have G7 := hide (show s'.i + 4 ≤ s6.nx.i ∧ s6.nx.N.length + s'.i ≤ s'.N.length + s6.nx.i ∧ s6.nx.T.length + s'.i ≤ s'.T.length + s6.nx.i ∧ s'.N.length ≤ s6.nx.N.length by
                have h2 := G6.out
                simp only [Grow, M.St.nx] at h2 ⊢
                omega)
              clear G6
              generalize s6.nx = s7 at *
              obtain ⟨i0, hi0, hz0, hz1, hz2⟩ := info_parts Tryz.infoField
              have hw3 := hide (O7.out.alloc (.cells #[.string ⟨nm.toArray⟩, .int .i64 y] 71))
              go_wp2_with (at_builtin; refine wpList_append_own_at _ rfl _ _ 64 rfl w.heap.size 71 i0 _ 2 24 Tryz.underlying64 hi0 hz0 hz1 hz2 rfl (by decide) _ _ _ rfl hw3.out ⟨w7.heap.size, 0, none⟩ 1 1 [.string ⟨nm.toArray⟩, .int .i64 y] rfl rfl ?c1 ?c2 ?c3 ?c4 ?c5 ?_)
              case c1 => exact cell_two_new _ _ _ _
              case c2 => intro u hu; simp at hu; rcases hu with rfl | rfl <;> rfl
              case c3 => simp only [maxLen]; omega
              case c4 => omega
              case c5 => have := K7.out.size; simp; omega
              · intro v' w8 hown2 hg2 _ hat
                obtain ⟨ad2, c2, hv2⟩ := owns_form hown2
                rw [hv2] at hown2 hat ⊢
                have PG := hide ((P7.out.alloc (.cells #[.string ⟨nm.toArray⟩, .int .i64 y] 71)).grown (v := .slice ad flds.length c) (v' := .slice ad2 (flds.length + 1) c2) (O7.out.alloc _) (.inr rfl) hg2 (by simpa using hat))
                have KG := hide ((K7.out.alloc (.cells #[.string ⟨nm.toArray⟩, .int .i64 y] 71)).grown (O7.out.alloc _) hg2)
                have NG : Hid (Nms w8 w.heap.size w.heap.size ((flds.map (·.1)) ++ [nm])) := by
                  refine (N7.out.chg (Chg.alloc (fun _ => False) _ (.cells #[.string ⟨nm.toArray⟩, .int .i64 y] 71)) (fun _ _ _ _ x => x.elim)).chg (Chg.grown hg2) (fun k cs e hh hx => ?_)
                  obtain ⟨_, cur, hh2⟩ := owns_tag (O7.out.alloc (.cells #[.string ⟨nm.toArray⟩, .int .i64 y] 71)) k hx.symm
                  rw [hh] at hh2
                  simp only [Option.some.injEq, Obj.cells.injEq] at hh2
                  obtain ⟨_, rfl, _⟩ := hh2
                  exact ⟨by decide, by decide⟩
                have OG := hide hown2
                clear hown2 hg2 hat hw3 P7 O7 K7 hv2 N7
                go_wp2_with fail
                go_roundw
                case rel =>
                  have h1 := GR.out
                  have h2 := G7.out
                  simp only [GrowE] at h1
                  refine ⟨flds ++ [(nm, y)], s7, ad2, c2, by simp, by simp; omega, by have := NG.out; show Nms _ _ _ _; simpa using this, KG.out, ⟨by omega, by omega, by omega, by omega⟩, ?_, ?_, V7.out⟩
                  · have := OG.out
                    show World.ownsRow _ _ _ _ _ _ _
                    rw [frows_snoc]
                    simpa [fcells] using this
                  · have := PG.out
                    show Pst _ _ _ _ _ _ _ _
                    simpa using this
                case measure =>
                  have h2 := G7.out
                  have h3 := PG.out.nxt
                  rw [h3, hnx]
                  omega
            · exact ⟨rfl, post_fail K7.out (V6.out _ (M.Ev.bad (need_no hb))) (by decide)⟩
        · exact ⟨rfl, post_fail K5.out (V4.out _ (M.Ev.bad (need_no hb))) (by decide)⟩
      · have he : er ≠ 0 := newName_fail N0.out
        obtain rfl := hr
        exact ⟨rfl, post_fail K4.out (VG.out _ (M.Ev.bad M.Ev.pure)) he⟩
    · have PX : Pst w3 B pb tv L (fun g => ok g ∧ some g ≠ Value.ownBlock (.slice ad flds.length c)) d s'.nx := by simpa using P3.out
      have PY := PX.mono (ok' := ok) (fun g hg _ => hg.1)
      have HA := addType_any hL PY ⟨7, flds, [], 0⟩ ad none flds.length c 0 0 ⟨_, _, rfl, owns_base O3.out (Nat.zero_le _), World.ownsRow_nil _ _ _ _, fun g hg => hok g (owns_tag O3.out g hg).1, by simp [Value.ownBlock]⟩ (by simp only [M.St.nx]; omega) (Nat.le_trans hB K3.out.size) (fun g hg => hok g (Nat.le_trans K3.out.size hg))
      have EV := hide (VR.out _ (ev_obj_end Q1.out))
      have GX := hide (show Grow s ⟨s'.nx.i, s'.nx.N, s'.nx.T ++ [⟨7, flds, [], 0⟩]⟩ by
        have h2 := GR.out
        simp only [Grow, GrowE, M.St.nx, List.length_append, List.length_cons, List.length_nil] at h2 ⊢
        omega)
      clear VR P3 PX PY O3 N3
      go_wp2_with fail
      refine HA.mono ?_
      clear HA
      rintro e w4 ⟨rfl, hk, hp⟩
      have K4 := hide (K3.out.trans hk)
      have P4 := hide hp
      clear hk hp
      go_wp2_with fail
      go_ret
      exact post_ok K4.out EV.out P4.out GX.out

/-- The type parser, closed: whatever the tokens. -/
theorem typ_con (hL : LOk L) : ∀ m, Con B pb tv L 32 (fun d s r => r.typ d s) m := by
  intro m
  induction m using Nat.strongRecOn with
  | _ m ih =>
    have hO : ∀ m', m' < m → Con B pb tv L 134 (fun d s r => r.objL d s []) m' := fun m' h => objectType_any hL m' (fun k hk => ih k (by omega))
    have hF : ∀ m', m' < m → Con B pb tv L 136 (fun d s r => r.fob d s) m' := fun m' h => fob_any hL m' (fun k hk => ih k (by omega))
    have hM : ∀ m', m' ≤ m → Con B pb tv L 102 (fun d s r => r.member d s) m' := fun m' h => member_any hL m' (fun k hk => ih k (by omega)) (fun k hk => hO k (by omega)) (fun k hk => hF k (by omega))
    exact typ_any hL m (union_any hL m hM)
end
end Go.Proofs.YtjojlcfoiknlhaaGreatDoor
