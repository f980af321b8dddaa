/-
  The contracts of list, over typ, and of functionOrBrackets.
-/
import Derived.Test.YtkilicjjaljghaaGreatUni
namespace Go.Proofs.YtkilicjjaljghaaGreat
open Go.RowKit

section
variable {w : World} {B pb : Nat} {tv : Value} {L : List M.Tk} {ok : Nat → Prop} {d : Nat} {s : M.St}

theorem ev_list_end {p : M.Part} {E : List UInt8} {nm : List (List UInt8)} {acc : List Int} (hq : M.isM L s.i [E] = true) : M.Ev L (fun r => r.list p E d s nm acc) (.ok s.nx acc) :=
  M.Ev.step (M.Ev.pure.eq fun r => by show (if M.isM L s.i [E] then _ else _) = _; rw [hq]; rfl)
theorem ev_list_more {p : M.Part} {E : List UInt8} {nm : List (List UInt8)} {acc : List Int} {s1 : M.St} {o : M.Out (List Int)} (hq : M.isM L s.i [E] = false) (hc : (if acc.length = 0 then some (.ok s ()) else M.need L s [44]) = some (.ok s1 ()))
    (h : M.Ev L (fun r => M.obind (M.part L r d s1 nm p) fun s x => r.list p E d s x.2 (acc ++ [x.1])) o) : M.Ev L (fun r => r.list p E d s nm acc) o :=
  M.Ev.step (h.eq fun r => by
    show (if M.isM L s.i [E] then _ else M.obind (if acc.length = 0 then some (.ok s ()) else M.need L s [44]) _) = _
    rw [hq, hc]; rfl)
theorem ev_list_bad {p : M.Part} {E : List UInt8} {nm : List (List UInt8)} {acc : List Int} {e q : Int} (hq : M.isM L s.i [E] = false) (hc : (if acc.length = 0 then some (.ok s ()) else M.need L s [44]) = some (.fail e q)) : M.Ev L (fun r => r.list p E d s nm acc) (.fail e q) :=
  M.Ev.step (M.Ev.pure.eq fun r => by
    show (if M.isM L s.i [E] then _ else M.obind (if acc.length = 0 then some (.ok s ()) else M.need L s [44]) _) = _
    rw [hq, hc]; rfl)

def GrowE (s s' : M.St) : Prop := s.i ≤ s'.i ∧ s'.N.length + s.i ≤ s.N.length + s'.i ∧ s'.T.length + s.i ≤ s.T.length + s'.i ∧ s.N.length ≤ s'.N.length

/-- What a method that reads a list answers. -/
def PostL (w : World) (B pb : Nat) (tv : Value) (L : List M.Tk) (ok : Nat → Prop) (d : Nat) (s : M.St) (φ : M.Sp → Option (M.Out (List Int))) (e : Ending) (w' : World) : Prop :=
  Kept B ok w w' ∧ ∃ o, M.Ev L φ o ∧ match o with
    | .ok s' l => ∃ ad c, e = .returned (.slice ad l.length c) ∧ w'.ownsRow w.heap.size 3 1 (.slice ad l.length c) l.length (ints l) ∧ l.length ≤ s'.i ∧ Pst w' B pb tv L ok d s' ∧ Grow s s'
    | .fail er p => e = gu er p ∧ er ≠ 0

theorem postL_fail {φ : M.Sp → Option (M.Out (List Int))} {w' : World} {er p : Int} (hk : Kept B ok w w') (hev : M.Ev L φ (.fail er p)) (he : er ≠ 0) : PostL w B pb tv L ok d s φ (gu er p) w' := ⟨hk, _, hev, rfl, he⟩
theorem postL_ok {φ : M.Sp → Option (M.Out (List Int))} {w' : World} {s' : M.St} {l : List Int} {ad : Option Addr} {c : Nat} (hk : Kept B ok w w') (hev : M.Ev L φ (.ok s' l)) (ho : w'.ownsRow w.heap.size 3 1 (.slice ad l.length c) l.length (ints l)) (hl : l.length ≤ s'.i) (hp : Pst w' B pb tv L ok d s') (hg : Grow s s') :
    PostL w B pb tv L ok d s φ (.returned (.slice ad l.length c)) w' := ⟨hk, _, hev, _, _, rfl, ho, hl, hp, hg⟩

set_option maxHeartbeats 1000000 in
theorem list_typ_any (hL : LOk L) (m : Nat) (hTyp : ∀ m', m' ≤ m → Con B pb tv L 47 (fun d s r => r.typ d s) m') (E : List UInt8) (hm : L.length - s.i ≤ m) (hok : ∀ g, w.heap.size ≤ g → ok g) (hB : B ≤ w.heap.size) (h : Pst w B pb tv L ok d s) :
    Calls Tryz.prog 127 #[.pointer (some ⟨pb, 0, none⟩), .string ⟨E.toArray⟩, .func (.func 47) #[.pointer (some ⟨pb, 0, none⟩)] #[]] w (PostL w B pb tv L ok d s (fun r => r.list .typ E d s [] [])) := by
  have hs := hL.short
  have hi := h.at'
  have HP := hide h
  clear h
  go_enter Tryz.func127, Tryz.ntmps127
  go_wp2_with fail
  go_loopw [7] (fun v wr => ∃ (acc : List Int) (s' : M.St) (ad : Option Addr) (c : Nat), v = .slice ad acc.length c ∧ acc.length ≤ s'.i ∧ Hid (Kept B ok w wr) ∧ Hid (GrowE s s') ∧ Hid (wr.ownsRow w.heap.size 3 1 (.slice ad acc.length c) acc.length (ints acc)) ∧
      Hid (Pst wr B pb tv L (fun g => ok g ∧ some g ≠ Value.ownBlock (.slice ad acc.length c)) d s') ∧ Hid (∀ o, M.Ev L (fun r => r.list .typ E d s' [] acc) o → M.Ev L (fun r => r.list .typ E d s [] []) o)) (fun _ wr => L.length - nxt wr pb)
  case atStart => exact ⟨[], s, none, 0, rfl, by simp, Kept.refl _ _ _, ⟨Nat.le_refl _, by omega, by omega, by omega⟩, World.ownsRow_nil _ _ _ _, HP.out.mono (fun g hg _ => ⟨hg, by simp [Value.ownBlock]⟩), fun _ h => h⟩
  case round =>
    obtain ⟨acc, s', ad, c, rfl, hacc, KR, GR, OR, PR, VR⟩ := hrel
    have HT := took_any hL PR.out E
    have hi' := PR.out.at'
    have hnx := PR.out.nxt
    generalize hq : M.isM L s'.i [E] = q at *
    have Q1 := hide hq
    clear hq
    go_wp2_with fail
    refine HT.mono ?_
    clear HT
    rintro e w3 ⟨rfl, hk, hp⟩
    have K3 := hide (KR.out.trans (hk.mono fun _ h => h.1))
    have P3 := hide hp
    have O3 := hide (owns_kept OR.out hk (by decide))
    clear hk hp OR PR KR
    cases q
    · have PX : Pst w3 B pb tv L (fun g => ok g ∧ some g ≠ Value.ownBlock (.slice ad acc.length c)) d s' := by simpa using P3.out
      clear P3
      by_cases hz : acc.length = 0
      · have HC : Hid ((if acc.length = 0 then some (.ok s' ()) else M.need L s' [44]) = some (M.Out.ok s' ())) := by show _ = _; rw [if_pos hz]
        have ha : acc = [] := List.eq_nil_of_length_eq_zero hz
        subst ha
        simp only [List.length_nil] at O3 PX hacc ⊢
        clear hz
        have hj : s.i ≤ s'.i := GR.out.1
        have HM := hTyp (L.length - s'.i) (by first | (simp only [M.St.nx]; omega) | omega) w3 _ d s' (Nat.le_refl _) (fun g hg => ⟨hok g (Nat.le_trans K3.out.size hg), fun hx => by have := (O3.out.lt g hx.symm).2; omega⟩) (Nat.le_trans hB K3.out.size) PX
        clear PX
        go_wp2_with fail
        refine HM.mono ?_
        clear HM
        rintro e w4 ⟨hk, o, hev, hpost⟩
        have K4 := hide (K3.out.trans (hk.mono fun _ h => h.1))
        have O4 := hide (owns_kept O3.out hk (by decide))
        have E4 := hide hev
        clear hk hev K3 O3
        cases o with
        | fail er p =>
          obtain ⟨rfl, he⟩ := hpost
          exact ⟨rfl, postL_fail K4.out (VR.out _ (ev_list_more Q1.out HC.out (M.Ev.bad (M.Ev.bad E4.out)))) he⟩
        | ok s4 y =>
          obtain ⟨rfl, hp, hg⟩ := hpost
          have P4 := hide hp
          have G4 := hide hg
          have hi4 := hp.at'
          clear hp hg
          have VN := hide (fun o (ho : M.Ev L (fun r => r.list .typ E d s4 [] ([] ++ [y])) o) => VR.out o (ev_list_more Q1.out HC.out (M.Ev.bind (M.Ev.bind E4.out (k := fun _ s x => some (.ok s (x, []))) M.Ev.pure) ho)))
          clear VR
          obtain ⟨i0, hi0, hz0, hz1, hz2⟩ := info_parts Tryz.infoInt
          have hw3 := hide (O4.out.alloc (.cells #[.int .i64 y] 3))
          have hl4 : 0 + 1 ≤ s4.i := by
            have h2 := G4.out.1
            first | (simp only [M.St.nx] at h2; omega) | omega
          go_wp2_with (at_builtin; refine wpList_append_own_at _ rfl _ _ 42 rfl w.heap.size 3 i0 (.int .i64 0) 1 8 Tryz.underlying42 hi0 hz0 hz1 hz2 rfl (by decide) _ _ _ rfl hw3.out ⟨w4.heap.size, 0, none⟩ 1 1 [.int .i64 y] rfl rfl ?c1 ?c2 ?c3 ?c4 ?c5 ?_)
          case c1 => exact cell_one_new _ _ _
          case c2 => intro u hu; simp at hu; rcases hu with rfl; rfl
          case c3 => simp only [maxLen]; omega
          case c4 => omega
          case c5 => have := K4.out.size; simp; omega
          · intro v' w5 hown2 hg2 _ hat
            obtain ⟨ad2, c2, hv2⟩ := owns_form hown2
            rw [hv2] at hown2 hat ⊢
            have PG := hide ((P4.out.alloc (.cells #[.int .i64 y] 3)).grown (v := .slice ad 0 c) (v' := .slice ad2 (0 + 1) c2) (O4.out.alloc _) (.inl rfl) hg2 (by simpa using hat))
            have KG := hide ((K4.out.alloc (.cells #[.int .i64 y] 3)).grown (O4.out.alloc _) hg2)
            have OG := hide hown2
            clear hown2 hg2 hat hw3 P4 O4 K4 hv2
            go_wp2_with fail
            go_roundw
            case rel =>
              have h1 := GR.out
              have h2 := G4.out
              simp only [Grow, GrowE] at h1 h2
              refine ⟨[y], s4, ad2, c2, by simp, by simp; omega, KG.out, ⟨by omega, by omega, by omega, by omega⟩, ?_, ?_, VN.out⟩
              · have := OG.out
                show World.ownsRow _ _ _ _ _ _ _
                simpa [ints] using this
              · have := PG.out
                show Pst _ _ _ _ _ _ _ _
                simpa using this
            case measure =>
              have h2 := G4.out
              have h3 := PG.out.nxt
              simp only [Grow] at h2
              rw [h3, hnx]
              omega
      · have hz' : (0 : Int) < (acc.length : Int) := by omega
        have HN := need_any hL PX [44]
        go_wp2_with fail
        refine HN.mono ?_
        clear HN
        rintro e w6 ⟨hk, hr⟩
        have K6 := hide (K3.out.trans (hk.mono fun _ h => h.1))
        have O6 := hide (owns_kept O3.out hk (by decide))
        clear hk K3 O3 PX
        rcases hr with ⟨hb, rfl, PX⟩ | ⟨hb, rfl⟩
        · have hi6 := PX.at'
          have HC : Hid ((if acc.length = 0 then some (.ok s' ()) else M.need L s' [44]) = some (M.Out.ok s'.nx ())) := by show _ = _; rw [if_neg hz, M.need, hb]; rfl
          clear hb
          have hj : s.i ≤ s'.i := GR.out.1
          have HM := hTyp (L.length - s'.nx.i) (by first | (simp only [M.St.nx]; omega) | omega) w6 _ d s'.nx (Nat.le_refl _) (fun g hg => ⟨hok g (Nat.le_trans K6.out.size hg), fun hx => by have := (O6.out.lt g hx.symm).2; omega⟩) (Nat.le_trans hB K6.out.size) PX
          clear PX
          go_wp2_with fail
          refine HM.mono ?_
          clear HM
          rintro e w4 ⟨hk, o, hev, hpost⟩
          have K4 := hide (K6.out.trans (hk.mono fun _ h => h.1))
          have O4 := hide (owns_kept O6.out hk (by decide))
          have E4 := hide hev
          clear hk hev K6 O6
          cases o with
          | fail er p =>
            obtain ⟨rfl, he⟩ := hpost
            exact ⟨rfl, postL_fail K4.out (VR.out _ (ev_list_more Q1.out HC.out (M.Ev.bad (M.Ev.bad E4.out)))) he⟩
          | ok s4 y =>
            obtain ⟨rfl, hp, hg⟩ := hpost
            have P4 := hide hp
            have G4 := hide hg
            have hi4 := hp.at'
            clear hp hg
            have VN := hide (fun o (ho : M.Ev L (fun r => r.list .typ E d s4 [] (acc ++ [y])) o) => VR.out o (ev_list_more Q1.out HC.out (M.Ev.bind (M.Ev.bind E4.out (k := fun _ s x => some (.ok s (x, []))) M.Ev.pure) ho)))
            clear VR
            obtain ⟨i0, hi0, hz0, hz1, hz2⟩ := info_parts Tryz.infoInt
            have hw3 := hide (O4.out.alloc (.cells #[.int .i64 y] 3))
            have hl4 : acc.length + 1 ≤ s4.i := by
              have h2 := G4.out.1
              first | (simp only [M.St.nx] at h2; omega) | omega
            go_wp2_with (at_builtin; refine wpList_append_own_at _ rfl _ _ 42 rfl w.heap.size 3 i0 (.int .i64 0) 1 8 Tryz.underlying42 hi0 hz0 hz1 hz2 rfl (by decide) _ _ _ rfl hw3.out ⟨w4.heap.size, 0, none⟩ 1 1 [.int .i64 y] rfl rfl ?c1 ?c2 ?c3 ?c4 ?c5 ?_)
            case c1 => exact cell_one_new _ _ _
            case c2 => intro u hu; simp at hu; rcases hu with rfl; rfl
            case c3 => simp only [maxLen]; omega
            case c4 => omega
            case c5 => have := K4.out.size; simp; omega
            · intro v' w5 hown2 hg2 _ hat
              obtain ⟨ad2, c2, hv2⟩ := owns_form hown2
              rw [hv2] at hown2 hat ⊢
              have PG := hide ((P4.out.alloc (.cells #[.int .i64 y] 3)).grown (v := .slice ad acc.length c) (v' := .slice ad2 (acc.length + 1) c2) (O4.out.alloc _) (.inl rfl) hg2 (by simpa using hat))
              have KG := hide ((K4.out.alloc (.cells #[.int .i64 y] 3)).grown (O4.out.alloc _) hg2)
              have OG := hide hown2
              clear hown2 hg2 hat hw3 P4 O4 K4 hv2
              go_wp2_with fail
              go_roundw
              case rel =>
                have h1 := GR.out
                have h2 := G4.out
                simp only [Grow, GrowE, M.St.nx] at h1 h2
                refine ⟨acc ++ [y], s4, ad2, c2, by simp, by simp; omega, KG.out, ⟨by omega, by omega, by omega, by omega⟩, ?_, ?_, VN.out⟩
                · have := OG.out
                  show World.ownsRow _ _ _ _ _ _ _
                  rw [ints_snoc]
                  simpa using this
                · have := PG.out
                  show Pst _ _ _ _ _ _ _ _
                  simpa using this
              case measure =>
                have h2 := G4.out
                have h3 := PG.out.nxt
                simp only [Grow, M.St.nx] at h2
                rw [h3, hnx]
                omega
        · exact ⟨rfl, postL_fail K6.out (VR.out _ (ev_list_bad Q1.out (by rw [if_neg hz, M.need, hb]; rfl))) (by decide)⟩
    · have PX : Pst w3 B pb tv L (fun g => ok g ∧ some g ≠ Value.ownBlock (.slice ad acc.length c)) d s'.nx := by simpa using P3.out
      have PY := hide (PX.mono (ok' := ok) (fun g hg _ => hg.1))
      have EV := hide (VR.out _ (ev_list_end Q1.out))
      have GX := hide (show Grow s s'.nx by
        have h2 := GR.out
        simp only [Grow, GrowE, M.St.nx] at h2 ⊢
        omega)
      clear VR P3 PX
      go_wp2_with fail
      go_ret
      exact postL_ok K3.out EV.out O3.out (by simp only [M.St.nx]; omega) PY.out GX.out

set_option maxHeartbeats 1000000 in
theorem fob_any (hL : LOk L) (m : Nat) (hTyp : ∀ m', m' ≤ m → Con B pb tv L 47 (fun d s r => r.typ d s) m') : Con B pb tv L 118 (fun d s r => r.fob d s) m := by
  intro w ok d s hm hok hB h
  have hs := hL.short
  have hi := h.at'
  have HF := hide h.few
  have H1 := list_typ_any hL m hTyp [41] hm hok hB h
  have HV : Hid (∀ o, M.Ev L (fun r => M.obind (r.list .typ [41] d s [] []) fun s l => if M.isM L s.i [[61, 62]] then M.obind (r.typ d s.nx) fun s x => M.addT s ⟨9, [], l, x⟩ else match l with | [x] => some (.ok s x) | _ => M.flt L s.i 1) o → M.Ev L (fun r => r.fob d s) o) := fun o ho => M.Ev.step (ho.eq (fun r => rfl))
  clear h
  go_enter Tryz.func118, Tryz.ntmps118
  go_wp2_with fail
  refine H1.mono ?_
  clear H1
  rintro e w1 ⟨hk, o, hev, hpost⟩
  have K1 := hide hk
  have E1 := hide hev
  clear hk hev
  cases o with
  | fail er p =>
    obtain ⟨rfl, he⟩ := hpost
    exact ⟨rfl, post_fail K1.out (HV.out _ (M.Ev.bad E1.out)) he⟩
  | ok s1 l =>
    obtain ⟨ad, c, rfl, ho, hl, hp, hg⟩ := hpost
    have P1 := hide hp
    have G1 := hide hg
    have O1 := hide ho
    have hi1 := hp.at'
    have HT := took_any hL hp [61, 62]
    clear hp hg ho
    have V1 := hide (fun o ho => HV.out o (M.Ev.bind E1.out ho))
    clear HV E1
    generalize hq : M.isM L s1.i [[61, 62]] = q at *
    have Q1 := hide hq
    clear hq
    go_wp2_with fail
    refine HT.mono ?_
    clear HT
    rintro e w2 ⟨rfl, hk, hp⟩
    have K2 := hide (K1.out.trans hk)
    have O2 := hide (owns_kept O1.out hk (by decide))
    have P2 := hide hp
    clear hk hp K1 O1 P1
    cases q
    · have PX : Pst w2 B pb tv L ok d s1 := by simpa using P2.out
      have HX := fail_any hL PX 1
      have PY := hide PX
      clear P2 PX
      by_cases h1 : l.length = 1
      · obtain ⟨x, rfl⟩ := List.length_eq_one_iff.1 h1
        obtain ⟨g, rfl, _, hg, hgc, hgm, hcell⟩ := owns_cell O2.out (by simp)
        have c0 : w2.cell? ⟨g, 0, none⟩ = some (.int .i64 x) := hcell 0 _ rfl
        clear hcell HX
        go_wp2_with fail
        go_ret
        exact post_ok K2.out (V1.out _ (M.Ev.pure.eq (fun r => by simp))) PY.out G1.out
      · have h1' : ((l.length : Int) == 1) = false := by simp; omega
        go_wp2_with fail
        refine HX.mono ?_
        clear HX
        rintro e w3 ⟨rfl, hc⟩
        refine ⟨rfl, post_fail (K2.out.trans (still_kept hc)) (V1.out _ (M.Ev.pure.eq (fun r => ?_))) (by decide)⟩
        simp only [Bool.false_eq_true, if_false]
        match l, h1 with
        | [], _ => rfl
        | [x], h => simp at h
        | _ :: _ :: _, _ => rfl
    · have PX : Pst w2 B pb tv L ok d s1.nx := by simpa using P2.out
      have hi2 := PX.at'
      have HM := hTyp (L.length - s1.nx.i) (by have := G1.out.1; simp only [M.St.nx]; omega) w2 ok d s1.nx (Nat.le_refl _) (fun g hg => hok g (Nat.le_trans K2.out.size hg)) (Nat.le_trans hB K2.out.size) PX
      clear P2 PX
      go_wp2_with fail
      refine HM.mono ?_
      clear HM
      rintro e w4 ⟨hk, o, hev, hpost⟩
      have K4 := hide (K2.out.trans hk)
      have O4 := hide (owns_kept O2.out hk (by decide))
      have E4 := hide hev
      clear hk hev K2 O2
      cases o with
      | fail er p =>
        obtain ⟨rfl, he⟩ := hpost
        exact ⟨rfl, post_fail K4.out (V1.out _ (M.Ev.eq (M.Ev.bad E4.out) (fun r => by simp; rfl))) he⟩
      | ok s4 y =>
        obtain ⟨rfl, hp, hg⟩ := hpost
        have P4 := hide hp
        have GX := hide (show Grow s ⟨s4.i, s4.N, s4.T ++ [⟨9, [], l, y⟩]⟩ ∧ s4.T.length + 1 ≤ s4.i by
            have h2 := G1.out
            have h3 := hg
            have h4 := HF.out
            simp only [Grow, M.St.nx, List.length_append, List.length_cons, List.length_nil] at h2 h3 ⊢
            omega)
        have HA := addType_any hL hp ⟨9, [], l, y⟩ none ad 0 0 l.length c ⟨_, _, rfl, World.ownsRow_nil _ _ _ _, owns_base O4.out (Nat.zero_le _), by simp [Value.ownBlock], fun g hg => hok g (owns_tag O4.out g hg).1⟩ GX.out.2 (Nat.le_trans hB K4.out.size) (fun g hg => hok g (Nat.le_trans K4.out.size hg))
        have EV := hide (V1.out _ (M.Ev.eq (M.Ev.bind E4.out (k := fun _ s x => M.addT s ⟨9, [], l, x⟩) M.Ev.pure) (fun r => by simp)))
        clear hp hg
        go_wp2_with fail
        refine HA.mono ?_
        clear HA
        rintro e w5 ⟨rfl, hk, hp⟩
        have K5 := hide (K4.out.trans hk)
        have P5 := hide hp
        clear hk hp
        go_wp2_with fail
        go_ret
        exact post_ok K5.out EV.out P5.out GX.out.1
end
end Go.Proofs.YtkilicjjaljghaaGreat
