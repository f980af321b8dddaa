/-
  The contracts of list over the closures that read a part of an object and a parameter.
-/
import Derived.Test.YtjojlcfoiknlhaaGreatDoorClp
namespace Go.Proofs.YtjojlcfoiknlhaaGreatDoor
open Go.RowKit

section
variable {w : World} {B pb : Nat} {tv : Value} {L : List M.Tk} {ok : Nat → Prop} {d : Nat} {s : M.St}

theorem KeptS.mono {ok ok' : Nat → Prop} {lo : Nat} {a b : World} (h : KeptS B ok lo a b) (ho : ∀ g, ok g → ok' g) : KeptS B ok' lo a b :=
  Chg.mono h fun _ _ x => x.elim (fun x => .inl ⟨x.1, x.2.1, ho _ x.2.2⟩) .inr
theorem KeptS.trans {ok : Nat → Prop} {lo : Nat} {a b c : World} (h : KeptS B ok lo a b) (k : KeptS B ok lo b c) : KeptS B ok lo a c := by
  refine ⟨k.os.trans h.os, k.tape.trans h.tape, k.output.trans h.output, Nat.le_trans h.size k.size, fun i hi hn => ?_⟩
  have h1 := h.block i hi hn
  refine (k.block i (Nat.lt_of_lt_of_le hi h.size) (fun x => hn ?_)).trans h1
  rcases x with ⟨x1, ⟨cs, e, fz, hh, r⟩, x3⟩ | ⟨x1, cs, e, fz, hh, r⟩
  · exact .inl ⟨x1, ⟨cs, e, fz, by rw [← h1]; exact hh, r⟩, x3⟩
  · exact .inr ⟨x1, cs, e, fz, by rw [← h1]; exact hh, r⟩
theorem KeptS.grown {ok : Nat → Prop} {lo : Nat} {w0 w w' : World} {size n : Nat} {e : TypeId} {v : Value} {xs : List Value} (hk : KeptS B ok lo w0 w) (ho : w.ownsRow w0.heap.size e size v n xs) (hg : w.grownBy w' v.ownBlock) : KeptS B ok lo w0 w' :=
  Chg.trans hk (Chg.grown hg) (fun i hi hx => by have := (owns_tag ho i hx.symm).1; omega)
theorem KeptS.alloc {ok : Nat → Prop} {lo : Nat} {a b : World} (h : KeptS B ok lo a b) (o : Obj) : KeptS B ok lo a (b.alloc o) := h.andThen ((Kept.refl _ _ _).alloc o)

theorem part_len {p : M.Part} {r : M.Sp} {d : Nat} {s s' : M.St} {names : List (List UInt8)} {x : Int × List (List UInt8)} (hp : p = .obj ∨ p = .par) (h : M.part L r d s names p = some (.ok s' x)) : x.2.length = names.length + 1 := by
  rcases hp with rfl | rfl
  all_goals
    simp only [M.part, M.obind] at h
    repeat' split at h
    all_goals first
      | (simp only [Option.some.injEq, M.Out.ok.injEq] at h; obtain ⟨_, rfl⟩ := h; simp)
      | simp at h
theorem part_len' {p : M.Part} {d : Nat} {s s' : M.St} {names : List (List UInt8)} {x : Int × List (List UInt8)} (hp : p = .obj ∨ p = .par) (h : M.Ev L (fun r => M.part L r d s names p) (.ok s' x)) : x.2.length = names.length + 1 := by
  obtain ⟨f, hf⟩ := h
  exact part_len hp (hf f (Nat.le_refl _))

def Grow1 (s s' : M.St) : Prop := s.i < s'.i ∧ s'.N.length + s.i + 1 ≤ s.N.length + s'.i ∧ s'.T.length + s.i ≤ s.T.length + s'.i ∧ s.N.length ≤ s'.N.length
/-- What list over a closure answers. -/
def PostQ (w : World) (B pb : Nat) (tv : Value) (L : List M.Tk) (ok : Nat → Prop) (d : Nat) (s : M.St) (lo : Nat) (φ : M.Sp → Option (M.Out (List Int))) (e : Ending) (w' : World) : Prop :=
  KeptS B ok lo w w' ∧ ∃ o, M.Ev L φ o ∧ match o with
    | .ok s' l => ∃ ad c, e = .returned (.slice ad l.length c) ∧ w'.ownsRow w.heap.size 3 1 (.slice ad l.length c) l.length (ints l) ∧ l.length ≤ s'.i ∧ Pst w' B pb tv L ok d s' ∧ Grow1 s s'
    | .fail er p => e = gu er p ∧ er ≠ 0
theorem postQ_fail {lo : Nat} {φ : M.Sp → Option (M.Out (List Int))} {w' : World} {er p : Int} (hk : KeptS B ok lo w w') (hev : M.Ev L φ (.fail er p)) (he : er ≠ 0) : PostQ w B pb tv L ok d s lo φ (gu er p) w' := ⟨hk, _, hev, rfl, he⟩
theorem postQ_ok {lo : Nat} {φ : M.Sp → Option (M.Out (List Int))} {w' : World} {s' : M.St} {l : List Int} {ad : Option Addr} {c : Nat} (hk : KeptS B ok lo w w') (hev : M.Ev L φ (.ok s' l)) (ho : w'.ownsRow w.heap.size 3 1 (.slice ad l.length c) l.length (ints l)) (hl : l.length ≤ s'.i) (hp : Pst w' B pb tv L ok d s') (hg : Grow1 s s') :
    PostQ w B pb tv L ok d s lo φ (.returned (.slice ad l.length c)) w' := ⟨hk, _, hev, _, _, rfl, ho, hl, hp, hg⟩

/-- A closure that reads a part, with at most m tokens left. -/
def ConP (B pb : Nat) (tv : Value) (L : List M.Tk) (K : Nat) (p : M.Part) (m : Nat) : Prop :=
  ∀ (w : World) (ok : Nat → Prop) (d : Nat) (s : M.St) (lo nb bx : Nat) (names : List (List UInt8)), w.heap[bx]? = some (.cells #[.pointer (some ⟨pb, 0, none⟩)] 51 (0, 0)) → Nms w lo nb names → names.length ≤ 1001 → lo ≤ w.heap.size → L.length - s.i ≤ m → (∀ g, w.heap.size ≤ g → ok g) → B ≤ w.heap.size → Pst w B pb tv L ok d s →
    Calls Tryz.prog K #[.pointer (some ⟨bx, 0, none⟩), .pointer (some ⟨nb, 0, none⟩)] w (PostP w B pb tv L ok d s lo nb (fun r => M.part L r d s names p))

def bxv (w : World) (bx pb : Nat) : Prop := w.heap[bx]? = some (.cells #[.pointer (some ⟨pb, 0, none⟩)] 51 (0, 0))
theorem bxv.keptS {ok : Nat → Prop} {lo bx : Nat} {w w' : World} (h : bxv w bx pb) (hk : KeptS B ok lo w w') : bxv w' bx pb := keptS_block hk h (by decide)
theorem bxv.chg {bx : Nat} {S : Nat → Prop} {w w' : World} (h : bxv w bx pb) (hc : Chg S w w') (hs : ¬ S bx) : bxv w' bx pb := (hc.block bx (Array.getElem?_eq_some_iff.1 h).1 hs).trans h
theorem bxv.grown {w w' : World} {bx base size n : Nat} {v : Value} {xs : List Value} (h : bxv w bx pb) (ho : w.ownsRow base 3 size v n xs) (hg : w.grownBy w' v.ownBlock) : bxv w' bx pb := by
  refine h.chg (Chg.grown hg) (fun hx => ?_)
  obtain ⟨_, cur, hh⟩ := owns_tag ho bx hx.symm
  rw [show w.heap[bx]? = _ from h] at hh
  simp only [Option.some.injEq, Obj.cells.injEq] at hh
  exact absurd hh.2.1 (by decide)
theorem Nms.grown {w w' : World} {lo nb base size n : Nat} {names : List (List UInt8)} {v : Value} {xs : List Value} (h : Nms w lo nb names) (ho : w.ownsRow base 3 size v n xs) (hg : w.grownBy w' v.ownBlock) : Nms w' lo nb names := by
  refine h.chg (Chg.grown hg) (fun k cs e hh hx => ?_)
  obtain ⟨_, cur, hh2⟩ := owns_tag ho k hx.symm
  rw [hh] at hh2
  simp only [Option.some.injEq, Obj.cells.injEq] at hh2
  obtain ⟨_, rfl, _⟩ := hh2
  exact ⟨by decide, by decide⟩
theorem Nms.alloc {w : World} {lo nb : Nat} {names : List (List UInt8)} (h : Nms w lo nb names) (o : Obj) : Nms (w.alloc o) lo nb names := h.chg (Chg.alloc (fun _ => False) _ o) (fun _ _ _ _ x => x.elim)
theorem bxv.alloc {w : World} {bx : Nat} (h : bxv w bx pb) (o : Obj) : bxv (w.alloc o) bx pb := h.chg (Chg.alloc (fun _ => False) _ o) (fun x => x)

set_option maxHeartbeats 1000000 in
theorem list_object1_any (hL : LOk L) (m : Nat) (hC : ∀ m', m' ≤ m → ConP B pb tv L 235 .obj m') (E : List UInt8) (lo nb bx : Nat) (hbx : bxv w bx pb) (hn : Nms w lo nb []) (hlo : lo ≤ w.heap.size) (hm : L.length - s.i ≤ m) (hok : ∀ g, w.heap.size ≤ g → ok g) (hB : B ≤ w.heap.size) (h : Pst w B pb tv L ok d s) :
    Calls Tryz.prog 165 #[.pointer (some ⟨pb, 0, none⟩), .string ⟨E.toArray⟩, .func (.func 235) #[] #[.pointer (some ⟨bx, 0, none⟩), .pointer (some ⟨nb, 0, none⟩)]] w (PostQ w B pb tv L ok d s lo (fun r => r.list .obj E d s [] [])) := by
  have hs := hL.short
  have hi := h.at'
  have HP := hide h
  have HX := hide hbx
  have HN := hide hn
  clear h hbx hn
  go_enter Tryz.func165, Tryz.ntmps165
  go_wp2_with fail
  go_loopw [7] (fun v wr => ∃ (names : List (List UInt8)) (acc : List Int) (s' : M.St) (ad : Option Addr) (c : Nat), v = .slice ad acc.length c ∧ acc.length ≤ s'.i ∧ Hid (names.length = acc.length) ∧ Hid (Nms wr lo nb names) ∧ Hid (bxv wr bx pb) ∧ Hid (KeptS B ok lo w wr) ∧ Hid (GrowE s s') ∧ Hid (wr.ownsRow w.heap.size 3 1 (.slice ad acc.length c) acc.length (ints acc)) ∧
      Hid (Pst wr B pb tv L (fun g => ok g ∧ some g ≠ Value.ownBlock (.slice ad acc.length c)) d s') ∧ Hid (∀ o, M.Ev L (fun r => r.list .obj E d s' names acc) o → M.Ev L (fun r => r.list .obj E d s [] []) o)) (fun _ wr => L.length - nxt wr pb)
  case atStart => exact ⟨[], [], s, none, 0, rfl, by simp, rfl, HN.out, HX.out, (Kept.refl _ _ _).toS, ⟨Nat.le_refl _, by omega, by omega, by omega⟩, World.ownsRow_nil _ _ _ _, HP.out.mono (fun g hg _ => ⟨hg, by simp [Value.ownBlock]⟩), fun _ h => h⟩
  case round =>
    obtain ⟨names, acc, s', ad, c, rfl, hacc, NL, NR, XR, KR, GR, OR, PR, VR⟩ := hrel
    have HT := took_any hL PR.out E
    have hi' := PR.out.at'
    have hnx := PR.out.nxt
    generalize hq : M.isM L s'.i [E] = q at *
    have Q1 := hide hq
    clear hq
    go_wp2_with fail
    refine HT.mono ?_
    clear HT
    rintro e w3 ⟨rfl, hk, hp⟩
    have K3 := hide (KR.out.andThen (hk.mono fun _ h => h.1))
    have N3 := hide (NR.out.kept hk)
    have X3 := hide (XR.out.keptS (hk.toS (lo := 0)))
    have P3 := hide hp
    have O3 := hide (owns_kept OR.out hk (by decide))
    clear hk hp OR PR KR NR XR
    cases q
    · have PX : Pst w3 B pb tv L (fun g => ok g ∧ some g ≠ Value.ownBlock (.slice ad acc.length c)) d s' := by simpa using P3.out
      clear P3
      by_cases hz : acc.length = 0
      · have HC : Hid ((if acc.length = 0 then some (.ok s' ()) else M.need L s' [44]) = some (M.Out.ok s' ())) := by show _ = _; rw [if_pos hz]
        have ha : acc = [] := List.eq_nil_of_length_eq_zero hz
        subst ha
        simp only [List.length_nil] at O3 PX hacc NL ⊢
        clear hz
        have hj : s.i ≤ s'.i := GR.out.1
        have HM := hC (L.length - s'.i) (by first | (simp only [M.St.nx]; omega) | omega) w3 _ d s' lo nb bx names X3.out N3.out (by have h0 : names.length = 0 := NL.out; omega) (Nat.le_trans hlo K3.out.size) (Nat.le_refl _) (fun g hg => ⟨hok g (Nat.le_trans K3.out.size hg), fun hx => by have := (O3.out.lt g hx.symm).2; omega⟩) (Nat.le_trans hB K3.out.size) PX
        clear PX
        go_wp2_with fail
        refine HM.mono ?_
        clear HM
        rintro e w4 ⟨hk, o, hev, hpost⟩
        have K4 := hide (K3.out.trans (hk.mono fun _ h => h.1))
        have X4 := hide (X3.out.keptS hk)
        have O4 := hide (owns_keptS O3.out hk (by decide))
        have E4 := hide hev
        clear hk hev K3 O3 X3 N3
        cases o with
        | fail er p =>
          obtain ⟨rfl, he⟩ := hpost
          exact ⟨rfl, postQ_fail K4.out (VR.out _ (ev_list_more Q1.out HC.out (M.Ev.bad E4.out))) he⟩
        | ok s4 z =>
          obtain ⟨rfl, hn4, hp, hg⟩ := hpost
          have NX := hide (part_len' (.inl rfl) E4.out)
          obtain ⟨y, names4⟩ := z
          have N4 := hide hn4
          clear hn4
          simp only at N4 NX
          have P4 := hide hp
          have G4 := hide hg
          have hi4 := hp.at'
          clear hp hg
          have VN := hide (fun o (ho : M.Ev L (fun r => r.list .obj E d s4 names4 ([] ++ [y])) o) => VR.out o (ev_list_more Q1.out HC.out (M.Ev.bind (k := fun r s x => r.list .obj E d s x.2 ([] ++ [x.1])) E4.out ho)))
          clear VR
          obtain ⟨i0, hi0, hz0, hz1, hz2⟩ := info_parts Tryz.infoInt
          have hw3 := hide (O4.out.alloc (.cells #[.int .i64 y] 3))
          have hl4 : 0 + 1 ≤ s4.i := by
            have h2 := G4.out.1
            first | (simp only [M.St.nx] at h2; omega) | omega
          go_wp2_with (at_builtin; refine wpList_append_own_at _ rfl _ _ 43 rfl w.heap.size 3 i0 (.int .i64 0) 1 8 Tryz.underlying43 hi0 hz0 hz1 hz2 rfl (by decide) _ _ _ rfl hw3.out ⟨w4.heap.size, 0, none⟩ 1 1 [.int .i64 y] rfl rfl ?c1 ?c2 ?c3 ?c4 ?c5 ?_)
          case c1 => exact cell_one_new _ _ _
          case c2 => intro u hu; simp at hu; rcases hu with rfl; rfl
          case c3 => simp only [maxLen]; omega
          case c4 => omega
          case c5 => have := K4.out.size; simp; omega
          · intro v' w5 hown2 hg2 _ hat
            obtain ⟨ad2, c2, hv2⟩ := owns_form hown2
            rw [hv2] at hown2 hat ⊢
            have PG := hide ((P4.out.alloc (.cells #[.int .i64 y] 3)).grown (v := .slice ad 0 c) (v' := .slice ad2 (0 + 1) c2) (O4.out.alloc _) (.inl rfl) hg2 (by simpa using hat))
            have KG := hide ((K4.out.alloc (.cells #[.int .i64 y] 3)).grown (O4.out.alloc _) hg2)
            have NG := hide ((N4.out.alloc (.cells #[.int .i64 y] 3)).grown (O4.out.alloc _) hg2)
            have XG := hide ((X4.out.alloc (.cells #[.int .i64 y] 3)).grown (O4.out.alloc _) hg2)
            have OG := hide hown2
            clear hown2 hg2 hat hw3 P4 O4 K4 hv2 N4 X4
            go_wp2_with fail
            go_roundw
            case rel =>
              have h1 := GR.out
              have h2 := G4.out
              simp only [Grow, GrowE] at h1 h2
              refine ⟨names4, [y], s4, ad2, c2, by simp, by simp; omega, (by have h3 : names4.length = names.length + 1 := NX.out; have h4 : names.length = 0 := NL.out; show names4.length = 1; omega), NG.out, XG.out, KG.out, ⟨by omega, by omega, by omega, by omega⟩, ?_, ?_, VN.out⟩
              · have := OG.out
                show World.ownsRow _ _ _ _ _ _ _
                simpa [ints] using this
              · have := PG.out
                show Pst _ _ _ _ _ _ _ _
                simpa using this
            case measure =>
              have h2 := G4.out
              have h3 := PG.out.nxt
              simp only [Grow] at h2
              rw [h3, hnx]
              omega
      · have hz' : (0 : Int) < (acc.length : Int) := by omega
        have HN := need_any hL PX [44]
        go_wp2_with fail
        refine HN.mono ?_
        clear HN
        rintro e w6 ⟨hk, hr⟩
        have K6 := hide (K3.out.andThen (hk.mono fun _ h => h.1))
        have N6 := hide (N3.out.kept hk)
        have X6 := hide (X3.out.keptS (hk.toS (lo := 0)))
        have O6 := hide (owns_kept O3.out hk (by decide))
        clear hk K3 O3 PX N3 X3
        rcases hr with ⟨hb, rfl, PX⟩ | ⟨hb, rfl⟩
        · have hi6 := PX.at'
          have HC : Hid ((if acc.length = 0 then some (.ok s' ()) else M.need L s' [44]) = some (M.Out.ok s'.nx ())) := by show _ = _; rw [if_neg hz, M.need, hb]; rfl
          clear hb
          have hj : s.i ≤ s'.i := GR.out.1
          have HM := hC (L.length - s'.nx.i) (by first | (simp only [M.St.nx]; omega) | omega) w6 _ d s'.nx lo nb bx names X6.out N6.out (by have h0 : names.length = acc.length := NL.out; omega) (Nat.le_trans hlo K6.out.size) (Nat.le_refl _) (fun g hg => ⟨hok g (Nat.le_trans K6.out.size hg), fun hx => by have := (O6.out.lt g hx.symm).2; omega⟩) (Nat.le_trans hB K6.out.size) PX
          clear PX
          go_wp2_with fail
          refine HM.mono ?_
          clear HM
          rintro e w4 ⟨hk, o, hev, hpost⟩
          have K4 := hide (K6.out.trans (hk.mono fun _ h => h.1))
          have X4 := hide (X6.out.keptS hk)
          have O4 := hide (owns_keptS O6.out hk (by decide))
          have E4 := hide hev
          clear hk hev K6 O6 X6 N6
          cases o with
          | fail er p =>
            obtain ⟨rfl, he⟩ := hpost
            exact ⟨rfl, postQ_fail K4.out (VR.out _ (ev_list_more Q1.out HC.out (M.Ev.bad E4.out))) he⟩
          | ok s4 z =>
            obtain ⟨rfl, hn4, hp, hg⟩ := hpost
            have NX := hide (part_len' (.inl rfl) E4.out)
            obtain ⟨y, names4⟩ := z
            have N4 := hide hn4
            clear hn4
            simp only at N4 NX
            have P4 := hide hp
            have G4 := hide hg
            have hi4 := hp.at'
            clear hp hg
            have VN := hide (fun o (ho : M.Ev L (fun r => r.list .obj E d s4 names4 (acc ++ [y])) o) => VR.out o (ev_list_more Q1.out HC.out (M.Ev.bind (k := fun r s x => r.list .obj E d s x.2 (acc ++ [x.1])) E4.out ho)))
            clear VR
            obtain ⟨i0, hi0, hz0, hz1, hz2⟩ := info_parts Tryz.infoInt
            have hw3 := hide (O4.out.alloc (.cells #[.int .i64 y] 3))
            have hl4 : acc.length + 1 ≤ s4.i := by
              have h2 := G4.out.1
              first | (simp only [M.St.nx] at h2; omega) | omega
            go_wp2_with (at_builtin; refine wpList_append_own_at _ rfl _ _ 43 rfl w.heap.size 3 i0 (.int .i64 0) 1 8 Tryz.underlying43 hi0 hz0 hz1 hz2 rfl (by decide) _ _ _ rfl hw3.out ⟨w4.heap.size, 0, none⟩ 1 1 [.int .i64 y] rfl rfl ?c1 ?c2 ?c3 ?c4 ?c5 ?_)
            case c1 => exact cell_one_new _ _ _
            case c2 => intro u hu; simp at hu; rcases hu with rfl; rfl
            case c3 => simp only [maxLen]; omega
            case c4 => omega
            case c5 => have := K4.out.size; simp; omega
            · intro v' w5 hown2 hg2 _ hat
              obtain ⟨ad2, c2, hv2⟩ := owns_form hown2
              rw [hv2] at hown2 hat ⊢
              have PG := hide ((P4.out.alloc (.cells #[.int .i64 y] 3)).grown (v := .slice ad acc.length c) (v' := .slice ad2 (acc.length + 1) c2) (O4.out.alloc _) (.inl rfl) hg2 (by simpa using hat))
              have KG := hide ((K4.out.alloc (.cells #[.int .i64 y] 3)).grown (O4.out.alloc _) hg2)
              have NG := hide ((N4.out.alloc (.cells #[.int .i64 y] 3)).grown (O4.out.alloc _) hg2)
              have XG := hide ((X4.out.alloc (.cells #[.int .i64 y] 3)).grown (O4.out.alloc _) hg2)
              have OG := hide hown2
              clear hown2 hg2 hat hw3 P4 O4 K4 hv2 N4 X4
              go_wp2_with fail
              go_roundw
              case rel =>
                have h1 := GR.out
                have h2 := G4.out
                simp only [Grow, GrowE, M.St.nx] at h1 h2
                refine ⟨names4, acc ++ [y], s4, ad2, c2, by simp, by simp; omega, (by have h3 : names4.length = names.length + 1 := NX.out; have h4 : names.length = acc.length := NL.out; show names4.length = (acc ++ [y]).length; rw [List.length_append]; show _ = acc.length + 1; omega), NG.out, XG.out, KG.out, ⟨by omega, by omega, by omega, by omega⟩, ?_, ?_, VN.out⟩
                · have := OG.out
                  show World.ownsRow _ _ _ _ _ _ _
                  rw [ints_snoc]
                  simpa using this
                · have := PG.out
                  show Pst _ _ _ _ _ _ _ _
                  simpa using this
              case measure =>
                have h2 := G4.out
                have h3 := PG.out.nxt
                simp only [Grow, M.St.nx] at h2
                rw [h3, hnx]
                omega
        · exact ⟨rfl, postQ_fail K6.out (VR.out _ (ev_list_bad Q1.out (by rw [if_neg hz, M.need, hb]; rfl))) (by decide)⟩
    · have PX : Pst w3 B pb tv L (fun g => ok g ∧ some g ≠ Value.ownBlock (.slice ad acc.length c)) d s'.nx := by simpa using P3.out
      have PY := hide (PX.mono (ok' := ok) (fun g hg _ => hg.1))
      have EV := hide (VR.out _ (ev_list_end Q1.out))
      have GX := hide (show Grow1 s s'.nx by
        have h2 := GR.out
        simp only [Grow1, GrowE, M.St.nx] at h2 ⊢
        omega)
      clear VR P3 PX
      go_wp2_with fail
      go_ret
      exact postQ_ok K3.out EV.out O3.out (by simp only [M.St.nx]; omega) PY.out GX.out


set_option maxHeartbeats 1000000 in
theorem list_function1_any (hL : LOk L) (m : Nat) (hC : ∀ m', m' ≤ m → ConP B pb tv L 234 .par m') (E : List UInt8) (lo nb bx : Nat) (hbx : bxv w bx pb) (hn : Nms w lo nb []) (hlo : lo ≤ w.heap.size) (hm : L.length - s.i ≤ m) (hok : ∀ g, w.heap.size ≤ g → ok g) (hB : B ≤ w.heap.size) (h : Pst w B pb tv L ok d s) :
    Calls Tryz.prog 165 #[.pointer (some ⟨pb, 0, none⟩), .string ⟨E.toArray⟩, .func (.func 234) #[] #[.pointer (some ⟨bx, 0, none⟩), .pointer (some ⟨nb, 0, none⟩)]] w (PostQ w B pb tv L ok d s lo (fun r => r.list .par E d s [] [])) := by
  have hs := hL.short
  have hi := h.at'
  have HP := hide h
  have HX := hide hbx
  have HN := hide hn
  clear h hbx hn
  go_enter Tryz.func165, Tryz.ntmps165
  go_wp2_with fail
  go_loopw [7] (fun v wr => ∃ (names : List (List UInt8)) (acc : List Int) (s' : M.St) (ad : Option Addr) (c : Nat), v = .slice ad acc.length c ∧ acc.length ≤ s'.i ∧ Hid (names.length = acc.length) ∧ Hid (Nms wr lo nb names) ∧ Hid (bxv wr bx pb) ∧ Hid (KeptS B ok lo w wr) ∧ Hid (GrowE s s') ∧ Hid (wr.ownsRow w.heap.size 3 1 (.slice ad acc.length c) acc.length (ints acc)) ∧
      Hid (Pst wr B pb tv L (fun g => ok g ∧ some g ≠ Value.ownBlock (.slice ad acc.length c)) d s') ∧ Hid (∀ o, M.Ev L (fun r => r.list .par E d s' names acc) o → M.Ev L (fun r => r.list .par E d s [] []) o)) (fun _ wr => L.length - nxt wr pb)
  case atStart => exact ⟨[], [], s, none, 0, rfl, by simp, rfl, HN.out, HX.out, (Kept.refl _ _ _).toS, ⟨Nat.le_refl _, by omega, by omega, by omega⟩, World.ownsRow_nil _ _ _ _, HP.out.mono (fun g hg _ => ⟨hg, by simp [Value.ownBlock]⟩), fun _ h => h⟩
  case round =>
    obtain ⟨names, acc, s', ad, c, rfl, hacc, NL, NR, XR, KR, GR, OR, PR, VR⟩ := hrel
    have HT := took_any hL PR.out E
    have hi' := PR.out.at'
    have hnx := PR.out.nxt
    generalize hq : M.isM L s'.i [E] = q at *
    have Q1 := hide hq
    clear hq
    go_wp2_with fail
    refine HT.mono ?_
    clear HT
    rintro e w3 ⟨rfl, hk, hp⟩
    have K3 := hide (KR.out.andThen (hk.mono fun _ h => h.1))
    have N3 := hide (NR.out.kept hk)
    have X3 := hide (XR.out.keptS (hk.toS (lo := 0)))
    have P3 := hide hp
    have O3 := hide (owns_kept OR.out hk (by decide))
    clear hk hp OR PR KR NR XR
    cases q
    · have PX : Pst w3 B pb tv L (fun g => ok g ∧ some g ≠ Value.ownBlock (.slice ad acc.length c)) d s' := by simpa using P3.out
      clear P3
      by_cases hz : acc.length = 0
      · have HC : Hid ((if acc.length = 0 then some (.ok s' ()) else M.need L s' [44]) = some (M.Out.ok s' ())) := by show _ = _; rw [if_pos hz]
        have ha : acc = [] := List.eq_nil_of_length_eq_zero hz
        subst ha
        simp only [List.length_nil] at O3 PX hacc NL ⊢
        clear hz
        have hj : s.i ≤ s'.i := GR.out.1
        have HM := hC (L.length - s'.i) (by first | (simp only [M.St.nx]; omega) | omega) w3 _ d s' lo nb bx names X3.out N3.out (by have h0 : names.length = 0 := NL.out; omega) (Nat.le_trans hlo K3.out.size) (Nat.le_refl _) (fun g hg => ⟨hok g (Nat.le_trans K3.out.size hg), fun hx => by have := (O3.out.lt g hx.symm).2; omega⟩) (Nat.le_trans hB K3.out.size) PX
        clear PX
        go_wp2_with fail
        refine HM.mono ?_
        clear HM
        rintro e w4 ⟨hk, o, hev, hpost⟩
        have K4 := hide (K3.out.trans (hk.mono fun _ h => h.1))
        have X4 := hide (X3.out.keptS hk)
        have O4 := hide (owns_keptS O3.out hk (by decide))
        have E4 := hide hev
        clear hk hev K3 O3 X3 N3
        cases o with
        | fail er p =>
          obtain ⟨rfl, he⟩ := hpost
          exact ⟨rfl, postQ_fail K4.out (VR.out _ (ev_list_more Q1.out HC.out (M.Ev.bad E4.out))) he⟩
        | ok s4 z =>
          obtain ⟨rfl, hn4, hp, hg⟩ := hpost
          have NX := hide (part_len' (.inr rfl) E4.out)
          obtain ⟨y, names4⟩ := z
          have N4 := hide hn4
          clear hn4
          simp only at N4 NX
          have P4 := hide hp
          have G4 := hide hg
          have hi4 := hp.at'
          clear hp hg
          have VN := hide (fun o (ho : M.Ev L (fun r => r.list .par E d s4 names4 ([] ++ [y])) o) => VR.out o (ev_list_more Q1.out HC.out (M.Ev.bind (k := fun r s x => r.list .par E d s x.2 ([] ++ [x.1])) E4.out ho)))
          clear VR
          obtain ⟨i0, hi0, hz0, hz1, hz2⟩ := info_parts Tryz.infoInt
          have hw3 := hide (O4.out.alloc (.cells #[.int .i64 y] 3))
          have hl4 : 0 + 1 ≤ s4.i := by
            have h2 := G4.out.1
            first | (simp only [M.St.nx] at h2; omega) | omega
          go_wp2_with (at_builtin; refine wpList_append_own_at _ rfl _ _ 43 rfl w.heap.size 3 i0 (.int .i64 0) 1 8 Tryz.underlying43 hi0 hz0 hz1 hz2 rfl (by decide) _ _ _ rfl hw3.out ⟨w4.heap.size, 0, none⟩ 1 1 [.int .i64 y] rfl rfl ?c1 ?c2 ?c3 ?c4 ?c5 ?_)
          case c1 => exact cell_one_new _ _ _
          case c2 => intro u hu; simp at hu; rcases hu with rfl; rfl
          case c3 => simp only [maxLen]; omega
          case c4 => omega
          case c5 => have := K4.out.size; simp; omega
          · intro v' w5 hown2 hg2 _ hat
            obtain ⟨ad2, c2, hv2⟩ := owns_form hown2
            rw [hv2] at hown2 hat ⊢
            have PG := hide ((P4.out.alloc (.cells #[.int .i64 y] 3)).grown (v := .slice ad 0 c) (v' := .slice ad2 (0 + 1) c2) (O4.out.alloc _) (.inl rfl) hg2 (by simpa using hat))
            have KG := hide ((K4.out.alloc (.cells #[.int .i64 y] 3)).grown (O4.out.alloc _) hg2)
            have NG := hide ((N4.out.alloc (.cells #[.int .i64 y] 3)).grown (O4.out.alloc _) hg2)
            have XG := hide ((X4.out.alloc (.cells #[.int .i64 y] 3)).grown (O4.out.alloc _) hg2)
            have OG := hide hown2
            clear hown2 hg2 hat hw3 P4 O4 K4 hv2 N4 X4
            go_wp2_with fail
            go_roundw
            case rel =>
              have h1 := GR.out
              have h2 := G4.out
              simp only [Grow, GrowE] at h1 h2
              refine ⟨names4, [y], s4, ad2, c2, by simp, by simp; omega, (by have h3 : names4.length = names.length + 1 := NX.out; have h4 : names.length = 0 := NL.out; show names4.length = 1; omega), NG.out, XG.out, KG.out, ⟨by omega, by omega, by omega, by omega⟩, ?_, ?_, VN.out⟩
              · have := OG.out
                show World.ownsRow _ _ _ _ _ _ _
                simpa [ints] using this
              · have := PG.out
                show Pst _ _ _ _ _ _ _ _
                simpa using this
            case measure =>
              have h2 := G4.out
              have h3 := PG.out.nxt
              simp only [Grow] at h2
              rw [h3, hnx]
              omega
      · have hz' : (0 : Int) < (acc.length : Int) := by omega
        have HN := need_any hL PX [44]
        go_wp2_with fail
        refine HN.mono ?_
        clear HN
        rintro e w6 ⟨hk, hr⟩
        have K6 := hide (K3.out.andThen (hk.mono fun _ h => h.1))
        have N6 := hide (N3.out.kept hk)
        have X6 := hide (X3.out.keptS (hk.toS (lo := 0)))
        have O6 := hide (owns_kept O3.out hk (by decide))
        clear hk K3 O3 PX N3 X3
        rcases hr with ⟨hb, rfl, PX⟩ | ⟨hb, rfl⟩
        · have hi6 := PX.at'
          have HC : Hid ((if acc.length = 0 then some (.ok s' ()) else M.need L s' [44]) = some (M.Out.ok s'.nx ())) := by show _ = _; rw [if_neg hz, M.need, hb]; rfl
          clear hb
          have hj : s.i ≤ s'.i := GR.out.1
          have HM := hC (L.length - s'.nx.i) (by first | (simp only [M.St.nx]; omega) | omega) w6 _ d s'.nx lo nb bx names X6.out N6.out (by have h0 : names.length = acc.length := NL.out; omega) (Nat.le_trans hlo K6.out.size) (Nat.le_refl _) (fun g hg => ⟨hok g (Nat.le_trans K6.out.size hg), fun hx => by have := (O6.out.lt g hx.symm).2; omega⟩) (Nat.le_trans hB K6.out.size) PX
          clear PX
          go_wp2_with fail
          refine HM.mono ?_
          clear HM
          rintro e w4 ⟨hk, o, hev, hpost⟩
          have K4 := hide (K6.out.trans (hk.mono fun _ h => h.1))
          have X4 := hide (X6.out.keptS hk)
          have O4 := hide (owns_keptS O6.out hk (by decide))
          have E4 := hide hev
          clear hk hev K6 O6 X6 N6
          cases o with
          | fail er p =>
            obtain ⟨rfl, he⟩ := hpost
            exact ⟨rfl, postQ_fail K4.out (VR.out _ (ev_list_more Q1.out HC.out (M.Ev.bad E4.out))) he⟩
          | ok s4 z =>
            obtain ⟨rfl, hn4, hp, hg⟩ := hpost
            have NX := hide (part_len' (.inr rfl) E4.out)
            obtain ⟨y, names4⟩ := z
            have N4 := hide hn4
            clear hn4
            simp only at N4 NX
            have P4 := hide hp
            have G4 := hide hg
            have hi4 := hp.at'
            clear hp hg
            have VN := hide (fun o (ho : M.Ev L (fun r => r.list .par E d s4 names4 (acc ++ [y])) o) => VR.out o (ev_list_more Q1.out HC.out (M.Ev.bind (k := fun r s x => r.list .par E d s x.2 (acc ++ [x.1])) E4.out ho)))
            clear VR
            obtain ⟨i0, hi0, hz0, hz1, hz2⟩ := info_parts Tryz.infoInt
            have hw3 := hide (O4.out.alloc (.cells #[.int .i64 y] 3))
            have hl4 : acc.length + 1 ≤ s4.i := by
              have h2 := G4.out.1
              first | (simp only [M.St.nx] at h2; omega) | omega
            go_wp2_with (at_builtin; refine wpList_append_own_at _ rfl _ _ 43 rfl w.heap.size 3 i0 (.int .i64 0) 1 8 Tryz.underlying43 hi0 hz0 hz1 hz2 rfl (by decide) _ _ _ rfl hw3.out ⟨w4.heap.size, 0, none⟩ 1 1 [.int .i64 y] rfl rfl ?c1 ?c2 ?c3 ?c4 ?c5 ?_)
            case c1 => exact cell_one_new _ _ _
            case c2 => intro u hu; simp at hu; rcases hu with rfl; rfl
            case c3 => simp only [maxLen]; omega
            case c4 => omega
            case c5 => have := K4.out.size; simp; omega
            · intro v' w5 hown2 hg2 _ hat
              obtain ⟨ad2, c2, hv2⟩ := owns_form hown2
              rw [hv2] at hown2 hat ⊢
              have PG := hide ((P4.out.alloc (.cells #[.int .i64 y] 3)).grown (v := .slice ad acc.length c) (v' := .slice ad2 (acc.length + 1) c2) (O4.out.alloc _) (.inl rfl) hg2 (by simpa using hat))
              have KG := hide ((K4.out.alloc (.cells #[.int .i64 y] 3)).grown (O4.out.alloc _) hg2)
              have NG := hide ((N4.out.alloc (.cells #[.int .i64 y] 3)).grown (O4.out.alloc _) hg2)
              have XG := hide ((X4.out.alloc (.cells #[.int .i64 y] 3)).grown (O4.out.alloc _) hg2)
              have OG := hide hown2
              clear hown2 hg2 hat hw3 P4 O4 K4 hv2 N4 X4
              go_wp2_with fail
              go_roundw
              case rel =>
                have h1 := GR.out
                have h2 := G4.out
                simp only [Grow, GrowE, M.St.nx] at h1 h2
                refine ⟨names4, acc ++ [y], s4, ad2, c2, by simp, by simp; omega, (by have h3 : names4.length = names.length + 1 := NX.out; have h4 : names.length = acc.length := NL.out; show names4.length = (acc ++ [y]).length; rw [List.length_append]; show _ = acc.length + 1; omega), NG.out, XG.out, KG.out, ⟨by omega, by omega, by omega, by omega⟩, ?_, ?_, VN.out⟩
                · have := OG.out
                  show World.ownsRow _ _ _ _ _ _ _
                  rw [ints_snoc]
                  simpa using this
                · have := PG.out
                  show Pst _ _ _ _ _ _ _ _
                  simpa using this
              case measure =>
                have h2 := G4.out
                have h3 := PG.out.nxt
                simp only [Grow, M.St.nx] at h2
                rw [h3, hnx]
                omega
        · exact ⟨rfl, postQ_fail K6.out (VR.out _ (ev_list_bad Q1.out (by rw [if_neg hz, M.need, hb]; rfl))) (by decide)⟩
    · have PX : Pst w3 B pb tv L (fun g => ok g ∧ some g ≠ Value.ownBlock (.slice ad acc.length c)) d s'.nx := by simpa using P3.out
      have PY := hide (PX.mono (ok' := ok) (fun g hg _ => hg.1))
      have EV := hide (VR.out _ (ev_list_end Q1.out))
      have GX := hide (show Grow1 s s'.nx by
        have h2 := GR.out
        simp only [Grow1, GrowE, M.St.nx] at h2 ⊢
        omega)
      clear VR P3 PX
      go_wp2_with fail
      go_ret
      exact postQ_ok K3.out EV.out O3.out (by simp only [M.St.nx]; omega) PY.out GX.out


end
end Go.Proofs.YtjojlcfoiknlhaaGreatDoor
