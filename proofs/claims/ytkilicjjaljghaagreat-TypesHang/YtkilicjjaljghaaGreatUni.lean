/-
  The contract of union.
-/
import Derived.Test.YtkilicjjaljghaaGreatParseA
namespace Go.Proofs.YtkilicjjaljghaaGreat
open Go.RowKit

section
variable {w : World} {B pb : Nat} {tv : Value} {L : List M.Tk} {ok : Nat → Prop} {d : Nat} {s : M.St}

theorem Tryz.infoInt : (Tryz.prog.info? 3).map (fun i => (i.zero, i.size, i.bytes)) = some (some (.int .i64 0), 1, 8) := by kernel_rfl

/-- A list of the call's own has grown. -/
theorem Pst.grown {w w' : World} {base size n : Nat} {e : TypeId} {v v' : Value} {xs : List Value} (h : Pst w B pb tv L (fun g => ok g ∧ some g ≠ v.ownBlock) d s) (ho : w.ownsRow base e size v n xs) (he : e = 3 ∨ e = 55) (hg : w.grownBy w' v.ownBlock)
    (hat : v'.ownBlock = v.ownBlock ∨ v'.ownBlock = some w.heap.size) : Pst w' B pb tv L (fun g => ok g ∧ some g ≠ v'.ownBlock) d s := by
  refine h.chg (Chg.grown hg) (fun k cur e' hk hx => ?_) (fun g hg hl => ?_)
  · obtain ⟨_, cur2, hh⟩ := owns_tag ho k hx.symm
    rw [hk] at hh
    simp only [Option.some.injEq, Obj.cells.injEq] at hh
    obtain ⟨_, rfl, _⟩ := hh
    refine ⟨by rcases he with rfl | rfl <;> decide, by rcases he with rfl | rfl <;> decide, by rcases he with rfl | rfl <;> decide, fun ht => ?_, fun _ hx2 => hx2.2 hx⟩
    obtain ⟨_, cur3, hh3⟩ := owns_tag h.toks k ht
    rw [hk] at hh3
    simp only [Option.some.injEq, Obj.cells.injEq] at hh3
    obtain ⟨_, rfl, _⟩ := hh3
    rcases he with he | he <;> exact absurd he (by decide)
  · refine ⟨hg.1, fun hx => ?_⟩
    rcases hat with h1 | h1
    · exact hg.2 (by rw [← h1]; exact hx)
    · rw [h1] at hx
      simp only [Option.some.injEq] at hx
      omega

theorem Kept.grown {ok : Nat → Prop} {w0 w w' : World} {size n : Nat} {e : TypeId} {v : Value} {xs : List Value} (hk : Kept B ok w0 w) (ho : w.ownsRow w0.heap.size e size v n xs) (hg : w.grownBy w' v.ownBlock) : Kept B ok w0 w' :=
  hk.trans' (Chg.grown hg) (fun i hi hx => by have := (owns_tag ho i hx.symm).1; omega)

theorem owns_lit (w : World) (base : Nat) (hb : base ≤ w.heap.size) (x : Int) : (w.alloc (.cells #[.int .i64 x] 3)).ownsRow base 3 1 (.slice (some ⟨w.heap.size, 0, none⟩) 1 1) 1 (ints [x]) :=
  ⟨rfl, .inr ⟨w.heap.size, 1, #[.int .i64 x], rfl, hb, heap_alloc_new w _, by omega, by simp [maxLen], rfl, rfl⟩⟩

/-- The token that is looked at, in memory. -/
def nxt (w : World) (pb : Nat) : Nat := (intOf ((w.cell? ⟨pb, 1, none⟩).getD (.int .i64 0))).toNat
theorem Pst.nxt (h : Pst w B pb tv L ok d s) : nxt w pb = s.i := by
  obtain ⟨g, c, nv, yv, -, -, -, -, -, -, c1, -⟩ := h.cell
  simp [YtkilicjjaljghaaGreat.nxt, c1, intOf]

set_option maxHeartbeats 1000000 in
theorem union_any (hL : LOk L) (m : Nat) (hMem : ∀ m', m' ≤ m → Con B pb tv L 98 (fun d s r => r.member d s) m') :
    Con B pb tv L 74 (fun d s r => r.union d s) m := by
  intro w ok d s hm hok hB h
  have hi := h.at'
  have hs := hL.short
  have H1 := hMem m (Nat.le_refl _) w ok d s hm hok hB h
  have HF := hide h.few.2
  have HV : Hid (∀ o, M.Ev L (fun r => M.obind (r.member d s) fun s x => if M.isM L s.i [[124]] then M.obind (r.unionL d s [x]) fun s l => M.addT s ⟨10, [], l, 0⟩ else some (.ok s x)) o → M.Ev L (fun r => r.union d s) o) := fun o ho => M.Ev.step (ho.eq (fun r => rfl))
  clear h
  go_enter Tryz.func74, Tryz.ntmps74
  go_wp2_with fail
  refine H1.mono ?_
  clear H1
  rintro e w1 ⟨hk, o, hev, hpost⟩
  have K1 := hide hk
  have E1 := hide hev
  clear hk hev
  cases o with
  | fail er p =>
    obtain ⟨rfl, he⟩ := hpost
    exact ⟨rfl, post_fail K1.out (HV.out _ (M.Ev.bad E1.out)) he⟩
  | ok s1 x =>
    obtain ⟨rfl, hp, hg⟩ := hpost
    have P1 := hide hp
    have G1 := hide hg
    have HI := is_any hL (hp.alloc (.cells (strV [[124]]) 9)) w1.heap.size 1 [[124]] (strs_many _ _ _) (by decide)
    clear hp hg
    have HV2 := hide (fun o ho => HV.out o (M.Ev.bind E1.out ho))
    clear HV E1
    generalize hb : M.isM L s1.i [[124]] = b at *
    have B1 := hide hb
    clear hb
    go_wp2_with fail
    refine HI.mono ?_
    clear HI
    rintro e w2 ⟨rfl, hc⟩
    have P2 := hide ((P1.out.alloc _).still hc)
    have K2 := hide (K1.out.trans (((Kept.refl B ok w1).alloc _).trans (still_kept hc)))
    clear hc P1 K1
    cases b
    · go_wp2_with fail
      go_ret
      exact post_ok K2.out (HV2.out _ (M.Ev.pure.eq (fun r => by simp))) P2.out G1.out
    · have HB := hide B1.out
      go_wp2_with fail
      go_loopw [4] (fun v wr => ∃ (acc : List Int) (s' : M.St) (ad : Option Addr) (c : Nat), v = .slice ad acc.length c ∧ acc.length ≤ s'.i ∧ Hid (M.isM L s'.i [[124]] = true ∨ s'.T.length + 1 + s.i ≤ s.T.length + s'.i) ∧ Hid (Kept B ok w wr) ∧ Hid (Grow s s') ∧ Hid (wr.ownsRow w.heap.size 3 1 (.slice ad acc.length c) acc.length (ints acc)) ∧
          Hid (Pst wr B pb tv L (fun g => ok g ∧ some g ≠ Value.ownBlock (.slice ad acc.length c)) d s') ∧ Hid (∀ o, M.Ev L (fun r => M.obind (r.unionL d s' acc) fun s l => M.addT s ⟨10, [], l, 0⟩) o → M.Ev L (fun r => r.union d s) o)) (fun _ wr => L.length - nxt wr pb)
      case atStart =>
        refine ⟨[x], s1, _, 1, rfl, by have := G1.out.1; simp; omega, .inl B1.out, K2.out.alloc _, G1.out, owns_lit w2 _ K2.out.size x, P2.out.chg (Chg.alloc (fun _ => False) _ _) (fun _ _ _ _ x => x.elim) (fun g hg hl => ⟨hg, by simp [Value.ownBlock]; omega⟩), fun o ho => HV2.out o (ho.eq (fun r => by simp))⟩
      case round =>
        clear HV2 P2 K2 G1
        obtain ⟨acc, s', ad, c, rfl, hacc, SR, KR, GR, OR, PR, VR⟩ := hrel
        have HT := took_any hL PR.out [124]
        have hi' := PR.out.at'
        have hnx := PR.out.nxt
        generalize hq : M.isM L s'.i [[124]] = q at *
        have Q1 := hide hq
        clear hq
        go_wp2_with fail
        refine HT.mono ?_
        clear HT
        rintro e w3 ⟨rfl, hk, hp⟩
        have K3 := hide (KR.out.trans (hk.mono fun _ h => h.1))
        have P3 := hide hp
        have O3 := hide (owns_kept OR.out hk (by decide))
        clear hk hp OR PR KR
        cases q
        · have S2 : s'.T.length + 1 + s.i ≤ s.T.length + s'.i := by
            rcases SR.out with h1 | h1
            · cases h1
            · exact h1
          have hT := HF.out
          have PY : Pst w3 B pb tv L (fun g => ok g ∧ some g ≠ Value.ownBlock (.slice ad acc.length c)) d s' := by simpa using P3.out
          have PX : Pst w3 B pb tv L ok d s' := PY.mono (fun g hg _ => hg.1)
          have HA := addType_any hL PX ⟨10, [], acc, 0⟩ none ad 0 0 acc.length c ⟨_, _, rfl, World.ownsRow_nil _ _ _ _, owns_base O3.out (Nat.zero_le _), by simp [Value.ownBlock], fun g hg => hok g (owns_tag O3.out g hg).1⟩ (by omega) (Nat.le_trans hB K3.out.size) (fun g hg => hok g (Nat.le_trans K3.out.size hg))
          have EV := hide (VR.out _ (M.Ev.bind (s := s') (x := acc) (k := fun _ s l => M.addT s ⟨10, [], l, 0⟩) (M.Ev.step (M.Ev.pure.eq (fun r => by show (if M.isM L s'.i [[124]] then _ else _) = _; rw [Q1.out]; rfl))) M.Ev.pure))
          have GX := hide (show Grow s ⟨s'.i, s'.N, s'.T ++ [⟨10, [], acc, 0⟩]⟩ by
            have h2 := GR.out
            simp only [Grow, List.length_append, List.length_cons, List.length_nil] at h2 ⊢
            omega)
          clear VR O3 P3 PX PY GR
          go_wp2_with fail
          refine HA.mono ?_
          clear HA
          rintro e w4 ⟨rfl, hk, hp⟩
          have K4 := hide (K3.out.trans hk)
          have P4 := hide hp
          clear hk hp
          go_wp2_with fail
          go_ret
          exact post_ok K4.out EV.out P4.out GX.out
        · have PX : Pst w3 B pb tv L (fun g => ok g ∧ some g ≠ Value.ownBlock (.slice ad acc.length c)) d s'.nx := by simpa using P3.out
          have hi2 := PX.at'
          have hj : s.i < s'.i := GR.out.1
          have HM := hMem (L.length - s'.nx.i) (by simp only [M.St.nx]; omega) w3 _ d s'.nx (Nat.le_refl _) (fun g hg => ⟨hok g (Nat.le_trans K3.out.size hg), fun hx => by have := (O3.out.lt g hx.symm).2; omega⟩) (Nat.le_trans hB K3.out.size) PX
          clear P3 PX
          go_wp2_with fail
          refine HM.mono ?_
          clear HM
          rintro e w4 ⟨hk, o, hev, hpost⟩
          have K4 := hide (K3.out.trans (hk.mono fun _ h => h.1))
          have O4 := hide (owns_kept O3.out hk (by decide))
          have E4 := hide hev
          clear hk hev K3 O3
          cases o with
          | fail er p =>
            obtain ⟨rfl, he⟩ := hpost
            exact ⟨rfl, post_fail K4.out (VR.out _ (M.Ev.bad (M.Ev.step ((M.Ev.bad E4.out).eq (fun r => by show (if M.isM L s'.i [[124]] then _ else _) = _; rw [Q1.out]; rfl))))) he⟩
          | ok s4 y =>
            obtain ⟨rfl, hp, hg⟩ := hpost
            have P4 := hide hp
            have G4 := hide hg
            have hi4 := hp.at'
            clear hp hg
            have VN := hide (fun o (ho : M.Ev L (fun r => M.obind (r.unionL d s4 (acc ++ [y])) fun s l => M.addT s ⟨10, [], l, 0⟩) o) => VR.out o (by
              obtain ⟨f1, h1⟩ := E4.out
              obtain ⟨f2, h2⟩ := ho
              refine ⟨f1 + f2 + 1, fun f hf => ?_⟩
              obtain ⟨g, rfl⟩ : ∃ g, f = g + 1 := ⟨f - 1, by omega⟩
              have a1 : (M.sp' L g).member d s'.nx = some (.ok s4 y) := h1 g (by omega)
              have a2 := h2 g (by omega)
              show M.obind (if M.isM L s'.i [[124]] then M.obind ((M.sp' L g).member d s'.nx) fun s x => (M.sp' L g).unionL d s (acc ++ [x]) else some (.ok s' acc)) _ = some o
              rw [Q1.out, if_pos rfl, a1]
              exact a2))
            clear VR
            obtain ⟨i0, hi0, hz0, hz1, hz2⟩ := info_parts Tryz.infoInt
            have hw3 := hide (O4.out.alloc (.cells #[.int .i64 y] 3))
            go_wp2_with (at_builtin; refine wpList_append_own_at _ rfl _ _ 42 rfl w.heap.size 3 i0 (.int .i64 0) 1 8 Tryz.underlying42 hi0 hz0 hz1 hz2 rfl (by decide) _ _ _ rfl hw3.out ⟨w4.heap.size, 0, none⟩ 1 1 [.int .i64 y] rfl rfl ?c1 ?c2 ?c3 ?c4 ?c5 ?_)
            case c1 => exact cell_one_new _ _ _
            case c2 => intro u hu; simp at hu; rcases hu with rfl; rfl
            case c3 => simp only [maxLen]; omega
            case c4 => omega
            case c5 => have := K4.out.size; simp; omega
            · intro v' w5 hown2 hg2 _ hat
              obtain ⟨ad2, c2, hv2⟩ := owns_form hown2
              rw [hv2] at hown2 hat ⊢
              have PG := hide ((P4.out.alloc (.cells #[.int .i64 y] 3)).grown (v := .slice ad acc.length c) (v' := .slice ad2 (acc.length + 1) c2) (O4.out.alloc _) (.inl rfl) hg2 (by simpa using hat))
              have KG := hide ((K4.out.alloc (.cells #[.int .i64 y] 3)).grown (O4.out.alloc _) hg2)
              have OG := hide hown2
              clear hown2 hg2 hat hw3 P4 O4 K4 hv2
              go_wp2_with fail
              go_roundw
              case rel =>
                have h1 := GR.out
                have h2 := G4.out
                simp only [Grow, M.St.nx] at h1 h2
                refine ⟨acc ++ [y], s4, ad2, c2, by simp, by simp; omega, .inr (by omega), KG.out, ⟨by omega, by omega, by omega, by omega⟩, ?_, ?_, VN.out⟩
                · have := OG.out
                  show World.ownsRow _ _ _ _ _ _ _
                  rw [ints_snoc]
                  simpa using this
                · have := PG.out
                  show Pst _ _ _ _ _ _ _ _
                  simpa using this
              case measure =>
                have h2 := G4.out
                have h3 := PG.out.nxt
                simp only [Grow, M.St.nx] at h2
                rw [h3, hnx]
                omega
end
end Go.Proofs.YtkilicjjaljghaaGreat
