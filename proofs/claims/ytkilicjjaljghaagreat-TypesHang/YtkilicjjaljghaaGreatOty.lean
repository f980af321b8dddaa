/-
  The contract of objectType; the contract of typ, closed.
-/
import Derived.Test.YtkilicjjaljghaaGreatObj
namespace Go.Proofs.YtkilicjjaljghaaGreat
open Go.RowKit

section
variable {w : World} {B pb : Nat} {tv : Value} {L : List M.Tk} {ok : Nat → Prop} {d : Nat} {s : M.St}

theorem Tryz.infoField : (Tryz.prog.info? 55).map (fun i => (i.zero, i.size, i.bytes)) = some (some (.agg #[.string ⟨#[]⟩, .int .i64 0]), 2, 24) := by kernel_rfl

theorem Kept.transS {a b c : World} (h : Kept B ok a b) (k : KeptS B ok a.heap.size b c) : Kept B ok a c := by
  refine ⟨k.os.trans h.os, k.tape.trans h.tape, k.output.trans h.output, Nat.le_trans h.size k.size, fun i hi hn => ?_⟩
  have h1 := h.block i hi hn
  refine (k.block i (Nat.lt_of_lt_of_le hi h.size) (fun x => ?_)).trans h1
  rcases x with ⟨x1, ⟨cs, e, fz, hh, r⟩, x3⟩ | ⟨x1, _⟩
  · exact hn ⟨x1, ⟨cs, e, fz, by rw [← h1]; exact hh, r⟩, x3⟩
  · omega

theorem owns_keptS {w w' : World} {lo base : Nat} {e : TypeId} {size : Nat} {v : Value} {n : Nat} {xs : List Value} (h : w.ownsRow base e size v n xs) (hc : KeptS B ok lo w w')
    (he : e ≠ 96 ∧ e ≠ 186 ∧ e ≠ 52 ∧ e ≠ 33 ∧ e ≠ 9) : w'.ownsRow base e size v n xs := by
  refine owns_chg h hc fun g hg hx => ?_
  obtain ⟨_, cur, hh⟩ := owns_tag h g hg
  have key : ∀ cs e' fz, w.heap[g]? = some (.cells cs e' fz) → e' = e := by
    intro cs e' fz hh'
    rw [hh] at hh'
    simp only [Option.some.injEq, Obj.cells.injEq] at hh'
    exact hh'.2.1.symm
  rcases hx with ⟨_, ⟨cs, e', fz, hh', r⟩, _⟩ | ⟨_, cs, e', fz, hh', r⟩
  · have := key _ _ _ hh'
    subst this
    rcases r with r | r | r
    · exact he.1 r
    · exact he.2.1 r
    · exact he.2.2.1 r
  · have := key _ _ _ hh'
    subst this
    rcases r with r | r
    · exact he.2.2.2.1 r
    · exact he.2.2.2.2 r

theorem Nms.chg {S : Nat → Prop} {w w' : World} {lo nb : Nat} {names : List (List UInt8)} (h : Nms w lo nb names) (hc : Chg S w w') (hs : ∀ k cs e, w.heap[k]? = some (.cells cs e (0, 0)) → S k → e ≠ 33 ∧ e ≠ 9) : Nms w' lo nb names := by
  obtain ⟨h1, ad, c, h2, h3⟩ := h
  refine ⟨h1, ad, c, ?_, owns_chg h3 hc (fun g hg hx => ?_)⟩
  · rw [hc.block nb (Array.getElem?_eq_some_iff.1 h2).1 (fun x => (hs nb _ _ h2 x).1 rfl)]
    exact h2
  · obtain ⟨_, cur, hh⟩ := owns_tag h3 g hg
    exact (hs g cur _ hh hx).2 rfl

theorem cell_two_new (w : World) (x y : Value) (t : TypeId) : ∀ j u, [x, y][j]? = some u → (w.alloc (.cells #[x, y] t)).cell? ((⟨w.heap.size, 0, none⟩ : Addr).add j) = some u := by
  intro j u hj
  have hadd : (⟨w.heap.size, 0, none⟩ : Addr).add j = ⟨w.heap.size, j, none⟩ := by unfold Addr.add; split <;> simp_all
  rw [hadd, World.cell?_alloc_new]
  rw [← hj]; simp

theorem newName_ok {names : List (List UInt8)} {s1 : M.St} {nm : List UInt8} (h : M.newName L s names = some (.ok s1 nm)) : s1 = s.nx := by
  unfold M.newName M.flt at h
  split at h
  · split at h
    · cases h
    · simp only [Option.some.injEq, M.Out.ok.injEq] at h
      exact h.1.symm
  · cases h
theorem newName_fail {names : List (List UInt8)} {er p : Int} (h : M.newName L s names = some (.fail er p)) : er ≠ 0 := by
  unfold M.newName M.flt at h
  split at h
  · split at h
    · simp only [Option.some.injEq, M.Out.fail.injEq] at h
      omega
    · cases h
  · simp only [Option.some.injEq, M.Out.fail.injEq] at h
    omega

theorem ev_obj_end {flds : List (List UInt8 × Int)} (hq : M.isM L s.i [[125]] = true) : M.Ev L (fun r => r.objL d s flds) (.ok ⟨s.nx.i, s.nx.N, s.nx.T ++ [⟨7, flds, [], 0⟩]⟩ s.nx.T.length) :=
  M.Ev.step (M.Ev.pure.eq fun r => by show (if M.isM L s.i [[125]] then _ else _) = _; rw [hq]; rfl)
theorem ev_obj_go {flds : List (List UInt8 × Int)} {o : M.Out Int} (hq : M.isM L s.i [[125]] = false)
    (h : M.Ev L (fun r => M.obind (M.newName L s (flds.map (·.1))) fun s nm => M.obind (M.need L s [58]) fun s _ => M.obind (r.typ d s) fun s x => M.obind (M.need L s [59]) fun s _ => r.objL d s (flds ++ [(nm, x)])) o) : M.Ev L (fun r => r.objL d s flds) o :=
  M.Ev.step (h.eq fun r => by show (if M.isM L s.i [[125]] then _ else _) = _; rw [hq]; rfl)
theorem need_yes {mk : List UInt8} (h : M.isM L s.i [mk] = true) : M.Ev L (fun _ => M.need L s mk) (.ok s.nx ()) := M.Ev.pure.eq fun r => by rw [M.need, h]; rfl
theorem need_no {mk : List UInt8} (h : M.isM L s.i [mk] = false) : M.Ev L (fun _ => M.need L s mk) (.fail 1 ((M.tk L s.i).at' : Int)) := M.Ev.pure.eq fun r => by rw [M.need, h]; rfl

set_option maxHeartbeats 2000000 in
theorem objectType_any (hL : LOk L) (m : Nat) (hTyp : ∀ m', m' ≤ m → Con B pb tv L 47 (fun d s r => r.typ d s) m') : Con B pb tv L 116 (fun d s r => r.objL d s []) m := by
  intro w ok d s hm hok hB h
  have hs := hL.short
  have hi := h.at'
  have HP := hide h
  clear h
  go_enter Tryz.func116, Tryz.ntmps116
  go_wp2_with fail
  go_loopw [4] (fun v wr => ∃ (flds : List (List UInt8 × Int)) (s' : M.St) (ad : Option Addr) (c : Nat), v = .slice ad flds.length c ∧ flds.length ≤ s'.i ∧ Hid (Nms wr w.heap.size w.heap.size (flds.map (·.1))) ∧ Hid (Kept B ok w wr) ∧ Hid (GrowE s s') ∧ Hid (wr.ownsRow w.heap.size 55 2 (.slice ad flds.length c) flds.length (frows flds)) ∧
      Hid (Pst wr B pb tv L (fun g => ok g ∧ some g ≠ Value.ownBlock (.slice ad flds.length c)) d s') ∧ Hid (∀ o, M.Ev L (fun r => r.objL d s' flds) o → M.Ev L (fun r => r.objL d s []) o)) (fun _ wr => L.length - nxt wr pb)
  case atStart =>
    refine ⟨[], s, none, 0, rfl, by simp, ⟨Nat.le_refl _, none, 0, heap_alloc_new w _, World.ownsRow_nil _ _ _ _⟩, (Kept.refl B ok w).alloc _, ⟨Nat.le_refl _, by omega, by omega, by omega⟩, World.ownsRow_nil _ _ _ _, (HP.out.alloc _).mono (fun g hg _ => ⟨hg, by simp [Value.ownBlock]⟩), fun _ h => h⟩
  case round =>
    obtain ⟨flds, s', ad, c, rfl, hacc, NR, KR, GR, OR, PR, VR⟩ := hrel
    have HT := took_any hL PR.out [125]
    have hi' := PR.out.at'
    have hnx := PR.out.nxt
    have hj : s.i ≤ s'.i := GR.out.1
    have hfw := PR.out.few
    generalize hq : M.isM L s'.i [[125]] = q at *
    have Q1 := hide hq
    clear hq
    go_wp2_with fail
    refine HT.mono ?_
    clear HT
    rintro e w3 ⟨rfl, hk, hp⟩
    have K3 := hide (KR.out.trans (hk.mono fun _ h => h.1))
    have P3 := hide hp
    have O3 := hide (owns_kept OR.out hk (by decide))
    have N3 := hide (NR.out.kept hk)
    clear hk hp OR PR KR NR
    cases q
    · have PX : Pst w3 B pb tv L (fun g => ok g ∧ some g ≠ Value.ownBlock (.slice ad flds.length c)) d s' := by simpa using P3.out
      have HN := newName_any hL PX w.heap.size w.heap.size (flds.map (·.1)) N3.out (by simp; omega) K3.out.size
      clear P3 PX N3
      have VG := hide (fun o ho => VR.out o (ev_obj_go Q1.out ho))
      clear VR
      generalize hnn : M.newName L s' (flds.map (·.1)) = NN at *
      have N0 := hide hnn
      clear hnn
      go_wp2_with fail
      refine HN.mono ?_
      clear HN
      rintro e w4 ⟨hk, hr⟩
      have K4 := hide (K3.out.transS (Chg.mono hk fun _ _ x => x.imp (fun y => ⟨y.1, y.2.1, y.2.2.1⟩) id))
      have O4 := hide (owns_keptS O3.out hk (by decide))
      clear hk K3 O3
      rcases NN with _ | ⟨s1, nm⟩ | ⟨er, p⟩
      · exact hr.elim
      · obtain ⟨rfl, hnm, hp⟩ := hr
        have hs1 : s1 = s'.nx := newName_ok N0.out
        subst hs1
        have HN5 := need_any hL hp [58]
        have N4 := hide hnm
        clear hp hnm
        have V4 := hide (fun o ho => VG.out o (M.Ev.bind (s := s'.nx) (x := nm) M.Ev.pure ho))
        clear VG
        go_wp2_with fail
        refine HN5.mono ?_
        clear HN5
        rintro e w5 ⟨hk, hr⟩
        have K5 := hide (K4.out.trans (hk.mono fun _ h => h.1))
        have O5 := hide (owns_kept O4.out hk (by decide))
        have N5 := hide (N4.out.kept hk)
        clear hk K4 O4 N4
        rcases hr with ⟨hb, rfl, hp⟩ | ⟨hb, rfl⟩
        · have hi5 := hp.at'
          have HM := hTyp (L.length - s'.nx.nx.i) (by simp only [M.St.nx]; omega) w5 _ d s'.nx.nx (Nat.le_refl _) (fun g hg => ⟨hok g (Nat.le_trans K5.out.size hg), fun hx => by have := (O5.out.lt g hx.symm).2; omega⟩) (Nat.le_trans hB K5.out.size) hp
          have V5 := hide (fun o ho => V4.out o (M.Ev.bind (need_yes hb) ho))
          clear hp hb V4
          go_wp2_with fail
          refine HM.mono ?_
          clear HM
          rintro e w6 ⟨hk, o, hev, hpost⟩
          have K6 := hide (K5.out.trans (hk.mono fun _ h => h.1))
          have O6 := hide (owns_kept O5.out hk (by decide))
          have N6 := hide (N5.out.kept hk)
          have E6 := hide hev
          clear hk hev K5 O5 N5
          cases o with
          | fail er p =>
            obtain ⟨rfl, he⟩ := hpost
            exact ⟨rfl, post_fail K6.out (V5.out _ (M.Ev.bad E6.out)) he⟩
          | ok s6 y =>
            obtain ⟨rfl, hp, hg⟩ := hpost
            have HN7 := need_any hL hp [59]
            have G6 := hide hg
            have V6 := hide (fun o ho => V5.out o (M.Ev.bind E6.out ho))
            clear hp hg V5 E6
            go_wp2_with fail
            refine HN7.mono ?_
            clear HN7
            rintro e w7 ⟨hk, hr⟩
            have K7 := hide (K6.out.trans (hk.mono fun _ h => h.1))
            have O7 := hide (owns_kept O6.out hk (by decide))
            have N7 := hide (N6.out.kept hk)
            clear hk K6 O6 N6
            rcases hr with ⟨hb, rfl, hp⟩ | ⟨hb, rfl⟩
            · have P7 := hide hp
              have hi7 := hp.at'
              have V7 := hide (fun o ho => V6.out o (M.Ev.bind (need_yes hb) ho))
              clear hp hb V6
              have G7 := hide (show s'.i + 4 ≤ s6.nx.i ∧ s6.nx.N.length + s'.i ≤ s'.N.length + s6.nx.i ∧ s6.nx.T.length + s'.i ≤ s'.T.length + s6.nx.i ∧ s'.N.length ≤ s6.nx.N.length by
                have h2 := G6.out
                simp only [Grow, M.St.nx] at h2 ⊢
                omega)
              clear G6
              generalize s6.nx = s7 at *
              obtain ⟨i0, hi0, hz0, hz1, hz2⟩ := info_parts Tryz.infoField
              have hw3 := hide (O7.out.alloc (.cells #[.string ⟨nm.toArray⟩, .int .i64 y] 55))
              go_wp2_with (at_builtin; refine wpList_append_own_at _ rfl _ _ 50 rfl w.heap.size 55 i0 _ 2 24 Tryz.underlying50 hi0 hz0 hz1 hz2 rfl (by decide) _ _ _ rfl hw3.out ⟨w7.heap.size, 0, none⟩ 1 1 [.string ⟨nm.toArray⟩, .int .i64 y] rfl rfl ?c1 ?c2 ?c3 ?c4 ?c5 ?_)
              case c1 => exact cell_two_new _ _ _ _
              case c2 => intro u hu; simp at hu; rcases hu with rfl | rfl <;> rfl
              case c3 => simp only [maxLen]; omega
              case c4 => omega
              case c5 => have := K7.out.size; simp; omega
              · intro v' w8 hown2 hg2 _ hat
                obtain ⟨ad2, c2, hv2⟩ := owns_form hown2
                rw [hv2] at hown2 hat ⊢
                have PG := hide ((P7.out.alloc (.cells #[.string ⟨nm.toArray⟩, .int .i64 y] 55)).grown (v := .slice ad flds.length c) (v' := .slice ad2 (flds.length + 1) c2) (O7.out.alloc _) (.inr rfl) hg2 (by simpa using hat))
                have KG := hide ((K7.out.alloc (.cells #[.string ⟨nm.toArray⟩, .int .i64 y] 55)).grown (O7.out.alloc _) hg2)
                have NG : Hid (Nms w8 w.heap.size w.heap.size ((flds.map (·.1)) ++ [nm])) := by
                  refine (N7.out.chg (Chg.alloc (fun _ => False) _ (.cells #[.string ⟨nm.toArray⟩, .int .i64 y] 55)) (fun _ _ _ _ x => x.elim)).chg (Chg.grown hg2) (fun k cs e hh hx => ?_)
                  obtain ⟨_, cur, hh2⟩ := owns_tag (O7.out.alloc (.cells #[.string ⟨nm.toArray⟩, .int .i64 y] 55)) k hx.symm
                  rw [hh] at hh2
                  simp only [Option.some.injEq, Obj.cells.injEq] at hh2
                  obtain ⟨_, rfl, _⟩ := hh2
                  exact ⟨by decide, by decide⟩
                have OG := hide hown2
                clear hown2 hg2 hat hw3 P7 O7 K7 hv2 N7
                go_wp2_with fail
                go_roundw
                case rel =>
                  have h1 := GR.out
                  have h2 := G7.out
                  simp only [GrowE] at h1
                  refine ⟨flds ++ [(nm, y)], s7, ad2, c2, by simp, by simp; omega, by have := NG.out; show Nms _ _ _ _; simpa using this, KG.out, ⟨by omega, by omega, by omega, by omega⟩, ?_, ?_, V7.out⟩
                  · have := OG.out
                    show World.ownsRow _ _ _ _ _ _ _
                    rw [frows_snoc]
                    simpa [fcells] using this
                  · have := PG.out
                    show Pst _ _ _ _ _ _ _ _
                    simpa using this
                case measure =>
                  have h2 := G7.out
                  have h3 := PG.out.nxt
                  rw [h3, hnx]
                  omega
            · exact ⟨rfl, post_fail K7.out (V6.out _ (M.Ev.bad (need_no hb))) (by decide)⟩
        · exact ⟨rfl, post_fail K5.out (V4.out _ (M.Ev.bad (need_no hb))) (by decide)⟩
      · have he : er ≠ 0 := newName_fail N0.out
        obtain rfl := hr
        exact ⟨rfl, post_fail K4.out (VG.out _ (M.Ev.bad M.Ev.pure)) he⟩
    · have PX : Pst w3 B pb tv L (fun g => ok g ∧ some g ≠ Value.ownBlock (.slice ad flds.length c)) d s'.nx := by simpa using P3.out
      have PY := PX.mono (ok' := ok) (fun g hg _ => hg.1)
      have HA := addType_any hL PY ⟨7, flds, [], 0⟩ ad none flds.length c 0 0 ⟨_, _, rfl, owns_base O3.out (Nat.zero_le _), World.ownsRow_nil _ _ _ _, fun g hg => hok g (owns_tag O3.out g hg).1, by simp [Value.ownBlock]⟩ (by simp only [M.St.nx]; omega) (Nat.le_trans hB K3.out.size) (fun g hg => hok g (Nat.le_trans K3.out.size hg))
      have EV := hide (VR.out _ (ev_obj_end Q1.out))
      have GX := hide (show Grow s ⟨s'.nx.i, s'.nx.N, s'.nx.T ++ [⟨7, flds, [], 0⟩]⟩ by
        have h2 := GR.out
        simp only [Grow, GrowE, M.St.nx, List.length_append, List.length_cons, List.length_nil] at h2 ⊢
        omega)
      clear VR P3 PX PY O3 N3
      go_wp2_with fail
      refine HA.mono ?_
      clear HA
      rintro e w4 ⟨rfl, hk, hp⟩
      have K4 := hide (K3.out.trans hk)
      have P4 := hide hp
      clear hk hp
      go_wp2_with fail
      go_ret
      exact post_ok K4.out EV.out P4.out GX.out

/-- The type parser, closed: whatever the tokens. -/
theorem typ_con (hL : LOk L) : ∀ m, Con B pb tv L 47 (fun d s r => r.typ d s) m := by
  intro m
  induction m using Nat.strongRecOn with
  | _ m ih =>
    have hO : ∀ m', m' < m → Con B pb tv L 116 (fun d s r => r.objL d s []) m' := fun m' h => objectType_any hL m' (fun k hk => ih k (by omega))
    have hF : ∀ m', m' < m → Con B pb tv L 118 (fun d s r => r.fob d s) m' := fun m' h => fob_any hL m' (fun k hk => ih k (by omega))
    have hM : ∀ m', m' ≤ m → Con B pb tv L 98 (fun d s r => r.member d s) m' := fun m' h => member_any hL m' (fun k hk => ih k (by omega)) (fun k hk => hO k (by omega)) (fun k hk => hF k (by omega))
    exact typ_any hL m (union_any hL m hM)
end
end Go.Proofs.YtkilicjjaljghaaGreat
