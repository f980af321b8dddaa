/-
  The reference's reader: readType, over oneType.
-/
import Derived.Test.YtkilicjjaljghaaGreatRre
import Derived.Test.YtkilicjjaljghaaGreatPlainC
namespace Go.Proofs.YtkilicjjaljghaaGreat
open Go.RowKit

/-- What readType and oneType answer, where nothing is wrong. -/
def RPost (w : World) (B rb : Nat) (tv : Value) (L : List M.Tk) (d : Nat) (s' : M.St) (e : Ending) (w' : World) : Prop := (∃ z : Int, e = .returned (.int .i64 z)) ∧ RKept B w w' ∧ Rst w' B rb tv L d s'
def ReadC (B rb : Nat) (tv : Value) (L : List M.Tk) (K d : Nat) (s s' : M.St) : Prop := ∀ w : World, B ≤ w.heap.size → Rst w B rb tv L d s → Calls Tryz.prog K #[.pointer (some ⟨rb, 0, none⟩)] w (RPost w B rb tv L d s')

section
variable {B rb : Nat} {tv : Value} {L : List M.Tk}

theorem Rst.grown {w w' : World} {d : Nat} {s : M.St} {base size n : Nat} {e : TypeId} {v : Value} {xs : List Value} (h : Rst w B rb tv L d s) (ho : w.ownsRow base e size v n xs) (he : e ≠ 77 ∧ e ≠ 52 ∧ e ≠ 80) (hg : w.grownBy w' v.ownBlock) : Rst w' B rb tv L d s := by
  refine h.chg (Chg.grown hg) (fun k cur e' hk hx => ?_)
  obtain ⟨_, cur2, hh⟩ := owns_tag ho k hx.symm
  rw [hk] at hh
  simp only [Option.some.injEq, Obj.cells.injEq] at hh
  obtain ⟨_, rfl, _⟩ := hh
  exact he
theorem RKept.grown {w0 w w' : World} {size n : Nat} {e : TypeId} {v : Value} {xs : List Value} (hk : RKept B w0 w) (ho : w.ownsRow w0.heap.size e size v n xs) (hg : w.grownBy w' v.ownBlock) : RKept B w0 w' :=
  hk.new (Chg.grown hg) (fun i hx => (owns_tag ho i hx.symm).1)

set_option maxHeartbeats 2000000 in
set_option maxRecDepth 100000 in
theorem readType_step (hL : LOk L) {f : Nat} (hM : ∀ g, g < f → ∀ d s s' x, (M.sp' L g).member d s = some (.ok s' x) → ReadC B rb tv L 60 d s s') {d : Nat} {s s' : M.St} {x : Int} (h : (M.sp' L f).typ d s = some (.ok s' x)) : ReadC B rb tv L 38 d s s' := by
  intro w hB hR
  obtain ⟨hd, f2, s1, y, s2, l2, hf2, hm, ⟨h0, hh0, hu⟩, hend⟩ := M.typ_inv h
  have hs := hL.short
  have hgr := (M.gF L f2).member _ _ _ _ hm
  have hfew := hR.few
  have HE := hide (renter_any hR hd)
  have HM1 := hide (hM f2 hf2 _ _ _ _ hm)
  have HMG := hide hM
  have hal := fun k acc sc hk => M.uL_len (L := L) (d := d + 1) (s' := s2) k sc acc l2 hk
  have hl1 := (hal h0 _ _ hu).1
  clear hR hm hM
  obtain ⟨i0, hi0, hz0, hz1, hz2⟩ := info_parts Tryz.infoInt
  go_enter Tryz.func38, Tryz.ntmps38
  go_wp2_with fail
  refine HE.out.mono ?_
  rintro e w1 ⟨rfl, k1, r1⟩
  have HO := hide (HM1.out w1 (Nat.le_trans hB k1.size) r1)
  have K1 := hide k1
  clear k1 r1 HE HM1
  go_wp2_with fail
  refine HO.out.mono ?_
  rintro e w2 ⟨⟨z, rfl⟩, k2, r2⟩
  have K2 := hide (K1.out.trans k2)
  have R2 := hide r2
  have hrl : rb < w2.heap.size := r2.cell.choose_spec.choose_spec.2.2.2.2.1
  clear k2 r2 HO K1
  go_wp2_with fail
  go_loopw [4] (fun v wr => ∃ (zs : List Int) (sc : M.St) (ad : Option Addr) (c : Nat), v = .slice ad zs.length c ∧ 0 < zs.length ∧ zs.length ≤ sc.i + 1 ∧ Hid (RKept B w wr) ∧ Hid (wr.ownsRow w.heap.size 3 1 (.slice ad zs.length c) zs.length (ints zs)) ∧ Hid (Rst wr B rb tv L (d + 1) sc) ∧
      Hid (∃ h acc, h ≤ f2 ∧ acc.length = zs.length ∧ (M.sp' L h).unionL (d + 1) sc acc = some (.ok s2 l2))) (fun _ wr => L.length - nxt wr rb)
  case atStart =>
    exact ⟨[z], s1, _, 1, rfl, by simp, by simp, K2.out.trans (RKept.still (Chg.alloc _ _ _)), owns_lit w2 _ K2.out.size z, R2.out.still (Chg.alloc _ _ _), h0, [y], hh0, rfl, hu⟩
  case round =>
    clear K2 R2
    obtain ⟨zs, sc, ad, c, rfl, hz, hzi, KR, OR, RR, h1, acc, hh1, hal1, hu1⟩ := hrel
    have hnx := RR.out.nxt
    have hi := RR.out.at'
    have HT := hide (reat_any hL RR.out [124])
    have hst := M.uL_step hu1
    generalize M.isM L sc.i [[124]] = q at *
    go_wp2_with fail
    refine HT.out.mono ?_
    rintro e w3 ⟨rfl, k3, r3⟩
    have K3 := hide (KR.out.trans k3)
    have O3 := hide (k3.own OR.out (by decide))
    have R3 := hide r3
    clear k3 r3 KR OR RR HT
    cases q
    · rcases hst with ⟨-, rfl, rfl⟩ | ⟨hx, -⟩
      case inr => exact absurd hx (by decide)
      have R4 : Hid (Rst w3 B rb tv L (d + 1) s2) := R3.out
      clear R3
      obtain ⟨g, rfl, hg, hg1, hg2, y0⟩ := ints_cell (owns_base O3.out (Nat.zero_le _)) hz
      unfold maxLen at hg2
      generalize zs[0] = z0 at *
      by_cases hone : zs.length = 1
      · have hs' : s' = s2 := by
          rcases hend with ⟨-, h2⟩ | ⟨h2, -⟩
          · exact h2
          · omega
        subst hs'
        have HLV := hide (rleave_any R4.out (by omega))
        have e1 : (zs.length : Int) = 1 := by omega
        clear hend hal hal1 O3 hu1 hu
        generalize zs.length = n at *
        subst hone
        go_wp2_with fail
        refine HLV.out.mono ?_
        rintro e w5 ⟨rfl, k5, r5⟩
        have K5 := hide (K3.out.trans k5)
        have R5 := hide r5
        clear k5 r5
        go_wp2
        go_ret
        exact ⟨⟨_, rfl⟩, K5.out, R5.out⟩
      · have hs' : s2.T.length + 1 + s1.i ≤ s1.T.length + s2.i ∧ s' = ⟨s2.i, s2.N, s2.T ++ [⟨10, [], l2, 0⟩]⟩ := by
          rcases hend with ⟨h2, -⟩ | ⟨-, h2, h3⟩
          · omega
          · exact ⟨h2, h3⟩
        obtain ⟨hsl, rfl⟩ := hs'
        have HBD := hide (rbad_any R4.out)
        have HAD := hide (raddType_any hL R4.out ⟨10, [], l2, 0⟩ none (some ⟨g, 0, none⟩) 0 0 zs.length c 0 (by have := hgr.1; have := hgr.2; omega) (Nat.le_trans hB K3.out.size))
        have e1 : (1 : Int) < (zs.length : Int) := by omega
        clear hend hal hal1 hu1 hu
        go_wp2_with fail
        refine HBD.out.mono ?_
        rintro e w5 ⟨rfl, rfl⟩
        go_wp2_with fail
        refine HAD.out.mono ?_
        rintro e w5 ⟨rfl, k5, r5⟩
        have HLV := hide (rleave_any r5 (by omega))
        have K5 := hide (K3.out.trans k5)
        clear k5 r5
        go_wp2_with fail
        refine HLV.out.mono ?_
        rintro e w6 ⟨rfl, k6, r6⟩
        have K6 := hide (K5.out.trans k6)
        have R6 := hide r6
        clear k6 r6
        go_wp2
        go_ret
        exact ⟨⟨_, rfl⟩, K6.out, R6.out⟩
    · rcases hst with ⟨hx, -⟩ | ⟨-, g2, s3, y3, hg2, hm3, hu3⟩
      case inl => exact absurd hx (by decide)
      have R4 : Hid (Rst w3 B rb tv L (d + 1) sc.nx) := R3.out
      clear R3
      have hgr3 := (M.gF L g2).member _ _ _ _ hm3
      have HM3 := hide (HMG.out g2 (by omega) _ _ _ _ hm3 w3 (Nat.le_trans hB K3.out.size) R4.out)
      go_wp2_with fail
      refine HM3.out.mono ?_
      rintro e w5 ⟨⟨z5, rfl⟩, k5, r5⟩
      have K5 := hide (K3.out.trans k5)
      have O5 := hide ((k5.own O3.out (by decide)).alloc (.cells #[.int .i64 z5] 3))
      have R5 := hide (r5.still (Chg.alloc (fun _ => False) w5 (.cells #[.int .i64 z5] 3)))
      have hi5 := r5.at'
      clear k5 r5 HM3 R4 O3 K3
      go_wp2_with (at_builtin; refine wpList_append_own _ rfl _ _ 42 rfl w.heap.size 3 i0 (.int .i64 0) 1 8 Tryz.underlying42 hi0 hz0 hz1 hz2 rfl (by decide) _ _ _ rfl O5.out ⟨w5.heap.size, 0, none⟩ 1 1 [.int .i64 z5] rfl rfl ?c1 ?c2 ?c3 ?c4 ?c5 ?_)
      case c1 => exact cell_one_new _ _ _
      case c2 => intro u hu; simp at hu; rcases hu with rfl; rfl
      case c3 => simp only [maxLen]; omega
      case c4 => omega
      case c5 => have := K5.out.size; simp; omega
      intro v' w6 hown6 hg6 _
      have e3 : zs.length + 1 = (zs ++ [z5]).length := by simp
      have R6 := hide (R5.out.grown O5.out (by decide) hg6)
      have K6 := hide ((K5.out.trans (RKept.still (Chg.alloc (fun _ => False) w5 (.cells #[.int .i64 z5] 3)))).grown O5.out hg6)
      rw [e3, show ints zs ++ [.int .i64 z5] = ints (zs ++ [z5]) from by simp [ints]] at hown6
      obtain ⟨ad6, c6, rfl⟩ := owns_form hown6
      have O6 := hide hown6
      clear hown6 hg6 O5 R5 K5
      go_wp2
      go_roundw
      case rel =>
        have h3 := hgr3.1
        simp only [M.St.nx] at h3
        exact ⟨zs ++ [z5], s3, ad6, c6, rfl, by simp, by simp; omega, K6.out, O6.out, R6.out, g2, acc ++ [y3], by omega, by simp [hal1], hu3⟩
      case measure =>
        have h3 := hgr3.1
        have h4 := R6.out.nxt
        simp only [M.St.nx] at h3
        rw [h4, hnx]
        omega
end
end Go.Proofs.YtkilicjjaljghaaGreat
