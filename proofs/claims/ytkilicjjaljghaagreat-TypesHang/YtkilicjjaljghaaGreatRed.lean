/-
  The contracts of New and read.
-/
import Derived.Test.YtkilicjjaljghaaGreatAdt
namespace Go.Proofs.YtkilicjjaljghaaGreat
open Go.RowKit Go.Maps

set_option maxHeartbeats 400000 in
theorem new_any (w : World) : Calls Tryz.prog 28 #[] w fun e w' => e = .returned (.pointer (some ⟨w.heap.size + 1, 0, none⟩)) ∧ Chg (fun _ => False) w w' ∧ Shp w' (w.heap.size + 1) w.heap.size 1000 [] (.map []) ∧ w'.cell? ⟨w.heap.size + 1, 0, none⟩ = some (.slice none 0 0) := by
  have hmm := @run_makeMap Tryz.prog
  have HB : Hid (((w.alloc (.map #[] 0)).alloc (.cells #[.slice none 0 0, .map (some w.heap.size)] 65)).heap[w.heap.size + 1]? = some (.cells #[.slice none 0 0, .map (some w.heap.size)] 65 (0, 0))) := by
    have := heap_alloc_new (w.alloc (.map #[] 0)) (.cells #[.slice none 0 0, .map (some w.heap.size)] 65)
    rw [show (w.alloc (.map #[] 0)).heap.size = w.heap.size + 1 from by simp] at this
    exact this
  have HS : Hid (Shp ((w.alloc (.map #[] 0)).alloc (.cells #[.slice none 0 0, .map (some w.heap.size)] 65)) (w.heap.size + 1) w.heap.size 1000 [] (.map [])) :=
    ⟨by intro i hi; simp at hi, (mst_new w 1000 (Nat.le_refl _)).chg (Chg.alloc (fun _ => False) _ _) (fun x => x), _, [], HB.out, World.ownsRow_nil _ _ _ _, rfl⟩
  go_enter Tryz.func28, Tryz.ntmps28
  go_wp2
  go_ret
  exact ⟨rfl, (Chg.alloc (fun _ => False) _ _).trans (Chg.alloc (fun _ => False) _ _) (fun _ _ x => x), HS.out, by rw [cell_of_row _ _ 0 _ _ _ HB.out]; rfl⟩

/-- What some texts are, read one behind the other. -/
inductive Rd (ss : List (List UInt8)) : Nat → List M.Ty → List Int → Prop
  | zero : Rd ss 0 [] []
  | succ {j : Nat} {T X : List M.Ty} {rs : List Int} (h : j < ss.length) : Rd ss j T rs → M.TRes ss[j] (.inr X) → Rd ss (j + 1) (M.behind T X) (rs ++ [(T.length : Int) + X.length - 1])

theorem Rd.len {ss : List (List UInt8)} {j : Nat} {T : List M.Ty} {rs : List Int} (h : Rd ss j T rs) : T.length ≤ 300 * j ∧ rs.length = j := by
  induction h with
  | zero => exact ⟨by simp, rfl⟩
  | succ hj _ hx ih =>
    have := (M.tres_ok hx).2.2.1
    refine ⟨?_, by simp [ih.2]⟩
    simp [M.behind]
    omega


/-- What read answers. -/
def RdAns (ss : List (List UInt8)) (w : World) (e : Ending) (w' : World) : Prop := Below w.heap.size w w' ∧
  ((∃ (j : Nat) (T : List M.Ty) (rs : List Int) (er p : Int) (hj : j < ss.length), Rd ss j T rs ∧ M.TRes ss[j] (.inl (er, p)) ∧ e = .returned (.tuple #[.pointer none, .slice none 0 0, .agg #[.int .i64 er, .int .i64 p]])) ∨
    ∃ (T : List M.Ty) (rs : List Int) (lb mb : Nat) (ad : Option Addr) (c : Nat), Rd ss ss.length T rs ∧ e = .returned (.tuple #[.pointer (some ⟨lb, 0, none⟩), .slice ad rs.length c, .agg #[.int .i64 0, .int .i64 0]]) ∧ Shp w' lb mb 1000 T (.map []) ∧ w.heap.size ≤ lb ∧ w.heap.size ≤ mb ∧ w'.ownsRow w.heap.size 3 1 (.slice ad rs.length c) rs.length (ints rs) ∧
      ∃ v, w'.cell? ⟨lb, 0, none⟩ = some v ∧ ∀ g, v.ownBlock = some g → w.heap.size ≤ g)

/-- Stores into the block of the result change nothing else. -/
theorem red_store {w wr : World} {n0 lb mb : Nat} {T : List M.Ty} {rs : List Int} {ad : Option Addr} {ac : Nat} {D : Dt} (a0 a1 : Value) (hf : wr.heap[n0]? = some (.cells #[.int .i64 0, .int .i64 0] 24 (0, 0))) (hs : Shp wr lb mb 1000 T D) (ho : wr.ownsRow n0 3 1 (.slice ad rs.length ac) rs.length (ints rs)) (hv : ∃ v, wr.cell? ⟨lb, 0, none⟩ = some v ∧ ∀ g, v.ownBlock = some g → n0 ≤ g) (hB : Below n0 w wr) (hn : n0 ≤ w.heap.size) :
    Below n0 w ((wr.setCell ⟨n0, 0, none⟩ a0).setCell ⟨n0, 1, none⟩ a1) ∧ Shp ((wr.setCell ⟨n0, 0, none⟩ a0).setCell ⟨n0, 1, none⟩ a1) lb mb 1000 T D ∧ ((wr.setCell ⟨n0, 0, none⟩ a0).setCell ⟨n0, 1, none⟩ a1).ownsRow n0 3 1 (.slice ad rs.length ac) rs.length (ints rs) ∧
      ∃ v, ((wr.setCell ⟨n0, 0, none⟩ a0).setCell ⟨n0, 1, none⟩ a1).cell? ⟨lb, 0, none⟩ = some v ∧ ∀ g, v.ownBlock = some g → n0 ≤ g := by
  have hc : Chg (fun k => k = n0) wr ((wr.setCell ⟨n0, 0, none⟩ a0).setCell ⟨n0, 1, none⟩ a1) := (Chg.set wr ⟨n0, 0, none⟩ a0).trans (Chg.set _ ⟨n0, 1, none⟩ a1) (fun _ _ x => x)
  have hmb : mb ≠ n0 := by
    rintro rfl
    exact hs.mst.tag _ _ _ hf
  have hlb : lb ≠ n0 := by
    rintro rfl
    obtain ⟨yv, yx, hb, _⟩ := hs.blk
    rw [hf] at hb
    simp only [Option.some.injEq, Obj.cells.injEq] at hb
    exact absurd hb.2.1 (by decide)
  refine ⟨hB.trans (hc.toBelow (fun k _ x => by omega) (Nat.le_trans hn hB.size)), hs.chg hc (hs.mst.chg hc hmb) (fun k cur e hk he hx => ?_), owns_chg ho hc (fun g hg hx => ?_), ?_⟩
  · have hx' : k = n0 := hx
    subst hx'
    rw [hf] at hk
    simp only [Option.some.injEq, Obj.cells.injEq] at hk
    obtain ⟨_, rfl, _⟩ := hk
    rcases he with h | h | h | h <;> exact absurd h (by decide)
  · have hx' : g = n0 := hx
    subst hx'
    obtain ⟨_, cur, hh⟩ := owns_tag ho g hg
    rw [hf] at hh
    simp only [Option.some.injEq, Obj.cells.injEq] at hh
    exact absurd hh.2.1 (by decide)
  · obtain ⟨v, h1, h2⟩ := hv
    exact ⟨v, by rw [World.cell?_of_block (hc.block lb (World.block_lt_of_cell? wr _ h1) hlb)]; exact h1, h2⟩

set_option maxRecDepth 10000 in
set_option maxHeartbeats 2000000 in
theorem read_any (w : World) (b c : Nat) (ss : List (List UInt8)) (hs : Strs w b ss) (hn : ss.length ≤ 3) (hsz : ∀ s ∈ ss, s.length ≤ maxLen) :
    Calls Tryz.prog 17 #[.slice (some ⟨b, 0, none⟩) ss.length c] w (RdAns ss w) := by
  have HN := new_any (w.alloc (.cells #[.int .i64 0, .int .i64 0] 24))
  have HS := hide hs
  have HZ := hide hsz
  have hb := hs.1
  clear hs hsz
  go_enter Tryz.func17, Tryz.ntmps17
  go_wp2_with fail
  refine HN.mono ?_
  clear HN
  rintro e w1 ⟨rfl, hc1, hsh, hce⟩
  simp only [World.size_alloc] at hsh hce ⊢
  have B1 := hide (((Below.refl w.heap.size w).alloc (Nat.le_refl _) (.cells #[.int .i64 0, .int .i64 0] 24)).trans (hc1.toBelow (fun _ _ x => x.elim) (by simp)))
  have F1 : Hid (w1.heap[w.heap.size]? = some (.cells #[.int .i64 0, .int .i64 0] 24 (0, 0))) := (hc1.block w.heap.size (by simp) (fun x => x)).trans (heap_alloc_new w _)
  have S1 := hide hsh
  have V1 := hide hce
  clear hc1 hsh hce
  go_wp2_with fail
  go_loopw [14, 6] (fun v u wr => ∃ (j : Nat) (T : List M.Ty) (rs : List Int) (ad : Option Addr) (ac : Nat), j ≤ ss.length ∧ v = .int .i64 (j : Int) ∧ u = .slice ad rs.length ac ∧ Hid (Rd ss j T rs) ∧ Hid (Below w.heap.size w wr) ∧ Hid (wr.heap[w.heap.size]? = some (.cells #[.int .i64 0, .int .i64 0] 24 (0, 0))) ∧
      Hid (Sho wr (w.heap.size + 1 + 1) (w.heap.size + 1) 1000 T (.map []) (fun g => some g ≠ Value.ownBlock (.slice ad rs.length ac))) ∧ Hid (wr.ownsRow w.heap.size 3 1 (.slice ad rs.length ac) rs.length (ints rs)) ∧ Hid (∃ v, wr.cell? ⟨w.heap.size + 1 + 1, 0, none⟩ = some v ∧ ∀ g, v.ownBlock = some g → w.heap.size ≤ g)) (fun v _ _ => ss.length - (intOf v).toNat)
  case atStart => exact ⟨0, [], [], none, 0, Nat.zero_le _, rfl, rfl, Rd.zero, B1.out, F1.out, S1.out.sho.chg (Chg.refl (fun _ => False) _) S1.out.mst (fun _ _ _ _ _ x => x) (fun g _ _ => by simp [Value.ownBlock]), World.ownsRow_nil _ _ _ _, _, V1.out, by simp [Value.ownBlock]⟩
  case round =>
    clear B1 F1 S1 V1
    obtain ⟨j, T, rs, ad, ac, hj, rfl, rfl, RR, BR, FR, SR, OR, VR⟩ := hrel
    have hbw : b < wr.heap.size := Nat.lt_of_lt_of_le hb BR.out.size
    by_cases hjl : j < ss.length
    · have y0 : wr.cell? ⟨b, j, none⟩ = some (.string ⟨ss[j].toArray⟩) := by rw [World.cell?_of_block (BR.out.block b hb)]; exact HS.out.2 j hjl
      have HT := type_any ⟨ss[j].toArray⟩ wr (by have := HZ.out ss[j] (List.getElem_mem hjl); simpa [ByteArray.size] using this)
      have RS := hide (fun X (hx : M.TRes ss[j] (.inr X)) => Rd.succ hjl RR.out hx)
      have RF := hide (fun er p (hx : M.TRes ss[j] (.inl (er, p))) => (⟨j, T, rs, hjl, RR.out, hx⟩ : ∃ (j : Nat) (T : List M.Ty) (rs : List Int) (hj : j < ss.length), Rd ss j T rs ∧ M.TRes ss[j] (.inl (er, p))))
      have e0 : (⟨ss[j].toArray⟩ : ByteArray).data.toList = ss[j] := by simp
      rw [e0] at HT
      generalize hxx : (⟨ss[j].toArray⟩ : ByteArray) = bx at *
      clear hxx e0
      have HRL := hide RR.out.len
      have hfz := (Array.getElem?_eq_some_iff.1 FR.out).1
      go_wp2_with fail
      refine HT.mono ?_
      clear HT
      rintro e w2 ⟨hb2, hans⟩
      have F2 : Hid (w2.heap[w.heap.size]? = some (.cells #[.int .i64 0, .int .i64 0] 24 (0, 0))) := (hb2.block w.heap.size hfz).trans FR.out
      have B2 := hide (BR.out.trans (hb2.mono BR.out.size))
      have C2 : Hid (Chg (fun _ => False) wr w2) := (Chg.below hb2).mono (fun k hk x => by omega)
      have f0 : w2.cell? ⟨w.heap.size, 0, none⟩ = some (.int .i64 0) := by rw [cell_of_row w2 _ 0 _ _ _ F2.out]; rfl
      have f1 : w2.cell? ⟨w.heap.size, 1, none⟩ = some (.int .i64 0) := by rw [cell_of_row w2 _ 1 _ _ _ F2.out]; rfl
      have hz := (Array.getElem?_eq_some_iff.1 F2.out).1
      have ff : ∀ o, w2.frozen? ⟨w.heap.size, o, none⟩ = false := fun o => frozen_of_row w2 _ o _ _ F2.out
      rcases hans with ⟨er, p, htr, rfl⟩ | ⟨X, xa, xc, htr, rfl, xx, hxo, hxr⟩
      · have hne : er ≠ 0 := htr.1
        have hne' : (er != 0) = true := by simp [hne]
        have RX := hide (RF.out er p htr)
        clear hb2 htr
        go_wp2_with fail
        go_region
        go_wp2
        exact bodyPost_ret (v := .tuple #[.pointer none, .slice none 0 0, .agg #[.int .i64 er, .int .i64 p]]) (by simp [results, Tryz.results17, go_sem, f0, f1, hz]) rfl
          ⟨(((B2.out.setCell (by simp) _).setCell (by simp) _).alloc (by simp; omega) _).drew, .inl (by
            obtain ⟨j', T', rs', hj', h1, h2⟩ := RX.out
            exact ⟨j', T', rs', er, p, hj', h1, h2, rfl⟩)⟩
      · obtain ⟨hXok, hX0, hX300, hXq, -, -⟩ := M.tres_ok htr
        have RN := hide (RS.out X htr)
        obtain ⟨v0, hv0, hv0g⟩ := VR.out
        obtain ⟨yv, yx, hyb, hyo, -⟩ := SR.out.blk
        have hvy : v0 = yv := by
          have : wr.cell? ⟨w.heap.size + 1 + 1, 0, none⟩ = some yv := by rw [cell_of_row wr _ 0 _ _ _ hyb]; rfl
          rw [hv0] at this
          exact Option.some.inj this
        subst hvy
        have hrl := HRL.out
        have CW := hide (C2.out.trans (Chg.alloc (fun _ => False) w2 (.cells #[.int .i64 0, .int .i64 0] 24)) (fun _ _ x => x))
        have HA := add_any (w2.alloc (.cells #[.int .i64 0, .int .i64 0] 24)) (SR.out.still CW.out) (fun g hg hx => by have h1 := (OR.out.lt g hx.symm).2; have h2 := CW.out.size; omega) X xa xc xx ((owns_base hxo (Nat.zero_le _)).alloc _) ((hxr.imp (TyV.chg (Chg.refl (fun _ => False) w2) (fun _ _ _ x => x.elim) (fun _ _ _ => trivial))).imp (TyV.chg (Chg.alloc (fun _ => False) w2 (.cells #[.int .i64 0, .int .i64 0] 24)) (fun _ _ _ x => x.elim) (fun _ _ _ => trivial))) hXok hXq (by omega) v0
          (by rw [World.cell?_of_block (CW.out.block _ (World.block_lt_of_cell? wr _ hv0) (fun x => x))]; exact hv0) (fun g hg hx => by have h1 := (hyo.lt g hg).2; have h2 := (hxo.lt g hx).1; omega)
        have HV0 := hide (show (w2.alloc (.cells #[.int .i64 0, .int .i64 0] 24)).cell? ⟨w.heap.size + 1 + 1, 0, none⟩ = some v0 ∧ ∀ g, v0.ownBlock = some g → w.heap.size ≤ g from ⟨by rw [World.cell?_of_block (CW.out.block _ (World.block_lt_of_cell? wr _ hv0) (fun x => x))]; exact hv0, hv0g⟩)
        have OW := hide (owns_chg OR.out CW.out (fun _ _ x => x))
        have BW := hide (B2.out.alloc (by have := B2.out.size; omega) (.cells #[.int .i64 0, .int .i64 0] 24))
        have FW : Hid ((w2.alloc (.cells #[.int .i64 0, .int .i64 0] 24)).heap[w.heap.size]? = some (.cells #[.int .i64 0, .int .i64 0] 24 (0, 0))) := (Below.heap_alloc w2 _ _ hz).trans F2.out
        have SW := hide (SR.out.still CW.out)
        clear hb2 hxo hxr hyb hyo hv0 hv0g hrl C2
        go_wp2_with fail
        refine HA.mono ?_
        clear HA
        rintro e w3 ⟨rfl, hc3, hs3, hr3⟩
        obtain ⟨yv, yx, hyb, hyo, -⟩ := SW.out.blk
        have hvy : v0 = yv := by
          have h1 : (w2.alloc (.cells #[.int .i64 0, .int .i64 0] 24)).cell? ⟨w.heap.size + 1 + 1, 0, none⟩ = some yv := by rw [cell_of_row _ _ 0 _ _ _ hyb]; rfl
          have h2 := HV0.out.1
          rw [h1] at h2
          exact (Option.some.inj h2).symm
        subst hvy
        have O3 := hide (owns_chg OW.out hc3 (fun g hg hx => by
          obtain ⟨_, cur, hh⟩ := owns_tag OW.out g hg
          exact addS_inner hyb hyo g trivial (OW.out.lt g hg).2 hx ⟨cur, _, hh, .inr rfl⟩))
        have F3 : Hid (w3.heap[w.heap.size]? = some (.cells #[.int .i64 0, .int .i64 0] 24 (0, 0))) := by
          show _ = _
          rw [hc3.block w.heap.size (Array.getElem?_eq_some_iff.1 FW.out).1 (fun hx => ?_)]
          · exact FW.out
          · rcases hx with hx | hx
            · omega
            · obtain ⟨_, cur, hh⟩ := owns_tag hyo _ hx.symm
              have := FW.out
              rw [hh] at this
              simp only [Option.some.injEq, Obj.cells.injEq] at this
              exact absurd this.2.1 (by decide)
        have B3 := hide (BW.out.trans (hc3.toBelow (fun k _ hx => by
          rcases hx with hx | hx
          · omega
          · exact HV0.out.2 k hx.symm) BW.out.size))
        have V3 : Hid (∃ v, w3.cell? ⟨w.heap.size + 1 + 1, 0, none⟩ = some v ∧ ∀ g, v.ownBlock = some g → w.heap.size ≤ g) := by
          obtain ⟨ad', c', h1, h2⟩ := hr3
          refine ⟨_, h1, fun g hg => ?_⟩
          rcases h2 with h2 | h2
          · exact HV0.out.2 g (h2 ▸ hg)
          · exact Nat.le_trans BW.out.size (h2 g hg)
        have S3 := hide hs3
        have hl3 := HRL.out.2
        have hrs : rs.length ≤ 3 := by omega
        clear hyb hyo hc3 hs3 hr3 OW FW SW BW CW F2 B2 hl3
        obtain ⟨i0, hi0, hzz0, hzz1, hzz2⟩ := info_parts Tryz.infoInt
        have hw3 := hide (O3.out.alloc (.cells #[.int .i64 ((T.length : Int) + X.length - 1)] 3))
        have hsz3 := B3.out.size
        go_wp2_with (at_builtin; refine wpList_append_own_at _ rfl _ _ 42 rfl w.heap.size 3 i0 (.int .i64 0) 1 8 Tryz.underlying42 hi0 hzz0 hzz1 hzz2 rfl (by decide) _ _ _ rfl hw3.out ⟨w3.heap.size, 0, none⟩ 1 1 [.int .i64 ((T.length : Int) + X.length - 1)] rfl rfl ?c1 ?c2 ?c3 ?c4 ?c5 ?_)
        case c1 => exact cell_one_new _ _ _
        case c2 => intro u hu; simp at hu; rcases hu with rfl; rfl
        case c3 => simp only [maxLen]; omega
        case c4 => omega
        case c5 => simp; omega
        · intro v' w5 hown2 hg2 _ hat
          obtain ⟨ad2, ac2, rfl⟩ := owns_form hown2
          have hg3 : Chg (fun k => some k = Value.ownBlock (.slice ad rs.length ac)) w3 w5 := ((Chg.alloc (fun _ => False) w3 (.cells #[.int .i64 ((T.length : Int) + X.length - 1)] 3)).mono fun _ _ x => x.elim).trans (Chg.grown hg2) (fun _ _ x => x)
          have htag : ∀ k cur e, w3.heap[k]? = some (.cells cur e (0, 0)) → some k = Value.ownBlock (.slice ad rs.length ac) → e = 3 := by
            intro k cur e hk hx
            obtain ⟨_, cur2, hh⟩ := owns_tag O3.out k hx.symm
            rw [hk] at hh
            simp only [Option.some.injEq, Obj.cells.injEq] at hh
            exact hh.2.1
          have S5 := hide (S3.out.chg (ok' := fun g => some g ≠ Value.ownBlock (.slice ad2 (rs.length + 1) ac2)) hg3 (S3.out.mst.chg hg3 (fun hx => by
              obtain ⟨_, cur, hh⟩ := owns_tag O3.out _ hx.symm
              exact S3.out.mst.tag _ _ _ hh))
            (fun k cur e hk he hx => by
              have h1 := htag k cur e hk hx
              rcases he with he | he | ⟨_, he⟩
              · rw [h1] at he; exact absurd he (by decide)
              · rw [h1] at he; exact absurd he (by decide)
              · exact he hx)
            (fun g hg hl hx => by
              rcases hat with ha | ha
              · exact hg (hx.trans ha)
              · rw [ha] at hx
                simp only [Option.some.injEq] at hx
                omega))
          have F5 : Hid (w5.heap[w.heap.size]? = some (.cells #[.int .i64 0, .int .i64 0] 24 (0, 0))) := by
            show _ = _
            rw [hg3.block w.heap.size (Array.getElem?_eq_some_iff.1 F3.out).1 (fun hx => absurd (htag _ _ _ F3.out hx) (by decide))]
            exact F3.out
          have B5 := hide (B3.out.trans (hg3.toBelow (fun k _ hx => (owns_tag O3.out k hx.symm).1) B3.out.size))
          have V5 : Hid (∃ v, w5.cell? ⟨w.heap.size + 1 + 1, 0, none⟩ = some v ∧ ∀ g, v.ownBlock = some g → w.heap.size ≤ g) := by
            obtain ⟨v, h1, h2⟩ := V3.out
            obtain ⟨yv, yx, hyb, _⟩ := S3.out.blk
            refine ⟨v, ?_, h2⟩
            rw [World.cell?_of_block (hg3.block _ (World.block_lt_of_cell? w3 _ h1) (fun hx => absurd (htag _ _ _ hyb hx) (by decide)))]
            exact h1
          have O5 := hide hown2
          clear hown2 hg2 hat hg3 htag hw3 O3 F3 B3 V3 S3
          go_wp2_with fail
          go_roundw
          case rel =>
            refine ⟨j + 1, _, rs ++ [(T.length : Int) + X.length - 1], ad2, ac2, by omega, by go_num, by simp, RN.out, B5.out, F5.out, ?_, ?_, V5.out⟩
            · have := S5.out
              show Sho _ _ _ _ _ _ _
              simpa using this
            · have := O5.out
              show World.ownsRow _ _ _ _ _ _ _
              rw [ints_snoc]
              simpa using this
          case measure => simp [intOf]; omega
    · have hje : j = ss.length := by omega
      subst hje
      have f0 : wr.cell? ⟨w.heap.size, 0, none⟩ = some (.int .i64 0) := by rw [cell_of_row wr _ 0 _ _ _ FR.out]; rfl
      have f1 : wr.cell? ⟨w.heap.size, 1, none⟩ = some (.int .i64 0) := by rw [cell_of_row wr _ 1 _ _ _ FR.out]; rfl
      have hz := (Array.getElem?_eq_some_iff.1 FR.out).1
      have ff : ∀ o, wr.frozen? ⟨w.heap.size, o, none⟩ = false := fun o => frozen_of_row wr _ o _ _ FR.out
      have HX := hide (red_store (.int .i64 0) (.int .i64 0) FR.out SR.out.shp OR.out VR.out BR.out (Nat.le_refl _))
      go_wp2_with fail
      exact bodyPost_ret (v := .tuple #[.pointer (some ⟨w.heap.size + 1 + 1, 0, none⟩), .slice ad rs.length ac, .agg #[.int .i64 0, .int .i64 0]]) (by simp [results, Tryz.results17, go_sem, f0, f1]) rfl
        ⟨HX.out.1, .inr ⟨T, rs, _, _, ad, ac, RR.out, rfl, HX.out.2.1, by omega, by omega, HX.out.2.2.1, HX.out.2.2.2⟩⟩
end Go.Proofs.YtkilicjjaljghaaGreat
