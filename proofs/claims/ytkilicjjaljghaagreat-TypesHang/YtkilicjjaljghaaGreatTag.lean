/-
  The contract of Tags.
-/
import Derived.Test.YtkilicjjaljghaaGreatShp
namespace Go.Proofs.YtkilicjjaljghaaGreat
open Go.RowKit Go.Maps

theorem tags_plain {T : List M.Ty} {i : Nat} (hT : M.TsOk T) (hi : i < T.length) (h : T[i].kind ≠ 10) : M.tags (M.tr T i) = M.tagOf T[i].kind := by
  rw [M.tr_eq hT hi, M.tags, if_neg h]
theorem tags_uni {T : List M.Ty} {i : Nat} (hT : M.TsOk T) (hi : i < T.length) (h : T[i].kind = 10) : M.tags (M.tr T i) = M.tagsL (T[i].list.map fun x => M.tr T x.toNat) := by
  have ht := hT i hi
  have hf : T[i].fields = [] := by
    rcases ht with ht | ht | ht | ht | ht
    · omega
    · omega
    · omega
    · omega
    · exact ht.2.1
  rw [M.tr_eq hT hi, M.tags, if_pos h, hf, if_neg (by omega)]
  simp

theorem tagsL_snoc : ∀ (l : List M.Tr) (t : M.Tr), M.tagsL (l ++ [t]) = M.tagsL l ||| M.tags t
  | [], t => by simp [M.tagsL]
  | a :: l, t => by rw [List.cons_append, M.tagsL, M.tagsL, tagsL_snoc l t, Nat.or_assoc]

theorem bits_or (a b : Nat) (ha : a < 128) (hb : b < 128) : bits BinOp.or IntKind.i64 (a : Int) (b : Int) = ((a ||| b : Nat) : Int) := by
  have h := Nat.or_lt_two_pow (n := 7) ha hb
  have e : (BitVec.ofNat IntKind.i64.bits a ||| BitVec.ofNat IntKind.i64.bits b).toNat = a ||| b := by
    rw [BitVec.toNat_or, BitVec.toNat_ofNat, BitVec.toNat_ofNat, Nat.mod_eq_of_lt (by simp [IntKind.bits]; omega), Nat.mod_eq_of_lt (by simp [IntKind.bits]; omega)]
  simp only [bits, BitVec.ofInt_natCast, e]
  simp [IntKind.wrap, IntKind.bits, IntKind.signed]
  omega

set_option maxHeartbeats 2000000 in
theorem tags_any {lb mb N : Nat} {T : List M.Ty} {D : Dt} : ∀ (i : Nat) (w : World), i < T.length → Shp w lb mb N T D →
    Calls Tryz.prog 27 #[.pointer (some ⟨lb, 0, none⟩), .int .i64 (i : Int)] w fun e w' => e = .returned (.int .i64 (M.tags (M.tr T i) : Int)) ∧ Chg (fun _ => False) w w' := by
  intro i
  induction i using Nat.strongRecOn with
  | ind i ih =>
    intro w hi h
    have hT := h.ok
    have hfew := h.few
    obtain ⟨ad, c, c0, c1, hlt, fz, hcell⟩ := h.cell
    obtain ⟨g, fa, fc, la, lc, rfl, hg, hc1, hc2, x0, x1, x2, x3, of1, ol1⟩ := hcell i hi
    have HP := hide (tags_plain hT hi)
    have HU := hide (tags_uni hT hi)
    have HL := hide (hT i hi).lst
    have HS := hide h
    have HO := hide ol1
    clear hcell h of1 ol1
    unfold maxLen at hc2
    generalize T[i].kind = k at *
    generalize T[i].of' = o at *
    generalize hls : T[i].list = ls at *
    by_cases h10 : k = 10
    · subst h10
      have hu := HU.out rfl
      rw [hu]
      clear hu HP HU
      have hw0 : Hid (∀ j (hj : j < ls.length), ∃ g2, la = some ⟨g2, 0, none⟩ ∧ g2 < w.heap.size ∧ ls.length ≤ lc ∧ lc ≤ maxLen ∧ w.cell? ⟨g2, j, none⟩ = some (.int .i64 ls[j])) := by
        intro j hj
        obtain ⟨g2, h1, _, h2, h3, h4, h5⟩ := owns_cell HO.out (by omega)
        exact ⟨g2, h1, h2, h3, h4, h5 j _ (by simp [ints, hj])⟩
      clear HO
      go_enter Tryz.func27, Tryz.ntmps27
      go_wp2
      go_loopw [37, 6] (fun v u wr => ∃ j : Nat, j ≤ ls.length ∧ v = .int .i64 (j : Int) ∧ u = .int .i64 (M.tagsL ((ls.take j).map fun x => M.tr T x.toNat) : Int) ∧ Hid (Chg (fun _ => False) w wr)) (fun v _ _ => ls.length - (intOf v).toNat)
      case atStart => exact ⟨0, Nat.zero_le _, rfl, by simp [M.tagsL], Chg.alloc _ _ _⟩
      case round =>
        obtain ⟨j, hj, rfl, rfl, KR⟩ := hrel
        by_cases hjl : j < ls.length
        · obtain ⟨g2, rfl, hg2, hl1, hl2, y0⟩ := hw0.out j hjl
          have y1 : wr.cell? ⟨g2, j, none⟩ = some (.int .i64 ls[j]) := by rw [World.cell?_of_block (KR.out.block g2 hg2 (fun x => x))]; exact y0
          have hg3 : g2 < wr.heap.size := Nat.lt_of_lt_of_le hg2 KR.out.size
          have hx := HL.out ls[j] (List.getElem_mem hjl)
          obtain ⟨z, hz⟩ : ∃ z : Nat, ls[j] = (z : Int) := ⟨ls[j].toNat, by omega⟩
          have HT : Hid (M.tagsL ((ls.take (j + 1)).map fun x => M.tr T x.toNat) = M.tagsL ((ls.take j).map fun x => M.tr T x.toNat) ||| M.tags (M.tr T z)) := by
            show _ = _
            rw [List.take_succ_eq_append_getElem hjl, List.map_append, List.map_singleton, tagsL_snoc, hz]
            simp
          rw [hz] at y1 hx
          have HC := ih z (by omega) wr (by omega) (HS.out.still KR.out)
          unfold maxLen at hl2
          clear y0 hz hx
          have H1 := hide (M.tagsL_lt ((ls.take j).map fun x => M.tr T x.toNat))
          have H2 := hide (M.tags_lt (M.tr T z))
          generalize M.tagsL ((ls.take j).map fun x => M.tr T x.toNat) = t1 at *
          generalize M.tags (M.tr T z) = t2 at *
          go_wp2_with fail
          refine HC.mono ?_
          clear HC
          rintro e w2 ⟨rfl, hc⟩
          go_wp2
          go_roundw
          case rel => exact ⟨j + 1, by omega, by go_num, by rw [HT.out, bits_or _ _ H1.out H2.out], KR.out.trans hc (fun _ _ x => x)⟩
          case measure => simp [intOf]; omega
        · have hje : j = ls.length := by omega
          subst hje
          rw [List.take_length] at *
          go_wp2
          go_ret
          exact ⟨rfl, KR.out⟩
    · have hp := HP.out h10
      rw [hp]
      clear hp HP HU HL HO
      go_enter Tryz.func27, Tryz.ntmps27
      go_wp2
      all_goals go_ret
      all_goals exact ⟨ret_int (by simp_all [M.tagOf]), Chg.alloc _ _ _⟩
end Go.Proofs.YtkilicjjaljghaaGreat
