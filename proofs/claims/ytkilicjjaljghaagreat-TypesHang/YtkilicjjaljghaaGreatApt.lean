/-
  The contract of apart.
-/
import Derived.Test.YtkilicjjaljghaaGreatWky
namespace Go.Proofs.YtkilicjjaljghaaGreat
open Go.RowKit Go.Maps

/-- The tree of a number. -/
def trx (T : List M.Ty) (x : Int) : M.Tr := M.tr T x.toNat
theorem flatL_app : ∀ l l' : List M.Tr, M.flatL (l ++ l') = M.flatL l ++ M.flatL l'
  | [], _ => by simp [M.flatL]
  | t :: r, l' => by rw [List.cons_append, M.flatL, M.flatL, flatL_app r l', List.append_assoc]
theorem flatL_one (t : M.Tr) : M.flatL [t] = M.flat t := by simp [M.flatL]
theorem flat_take1 (T : List M.Ty) (ls : List Int) {j : Nat} (hj : j < ls.length) : M.flatL ((ls.take (j + 1)).map (trx T)) = M.flatL ((ls.take j).map (trx T)) ++ M.flat (trx T ls[j]) := by
  rw [List.take_succ_eq_append_getElem hj, List.map_append, flatL_app]
  simp [flatL_one]
theorem flat_uni {T : List M.Ty} {z : Nat} (hT : M.TsOk T) (hz : z < T.length) (hk : T[z].kind = 10) : M.flat (M.tr T z) = M.flatL (T[z].list.map (trx T)) := by
  rw [M.tr_eq hT hz, M.flat, if_pos hk, if_neg (by omega), no_fields hT hz (.inr hk)]
  simp
  rfl
theorem flat_other {T : List M.Ty} {z : Nat} (hT : M.TsOk T) (hz : z < T.length) (hk : T[z].kind ≠ 10) : M.flat (M.tr T z) = [M.tr T z] := by
  rw [M.tr_eq hT hz, M.flat, if_neg hk]
theorem wgL_len : ∀ l : List M.Tr, l.length * 5 ≤ M.wgL l
  | [] => by simp
  | t :: r => by have := wgL_len r; simp only [List.length_cons, M.wgL]; omega
theorem wgL_take (T : List M.Ty) (ls : List Int) (j : Nat) : M.wgL ((ls.take j).map (trx T)) ≤ M.wgL (ls.map (trx T)) := by
  have e : ls.map (trx T) = (ls.take j).map (trx T) ++ (ls.drop j).map (trx T) := by rw [← List.map_append, List.take_append_drop]
  rw [e, M.wgL_app]
  omega
theorem out_len {T : List M.Ty} {ls out : List Int} {j : Nat} (h : out.map (trx T) = M.flatL ((ls.take j).map (trx T))) : out.length * 5 ≤ M.wgL (ls.map (trx T)) := by
  have h1 := wgL_len (M.flatL ((ls.take j).map (trx T)))
  have h2 := M.wg_flatL ((ls.take j).map (trx T)) (fun x _ => M.wg_flat x)
  have h3 := wgL_take T ls j
  have h4 := congrArg List.length h
  rw [List.length_map] at h4
  omega
theorem wgL_uni {T : List M.Ty} {z : Nat} (hT : M.TsOk T) (hz : z < T.length) (hk : T[z].kind = 10) : M.wgL (T[z].list.map (trx T)) ≤ M.wg (M.tr T z) := by
  have e : (T[z].list.map fun x => M.tr T x.toNat) = T[z].list.map (trx T) := rfl
  rw [M.tr_eq hT hz, M.wg, if_neg (by omega), no_fields hT hz (.inr hk), e]
  simp
theorem flatL_ne {l : List M.Tr} (h0 : l ≠ []) (h : ∀ t ∈ l, M.flat t ≠ []) : M.flatL l ≠ [] := by
  cases l with
  | nil => exact absurd rfl h0
  | cons t r =>
    rw [M.flatL]
    intro e
    exact h t (by simp) (List.append_eq_nil_iff.1 e).1
theorem flat_ne (t : M.Tr) (h : M.Wf t) : M.flat t ≠ [] := by
  induction h with
  | plain k h1 h2 => rw [M.flat, if_neg (by omega)]; simp
  | obj ns ks a b c d _ => rw [M.flat, if_neg (by decide)]; simp
  | arr t a _ => rw [M.flat, if_neg (by decide)]; simp
  | fn t ps a b _ _ => rw [M.flat, if_neg (by decide)]; simp
  | uni ks h2 h ih =>
    rw [M.flat, if_pos rfl]
    exact flatL_ne (by rintro rfl; simp at h2) ih

/-- What apart answers. -/
def ApP (T : List M.Ty) (ls : List Int) (w : World) (e : Ending) (w' : World) : Prop := ∃ (ad : Option Addr) (c : Nat) (out : List Int), e = .returned (.slice ad out.length c) ∧ Chg (fun _ => False) w w' ∧ w'.ownsRow w.heap.size 3 1 (.slice ad out.length c) out.length (ints out) ∧ (∀ x ∈ out, 0 ≤ x ∧ x < T.length) ∧ out.map (trx T) = M.flatL (ls.map (trx T))

section
variable {lb mb N : Nat} {T : List M.Ty} {D : Dt}

/-- apart, of types whose numbers are less than m. -/
def ACon (lb mb N : Nat) (T : List M.Ty) (D : Dt) (m : Nat) : Prop := ∀ (ls : List Int) (w : World) (la : Option Addr) (lc : Nat), (∀ x ∈ ls, 0 ≤ x ∧ x < (m : Int) ∧ x < T.length) → Shp w lb mb N T D → w.ownsRow 0 3 1 (.slice la ls.length lc) ls.length (ints ls) → ls.length ≤ 100000 → M.wgL (ls.map (trx T)) ≤ 1000000 →
  Calls Tryz.prog 42 #[.pointer (some ⟨lb, 0, none⟩), .slice la ls.length lc] w (ApP T ls w)

set_option maxHeartbeats 2000000 in
set_option maxRecDepth 100000 in
theorem apart_step (hf : Few T) {m : Nat} (IH : ∀ z, z < m → ACon lb mb N T D z) : ACon lb mb N T D m := by
  intro ls w la lc hls h hol hn hwg
  have hT := h.ok
  obtain ⟨i0, hi, hz0, hz1, hz2⟩ := info_parts Tryz.infoInt
  have FS : Hid (∀ a, Chg (fun _ => False) w a → Shp a lb mb N T D) := fun a ha => h.still ha
  have FO : Hid (∀ a, Chg (fun _ => False) w a → a.ownsRow 0 3 1 (.slice la ls.length lc) ls.length (ints ls)) := fun a ha => owns_chg hol ha (fun _ _ x => x)
  clear h hol
  go_enter Tryz.func42, Tryz.ntmps42
  go_wp2_with fail
  go_loopw [11, 5] (fun v u wr => ∃ (j : Nat) (out : List Int) (ad : Option Addr) (ac : Nat), j ≤ ls.length ∧ v = .int .i64 (j : Int) ∧ u = .slice ad out.length ac ∧ Hid (Chg (fun _ => False) w wr) ∧ Hid (wr.ownsRow w.heap.size 3 1 (.slice ad out.length ac) out.length (ints out)) ∧ Hid (∀ x ∈ out, 0 ≤ x ∧ x < (T.length : Int)) ∧ Hid (out.map (trx T) = M.flatL ((ls.take j).map (trx T)))) (fun v _ _ => ls.length - (intOf v).toNat)
  case atStart => exact ⟨0, [], none, 0, Nat.zero_le _, rfl, rfl, Chg.refl _ _, World.ownsRow_nil _ _ _ _, (show ∀ x ∈ ([] : List Int), _ from by simp), (show _ = _ from by simp [M.flatL])⟩
  case round =>
    obtain ⟨j, out, ad, ac, hj, rfl, rfl, CR, OR, IR, ER⟩ := hrel
    by_cases hjl : j < ls.length
    · have hxx := hls ls[j] (List.getElem_mem hjl)
      have HT1 := hide (flat_take1 T ls hjl)
      have hol2 := out_len ER.out
      have hmem := M.wgL_mem (List.mem_map.2 ⟨ls[j], List.getElem_mem hjl, rfl⟩ : trx T ls[j] ∈ ls.map (trx T))
      obtain ⟨g, hla, hg, hg1, hg2, y0⟩ := ints_cell (FO.out wr CR.out) hjl
      subst hla
      unfold maxLen at hg2
      generalize ls[j] = xx at *
      obtain ⟨z, rfl⟩ : ∃ z : Nat, xx = (z : Int) := ⟨xx.toNat, by omega⟩
      have hz : z < T.length := by omega
      have htz : trx T (z : Int) = M.tr T z := by simp [trx]
      rw [htz] at hmem HT1
      obtain ⟨ad3, c3, c0, -, hlb, -, hcell⟩ := (FS.out wr CR.out).cell
      obtain ⟨g3, fa, fc, la2, lc2, rfl, hg3, hc1, hc2, x0, x1, x2, x3, -, ol1⟩ := hcell z hz
      unfold maxLen at hc2
      clear hcell
      have hfz := hf z hz
      have hlst := (hT z hz).lst
      have HU := hide (fun hk => flat_uni hT hz hk)
      have HO := hide (fun hk => flat_other hT hz hk)
      have hwu := fun hk => wgL_uni hT hz hk
      have hnl : T[z].kind = 10 → T[z].list ≠ [] := by
        intro hk
        rcases hT z hz with ht | ht | ht | ht | ht
        · omega
        · omega
        · omega
        · omega
        · rintro e
          have := ht.2.2.1
          rw [e] at this
          simp at this
      have hwf := fun x (hx : x ∈ T[z].list) => M.wf_tr hT x.toNat (by have := hlst x hx; omega)
      generalize T[z].kind = k at *
      generalize T[z].fields = fs at *
      generalize T[z].list = zs at *
      generalize T[z].of' = o at *
      have hca : Chg (fun _ => False) w (wr.alloc (.cells #[.int .i64 k, .slice fa fs.length fc, .slice la2 zs.length lc2, .int .i64 o] 52)) := CR.out.trans (Chg.alloc _ _ _) (fun _ _ x => x)
      have SZ : w.heap.size ≤ wr.heap.size := CR.out.size
      by_cases hk : k = 10
      · subst hk
        have HA := hide (IH z (by omega) zs _ la2 lc2 (fun x hx => by have := hlst x hx; omega) (FS.out _ hca) (ol1.alloc _) hfz.1 (by have := hwu rfl; omega))
        have HO1 := hide (OR.out.alloc (.cells #[.int .i64 10, .slice fa fs.length fc, .slice la2 zs.length lc2, .int .i64 o] 52))
        have HNE : Hid (M.flatL (zs.map (trx T)) ≠ []) := flatL_ne (by simpa using hnl rfl) (fun t ht => by
          obtain ⟨x, hx, rfl⟩ := List.mem_map.1 ht
          exact flat_ne _ (hwf x hx))
        have hwu2 := hwu rfl
        have HEZ := hide (HU.out rfl)
        have HCA := hide hca
        clear hca OR CR ol1 hwu hnl hwf hlst HU HO
        go_wp2_with fail
        refine HA.out.mono ?_
        rintro e w2 ⟨ad2, c2, out2, rfl, h2, h3, h4, h5⟩
        have hl2 := out_len (ls := zs) (j := zs.length) (by rw [List.take_length]; exact h5)
        have hpos : 0 < out2.length := by
          rcases Nat.eq_zero_or_pos out2.length with h0 | h0
          · have := congrArg List.length h5
            rw [List.length_map, h0] at this
            exact absurd (List.length_eq_zero_iff.1 this.symm) HNE.out
          · exact h0
        obtain ⟨q, rfl, hq1, hq2, -, -, hqc⟩ := owns_cell h3 hpos
        have HO2 := hide (owns_chg HO1.out h2 (fun _ _ x => x))
        have HN : Hid (∀ i u, (ints out2)[i]? = some u → w2.cell? ((⟨q, 0, none⟩ : Addr).add i) = some u) := by
          intro i u hu
          have hadd : (⟨q, 0, none⟩ : Addr).add i = ⟨q, i, none⟩ := by unfold Addr.add; split <;> simp_all
          rw [hadd]
          exact hqc i u hu
        have H1 : Hid (∀ u ∈ ints out2, u.oneCell' = true) := by
          intro u hu
          unfold ints at hu
          obtain ⟨x, -, rfl⟩ := List.mem_map.1 hu
          rfl
        have HL : Hid ((ints out2).length = out2.length * 1) := (show _ = _ from by simp [ints])
        have HC2 := hide (HCA.out.trans h2 (fun _ _ x => x))
        have H4 := hide h4
        have H5 := hide h5
        clear HA HO1 h2 h3 h4 h5 hqc HCA
        go_wp2_with (at_builtin; refine wpList_append_own _ rfl _ _ 42 rfl w.heap.size 3 i0 (.int .i64 0) 1 8 Tryz.underlying42 hi hz0 hz1 hz2 rfl (by decide) _ _ _ rfl HO2.out ⟨q, 0, none⟩ out2.length c2 (ints out2) rfl HL.out HN.out H1.out ?c3 ?c4 ?c5 ?_)
        case c3 => simp only [maxLen]; omega
        case c4 => omega
        case c5 => have := HC2.out.size; omega
        intro v' w3 hown3 hg3 _
        have e3 : out.length + out2.length = (out ++ out2).length := by simp
        rw [e3, show ints out ++ ints out2 = ints (out ++ out2) from by simp [ints]] at hown3
        obtain ⟨ad4, c4, rfl⟩ := owns_form hown3
        have HOW := hide hown3
        have HC3 : Hid (Chg (fun _ => False) w w3) := (((Chg.mono HC2.out (S' := fun k => w.heap.size ≤ k) (fun _ _ x => x.elim)).trans (Chg.grown hg3) (fun k hk x => (owns_tag HO2.out k x.symm).1))).mono (fun k hk x => by omega)
        clear hown3 hg3
        go_wp2
        go_roundw
        case rel =>
          refine ⟨j + 1, out ++ out2, ad4, c4, by omega, by go_num, rfl, HC3.out, HOW.out, fun x hx => ?_, ?_⟩
          · rcases List.mem_append.1 hx with hx | hx
            · exact IR.out x hx
            · exact H4.out x hx
          · show _ = _
            rw [HT1.out, List.map_append, ER.out, H5.out, HEZ.out]
        case measure => simp [intOf]; omega
      · have hkb : (k == 10) = false := by simp [hk]
        have HEZ := hide (HO.out hk)
        have HO1 := hide ((OR.out.alloc (.cells #[.int .i64 k, .slice fa fs.length fc, .slice la2 zs.length lc2, .int .i64 o] 52)).alloc (.cells #[.int .i64 (z : Int)] 3))
        have HCA := hide (hca.trans (Chg.alloc (fun _ => False) _ (.cells #[.int .i64 (z : Int)] 3)) (fun _ _ x => x))
        clear hca OR CR ol1 hwu hnl hwf hlst HU HO
        go_wp2_with (at_builtin; refine wpList_append_own _ rfl _ _ 42 rfl w.heap.size 3 i0 (.int .i64 0) 1 8 Tryz.underlying42 hi hz0 hz1 hz2 rfl (by decide) _ _ _ rfl HO1.out ⟨wr.heap.size + 1, 0, none⟩ 1 1 [.int .i64 (z : Int)] rfl rfl ?c1 ?c2 ?c3 ?c4 ?c5 ?_)
        case c1 =>
          intro i u hu
          match i, hu with
          | 0, hu => simp at hu; subst hu; simp [Addr.add]
        case c2 => intro u hu; simp at hu; subst hu; rfl
        case c3 => simp only [maxLen]; omega
        case c4 => omega
        case c5 => simp; omega
        intro v' w3 hown3 hg3 _
        have e3 : out.length + 1 = (out ++ [(z : Int)]).length := by simp
        rw [e3, show ints out ++ [.int .i64 (z : Int)] = ints (out ++ [(z : Int)]) from by simp [ints]] at hown3
        obtain ⟨ad4, c4, rfl⟩ := owns_form hown3
        have HOW := hide hown3
        have HC3 : Hid (Chg (fun _ => False) w w3) := (((Chg.mono HCA.out (S' := fun k => w.heap.size ≤ k) (fun _ _ x => x.elim)).trans (Chg.grown hg3) (fun k hk x => (owns_tag HO1.out k x.symm).1))).mono (fun k hk x => by omega)
        clear hown3 hg3
        go_wp2
        go_roundw
        case rel =>
          refine ⟨j + 1, out ++ [(z : Int)], ad4, c4, by omega, by go_num, rfl, HC3.out, HOW.out, fun x hx => ?_, ?_⟩
          · rcases List.mem_append.1 hx with hx | hx
            · exact IR.out x hx
            · simp at hx; subst hx; omega
          · show _ = _
            rw [HT1.out, List.map_append, ER.out, HEZ.out]
            simp [trx]
        case measure => simp [intOf]; omega
    · have hje : j = ls.length := by omega
      subst hje
      rw [List.take_length] at ER
      go_wp2_with fail
      go_ret
      exact ⟨ad, ac, out, rfl, CR.out, OR.out, IR.out, ER.out⟩

theorem apart_con (hf : Few T) (m : Nat) : ACon lb mb N T D m := by
  induction m using Nat.strongRecOn with
  | ind m ih => exact apart_step hf ih
end
end Go.Proofs.YtkilicjjaljghaaGreat
