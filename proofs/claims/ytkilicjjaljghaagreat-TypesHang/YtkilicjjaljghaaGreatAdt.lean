/-
  The contract of Add.
-/
import Derived.Test.YtkilicjjaljghaaGreatAds
namespace Go.Proofs.YtkilicjjaljghaaGreat
open Go.RowKit Go.Maps

section
variable {lb mb N : Nat}

/-- The cells of one type of a row. -/
theorem tys_cell {w : World} {xa : Option Addr} {xc : Nat} {X : List M.Ty} {xx : List Value} (hx : w.ownsRow 0 52 4 (.slice xa X.length xc) X.length xx) (hr : Rws (TyV w (fun _ => True)) X xx) {i : Nat} (hi : i < X.length) :
    ∃ g fa fc la lc, xa = some ⟨g, 0, none⟩ ∧ g < w.heap.size ∧ X.length ≤ xc ∧ xc ≤ maxLen ∧ w.cell? ⟨g, i * 4, none⟩ = some (.int .i64 X[i].kind) ∧ w.cell? ⟨g, i * 4 + 1, none⟩ = some (.slice fa X[i].fields.length fc) ∧ w.cell? ⟨g, i * 4 + 2, none⟩ = some (.slice la X[i].list.length lc) ∧
      w.cell? ⟨g, i * 4 + 3, none⟩ = some (.int .i64 X[i].of') ∧ w.ownsRow 0 55 2 (.slice fa X[i].fields.length fc) X[i].fields.length (frows X[i].fields) ∧ w.ownsRow 0 3 1 (.slice la X[i].list.length lc) X[i].list.length (ints X[i].list) := by
  obtain ⟨g, rfl, _, hg, hc1, hc2, hcell⟩ := owns_cell hx (by omega)
  obtain ⟨xs, ht, hx⟩ := Rws.at (z := 4) (fun _ _ h => h.len) i hi hr
  obtain ⟨fv, lv, rfl, ho1, ho2, _⟩ := ht
  obtain ⟨fa, fc, rfl⟩ := owns_form ho1
  obtain ⟨la, lc, rfl⟩ := owns_form ho2
  refine ⟨g, fa, fc, la, lc, rfl, hg, hc1, hc2, hcell _ _ ?_, hcell _ _ ?_, hcell _ _ ?_, hcell _ _ ?_, ho1, ho2⟩
  · have := hx 0 (by omega); simpa using this
  · have := hx 1 (by omega); simpa using this
  · have := hx 2 (by omega); simpa using this
  · have := hx 3 (by omega); simpa using this

theorem addS_inner {w : World} {v : Value} {n : Nat} {yx : List Value} {cs : Array Value} (hb : w.heap[lb]? = some (.cells cs 65 (0, 0))) (ho : w.ownsRow 0 52 4 v n yx) : ∀ g, True → g < w.heap.size → AddS lb v g → (∃ cur e, w.heap[g]? = some (.cells cur e (0, 0)) ∧ (e = 55 ∨ e = 3)) → False := by
  rintro g _ _ (hx | hx) ⟨cur, e, hh, he⟩
  · subst hx
    rw [hb] at hh
    simp only [Option.some.injEq, Obj.cells.injEq] at hh
    rcases he with rfl | rfl <;> exact absurd hh.2.1 (by decide)
  · obtain ⟨_, cur2, hh2⟩ := owns_tag ho g hx.symm
    rw [hh] at hh2
    simp only [Option.some.injEq, Obj.cells.injEq] at hh2
    rcases he with rfl | rfl <;> exact absurd hh2.2.1 (by decide)

/-- The list's row is the one it was, or a new one. -/
def Rowd (w : World) (lb : Nat) (v : Value) (wr : World) (n : Nat) : Prop := ∃ ad c, wr.cell? ⟨lb, 0, none⟩ = some (.slice ad n c) ∧ (Value.ownBlock (.slice ad n c) = v.ownBlock ∨ ∀ g, Value.ownBlock (.slice ad n c) = some g → w.heap.size ≤ g)

set_option maxRecDepth 100000 in
set_option maxHeartbeats 3200000 in
theorem add_any {T : List M.Ty} {D : Dt} {ok : Nat → Prop} (w : World) (h : Sho w lb mb N T D ok) (hokn : ∀ g, w.heap.size ≤ g → ok g) (X : List M.Ty) (xa : Option Addr) (xc : Nat) (xx : List Value) (hx : w.ownsRow 0 52 4 (.slice xa X.length xc) X.length xx) (hxr : Rws (TyV w (fun _ => True)) X xx) (hX : M.TsOk X)
    (hq : ∀ t ∈ X, t.fields.length ≤ 1001 ∧ t.list.length ≤ 1001 ∧ (t.kind = 8 ∨ t.kind = 9 ∨ t.of' = 0)) (hN : T.length + X.length ≤ N) (v0 : Value) (hv0 : w.cell? ⟨lb, 0, none⟩ = some v0) (hsep : ∀ g, v0.ownBlock = some g → Value.ownBlock (.slice xa X.length xc) ≠ some g) :
    Calls Tryz.prog 30 #[.pointer (some ⟨lb, 0, none⟩), .slice xa X.length xc] w fun e w' => e = .returned (.int .i64 ((T.length : Int) + X.length - 1)) ∧ Chg (AddS lb v0) w w' ∧ Sho w' lb mb N (M.behind T X) D ok ∧ Rowd w lb v0 w' (T.length + X.length) := by
  have hfew := h.shp.few
  have hN2 := h.mst.few
  have hT := h.tsok
  obtain ⟨yv, yx0, hb0, ho0, -⟩ := h.blk
  have hvy : v0 = yv := by
    have : w.cell? ⟨lb, 0, none⟩ = some yv := by rw [cell_of_row w lb 0 _ _ _ hb0]; rfl
    rw [hv0] at this
    exact Option.some.inj this
  subst hvy
  obtain ⟨ad0, cc0, rfl⟩ := owns_form ho0
  have hlt := (Array.getElem?_eq_some_iff.1 hb0).1
  have HXW : Hid (∀ wr, Chg (AddS lb (.slice ad0 T.length cc0)) w wr → wr.ownsRow 0 52 4 (.slice xa X.length xc) X.length xx ∧ Rws (TyV wr (fun _ => True)) X xx) := by
    intro wr hc
    refine ⟨owns_chg hx hc (fun g hg hs => ?_), hxr.imp (TyV.chg hc (addS_inner hb0 ho0) (fun _ _ _ => trivial))⟩
    rcases hs with hs | hs
    · subst hs
      obtain ⟨_, cur, hh⟩ := owns_tag hx g hg
      rw [hb0] at hh
      simp only [Option.some.injEq, Obj.cells.injEq] at hh
      exact absurd hh.2.1 (by decide)
    · exact hsep g hs.symm hg
  have HQ := hide hq
  have H0 := hide h
  have HXok := hide hX
  clear h hx hxr hq hsep hb0 ho0 hX
  have hTX : ∀ j, j ≤ X.length → (M.behind T (X.take j)).length = T.length + j := fun j hj => by simp [M.behind]; omega
  have HTX := hide hTX
  clear hTX
  go_enter Tryz.func30, Tryz.ntmps30
  go_wp2_with fail
  go_loopw [15] (fun v wr => ∃ (j : Nat), j ≤ X.length ∧ v = .int .i64 (j : Int) ∧ Hid (Sho wr lb mb N (M.behind T (X.take j)) D ok) ∧ Hid (Chg (AddS lb (.slice ad0 T.length cc0)) w wr) ∧ Hid (Rowd w lb (.slice ad0 T.length cc0) wr (T.length + j))) (fun v _ => X.length - (intOf v).toNat)
  case atStart => exact ⟨0, Nat.zero_le _, rfl, by simpa [M.behind] using H0, Chg.refl _ _, ⟨ad0, cc0, by simpa using hv0, .inl rfl⟩⟩
  case round =>
    obtain ⟨j, hj, rfl, SR, CR, RR⟩ := hrel
    have hlen := HTX.out j hj
    by_cases hjl : j < X.length
    · obtain ⟨hxw, hxrw⟩ := HXW.out wr CR.out
      obtain ⟨g, fa, fc, la, lc, rfl, hg, hc1, hc2, x0, x1, x2, x3, of1, ol1⟩ := tys_cell hxw hxrw hjl
      unfold maxLen at hc2
      have hty := HXok.out j hjl
      have hqj := HQ.out X[j] (List.getElem_mem hjl)
      have HB := hide (behind_snoc T X hjl)
      have HTY : Hid (M.TyOk (M.mvT T.length X[j]) (M.behind T (X.take j)).length) := by
        show M.TyOk _ _
        rw [hlen]
        exact hty.mv T.length
      have hfl := hty.fld
      have hls := hty.lst
      have hof : 0 ≤ X[j].of' ∧ X[j].of' ≤ 1000 := by
        rcases hqj.2.2 with h8 | h8 | h8
        · have := hty.of (.inl h8); omega
        · have := hty.of (.inr h8); omega
        · omega
      have hq1 := hqj.1
      have hq2 := hqj.2.1
      clear hty hqj hxw hxrw
      generalize X[j] = xj at *
      obtain ⟨k, fs, ls, o⟩ := xj
      simp only at x0 x1 x2 x3 of1 ol1 hfl hls hof hq1 hq2
      have HMV := moved_any (wr.alloc (.cells #[.int .i64 k, .slice fa fs.length fc, .slice la ls.length lc, .int .i64 o] 52)).drew k o fs ls fa la fc lc T.length (of1.alloc _) (ol1.alloc _) (by omega) (fun p hp => by have := hfl p hp; omega) (fun p hp => by have := hls p hp; omega) hof ⟨by omega, by omega⟩
      obtain ⟨ad, c, c0, hrow⟩ := RR.out
      obtain ⟨yv, yx, hb, ho, hr⟩ := SR.out.blk
      have hyv : yv = .slice ad (T.length + j) c := by
        have : wr.cell? ⟨lb, 0, none⟩ = some yv := by rw [cell_of_row wr lb 0 _ _ _ hb]; rfl
        rw [c0] at this
        exact (Option.some.inj this).symm
      subst hyv
      have hltr := (Array.getElem?_eq_some_iff.1 hb).1
      have fzr : wr.frozen? ⟨lb, 0, none⟩ = false := frozen_of_row wr lb 0 _ _ hb
      have hNj : (M.behind T (X.take j)).length + 1 ≤ N := by omega
      rw [← hlen] at c0 hrow hb ho
      have hTl := hide hlen
      have hok := SR.out.tsok
      have hms := SR.out.mst
      generalize M.behind T (X.take j) = TT at *
      have hTTl : TT.length ≤ 1000 := by omega
      have HP := hide (fun (w4 w5 : World) (gg cap : Nat) (fv lv : Value) (h1 : Chg (fun _ => False) wr w4) (hty : TyV w4 ok (M.mvT T.length ⟨k, fs, ls, o⟩) [.int .i64 k, fv, lv, .int .i64 (o + T.length)]) => Sho.push (ok := ok) (w4 := w4) (w5 := w5) (gg := gg) (cap := cap) (fv := fv) (lv := lv) hb hok HTY.out hms hNj ho hr h1 hty)
      have hne : Value.ownBlock (.slice ad TT.length c) ≠ some lb := by
        intro hx
        obtain ⟨_, cur, hh⟩ := owns_tag ho lb hx
        rw [hb] at hh
        simp only [Option.some.injEq, Obj.cells.injEq] at hh
        exact absurd hh.2.1 (by decide)
      have HCM : Hid (∀ wm, Below (wr.alloc (.cells #[.int .i64 k, .slice fa fs.length fc, .slice la ls.length lc, .int .i64 o] 52)).drew.heap.size (wr.alloc (.cells #[.int .i64 k, .slice fa fs.length fc, .slice la ls.length lc, .int .i64 o] 52)).drew wm → Chg (fun _ => False) wr wm) := by
        intro wm hbm
        exact ((Chg.alloc (fun _ => False) wr _).trans (Chg.drewN (fun _ => False) _ 1) (fun _ _ x => x)).trans (Chg.below hbm) (fun kk hk x => by
          have hs : (wr.alloc (.cells #[.int .i64 k, .slice fa fs.length fc, .slice la ls.length lc, .int .i64 o] 52)).drew.heap.size = wr.heap.size + 1 := by simp [World.drew]
          have x' : (wr.alloc (.cells #[.int .i64 k, .slice fa fs.length fc, .slice la ls.length lc, .int .i64 o] 52)).drew.heap.size ≤ kk := x
          omega)
      have HY := hide (fun wm (hc : Chg (fun _ => False) wr wm) => owns_chg ho hc (fun _ _ x => x))
      have HC0 := hide (fun wm (hc : Chg (fun _ => False) wr wm) => show wm.cell? ⟨lb, 0, none⟩ = some (.slice ad TT.length c) ∧ wm.frozen? ⟨lb, 0, none⟩ = false ∧ lb < wm.heap.size from ⟨by rw [World.cell?_of_block (hc.block lb hltr (fun x => x))]; exact c0, by rw [World.frozen?_of_block (hc.block lb hltr (fun x => x))]; exact fzr, Nat.lt_of_lt_of_le hltr hc.size⟩)
      have HR := hide hrow
      have CR2 := hide CR.out
      obtain ⟨i0, hi, hz0, hz1, hz2⟩ := info_parts Tryz.infoTy
      clear of1 ol1 hfl hls hof hq1 hq2 hb ho hr hok hms hrow SR CR HTY hlen
      go_wp2_with fail
      go_region_law (first
        | (refine step_append_lies _ (by rfl) _ _ _ (by rfl) 0 52 i0 _ 4 64 Tryz.underlying27 hi hz0 hz1 hz2 rfl (by omega) (.slice ad TT.length c) TT.length yx (by rfl) ((HY.out wm hcm.out).alloc _) ⟨wm.heap.size, 0, none⟩ 1 1 [.int .i64 k, .slice fa' fs.length fc', .slice la' ls.length lc', .int .i64 (o + T.length)] (by rfl) (by rfl) (World.news_of_block (cs := #[.int .i64 k, .slice fa' fs.length fc', .slice la' ls.length lc', .int .i64 (o + T.length)]) (t := 52) (fr := (0, 0)) (heap_alloc_new wm _)) (by simp [Value.oneCell']) (by omega) (by simp only [maxLen]; omega) (by omega) (by simp) (wm.heap.size + 1) (by simp) ?_
           intro gg cap w1 hown1 hgrow hat1 hlt1
           have z4 : w1.cell? ⟨lb, 0, none⟩ = some (.slice ad TT.length c) := by rw [hgrow.cell_far _ (by have := (HC0.out wm hcm.out).2.2; simp; omega) (Ne.symm hne)]; exact cell_old (HC0.out wm hcm.out).2.2 (HC0.out wm hcm.out).1
           have y4 : w1.frozen? ⟨lb, 0, none⟩ = false := by rw [hgrow.frozen_far _ (by have := (HC0.out wm hcm.out).2.2; simp; omega) (Ne.symm hne)]; exact frz_old (HC0.out wm hcm.out).2.2 (HC0.out wm hcm.out).2.1)
        | (go_simp; refine HMV.mono ?_; rintro e wm ⟨hbm, fa', fc', la', lc', rfl, hof2, hol2⟩; have hcm := hide (HCM.out wm hbm); have zc := (HC0.out wm hcm.out).1; have hltm := (HC0.out wm hcm.out).2.2; have HOF := hide hof2; have HOL := hide hol2; clear hbm hof2 hol2))
      all_goals
        have HTV : Hid (TyV (wm.alloc (.cells #[.int .i64 k, .slice fa' fs.length fc', .slice la' ls.length lc', .int .i64 (o + T.length)] 52)) ok (M.mvT T.length ⟨k, fs, ls, o⟩) [.int .i64 k, .slice fa' fs.length fc', .slice la' ls.length lc', .int .i64 (o + T.length)]) := by
          refine ⟨_, _, rfl, ?_, ?_, fun g hg => hokn g (Nat.le_trans CR2.out.size (Nat.le_trans (by simp) (HOF.out.lt g hg).1)), fun g hg => hokn g (Nat.le_trans CR2.out.size (Nat.le_trans (by simp) (HOL.out.lt g hg).1))⟩
          · have := (owns_base HOF.out (Nat.zero_le _)).alloc (.cells #[.int .i64 k, .slice fa' fs.length fc', .slice la' ls.length lc', .int .i64 (o + T.length)] 52)
            simpa [M.mvT, mvF] using this
          · have := (owns_base HOL.out (Nat.zero_le _)).alloc (.cells #[.int .i64 k, .slice fa' fs.length fc', .slice la' ls.length lc', .int .i64 (o + T.length)] 52)
            simpa [M.mvT, mvI] using this
        have HQ5 := hide (HP.out _ w1 gg cap _ _ (hcm.out.trans (Chg.alloc (fun _ => False) wm _) (fun _ _ x => x)) HTV.out hgrow hown1)
        have HAT := hide hat1
        have HCS := hide (hcm.out.size)
        clear hgrow hown1 hat1 HP HY HTV
        go_wp2
        go_roundw
        case rel =>
          have hws := CR2.out.size
          refine ⟨j + 1, by omega, by go_num, by rw [HB.out]; exact HQ5.out.2.2.2.2.1, CR2.out.trans HQ5.out.2.2.2.1 (fun i hi hs => ?_), ⟨some ⟨gg, 0, none⟩, cap, ?_, ?_⟩⟩
          · rcases hs with hs | hs
            · exact .inl hs
            · rcases HR.out with hr | hr
              · exact .inr (hs.trans hr)
              · have := hr i hs.symm; omega
          · have e : T.length + (j + 1) = TT.length + 1 := by have := hTl.out; omega
            rw [e]
            exact HQ5.out.2.2.2.2.2
          · rcases HAT.out with ha | ha
            · rcases HR.out with hr | hr
              · left
                show some gg = _
                rw [← ha]
                exact hr
              · right
                intro g' hg'
                have e : some gg = some g' := hg'
                cases e
                exact hr gg ha
            · right
              intro g' hg'
              have e : some gg = some g' := hg'
              cases e
              have := HCS.out
              omega
        case measure => simp [intOf]; omega
    · have hje : j = X.length := by omega
      subst hje
      rw [List.take_length] at *
      obtain ⟨ad, c, c0, -⟩ := id RR.out
      have hltr : lb < wr.heap.size := World.block_lt_of_cell? wr _ c0
      go_wp2_with fail
      go_ret
      exact ⟨ret_int (by omega), CR.out, SR.out, RR.out⟩
end
end Go.Proofs.YtkilicjjaljghaaGreat
