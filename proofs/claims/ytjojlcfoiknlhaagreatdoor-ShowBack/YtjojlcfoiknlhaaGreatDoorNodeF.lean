/-
  The contract of program; what a parser holds behind it.
  The contract of whole, over program.
-/
import Derived.Test.YtjojlcfoiknlhaaGreatDoorNodeB
import Derived.Test.YtjojlcfoiknlhaaGreatDoorPlainC
import Derived.Test.YtjojlcfoiknlhaaGreatDoorWho
namespace Go.Proofs.YtjojlcfoiknlhaaGreatDoor
open Go.RowKit

/-- What a parser holds behind the last node of all. -/
structure PstL (w : World) (B pb : Nat) (tv : Value) (L : List M.Tk) (ok : Nat → Prop) (d : Nat) (s : M.St) : Prop where
  low : B ≤ pb
  at' : s.i < L.length
  few : s.N.length ≤ s.i + 1 ∧ s.T.length ≤ s.i
  toks : w.ownsRow 0 60 3 tv L.length (rows L)
  oks : ok pb ∧ (∀ v g, w.cell? ⟨pb, 3, none⟩ = some v → v.ownBlock = some g → ok g) ∧ ∀ v g, w.cell? ⟨pb, 4, none⟩ = some v → v.ownBlock = some g → ok g
  blk : ∃ nv yv nx yx, w.heap[pb]? = some (.cells #[tv, .int .i64 (s.i : Int), .int .i64 (d : Int), nv, yv] 53 (0, 0)) ∧ w.ownsRow B 63 9 nv s.N.length nx ∧ w.ownsRow B 66 4 yv s.T.length yx ∧
    Rws (NdV w ok) s.N nx ∧ Rws (TyV w ok) s.T yx

/-- Nothing that a parser holds has changed, though some blocks have. -/
theorem PstL.chg {S : Nat → Prop} {w w' : World} {B pb : Nat} {tv : Value} {L : List M.Tk} {ok ok' : Nat → Prop} {d : Nat} {s : M.St} (h : PstL w B pb tv L ok d s) (hc : Chg S w w')
    (hs : ∀ k cur e, w.heap[k]? = some (.cells cur e (0, 0)) → S k → e ≠ 53 ∧ e ≠ 63 ∧ e ≠ 66 ∧ tv.ownBlock ≠ some k ∧ ((e = 71 ∨ e = 3) → ¬ ok k))
    (ho : ∀ g, ok g → g < w.heap.size → ok' g) : PstL w' B pb tv L ok' d s := by
  obtain ⟨h1, h2, h3, h4, h5, nv, yv, nx, yx, hb, hn, hy, hrn, hry⟩ := h
  have hlt := (Array.getElem?_eq_some_iff.1 hb).1
  have key : ∀ g, ok g → g < w.heap.size → S g → (∃ cur e, w.heap[g]? = some (.cells cur e (0, 0)) ∧ (e = 71 ∨ e = 3)) → False := by
    rintro g hg _ hx ⟨cur, e, hh, he⟩
    exact (hs g cur e hh hx).2.2.2.2 he hg
  have hbw : w'.heap[pb]? = w.heap[pb]? := hc.block pb hlt (fun x => (hs pb _ _ hb x).1 rfl)
  have hok5 : ok' pb ∧ (∀ v g, w'.cell? ⟨pb, 3, none⟩ = some v → v.ownBlock = some g → ok' g) ∧ ∀ v g, w'.cell? ⟨pb, 4, none⟩ = some v → v.ownBlock = some g → ok' g := by
    have c3 : w.cell? ⟨pb, 3, none⟩ = some nv := by rw [cell_of_row w pb 3 _ _ _ hb]; rfl
    have c4 : w.cell? ⟨pb, 4, none⟩ = some yv := by rw [cell_of_row w pb 4 _ _ _ hb]; rfl
    refine ⟨ho _ h5.1 hlt, fun v g hv hg => ?_, fun v g hv hg => ?_⟩
    · rw [World.cell?_of_block (a := ⟨pb, 3, none⟩) hbw, c3] at hv
      cases hv
      exact ho g (h5.2.1 _ g c3 hg) (hn.lt g hg).2
    · rw [World.cell?_of_block (a := ⟨pb, 4, none⟩) hbw, c4] at hv
      cases hv
      exact ho g (h5.2.2 _ g c4 hg) (hy.lt g hg).2
  refine ⟨h1, h2, h3, owns_chg h4 hc fun g hg x => ?_, hok5, nv, yv, nx, yx, ?_, owns_chg hn hc fun g hg x => ?_, owns_chg hy hc fun g hg x => ?_, hrn.imp (NdV.chg hc key ho), hry.imp (TyV.chg hc key ho)⟩
  · obtain ⟨_, cur, hh⟩ := owns_tag h4 g hg
    exact (hs g cur _ hh x).2.2.2.1 hg
  · rw [hc.block pb hlt (fun x => (hs pb _ _ hb x).1 rfl)]
    exact hb
  · obtain ⟨_, cur, hh⟩ := owns_tag hn g hg
    exact (hs g cur _ hh x).2.1 rfl
  · obtain ⟨_, cur, hh⟩ := owns_tag hy g hg
    exact (hs g cur _ hh x).2.2.1 rfl

theorem PstL.still {w w' : World} {B pb : Nat} {tv : Value} {L : List M.Tk} {ok : Nat → Prop} {d : Nat} {s : M.St} (h : PstL w B pb tv L ok d s) (hc : Chg (fun _ => False) w w') : PstL w' B pb tv L ok d s :=
  h.chg hc (fun _ _ _ _ x => x.elim) (fun _ x _ => x)
theorem PstL.setOwn {w : World} {B pb : Nat} {tv : Value} {L : List M.Tk} {ok : Nat → Prop} {d : Nat} {s : M.St} (h : PstL w B pb tv L ok d s) {q o : Nat} {cs : Array Value} {e : TypeId} {fz : Nat × Nat} (v : Value) (hq : w.heap[q]? = some (.cells cs e fz)) (ht : tv.ownBlock ≠ some q)
    (he : e ≠ 53 ∧ e ≠ 63 ∧ e ≠ 66 ∧ e ≠ 71 ∧ e ≠ 3) : PstL (w.setCell ⟨q, o, none⟩ v) B pb tv L ok d s := by
  refine h.chg (Chg.set w ⟨q, o, none⟩ v) (fun k cur e' hk hs => ?_) (fun _ x _ => x)
  have hs' : k = q := hs
  subst hs'
  rw [hq] at hk
  simp only [Option.some.injEq, Obj.cells.injEq] at hk
  obtain ⟨_, rfl, _⟩ := hk
  exact ⟨he.1, he.2.1, he.2.2.1, ht, fun x => by rcases x with x | x; exact absurd x he.2.2.2.1; exact absurd x he.2.2.2.2⟩
section
variable {w : World} {B pb : Nat} {tv : Value} {L : List M.Tk} {ok : Nat → Prop} {d : Nat} {s : M.St}

/-- Behind an append to a parser's nodes. -/
theorem PstL.pushN {w w1 w2 : World} {B pb : Nat} {tv : Value} {L : List M.Tk} {ok : Nat → Prop} {d : Nat} {s : M.St} {yv : Value} {nx yx : List Value} {ad : Option Addr} {c g cap : Nat} {t : M.Nd} {lv : Value} (hlow : B ≤ pb) (hat : s.i < L.length) (hfew : s.T.length ≤ s.i) (hf : s.N.length + 1 ≤ s.i + 1)
    (htoks : w.ownsRow 0 60 3 tv L.length (rows L)) (hb : w.heap[pb]? = some (.cells #[tv, .int .i64 (s.i : Int), .int .i64 (d : Int), .slice ad s.N.length c, yv] 53 (0, 0)))
    (hn : w.ownsRow B 63 9 (.slice ad s.N.length c) s.N.length nx) (hy : w.ownsRow B 66 4 yv s.T.length yx) (hrn : Rws (NdV w ok) s.N nx) (hry : Rws (TyV w ok) s.T yx) (ht : NdV w ok t [.int .i64 t.kind, .int .i64 t.a, .int .i64 t.b, .int .i64 t.c, lv, .string ⟨t.text.toArray⟩, .int .i64 t.n, .int .i64 t.ty, .int .i64 t.at']) (hok : ok pb ∧ (∀ g, Value.ownBlock (.slice ad s.N.length c) = some g → ok g) ∧ (∀ g, yv.ownBlock = some g → ok g)) (hgok : ok g)
    (h1 : Chg (fun _ => False) w w1) (hg : w1.grownBy w2 (Value.ownBlock (.slice ad s.N.length c))) (ho : w2.ownsRow B 63 9 (.slice (some ⟨g, 0, none⟩) (s.N.length + 1) cap) (s.N.length + 1) (nx ++ [.int .i64 t.kind, .int .i64 t.a, .int .i64 t.b, .int .i64 t.c, lv, .string ⟨t.text.toArray⟩, .int .i64 t.n, .int .i64 t.ty, .int .i64 t.at'])) :
    Kept B ok w (w2.setCell ⟨pb, 3, none⟩ (.slice (some ⟨g, 0, none⟩) (s.N.length + 1) cap)) ∧ PstL (w2.setCell ⟨pb, 3, none⟩ (.slice (some ⟨g, 0, none⟩) (s.N.length + 1) cap)) B pb tv L ok d ⟨s.i, s.N ++ [t], s.T⟩ := by
  have hlt := (Array.getElem?_eq_some_iff.1 hb).1
  have hb1 : w1.heap[pb]? = w.heap[pb]? := h1.block pb hlt (fun x => x)
  have hy1 : w1.ownsRow B 63 9 (.slice ad s.N.length c) s.N.length nx := owns_chg hn h1 (fun _ _ x => x)
  have hne : some pb ≠ Value.ownBlock (.slice ad s.N.length c) := by
    intro hx
    obtain ⟨_, cur, hh⟩ := owns_tag hy1 pb hx.symm
    rw [hb1, hb] at hh
    simp only [Option.some.injEq, Obj.cells.injEq] at hh
    exact absurd hh.2.1 (by decide)
  have hb2 : w2.heap[pb]? = some (.cells #[tv, .int .i64 (s.i : Int), .int .i64 (d : Int), .slice ad s.N.length c, yv] 53 (0, 0)) := by rw [hg.block pb (Nat.lt_of_lt_of_le hlt h1.size) hne, hb1, hb]
  have hc2 : Chg (fun k => some k = Value.ownBlock (.slice ad s.N.length c)) w w2 := (h1.mono fun _ _ x => x.elim).trans (Chg.grown hg) (fun _ _ x => x)
  have hc3 : Chg (fun k => some k = Value.ownBlock (.slice ad s.N.length c) ∨ k = pb) w (w2.setCell ⟨pb, 3, none⟩ (.slice (some ⟨g, 0, none⟩) (s.N.length + 1) cap)) := (hc2.mono fun _ _ x => .inl x).trans (Chg.set _ _ _) (fun _ _ x => .inr x)
  have hno : ∀ {base : Nat} {e : TypeId} {size : Nat} {v : Value} {n : Nat} {xs : List Value}, w.ownsRow base e size v n xs → e ≠ 53 → e ≠ 63 → ∀ k, v.ownBlock = some k → ¬ (some k = Value.ownBlock (.slice ad s.N.length c) ∨ k = pb) := by
    intro base e size v n xs hw he he2 k hk hx
    obtain ⟨_, cur, hh⟩ := owns_tag hw k hk
    rcases hx with hx | rfl
    · obtain ⟨_, cur2, hh2⟩ := owns_tag hn k hx.symm
      rw [hh] at hh2
      simp only [Option.some.injEq, Obj.cells.injEq] at hh2
      exact he2 hh2.2.1
    · rw [hb] at hh
      simp only [Option.some.injEq, Obj.cells.injEq] at hh
      exact he hh.2.1.symm
  have key : ∀ k, ok k → k < w.heap.size → (some k = Value.ownBlock (.slice ad s.N.length c) ∨ k = pb) → (∃ cur e, w.heap[k]? = some (.cells cur e (0, 0)) ∧ (e = 71 ∨ e = 3)) → False := by
    rintro k _ _ hx ⟨cur, e, hh, he⟩
    rcases hx with hx | rfl
    · obtain ⟨_, cur2, hh2⟩ := owns_tag hn k hx.symm
      rw [hh] at hh2
      simp only [Option.some.injEq, Obj.cells.injEq] at hh2
      rcases he with rfl | rfl <;> exact absurd hh2.2.1 (by decide)
    · rw [hb] at hh
      simp only [Option.some.injEq, Obj.cells.injEq] at hh
      rcases he with rfl | rfl <;> exact absurd hh.2.1 (by decide)
  have hb3 : (w2.setCell ⟨pb, 3, none⟩ (.slice (some ⟨g, 0, none⟩) (s.N.length + 1) cap)).heap[pb]? = some (.cells #[tv, .int .i64 (s.i : Int), .int .i64 (d : Int), .slice (some ⟨g, 0, none⟩) (s.N.length + 1) cap, yv] 53 (0, 0)) := by rw [heap_setCell_same w2 pb 3 _ _ _ hb2]; rfl
  refine ⟨hc3.mono fun k hk hx => ?_, hlow, hat, ⟨by simp; omega, hfew⟩, owns_chg htoks hc3 (hno htoks (by decide) (by decide)), ⟨hok.1, fun u g' hu hg' => ?_, fun u g' hu hg' => ?_⟩, _, yv, _, yx, hb3, ?_, owns_chg hy hc3 (hno hy (by decide) (by decide)), (hrn.imp (NdV.chg hc3 key (fun _ x _ => x))).snoc (NdV.chg hc3 key (fun _ x _ => x) _ _ ht), hry.imp (TyV.chg hc3 key (fun _ x _ => x))⟩
  · rcases hx with hx | rfl
    · obtain ⟨hk1, cur2, hh2⟩ := owns_tag hn k hx.symm
      exact ⟨hk1, ⟨_, _, _, hh2, .inr (.inl rfl)⟩, hok.2.1 _ hx.symm⟩
    · exact ⟨hlow, ⟨_, _, _, hb, .inl rfl⟩, hok.1⟩
  · rw [cell_of_row _ pb 3 _ _ _ hb3] at hu
    cases hu
    have hg2 : some g = some g' := hg'
    cases hg2
    exact hgok
  · rw [cell_of_row _ pb 4 _ _ _ hb3] at hu
    cases hu
    exact hok.2.2 _ hg'
  · have := owns_chg ho (Chg.set w2 ⟨pb, 3, none⟩ (.slice (some ⟨g, 0, none⟩) (s.N.length + 1) cap)) (fun k hk hx => by
      have hx' : k = pb := hx
      subst hx'
      obtain ⟨_, cur2, hh2⟩ := owns_tag ho k hk
      rw [hb2] at hh2
      simp only [Option.some.injEq, Obj.cells.injEq] at hh2
      exact absurd hh2.2.1 (by decide))
    simpa using this

set_option maxRecDepth 100000 in
set_option maxHeartbeats 3200000 in
theorem addTypedL_any (hL : LOk L) (h : Pst w B pb tv L ok d s) (t : M.Nd) (la : Option Addr) (ln lc : Nat) (ht : NdV w ok t [.int .i64 t.kind, .int .i64 t.a, .int .i64 t.b, .int .i64 t.c, .slice la ln lc, .string ⟨t.text.toArray⟩, .int .i64 t.n, .int .i64 t.ty, .int .i64 t.at']) (hf : s.N.length + 1 ≤ s.i + 1) (hB : B ≤ w.heap.size) (hok : ∀ g, w.heap.size ≤ g → ok g) :
    Calls Tryz.prog 94 #[.pointer (some ⟨pb, 0, none⟩), .agg #[.int .i64 t.kind, .int .i64 t.a, .int .i64 t.b, .int .i64 t.c, .slice la ln lc, .string ⟨t.text.toArray⟩, .int .i64 t.n, .int .i64 t.ty, .int .i64 t.at']] w fun e w' => e = .returned (.int .i64 (s.N.length : Int)) ∧ Kept B ok w w' ∧ PstL w' B pb tv L ok d ⟨s.i, s.N ++ [t], s.T⟩ := by
  obtain ⟨hlow, hat, hfew, htoks, hoks, nv, yv, nx, yx, hb, hn, hy, hrn, hry⟩ := h
  obtain ⟨ad, c, rfl⟩ := owns_form hn
  have hs := hL.short
  have hlt := (Array.getElem?_eq_some_iff.1 hb).1
  have c4 : w.cell? ⟨pb, 3, none⟩ = some (.slice ad s.N.length c) := by rw [cell_of_row w pb 3 _ _ _ hb]; rfl
  have fz : ∀ o, w.frozen? ⟨pb, o, none⟩ = false := fun o => frozen_of_row w pb o _ _ hb
  have hoks2 : ok pb ∧ (∀ g, Value.ownBlock (.slice ad s.N.length c) = some g → ok g) ∧ (∀ g, yv.ownBlock = some g → ok g) := ⟨hoks.1, fun g hg => hoks.2.1 _ g c4 hg, fun g hg => hoks.2.2 _ g (by rw [cell_of_row w pb 4 _ _ _ hb]; rfl) hg⟩
  have HP := hide (fun (w1 w2 : World) (g cap : Nat) => PstL.pushN (w1 := w1) (w2 := w2) (g := g) (cap := cap) hlow hat hfew.2 hf htoks hb hn hy hrn hry ht hoks2)
  have HG := hide (fun (g : Nat) (hg : Value.ownBlock (.slice ad s.N.length c) = some g ∨ g = w.heap.size + 2) => show ok g from by rcases hg with hg | hg; exact hoks2.2.1 g hg; exact hok g (by omega))
  clear hoks hoks2
  have hne : Value.ownBlock (.slice ad s.N.length c) ≠ some pb := by
    intro hx
    obtain ⟨_, cur, hh⟩ := owns_tag hn pb hx
    rw [hb] at hh
    simp only [Option.some.injEq, Obj.cells.injEq] at hh
    exact absurd hh.2.1 (by decide)
  have hne2 : Value.ownBlock (.slice ad s.N.length c) ≠ some w.heap.size := by
    intro hx
    have := (hn.lt _ hx).2
    omega
  have HY := hide hn
  obtain ⟨i0, hi, hz0, hz1, hz2⟩ := info_parts Tryz.infoNd
  clear ht htoks hb hn hy hrn hry
  go_enter Tryz.func94, Tryz.ntmps94
  go_wp2_with fail
  go_region_law ((refine step_append_lies _ (by rfl) _ _ _ (by rfl) B 63 i0 _ 9 96 Tryz.underlying22 hi hz0 hz1 hz2 rfl (by omega) (.slice ad s.N.length c) s.N.length nx (by rfl) (((HY.out.alloc _).alloc _).drew) ⟨w.heap.size + 1, 0, none⟩ 1 1 [.int .i64 t.kind, .int .i64 t.a, .int .i64 t.b, .int .i64 t.c, .slice la ln lc, .string ⟨t.text.toArray⟩, .int .i64 t.n, .int .i64 t.ty, .int .i64 t.at'] (by rfl) (by rfl) (World.news_of_block (cs := #[.int .i64 t.kind, .int .i64 t.a, .int .i64 t.b, .int .i64 t.c, .slice la ln lc, .string ⟨t.text.toArray⟩, .int .i64 t.n, .int .i64 t.ty, .int .i64 t.at']) (t := 63) (fr := (0, 0)) (heap_alloc2 w _ _)) (by simp [Value.oneCell']) (by omega) (by simp only [maxLen]; omega) (by omega) (by simp; omega) (w.heap.size + 2) (by simp) ?_
                  intro gg cap w1 hown1 hgrow hat1 hlt1
                  have z4 : w1.cell? ⟨pb, 3, none⟩ = some (.slice ad s.N.length c) := by rw [hgrow.cell_far _ (by simp; omega) (Ne.symm hne)]; exact cell_old (by simp; omega) (cell_old hlt c4)
                  have y4 : w1.frozen? ⟨pb, 3, none⟩ = false := by rw [hgrow.frozen_far _ (by simp; omega) (Ne.symm hne)]; exact frz_old (by simp; omega) (frz_old hlt (fz 3))))
  all_goals
    have HQ := hide (HP.out _ _ gg cap (HG.out gg hat1) (((Chg.alloc (fun _ => False) w _).trans (Chg.alloc (fun _ => False) _ _) (fun _ _ x => x)).trans (Chg.drewN (fun _ => False) _ 1) (fun _ _ x => x)) hgrow hown1)
    clear hgrow hown1 HP HY
    go_wp2
    go_ret
    exact ⟨ret_int (by omega), HQ.out.1, HQ.out.2⟩
set_option maxHeartbeats 400000 in
theorem addL_any (hL : LOk L) (h : Pst w B pb tv L ok d s) (t : M.Nd) (y : Int) (la : Option Addr) (ln lc : Nat) (ht : NdV w ok t [.int .i64 t.kind, .int .i64 t.a, .int .i64 t.b, .int .i64 t.c, .slice la ln lc, .string ⟨t.text.toArray⟩, .int .i64 t.n, .int .i64 t.ty, .int .i64 t.at']) (hy : t.ty = -1) (hf : s.N.length + 1 ≤ s.i + 1) (hB : B ≤ w.heap.size) (hok : ∀ g, w.heap.size ≤ g → ok g) :
    Calls Tryz.prog 51 #[.pointer (some ⟨pb, 0, none⟩), .agg #[.int .i64 t.kind, .int .i64 t.a, .int .i64 t.b, .int .i64 t.c, .slice la ln lc, .string ⟨t.text.toArray⟩, .int .i64 t.n, .int .i64 y, .int .i64 t.at']] w fun e w' => e = .returned (.int .i64 (s.N.length : Int)) ∧ Kept B ok w w' ∧ PstL w' B pb tv L ok d ⟨s.i, s.N ++ [t], s.T⟩ := by
  have HA := addTypedL_any hL (h.alloc (.cells #[.int .i64 t.kind, .int .i64 t.a, .int .i64 t.b, .int .i64 t.c, .slice la ln lc, .string ⟨t.text.toArray⟩, .int .i64 t.n, .int .i64 (-1), .int .i64 t.at'] 63)) t la ln lc (NdV.chg (Chg.alloc (fun _ => False) _ _) (fun _ _ _ x _ => x) (fun _ x _ => x) _ _ ht) hf (by simp; omega) (fun g hg => hok g (by simp at hg; omega))
  rw [hy] at HA
  clear h ht
  go_enter Tryz.func51, Tryz.ntmps51
  go_wp2_with fail
  refine HA.mono ?_
  clear HA
  rintro e w1 ⟨rfl, hk, hp⟩
  have HK := hide (((Kept.refl B ok w).alloc _).trans hk)
  have HP := hide hp
  clear hk hp
  go_wp2_with fail
  go_ret
  exact ⟨rfl, HK.out, HP.out⟩
theorem PstL.cell {w : World} {B pb : Nat} {tv : Value} {L : List M.Tk} {ok : Nat → Prop} {d : Nat} {s : M.St} (h : PstL w B pb tv L ok d s) :
    ∃ g c nv yv, tv = .slice (some ⟨g, 0, none⟩) L.length c ∧ L.length ≤ c ∧ c ≤ maxLen ∧ g < w.heap.size ∧ pb < w.heap.size ∧ w.cell? ⟨pb, 0, none⟩ = some (.slice (some ⟨g, 0, none⟩) L.length c) ∧ w.cell? ⟨pb, 1, none⟩ = some (.int .i64 (s.i : Int)) ∧ w.cell? ⟨pb, 2, none⟩ = some (.int .i64 (d : Int)) ∧
      w.cell? ⟨pb, 3, none⟩ = some nv ∧ w.cell? ⟨pb, 4, none⟩ = some yv ∧ (∀ o, w.frozen? ⟨pb, o, none⟩ = false) ∧ ∀ j u, (rows L)[j]? = some u → w.cell? ⟨g, j, none⟩ = some u := by
  obtain ⟨ad, c, rfl⟩ := owns_form h.toks
  obtain ⟨g, rfl, _, hg, hc1, hc2, hcell⟩ := owns_cell h.toks (by have := h.at'; omega)
  obtain ⟨nv, yv, nx, yx, hb, _⟩ := h.blk
  have hlt := (Array.getElem?_eq_some_iff.1 hb).1
  have hc := fun o => cell_of_row w pb o _ _ _ hb
  refine ⟨g, c, nv, yv, rfl, hc1, hc2, hg, hlt, by rw [hc]; rfl, by rw [hc]; rfl, by rw [hc]; rfl, by rw [hc]; rfl, by rw [hc]; rfl, fun o => ?_, hcell⟩
  simp [World.frozen?, hb]

set_option maxHeartbeats 400000 in
theorem tokenL_any (hL : LOk L) (h : PstL w B pb tv L ok d s) :
    Calls Tryz.prog 89 #[.pointer (some ⟨pb, 0, none⟩)] w fun e w' => e = .returned (tkv (M.tk L s.i)) ∧ Chg (fun _ => False) w w' := by
  obtain ⟨g, c, nv, yv, rfl, hc1, hc2, hg, hlt, c0, c1, _, _, _, fz, hcell⟩ := h.cell
  have hi := h.at'
  have hs := hL.short
  obtain ⟨x0, x1, x2⟩ := tk_cells hi hcell
  clear h hcell
  generalize M.tk L s.i = tk at *
  obtain ⟨kd, tx, pl⟩ := tk
  simp only [tkv] at x0 x1 x2 ⊢
  generalize (⟨tx.toArray⟩ : ByteArray) = bx at *
  generalize s.i = i at *
  unfold maxLen at hc2
  go_enter Tryz.func89, Tryz.ntmps89
  go_wp2
  go_region
  go_wp2
  exact bodyPost_ret (v := .agg #[.int .i64 kd, .string bx, .int .i64 pl]) (by simp [results, Tryz.results89, go_sem]) rfl ⟨rfl, (Chg.alloc _ _ _).trans (Chg.drewN _ _ 1) (fun _ _ x => x)⟩

set_option maxHeartbeats 400000 in
theorem endedL_any (hL : LOk L) (h : PstL w B pb tv L ok d s) :
    Calls Tryz.prog 48 #[.pointer (some ⟨pb, 0, none⟩)] w fun e w' => e = .returned (.bool (decide ((M.tk L s.i).kind = 6))) ∧ Chg (fun _ => False) w w' := by
  have H := tokenL_any hL h
  have hf0 := tok_kind
  have hf2 := tok_at
  generalize M.tk L s.i = tk at *
  obtain ⟨kd, tx, pl⟩ := tk
  simp only [tkv] at H ⊢
  clear h hL
  go_enter Tryz.func48, Tryz.ntmps48
  go_wp2_with fail
  refine H.mono ?_
  clear H
  rintro e w1 ⟨rfl, hc⟩
  go_wp2
  go_ret
  exact ⟨ret_bool (by rw [Bool.eq_iff_iff]; simp), hc⟩

/-- What program answers. -/
def PostM (w : World) (B pb : Nat) (tv : Value) (L : List M.Tk) (ok : Nat → Prop) (d : Nat) (φ : M.Sp → Option (M.Out Int)) (e : Ending) (w' : World) : Prop :=
  Kept B ok w w' ∧ ∃ o, M.Ev L φ o ∧ match o with
    | .ok s' x => e = .returned (.int .i64 x) ∧ (M.tk L s'.i).kind = 6 ∧ PstL w' B pb tv L ok d s'
    | .fail er p => e = gu er p ∧ er ≠ 0
theorem ev_progL_end {acc : List Int} (hq : (M.tk L s.i).kind = 6) : M.Ev L (fun r => r.progL d s acc) (.ok s acc) :=
  M.Ev.step (M.Ev.pure.eq fun r => by show (if (M.tk L s.i).kind = 6 then _ else _) = _; rw [if_pos hq])
theorem ev_progL_more {acc : List Int} {o : M.Out (List Int)} (hq : ¬ (M.tk L s.i).kind = 6) (h : M.Ev L (fun r => M.obind (r.stmt d s) fun s x => r.progL d s (acc ++ [x])) o) : M.Ev L (fun r => r.progL d s acc) o :=
  M.Ev.step (h.eq fun r => by show (if (M.tk L s.i).kind = 6 then _ else _) = _; rw [if_neg hq])

set_option maxHeartbeats 2000000 in
set_option maxRecDepth 100000 in
theorem program_any (hL : LOk L) (hS : ∀ m', ConN B pb tv L 50 (fun d s r => r.stmt d s) m') (hok : ∀ g, w.heap.size ≤ g → ok g) (hB : B ≤ w.heap.size) (h : Pst w B pb tv L ok d s) :
    Calls Tryz.prog 26 #[.pointer (some ⟨pb, 0, none⟩)] w (PostM w B pb tv L ok d (M.prgS d s)) := by
  have hi := h.at'
  have hs := hL.short
  have hfw := h.few
  have V : Hid (∀ o, M.Ev L (fun r => M.obind (r.progL d s []) fun s2 l => M.addN s2 (M.Nd.mk 26 0 0 0 l [] 0 (-1) 0)) o → M.Ev L (M.prgS d s) o) := fun o ho => ho
  obtain ⟨i0, hi0, hz0, hz1, hz2⟩ := info_parts Tryz.infoInt
  have P2 := hide h
  clear h
  go_enter Tryz.func26, Tryz.ntmps26
  go_wp2_with fail
  go_loopw [3] (fun v wr => ∃ (acc : List Int) (s' : M.St) (ad : Option Addr) (c : Nat), v = .slice ad acc.length c ∧ acc.length ≤ s'.i ∧ Hid (Kept B ok w wr) ∧ Hid (GrowE s s') ∧ Hid (wr.ownsRow w.heap.size 3 1 (.slice ad acc.length c) acc.length (ints acc)) ∧
      Hid (Pst wr B pb tv L (fun g => ok g ∧ some g ≠ Value.ownBlock (.slice ad acc.length c)) d s') ∧ Hid (∀ o, M.Ev L (fun r => M.obind (r.progL d s' acc) fun s2 l => M.addN s2 (M.Nd.mk 26 0 0 0 l [] 0 (-1) 0)) o → M.Ev L (M.prgS d s) o)) (fun _ wr => L.length - nxt wr pb)
  case atStart => exact ⟨[], s, none, 0, rfl, by simp, Kept.refl _ _ _, ⟨Nat.le_refl _, by omega, by omega, by omega⟩, World.ownsRow_nil _ _ _ _, P2.out.mono (fun g hg _ => ⟨hg, by simp [Value.ownBlock]⟩), V.out⟩
  case round =>
    clear P2 V
    obtain ⟨acc, s', ad, c, rfl, hacc, KR, GR, OR, PR, VR⟩ := hrel
    have HT := ended_any hL PR.out
    have hi' := PR.out.at'
    have hnx := PR.out.nxt
    have hfw' := PR.out.few
    have hge := GR.out
    simp only [GrowE] at hge
    generalize hq : decide ((M.tk L s'.i).kind = 6) = q at *
    have Q1 := hide hq
    clear hq
    go_wp2_with fail
    refine HT.mono ?_
    clear HT
    rintro e w3 ⟨rfl, hc⟩
    have K3 := hide (KR.out.trans (still_kept hc))
    have O3 := hide (owns_chg OR.out hc (fun _ _ x => x))
    have P3 := hide (PR.out.still hc)
    clear hc OR PR KR
    cases q
    · have Q2 : ¬ (M.tk L s'.i).kind = 6 := by simpa using Q1.out
      have PX : Hid (Pst w3 B pb tv L (fun g => ok g ∧ some g ≠ Value.ownBlock (.slice ad acc.length c)) d s') := P3.out
      clear P3
      have HM := hide (hS (L.length - s'.i) w3 _ d s' (Nat.le_refl _) (fun g hg => ⟨hok g (Nat.le_trans K3.out.size hg), fun hx => by have := (O3.out.lt g hx.symm).2; omega⟩) (Nat.le_trans hB K3.out.size) PX.out)
      clear PX
      go_wp2_with fail
      refine HM.out.mono ?_
      rintro e w4 ⟨hk, o, hev, hpost⟩
      have K4 := hide (K3.out.trans (hk.mono fun _ h => h.1))
      have O4 := hide (owns_kept O3.out hk (by decide))
      have E4 := hide hev
      clear hk hev K3 O3 HM
      cases o with
      | fail er p =>
        obtain ⟨rfl, he⟩ := hpost
        exact ⟨rfl, K4.out, _, VR.out _ (M.Ev.bad (ev_progL_more Q2 (M.Ev.bad (k := fun r s x => r.progL d s (acc ++ [x])) E4.out))), rfl, he⟩
      | ok s4 y =>
        obtain ⟨rfl, hp, hg, _⟩ := hpost
        have P4 := hide hp
        have hg4 : _ ∧ _ ∧ _ ∧ _ := hg
        have hi4 := hp.at'
        clear hp hg
        have VN := hide (fun o (ho : M.Ev L (fun r => M.obind (r.progL d s4 (acc ++ [y])) fun s2 l => M.addN s2 (M.Nd.mk 26 0 0 0 l [] 0 (-1) 0)) o) => VR.out o (by
          obtain ⟨f1, h1⟩ := E4.out
          obtain ⟨f2, h2⟩ := ho
          refine ⟨f1 + f2 + 1, fun f hf => ?_⟩
          obtain ⟨g, rfl⟩ : ∃ g, f = g + 1 := ⟨f - 1, by omega⟩
          have a1 : (M.sp' L g).stmt d s' = some (.ok s4 y) := h1 g (by omega)
          have a2 := h2 g (by omega)
          have a3 := h2 (g + 1) (by omega)
          show M.obind (if (M.tk L s'.i).kind = 6 then some (.ok s' acc) else M.obind ((M.sp' L g).stmt d s') fun s x => (M.sp' L g).progL d s (acc ++ [x])) _ = some o
          rw [if_neg Q2, a1]
          exact a2))
        clear VR
        have hw3 := hide (O4.out.alloc (.cells #[.int .i64 y] 3))
        go_wp2_with (at_builtin; refine wpList_append_own_at _ rfl _ _ 43 rfl w.heap.size 3 i0 (.int .i64 0) 1 8 Tryz.underlying43 hi0 hz0 hz1 hz2 rfl (by decide) _ _ _ rfl hw3.out ⟨w4.heap.size, 0, none⟩ 1 1 [.int .i64 y] rfl rfl ?c1 ?c2 ?c3 ?c4 ?c5 ?_)
        case c1 => exact cell_one_new _ _ _
        case c2 => intro u hu; simp at hu; rcases hu with rfl; rfl
        case c3 => simp only [maxLen]; omega
        case c4 => omega
        case c5 => have := K4.out.size; simp; omega
        intro v' w5 hown2 hg2 _ hat
        obtain ⟨ad2, c2, hv2⟩ := owns_form hown2
        rw [hv2] at hown2 hat ⊢
        have PG := hide ((P4.out.alloc (.cells #[.int .i64 y] 3)).grown (v := .slice ad acc.length c) (v' := .slice ad2 (acc.length + 1) c2) (O4.out.alloc _) (.inl rfl) hg2 (by simpa using hat))
        have KG := hide ((K4.out.alloc (.cells #[.int .i64 y] 3)).grown (O4.out.alloc _) hg2)
        have OG := hide hown2
        clear hown2 hg2 hat hw3 P4 O4 K4 hv2
        go_wp2_with fail
        go_roundw
        case rel =>
          refine ⟨acc ++ [y], s4, ad2, c2, by simp, by simp; omega, KG.out, (show GrowE s s4 from by simp only [GrowE]; omega), ?_, ?_, VN.out⟩
          · have := OG.out
            show World.ownsRow _ _ _ _ _ _ _
            rw [ints_snoc]
            simpa using this
          · have := PG.out
            show Pst _ _ _ _ _ _ _ _
            simpa using this
        case measure =>
          have h3 := PG.out.nxt
          rw [h3, hnx]
          omega
    · have Q2 : (M.tk L s'.i).kind = 6 := by simpa using Q1.out
      have PY := hide (P3.out.mono (ok' := ok) (fun g hg _ => hg.1))
      clear P3
      have HAd := hide (addL_any hL PY.out (M.Nd.mk 26 0 0 0 acc [] 0 (-1) 0) 0 ad acc.length c ⟨_, rfl, owns_base O3.out (Nat.zero_le _), fun g hg => hok g (owns_tag O3.out g hg).1⟩ rfl (by omega) (Nat.le_trans hB K3.out.size) (fun g hg => hok g (Nat.le_trans K3.out.size hg)))
      have EV := hide (VR.out _ (M.Ev.bind (k := fun _ s2 l => M.addN s2 (M.Nd.mk 26 0 0 0 l [] 0 (-1) 0)) (ev_progL_end Q2) M.Ev.pure))
      have Q3 := hide Q2
      clear PY VR O3 Q2 Q1
      go_wp2_with fail
      refine HAd.out.mono ?_
      rintro e w9 ⟨rfl, k9, p9⟩
      have K9 := hide (K3.out.trans k9)
      have P9 := hide p9
      clear k9 p9 HAd
      go_wp2_with fail
      go_ret
      exact ⟨K9.out, _, EV.out, rfl, Q3.out, P9.out⟩
end
end Go.Proofs.YtjojlcfoiknlhaaGreatDoor

namespace Go.Proofs.YtjojlcfoiknlhaaGreatDoor
open Go.RowKit

section
variable {w : World} {B pb : Nat} {tv : Value} {L : List M.Tk} {ok : Nat → Prop} {d : Nat} {s : M.St}

/-- What the closure of whole does. -/
def PostCp (w : World) (B pb : Nat) (tv : Value) (L : List M.Tk) (ok : Nat → Prop) (d : Nat) (φ : M.Sp → Option (M.Out Int)) (e : Ending) (w' : World) : Prop :=
  Kept B ok w w' ∧ ∃ o, M.Ev L φ o ∧ match o with
    | .ok s' _ => if (M.tk L s'.i).kind = 6 then e = .returned (.tuple #[]) ∧ PstL w' B pb tv L ok d s' else e = gu 1 ((M.tk L s'.i).at' : Int)
    | .fail er p => e = gu er p ∧ er ≠ 0
/-- What giveup.Fault answers of it. -/
def PostFp (w : World) (B pb : Nat) (tv : Value) (L : List M.Tk) (ok : Nat → Prop) (d : Nat) (φ : M.Sp → Option (M.Out Int)) (e : Ending) (w' : World) : Prop :=
  Kept B ok w w' ∧ ∃ o, M.Ev L φ o ∧ match o with
    | .ok s' _ => if (M.tk L s'.i).kind = 6 then e = .returned (.agg #[.int .i64 0, .int .i64 0]) ∧ PstL w' B pb tv L ok d s' else e = .returned (.agg #[.int .i64 1, .int .i64 ((M.tk L s'.i).at' : Int)])
    | .fail er p => e = .returned (.agg #[.int .i64 er, .int .i64 p]) ∧ er ≠ 0
/-- What whole answers. -/
def PostWp (w : World) (B pb : Nat) (tv : Value) (L : List M.Tk) (ok : Nat → Prop) (d : Nat) (φ : M.Sp → Option (M.Out Int)) (e : Ending) (w' : World) : Prop :=
  Kept B ok w w' ∧ ∃ o, M.Ev L φ o ∧ match o with
    | .ok s' _ => if (M.tk L s'.i).kind = 6 then (if 1200 < s'.N.length ∨ 300 < s'.T.length then e = .returned (.agg #[.int .i64 2, .int .i64 0]) else e = .returned (.agg #[.int .i64 0, .int .i64 0]) ∧ PstL w' B pb tv L ok d s') else e = .returned (.agg #[.int .i64 1, .int .i64 ((M.tk L s'.i).at' : Int)])
    | .fail er p => e = .returned (.agg #[.int .i64 er, .int .i64 p]) ∧ er ≠ 0

set_option maxHeartbeats 1000000 in
theorem wholeP1_any (hL : LOk L) (hS : ∀ m', ConN B pb tv L 50 (fun d s r => r.stmt d s) m') (hok : ∀ g, w.heap.size ≤ g → ok g) (hB : B ≤ w.heap.size) (h : Pst w B pb tv L ok d s) (qf qp : Nat) (hf : w.heap[qf]? = some (.cells #[.func (.func 26) #[.pointer (some ⟨pb, 0, none⟩)] #[]] 55 (0, 0)))
    (hp : w.heap[qp]? = some (.cells #[.pointer (some ⟨pb, 0, none⟩)] 51 (0, 0))) :
    Calls Tryz.prog 47 #[.pointer (some ⟨qf, 0, none⟩), .pointer (some ⟨qp, 0, none⟩)] w (PostCp w B pb tv L ok d (M.prgS d s)) := by
  have HM := program_any hL hS hok hB h
  have f0 : w.cell? ⟨qf, 0, none⟩ = some (.func (.func 26) #[.pointer (some ⟨pb, 0, none⟩)] #[]) := by rw [cell_of_row w qf 0 _ _ _ hf]; rfl
  have HQ := hide hp
  clear hf hp h
  go_enter Tryz.func47, Tryz.ntmps47
  go_wp2_with fail
  refine HM.mono ?_
  clear HM
  rintro e w1 ⟨hk, o, hev, hpost⟩
  have K1 := hide hk
  have E1 := hide hev
  have p0 : w1.cell? ⟨qp, 0, none⟩ = some (.pointer (some ⟨pb, 0, none⟩)) := (cell_kept hk HQ.out (by decide) rfl).2
  clear hk hev f0
  cases o with
  | fail er p =>
    obtain ⟨rfl, he⟩ := hpost
    exact ⟨rfl, K1.out, _, E1.out, rfl, he⟩
  | ok s1 x =>
    obtain ⟨rfl, h6, hp⟩ := hpost
    have HE := endedL_any hL hp
    have P1 := hide hp
    clear hp
    have h6' : decide ((M.tk L s1.i).kind = 6) = true := by simp [h6]
    rw [h6'] at HE
    go_wp2_with fail
    refine HE.mono ?_
    clear HE
    rintro e w2 ⟨rfl, hc⟩
    have P2 := hide (P1.out.still hc)
    have K2 := hide (K1.out.trans (still_kept hc))
    clear hc
    go_wp2_with fail
    go_end0
    exact ⟨K2.out, _, E1.out, by simp [h6]; exact P2.out⟩

/-- The named result is stored. -/
theorem fin_cellsL {w0 w w6 : World} {q : Nat} {a b : Value} {cs : Array Value} (hq : w.heap[q]? = some (.cells cs 28 (0, 0))) (h : PstL w B pb tv L ok d s) (ht : tv.ownBlock ≠ some q) (hk : Kept B ok w0 w) (hq0 : w0.heap.size ≤ q) (hcs : cs.size = 2)
    (hc : Chg (fun _ => False) ((w.setCell ⟨q, 0, none⟩ a).setCell ⟨q, 1, none⟩ b) w6) : w6.cell? ⟨q, 0, none⟩ = some a ∧ w6.cell? ⟨q, 1, none⟩ = some b ∧ Kept B ok w0 w6 ∧ PstL w6 B pb tv L ok d s := by
  have h1 := heap_setCell_same w q 0 cs _ a hq
  have h2 := heap_setCell_same (w.setCell ⟨q, 0, none⟩ a) q 1 _ _ b h1
  have hlt := (Array.getElem?_eq_some_iff.1 h2).1
  have h3 := hc.block q hlt (fun x => x)
  rw [h2] at h3
  refine ⟨?_, ?_, ((hk.setOwn a hq0).setOwn b hq0).trans (still_kept hc), ((h.setOwn a hq ht (by decide)).setOwn b h1 ht (by decide)).still hc⟩
  · rw [cell_of_row w6 q 0 _ _ _ h3]
    simp [hcs]
  · rw [cell_of_row w6 q 1 _ _ _ h3]
    simp [hcs]

set_option maxHeartbeats 1000000 in
theorem fault_prog_any (hL : LOk L) (hS : ∀ m', ConN B pb tv L 50 (fun d s r => r.stmt d s) m') (hok : ∀ g, w.heap.size ≤ g → ok g) (hB : B ≤ w.heap.size) (h : Pst w B pb tv L ok d s) (qf qp : Nat) (hf : w.heap[qf]? = some (.cells #[.func (.func 26) #[.pointer (some ⟨pb, 0, none⟩)] #[]] 55 (0, 0)))
    (hp : w.heap[qp]? = some (.cells #[.pointer (some ⟨pb, 0, none⟩)] 51 (0, 0))) :
    Calls Tryz.prog 46 #[.func (.func 47) #[] #[.pointer (some ⟨qf, 0, none⟩), .pointer (some ⟨qp, 0, none⟩)]] w (PostFp w B pb tv L ok d (M.prgS d s)) := by
  have hmf : ∀ (fn : Fn) (first cap : Array Value) (w : World), (Instr.makeFunc fn first cap).run Tryz.prog w = .ok (.func fn first cap) w := fun _ _ _ _ => rfl
  have hlf := (Array.getElem?_eq_some_iff.1 hf).1
  have hlp := (Array.getElem?_eq_some_iff.1 hp).1
  have HM := wholeP1_any hL hS (w := w.alloc (.cells #[.int .i64 0, .int .i64 0] 28)) (ok := ok) (fun g hg => hok g (by simp at hg; omega)) (by simp; omega) (h.alloc _) qf qp (by rw [Below.heap_alloc _ _ _ hlf]; exact hf) (by rw [Below.heap_alloc _ _ _ hlp]; exact hp)
  have ht2 : tv.ownBlock ≠ some w.heap.size := h.tokLt (Nat.le_refl _)
  clear hf hp h
  go_enter_defers Tryz.func46, Tryz.ntmps46
  go_wp2_with fail
  refine HM.mono ?_
  clear HM
  rintro e w1 ⟨hk, o, hev, hpost⟩
  obtain ⟨hb1, q0⟩ := cell_kept hk (heap_alloc_new w _) (by decide) (o := 0) rfl
  have q1 := (cell_kept hk (heap_alloc_new w _) (by decide) (o := 1) rfl).2
  have hz := (Array.getElem?_eq_some_iff.1 hb1).1
  have qf' : ∀ o, w1.frozen? ⟨w.heap.size, o, none⟩ = false := fun o => frozen_of_row w1 _ o _ _ hb1
  have HB1 := hide hb1
  have K1 := hide (((Kept.refl B ok w).alloc _).trans hk)
  have E1 := hide hev
  clear hk hev hb1
  cases o with
  | fail er p =>
    obtain ⟨rfl, he⟩ := hpost
    unfold gu
    refine leaves_cons (f := 88) (args := #[.pointer (some ⟨w.heap.size, 0, none⟩)]) (by simp) (by simp [go_sem]) ?_
    refine (catch_gu w.heap.size er p 0 0 [] _ q0 q1 qf').mono ?_
    rintro e u' w2 ⟨rfl, rfl, hc, z0, z1⟩
    have KX : PostFp w B pb tv L ok d (M.prgS d s) (.returned (.agg #[.int .i64 er, .int .i64 p])) w2 := ⟨K1.out.trans' hc (fun i hi hx => by omega), _, E1.out, rfl, he⟩
    simp [Leaves, settle, results, Tryz.results46, go_sem, z0, z1]
    exact KX
  | ok s1 x =>
    by_cases h6 : (M.tk L s1.i).kind = 6
    · simp only [h6, if_true] at hpost
      obtain ⟨rfl, hp⟩ := hpost
      have P1 := hide hp
      clear hp
      go_wp2_with fail
      refine leaves_cons (f := 88) (args := #[.pointer (some ⟨w.heap.size, 0, none⟩)]) (by simp) (by simp [go_sem]) ?_
      refine (catch_idle w.heap.size _).mono ?_
      rintro e u' w6 ⟨rfl, rfl, hc6⟩
      obtain ⟨z0, z1, k6, p6⟩ := fin_cellsL HB1.out P1.out ht2 K1.out (Nat.le_refl _) rfl hc6
      have KX : PostFp w B pb tv L ok d (M.prgS d s) (.returned (.agg #[.int .i64 0, .int .i64 0])) w6 := ⟨k6, _, E1.out, by simp [h6, p6]⟩
      simp [Leaves, settle, results, Tryz.results46, go_sem, z0, z1]
      exact KX
    · simp only [h6, if_false] at hpost
      subst hpost
      unfold gu
      refine leaves_cons (f := 88) (args := #[.pointer (some ⟨w.heap.size, 0, none⟩)]) (by simp) (by simp [go_sem]) ?_
      refine (catch_gu w.heap.size 1 ((M.tk L s1.i).at' : Int) 0 0 [] _ q0 q1 qf').mono ?_
      rintro e u' w4 ⟨rfl, rfl, hc4, z0, z1⟩
      have KX : PostFp w B pb tv L ok d (M.prgS d s) (.returned (.agg #[.int .i64 1, .int .i64 ((M.tk L s1.i).at' : Int)])) w4 := ⟨K1.out.trans' hc4 (fun i hi hx => by omega), _, E1.out, by simp [h6]⟩
      generalize ((M.tk L s1.i).at' : Int) = pa at *
      simp [Leaves, settle, results, Tryz.results46, go_sem, z0, z1]
      exact KX

set_option maxHeartbeats 2000000 in
theorem whole_prog_any (hL : LOk L) (hS : ∀ m', ConN B pb tv L 50 (fun d s r => r.stmt d s) m') (hok : ∀ g, w.heap.size ≤ g → ok g) (hB : B ≤ w.heap.size) (h : Pst w B pb tv L ok d s) :
    Calls Tryz.prog 25 #[.pointer (some ⟨pb, 0, none⟩), .func (.func 26) #[.pointer (some ⟨pb, 0, none⟩)] #[]] w (PostWp w B pb tv L ok d (M.prgS d s)) := by
  have hmf : ∀ (fn : Fn) (first cap : Array Value) (w : World), (Instr.makeFunc fn first cap).run Tryz.prog w = .ok (.func fn first cap) w := fun _ _ _ _ => rfl
  obtain ⟨b0, b1, b2⟩ := heap_three w (.cells #[.pointer (some ⟨pb, 0, none⟩)] 51) (.cells #[.func (.func 26) #[.pointer (some ⟨pb, 0, none⟩)] #[]] 55) (.cells #[.int .i64 0, .int .i64 0] 28)
  have HM := fault_prog_any hL hS (ok := ok) (fun g hg => hok g (by simp at hg; omega)) (by simp; omega) (((h.alloc _).alloc _).alloc _) (w.heap.size + 1) w.heap.size b1 b0
  have ht2 : tv.ownBlock ≠ some (w.heap.size + 2) := h.tokLt (by omega)
  have B0 := hide b0
  have B2 := hide b2
  clear h b0 b1 b2
  go_enter Tryz.func25, Tryz.ntmps25
  go_wp2_with fail
  refine HM.mono ?_
  clear HM
  rintro e w1 ⟨hk, o, hev, hpost⟩
  have K1 := hide (((((Kept.refl B ok w).alloc _).alloc _).alloc _).trans hk)
  have E1 := hide hev
  have p0 : w1.cell? ⟨w.heap.size, 0, none⟩ = some (.pointer (some ⟨pb, 0, none⟩)) := (cell_kept hk B0.out (by decide) rfl).2
  obtain ⟨hb2, -⟩ := cell_kept hk B2.out (by decide) (o := 0) rfl
  have r0 : w1.cell? ⟨w.heap.size + 2, 0, none⟩ = some (.int .i64 0) := (cell_kept hk B2.out (by decide) (o := 0) rfl).2
  have r1 : w1.cell? ⟨w.heap.size + 2, 1, none⟩ = some (.int .i64 0) := (cell_kept hk B2.out (by decide) (o := 1) rfl).2
  have hz := (Array.getElem?_eq_some_iff.1 hb2).1
  have rf : ∀ o, w1.frozen? ⟨w.heap.size + 2, o, none⟩ = false := fun o => frozen_of_row w1 _ o _ _ hb2
  have HB2 := hide hb2
  clear hk hev hb2 B0 B2
  have hz' : w.heap.size < w1.heap.size := by omega
  cases o with
  | fail er p =>
    obtain ⟨rfl, he⟩ := hpost
    have he' : (er == 0) = false := by simp [he]
    go_wp2_with fail
    exact bodyPost_ret (v := .agg #[.int .i64 er, .int .i64 p]) (by simp [results, Tryz.results25, go_sem, r0, r1, hz]) rfl ⟨((K1.out.setOwn _ (by omega)).setOwn _ (by omega)).alloc _, _, E1.out, rfl, he⟩
  | ok s1 x =>
    by_cases h6 : (M.tk L s1.i).kind = 6
    · simp only [h6, if_true] at hpost
      obtain ⟨rfl, hp⟩ := hpost
      have P1 := hide hp
      obtain ⟨nv, yv, nx, yx, hb, hn, hy, _⟩ := hp.blk
      have hlt := (Array.getElem?_eq_some_iff.1 hb).1
      obtain ⟨na, nc, rfl⟩ := owns_form hn
      obtain ⟨ya, yc, rfl⟩ := owns_form hy
      have c3 : w1.cell? ⟨pb, 3, none⟩ = some (.slice na s1.N.length nc) := by rw [cell_of_row w1 pb 3 _ _ _ hb]; rfl
      have c4 : w1.cell? ⟨pb, 4, none⟩ = some (.slice ya s1.T.length yc) := by rw [cell_of_row w1 pb 4 _ _ _ hb]; rfl
      clear hp hb hn hy
      by_cases hN : (1200 : Int) < (s1.N.length : Int)
      · have hN' : 1200 < s1.N.length := by omega
        go_wp2_with fail
        exact bodyPost_ret (v := .agg #[.int .i64 2, .int .i64 0]) (by simp [results, Tryz.results25, go_sem, r0, r1, hz]) rfl ⟨((K1.out.setOwn _ (by omega)).setOwn _ (by omega)).alloc _, _, E1.out, by simp [h6, hN']⟩
      · have hN' : ¬ 1200 < s1.N.length := by omega
        by_cases hT : (300 : Int) < (s1.T.length : Int)
        · have hT' : 300 < s1.T.length := by omega
          go_wp2_with fail
          exact bodyPost_ret (v := .agg #[.int .i64 2, .int .i64 0]) (by simp [results, Tryz.results25, go_sem, r0, r1, hz]) rfl ⟨((K1.out.setOwn _ (by omega)).setOwn _ (by omega)).alloc _, _, E1.out, by simp [h6, hT']⟩
        · have hT' : ¬ 300 < s1.T.length := by omega
          go_wp2_with fail
          obtain ⟨_, _, k6, p6⟩ := fin_cellsL (a := .int .i64 0) (b := .int .i64 0) HB2.out P1.out ht2 K1.out (by omega) rfl (Chg.alloc (fun _ => False) _ (.cells #[.int .i64 0, .int .i64 0] 28))
          exact bodyPost_ret (v := .agg #[.int .i64 0, .int .i64 0]) (by simp [results, Tryz.results25, go_sem, r0, r1, hz]) rfl ⟨k6, _, E1.out, by simp [h6, hN', hT', p6]⟩
    · simp only [h6, if_false] at hpost
      subst hpost
      have XP : PostWp w B pb tv L ok d (M.prgS d s) (.returned (.agg #[.int .i64 1, .int .i64 ((M.tk L s1.i).at' : Int)])) (((w1.setCell ⟨w.heap.size + 2, 0, none⟩ (.int .i64 1)).setCell ⟨w.heap.size + 2, 1, none⟩ (.int .i64 ((M.tk L s1.i).at' : Int))).alloc (.cells #[.int .i64 1, .int .i64 ((M.tk L s1.i).at' : Int)] 28)) :=
        ⟨((K1.out.setOwn _ (by omega)).setOwn _ (by omega)).alloc _, _, E1.out, by simp [h6]⟩
      have XH := hide XP
      clear XP h6 E1
      go_wp2_with fail
      exact bodyPost_ret (v := .agg #[.int .i64 1, .int .i64 ((M.tk L s1.i).at' : Int)]) (by simp [results, Tryz.results25, go_sem, r0, r1, hz]) rfl XH.out
end
end Go.Proofs.YtjojlcfoiknlhaaGreatDoor
