/-
  The contracts of addTyped and add.
  The contracts of beginsExpression, inside at three functions, expression; add.
-/
import Derived.Test.YtjojlcfoiknlhaaGreatDoorParseB
import Derived.Test.YtjojlcfoiknlhaaGreatDoorParseC
namespace Go.Proofs.YtjojlcfoiknlhaaGreatDoor
open Go.RowKit

theorem Tryz.infoNd : (Tryz.prog.info? 63).map (fun i => (i.zero, i.size, i.bytes)) = some (some (.agg #[.int .i64 0, .int .i64 0, .int .i64 0, .int .i64 0, .slice none 0 0, .string ⟨#[]⟩, .int .i64 0, .int .i64 0, .int .i64 0]), 9, 96) := by kernel_rfl

section
variable {w : World} {B pb : Nat} {tv : Value} {L : List M.Tk} {ok : Nat → Prop} {d : Nat} {s : M.St}

/-- Behind an append to a parser's nodes. -/
theorem Pst.pushN {w w1 w2 : World} {B pb : Nat} {tv : Value} {L : List M.Tk} {ok : Nat → Prop} {d : Nat} {s : M.St} {yv : Value} {nx yx : List Value} {ad : Option Addr} {c g cap : Nat} {t : M.Nd} {lv : Value} (hlow : B ≤ pb) (hat : s.i < L.length) (hfew : s.T.length ≤ s.i) (hf : s.N.length + 1 ≤ s.i)
    (htoks : w.ownsRow 0 60 3 tv L.length (rows L)) (hb : w.heap[pb]? = some (.cells #[tv, .int .i64 (s.i : Int), .int .i64 (d : Int), .slice ad s.N.length c, yv] 53 (0, 0)))
    (hn : w.ownsRow B 63 9 (.slice ad s.N.length c) s.N.length nx) (hy : w.ownsRow B 66 4 yv s.T.length yx) (hrn : Rws (NdV w ok) s.N nx) (hry : Rws (TyV w ok) s.T yx) (ht : NdV w ok t [.int .i64 t.kind, .int .i64 t.a, .int .i64 t.b, .int .i64 t.c, lv, .string ⟨t.text.toArray⟩, .int .i64 t.n, .int .i64 t.ty, .int .i64 t.at']) (hok : ok pb ∧ (∀ g, Value.ownBlock (.slice ad s.N.length c) = some g → ok g) ∧ (∀ g, yv.ownBlock = some g → ok g)) (hgok : ok g)
    (h1 : Chg (fun _ => False) w w1) (hg : w1.grownBy w2 (Value.ownBlock (.slice ad s.N.length c))) (ho : w2.ownsRow B 63 9 (.slice (some ⟨g, 0, none⟩) (s.N.length + 1) cap) (s.N.length + 1) (nx ++ [.int .i64 t.kind, .int .i64 t.a, .int .i64 t.b, .int .i64 t.c, lv, .string ⟨t.text.toArray⟩, .int .i64 t.n, .int .i64 t.ty, .int .i64 t.at'])) :
    Kept B ok w (w2.setCell ⟨pb, 3, none⟩ (.slice (some ⟨g, 0, none⟩) (s.N.length + 1) cap)) ∧ Pst (w2.setCell ⟨pb, 3, none⟩ (.slice (some ⟨g, 0, none⟩) (s.N.length + 1) cap)) B pb tv L ok d ⟨s.i, s.N ++ [t], s.T⟩ := by
  have hlt := (Array.getElem?_eq_some_iff.1 hb).1
  have hb1 : w1.heap[pb]? = w.heap[pb]? := h1.block pb hlt (fun x => x)
  have hy1 : w1.ownsRow B 63 9 (.slice ad s.N.length c) s.N.length nx := owns_chg hn h1 (fun _ _ x => x)
  have hne : some pb ≠ Value.ownBlock (.slice ad s.N.length c) := by
    intro hx
    obtain ⟨_, cur, hh⟩ := owns_tag hy1 pb hx.symm
    rw [hb1, hb] at hh
    simp only [Option.some.injEq, Obj.cells.injEq] at hh
    exact absurd hh.2.1 (by decide)
  have hb2 : w2.heap[pb]? = some (.cells #[tv, .int .i64 (s.i : Int), .int .i64 (d : Int), .slice ad s.N.length c, yv] 53 (0, 0)) := by rw [hg.block pb (Nat.lt_of_lt_of_le hlt h1.size) hne, hb1, hb]
  have hc2 : Chg (fun k => some k = Value.ownBlock (.slice ad s.N.length c)) w w2 := (h1.mono fun _ _ x => x.elim).trans (Chg.grown hg) (fun _ _ x => x)
  have hc3 : Chg (fun k => some k = Value.ownBlock (.slice ad s.N.length c) ∨ k = pb) w (w2.setCell ⟨pb, 3, none⟩ (.slice (some ⟨g, 0, none⟩) (s.N.length + 1) cap)) := (hc2.mono fun _ _ x => .inl x).trans (Chg.set _ _ _) (fun _ _ x => .inr x)
  have hno : ∀ {base : Nat} {e : TypeId} {size : Nat} {v : Value} {n : Nat} {xs : List Value}, w.ownsRow base e size v n xs → e ≠ 53 → e ≠ 63 → ∀ k, v.ownBlock = some k → ¬ (some k = Value.ownBlock (.slice ad s.N.length c) ∨ k = pb) := by
    intro base e size v n xs hw he he2 k hk hx
    obtain ⟨_, cur, hh⟩ := owns_tag hw k hk
    rcases hx with hx | rfl
    · obtain ⟨_, cur2, hh2⟩ := owns_tag hn k hx.symm
      rw [hh] at hh2
      simp only [Option.some.injEq, Obj.cells.injEq] at hh2
      exact he2 hh2.2.1
    · rw [hb] at hh
      simp only [Option.some.injEq, Obj.cells.injEq] at hh
      exact he hh.2.1.symm
  have key : ∀ k, ok k → k < w.heap.size → (some k = Value.ownBlock (.slice ad s.N.length c) ∨ k = pb) → (∃ cur e, w.heap[k]? = some (.cells cur e (0, 0)) ∧ (e = 71 ∨ e = 3)) → False := by
    rintro k _ _ hx ⟨cur, e, hh, he⟩
    rcases hx with hx | rfl
    · obtain ⟨_, cur2, hh2⟩ := owns_tag hn k hx.symm
      rw [hh] at hh2
      simp only [Option.some.injEq, Obj.cells.injEq] at hh2
      rcases he with rfl | rfl <;> exact absurd hh2.2.1 (by decide)
    · rw [hb] at hh
      simp only [Option.some.injEq, Obj.cells.injEq] at hh
      rcases he with rfl | rfl <;> exact absurd hh.2.1 (by decide)
  have hb3 : (w2.setCell ⟨pb, 3, none⟩ (.slice (some ⟨g, 0, none⟩) (s.N.length + 1) cap)).heap[pb]? = some (.cells #[tv, .int .i64 (s.i : Int), .int .i64 (d : Int), .slice (some ⟨g, 0, none⟩) (s.N.length + 1) cap, yv] 53 (0, 0)) := by rw [heap_setCell_same w2 pb 3 _ _ _ hb2]; rfl
  refine ⟨hc3.mono fun k hk hx => ?_, hlow, hat, ⟨by simp; omega, hfew⟩, owns_chg htoks hc3 (hno htoks (by decide) (by decide)), ⟨hok.1, fun u g' hu hg' => ?_, fun u g' hu hg' => ?_⟩, _, yv, _, yx, hb3, ?_, owns_chg hy hc3 (hno hy (by decide) (by decide)), (hrn.imp (NdV.chg hc3 key (fun _ x _ => x))).snoc (NdV.chg hc3 key (fun _ x _ => x) _ _ ht), hry.imp (TyV.chg hc3 key (fun _ x _ => x))⟩
  · rcases hx with hx | rfl
    · obtain ⟨hk1, cur2, hh2⟩ := owns_tag hn k hx.symm
      exact ⟨hk1, ⟨_, _, _, hh2, .inr (.inl rfl)⟩, hok.2.1 _ hx.symm⟩
    · exact ⟨hlow, ⟨_, _, _, hb, .inl rfl⟩, hok.1⟩
  · rw [cell_of_row _ pb 3 _ _ _ hb3] at hu
    cases hu
    have hg2 : some g = some g' := hg'
    cases hg2
    exact hgok
  · rw [cell_of_row _ pb 4 _ _ _ hb3] at hu
    cases hu
    exact hok.2.2 _ hg'
  · have := owns_chg ho (Chg.set w2 ⟨pb, 3, none⟩ (.slice (some ⟨g, 0, none⟩) (s.N.length + 1) cap)) (fun k hk hx => by
      have hx' : k = pb := hx
      subst hx'
      obtain ⟨_, cur2, hh2⟩ := owns_tag ho k hk
      rw [hb2] at hh2
      simp only [Option.some.injEq, Obj.cells.injEq] at hh2
      exact absurd hh2.2.1 (by decide))
    simpa using this

set_option maxRecDepth 100000 in
set_option maxHeartbeats 3200000 in
theorem addTyped_any (hL : LOk L) (h : Pst w B pb tv L ok d s) (t : M.Nd) (la : Option Addr) (ln lc : Nat) (ht : NdV w ok t [.int .i64 t.kind, .int .i64 t.a, .int .i64 t.b, .int .i64 t.c, .slice la ln lc, .string ⟨t.text.toArray⟩, .int .i64 t.n, .int .i64 t.ty, .int .i64 t.at']) (hf : s.N.length + 1 ≤ s.i) (hB : B ≤ w.heap.size) (hok : ∀ g, w.heap.size ≤ g → ok g) :
    Calls Tryz.prog 94 #[.pointer (some ⟨pb, 0, none⟩), .agg #[.int .i64 t.kind, .int .i64 t.a, .int .i64 t.b, .int .i64 t.c, .slice la ln lc, .string ⟨t.text.toArray⟩, .int .i64 t.n, .int .i64 t.ty, .int .i64 t.at']] w fun e w' => e = .returned (.int .i64 (s.N.length : Int)) ∧ Kept B ok w w' ∧ Pst w' B pb tv L ok d ⟨s.i, s.N ++ [t], s.T⟩ := by
  obtain ⟨hlow, hat, hfew, htoks, hoks, nv, yv, nx, yx, hb, hn, hy, hrn, hry⟩ := h
  obtain ⟨ad, c, rfl⟩ := owns_form hn
  have hs := hL.short
  have hlt := (Array.getElem?_eq_some_iff.1 hb).1
  have c4 : w.cell? ⟨pb, 3, none⟩ = some (.slice ad s.N.length c) := by rw [cell_of_row w pb 3 _ _ _ hb]; rfl
  have fz : ∀ o, w.frozen? ⟨pb, o, none⟩ = false := fun o => frozen_of_row w pb o _ _ hb
  have hoks2 : ok pb ∧ (∀ g, Value.ownBlock (.slice ad s.N.length c) = some g → ok g) ∧ (∀ g, yv.ownBlock = some g → ok g) := ⟨hoks.1, fun g hg => hoks.2.1 _ g c4 hg, fun g hg => hoks.2.2 _ g (by rw [cell_of_row w pb 4 _ _ _ hb]; rfl) hg⟩
  have HP := hide (fun (w1 w2 : World) (g cap : Nat) => Pst.pushN (w1 := w1) (w2 := w2) (g := g) (cap := cap) hlow hat hfew.2 hf htoks hb hn hy hrn hry ht hoks2)
  have HG := hide (fun (g : Nat) (hg : Value.ownBlock (.slice ad s.N.length c) = some g ∨ g = w.heap.size + 2) => show ok g from by rcases hg with hg | hg; exact hoks2.2.1 g hg; exact hok g (by omega))
  clear hoks hoks2
  have hne : Value.ownBlock (.slice ad s.N.length c) ≠ some pb := by
    intro hx
    obtain ⟨_, cur, hh⟩ := owns_tag hn pb hx
    rw [hb] at hh
    simp only [Option.some.injEq, Obj.cells.injEq] at hh
    exact absurd hh.2.1 (by decide)
  have hne2 : Value.ownBlock (.slice ad s.N.length c) ≠ some w.heap.size := by
    intro hx
    have := (hn.lt _ hx).2
    omega
  have HY := hide hn
  obtain ⟨i0, hi, hz0, hz1, hz2⟩ := info_parts Tryz.infoNd
  clear ht htoks hb hn hy hrn hry
  go_enter Tryz.func94, Tryz.ntmps94
  go_wp2_with fail
  go_region_law ((refine step_append_lies _ (by rfl) _ _ _ (by rfl) B 63 i0 _ 9 96 Tryz.underlying22 hi hz0 hz1 hz2 rfl (by omega) (.slice ad s.N.length c) s.N.length nx (by rfl) (((HY.out.alloc _).alloc _).drew) ⟨w.heap.size + 1, 0, none⟩ 1 1 [.int .i64 t.kind, .int .i64 t.a, .int .i64 t.b, .int .i64 t.c, .slice la ln lc, .string ⟨t.text.toArray⟩, .int .i64 t.n, .int .i64 t.ty, .int .i64 t.at'] (by rfl) (by rfl) (World.news_of_block (cs := #[.int .i64 t.kind, .int .i64 t.a, .int .i64 t.b, .int .i64 t.c, .slice la ln lc, .string ⟨t.text.toArray⟩, .int .i64 t.n, .int .i64 t.ty, .int .i64 t.at']) (t := 63) (fr := (0, 0)) (heap_alloc2 w _ _)) (by simp [Value.oneCell']) (by omega) (by simp only [maxLen]; omega) (by omega) (by simp; omega) (w.heap.size + 2) (by simp) ?_
                  intro gg cap w1 hown1 hgrow hat1 hlt1
                  have z4 : w1.cell? ⟨pb, 3, none⟩ = some (.slice ad s.N.length c) := by rw [hgrow.cell_far _ (by simp; omega) (Ne.symm hne)]; exact cell_old (by simp; omega) (cell_old hlt c4)
                  have y4 : w1.frozen? ⟨pb, 3, none⟩ = false := by rw [hgrow.frozen_far _ (by simp; omega) (Ne.symm hne)]; exact frz_old (by simp; omega) (frz_old hlt (fz 3))))
  all_goals
    have HQ := hide (HP.out _ _ gg cap (HG.out gg hat1) (((Chg.alloc (fun _ => False) w _).trans (Chg.alloc (fun _ => False) _ _) (fun _ _ x => x)).trans (Chg.drewN (fun _ => False) _ 1) (fun _ _ x => x)) hgrow hown1)
    clear hgrow hown1 HP HY
    go_wp2
    go_ret
    exact ⟨ret_int (by omega), HQ.out.1, HQ.out.2⟩
end
end Go.Proofs.YtjojlcfoiknlhaaGreatDoor

namespace Go.Proofs.YtjojlcfoiknlhaaGreatDoor
open Go.RowKit

/-- What a method that reads a node answers: what the plain function says; and the node is there. -/
def PostN (w : World) (B pb : Nat) (tv : Value) (L : List M.Tk) (ok : Nat → Prop) (d : Nat) (s : M.St) (φ : M.Sp → Option (M.Out Int)) (e : Ending) (w' : World) : Prop :=
  Kept B ok w w' ∧ ∃ o, M.Ev L φ o ∧ match o with
    | .ok s' x => e = .returned (.int .i64 x) ∧ Pst w' B pb tv L ok d s' ∧ Grow s s' ∧ 0 ≤ x ∧ x < s'.N.length
    | .fail er p => e = gu er p ∧ er ≠ 0

def ConN (B pb : Nat) (tv : Value) (L : List M.Tk) (K : Nat) (φ : Nat → M.St → M.Sp → Option (M.Out Int)) (m : Nat) : Prop :=
  ∀ (w : World) (ok : Nat → Prop) (d : Nat) (s : M.St), L.length - s.i ≤ m → (∀ g, w.heap.size ≤ g → ok g) → B ≤ w.heap.size → Pst w B pb tv L ok d s →
    Calls Tryz.prog K #[.pointer (some ⟨pb, 0, none⟩)] w (PostN w B pb tv L ok d s (φ d s))

section
variable {w : World} {B pb : Nat} {tv : Value} {L : List M.Tk} {ok : Nat → Prop} {d : Nat} {s : M.St}

theorem postN_fail {φ : M.Sp → Option (M.Out Int)} {w' : World} {er p : Int} (hk : Kept B ok w w') (hev : M.Ev L φ (.fail er p)) (he : er ≠ 0) : PostN w B pb tv L ok d s φ (gu er p) w' := ⟨hk, _, hev, rfl, he⟩
theorem postN_ok {φ : M.Sp → Option (M.Out Int)} {w' : World} {s' : M.St} {x : Int} (hk : Kept B ok w w') (hev : M.Ev L φ (.ok s' x)) (hp : Pst w' B pb tv L ok d s') (hg : Grow s s') (hx : 0 ≤ x ∧ x < s'.N.length) : PostN w B pb tv L ok d s φ (.returned (.int .i64 x)) w' := ⟨hk, _, hev, rfl, hp, hg, hx⟩

set_option maxHeartbeats 400000 in
theorem begE_any (hL : LOk L) (h : Pst w B pb tv L ok d s) :
    Calls Tryz.prog 92 #[.pointer (some ⟨pb, 0, none⟩)] w fun e w' => e = .returned (.bool (M.begE L s.i)) ∧ Chg (fun _ => False) w w' := by
  have H := token_any hL h
  have HI := fun w1 (h1 : Pst w1 B pb tv L ok d s) => is_any hL (h1.alloc (.cells (strV M.exprBegins) 9)) w1.heap.size 10 M.exprBegins (strs_many _ _ _) (by decide)
  have HS := hide (fun w1 (hc : Chg (fun _ => False) w w1) => h.still hc)
  have hf0 := tok_kind
  unfold M.begE
  generalize M.isM L s.i M.exprBegins = b at *
  generalize M.tk L s.i = tk at *
  obtain ⟨kd, tx, pl⟩ := tk
  simp only [tkv] at H ⊢
  generalize (⟨tx.toArray⟩ : ByteArray) = bx at *
  clear h
  go_enter Tryz.func92, Tryz.ntmps92
  go_wp2_with fail
  refine H.mono ?_
  clear H
  rintro e w1 ⟨rfl, hc⟩
  have HP := hide (HS.out w1 hc)
  have HC := hide hc
  clear hc HS
  by_cases h1 : kd = 1
  · subst h1
    go_wp2_with fail
    go_ret
    exact ⟨ret_bool (by simp), HC.out⟩
  · have h1' : (kd == 1) = false := by simp [h1]
    by_cases h3 : kd = 3
    · subst h3
      go_wp2_with fail
      go_ret
      exact ⟨ret_bool (by simp), HC.out⟩
    · have h3' : (kd == 3) = false := by simp [h3]
      by_cases h4 : kd = 4
      · subst h4
        go_wp2_with fail
        go_ret
        exact ⟨ret_bool (by simp), HC.out⟩
      · have h4' : (kd == 4) = false := by simp [h4]
        go_wp2_with fail
        refine (HI _ HP.out).mono ?_
        clear HI
        rintro e w2 ⟨rfl, hc⟩
        have HC2 := hide (HC.out.trans ((Chg.alloc (fun _ => False) w1 _).trans hc (fun _ _ x => x)) (fun _ _ x => x))
        clear hc
        go_wp2_with fail
        go_ret
        exact ⟨ret_bool (by simp [h1, h3, h4]), HC2.out⟩

set_option maxHeartbeats 400000 in
theorem inside_comparison_any (hL : LOk L) (m : Nat) (φ : Nat → M.St → M.Sp → Option (M.Out Int)) (hU : ConN B pb tv L 188 φ m) (b : Bool) (hm : L.length - s.i ≤ m) (hok : ∀ g, w.heap.size ≤ g → ok g) (hB : B ≤ w.heap.size) (h : Pst w B pb tv L ok d s) :
    Calls Tryz.prog 60 #[.pointer (some ⟨pb, 0, none⟩), .bool b, .func (.func 188) #[.pointer (some ⟨pb, 0, none⟩)] #[]] w (PostN w B pb tv L ok d s (fun r => M.inside L b d s (fun d s => φ d s r))) := by
  obtain ⟨g, c, nv, yv, -, -, -, -, hlt, -, c1, c2, -, -, fz, -⟩ := h.cell
  have HF := fun er => fail_any hL h er
  have HP := hide h
  clear h
  cases b
  · go_enter Tryz.func60, Tryz.ntmps60
    go_wp2_with fail
    refine (HF 1).mono ?_
    rintro e w2 ⟨rfl, hc⟩
    exact ⟨rfl, postN_fail (still_kept hc) (ev_flt (e := 1) (i := s.i) (fun r => by simp [M.inside])) (by decide)⟩
  · by_cases hd : 20 ≤ d
    · have hd' : (20 : Int) ≤ (d : Int) := by omega
      go_enter Tryz.func60, Tryz.ntmps60
      go_wp2_with fail
      refine (HF 8).mono ?_
      rintro e w2 ⟨rfl, hc⟩
      exact ⟨rfl, postN_fail (still_kept hc) (ev_flt (e := 8) (i := s.i) (fun r => by simp [M.inside, hd])) (by decide)⟩
    · have hd' : ¬ (20 : Int) ≤ (d : Int) := by omega
      have HD := hide hd
      clear hd
      go_enter Tryz.func60, Tryz.ntmps60
      go_wp2_with fail
      refine (hU _ ok (d + 1) s hm (by simpa using hok) (by simpa using hB) (by simpa using HP.out.deeper (d + 1))).mono ?_
      rintro e w2 ⟨hk, o, hev, hpost⟩
      have HK := hide ((HP.out.keptSet 2 _).trans hk)
      have HE := hide (hev.eq (ψ := fun r => M.inside L true d s (fun d s => φ d s r)) (fun r => by simp [M.inside, HD.out]))
      cases o with
      | fail er p =>
        obtain ⟨rfl, he⟩ := hpost
        exact ⟨rfl, postN_fail HK.out HE.out he⟩
      | ok s' x =>
        obtain ⟨rfl, hp, hg, hx⟩ := hpost
        have HP2 := hide hp
        have HG := hide hg
        obtain ⟨g', c', nv', yv', -, -, -, -, hlt', -, -, c2', -, -, fz', -⟩ := hp.cell
        clear hp hg hev hk HF hU
        go_wp2_with fail
        go_ret
        exact postN_ok (HK.out.trans (HP2.out.keptSet _ _)) HE.out (HP2.out.deeper d) HG.out hx

set_option maxHeartbeats 400000 in
theorem inside_operand_any (hL : LOk L) (m : Nat) (φ : Nat → M.St → M.Sp → Option (M.Out Int)) (hU : ConN B pb tv L 216 φ m) (b : Bool) (hm : L.length - s.i ≤ m) (hok : ∀ g, w.heap.size ≤ g → ok g) (hB : B ≤ w.heap.size) (h : Pst w B pb tv L ok d s) :
    Calls Tryz.prog 60 #[.pointer (some ⟨pb, 0, none⟩), .bool b, .func (.func 216) #[.pointer (some ⟨pb, 0, none⟩)] #[]] w (PostN w B pb tv L ok d s (fun r => M.inside L b d s (fun d s => φ d s r))) := by
  obtain ⟨g, c, nv, yv, -, -, -, -, hlt, -, c1, c2, -, -, fz, -⟩ := h.cell
  have HF := fun er => fail_any hL h er
  have HP := hide h
  clear h
  cases b
  · go_enter Tryz.func60, Tryz.ntmps60
    go_wp2_with fail
    refine (HF 1).mono ?_
    rintro e w2 ⟨rfl, hc⟩
    exact ⟨rfl, postN_fail (still_kept hc) (ev_flt (e := 1) (i := s.i) (fun r => by simp [M.inside])) (by decide)⟩
  · by_cases hd : 20 ≤ d
    · have hd' : (20 : Int) ≤ (d : Int) := by omega
      go_enter Tryz.func60, Tryz.ntmps60
      go_wp2_with fail
      refine (HF 8).mono ?_
      rintro e w2 ⟨rfl, hc⟩
      exact ⟨rfl, postN_fail (still_kept hc) (ev_flt (e := 8) (i := s.i) (fun r => by simp [M.inside, hd])) (by decide)⟩
    · have hd' : ¬ (20 : Int) ≤ (d : Int) := by omega
      have HD := hide hd
      clear hd
      go_enter Tryz.func60, Tryz.ntmps60
      go_wp2_with fail
      refine (hU _ ok (d + 1) s hm (by simpa using hok) (by simpa using hB) (by simpa using HP.out.deeper (d + 1))).mono ?_
      rintro e w2 ⟨hk, o, hev, hpost⟩
      have HK := hide ((HP.out.keptSet 2 _).trans hk)
      have HE := hide (hev.eq (ψ := fun r => M.inside L true d s (fun d s => φ d s r)) (fun r => by simp [M.inside, HD.out]))
      cases o with
      | fail er p =>
        obtain ⟨rfl, he⟩ := hpost
        exact ⟨rfl, postN_fail HK.out HE.out he⟩
      | ok s' x =>
        obtain ⟨rfl, hp, hg, hx⟩ := hpost
        have HP2 := hide hp
        have HG := hide hg
        obtain ⟨g', c', nv', yv', -, -, -, -, hlt', -, -, c2', -, -, fz', -⟩ := hp.cell
        clear hp hg hev hk HF hU
        go_wp2_with fail
        go_ret
        exact postN_ok (HK.out.trans (HP2.out.keptSet _ _)) HE.out (HP2.out.deeper d) HG.out hx

set_option maxHeartbeats 400000 in
theorem inside_anyStatement_any (hL : LOk L) (m : Nat) (φ : Nat → M.St → M.Sp → Option (M.Out Int)) (hU : ConN B pb tv L 93 φ m) (b : Bool) (hm : L.length - s.i ≤ m) (hok : ∀ g, w.heap.size ≤ g → ok g) (hB : B ≤ w.heap.size) (h : Pst w B pb tv L ok d s) :
    Calls Tryz.prog 60 #[.pointer (some ⟨pb, 0, none⟩), .bool b, .func (.func 93) #[.pointer (some ⟨pb, 0, none⟩)] #[]] w (PostN w B pb tv L ok d s (fun r => M.inside L b d s (fun d s => φ d s r))) := by
  obtain ⟨g, c, nv, yv, -, -, -, -, hlt, -, c1, c2, -, -, fz, -⟩ := h.cell
  have HF := fun er => fail_any hL h er
  have HP := hide h
  clear h
  cases b
  · go_enter Tryz.func60, Tryz.ntmps60
    go_wp2_with fail
    refine (HF 1).mono ?_
    rintro e w2 ⟨rfl, hc⟩
    exact ⟨rfl, postN_fail (still_kept hc) (ev_flt (e := 1) (i := s.i) (fun r => by simp [M.inside])) (by decide)⟩
  · by_cases hd : 20 ≤ d
    · have hd' : (20 : Int) ≤ (d : Int) := by omega
      go_enter Tryz.func60, Tryz.ntmps60
      go_wp2_with fail
      refine (HF 8).mono ?_
      rintro e w2 ⟨rfl, hc⟩
      exact ⟨rfl, postN_fail (still_kept hc) (ev_flt (e := 8) (i := s.i) (fun r => by simp [M.inside, hd])) (by decide)⟩
    · have hd' : ¬ (20 : Int) ≤ (d : Int) := by omega
      have HD := hide hd
      clear hd
      go_enter Tryz.func60, Tryz.ntmps60
      go_wp2_with fail
      refine (hU _ ok (d + 1) s hm (by simpa using hok) (by simpa using hB) (by simpa using HP.out.deeper (d + 1))).mono ?_
      rintro e w2 ⟨hk, o, hev, hpost⟩
      have HK := hide ((HP.out.keptSet 2 _).trans hk)
      have HE := hide (hev.eq (ψ := fun r => M.inside L true d s (fun d s => φ d s r)) (fun r => by simp [M.inside, HD.out]))
      cases o with
      | fail er p =>
        obtain ⟨rfl, he⟩ := hpost
        exact ⟨rfl, postN_fail HK.out HE.out he⟩
      | ok s' x =>
        obtain ⟨rfl, hp, hg, hx⟩ := hpost
        have HP2 := hide hp
        have HG := hide hg
        obtain ⟨g', c', nv', yv', -, -, -, -, hlt', -, -, c2', -, -, fz', -⟩ := hp.cell
        clear hp hg hev hk HF hU
        go_wp2_with fail
        go_ret
        exact postN_ok (HK.out.trans (HP2.out.keptSet _ _)) HE.out (HP2.out.deeper d) HG.out hx

set_option maxHeartbeats 400000 in
theorem expression_any (hL : LOk L) (m : Nat) (hU : ConN B pb tv L 188 (fun d s r => r.comp d s) m) : ConN B pb tv L 159 (fun d s r => r.expr d s) m := by
  intro w ok d s hm hok hB h
  have HI := fun w1 (hc : Chg (fun _ => False) w w1) (b : Bool) => inside_comparison_any (w := w1) (ok := ok) hL m _ hU b hm (fun g hg => hok g (Nat.le_trans hc.size hg)) (Nat.le_trans hB hc.size) (h.still hc)
  have HS := begE_any hL h
  clear hU
  have HE := hide (fun b (hb : b = M.begE L s.i) o (ho : M.Ev L (fun r => M.inside L b d s (fun d s => r.comp d s)) o) => (M.Ev.step (φ := fun r => r.expr d s) (ho.eq (fun r => by rw [hb]; rfl))))
  generalize M.begE L s.i = b at *
  go_enter Tryz.func159, Tryz.ntmps159
  go_wp2_with fail
  refine HS.mono ?_
  clear HS
  rintro e w1 ⟨rfl, hc⟩
  have HC := hide hc
  clear hc
  go_wp2_with fail
  refine (HI w1 HC.out b).mono ?_
  clear HI
  rintro e w2 ⟨hk, o, hev, hpost⟩
  have HK := hide ((still_kept HC.out).trans hk)
  have HV := hide (HE.out b rfl o hev)
  clear hk hev HE
  cases o with
  | fail er p =>
    obtain ⟨rfl, he⟩ := hpost
    exact ⟨rfl, postN_fail HK.out HV.out he⟩
  | ok s' x =>
    obtain ⟨rfl, hp, hg, hx⟩ := hpost
    have HP2 := hide hp
    have HG := hide hg
    clear hp hg
    go_wp2_with fail
    go_ret
    exact postN_ok HK.out HV.out HP2.out HG.out hx

set_option maxHeartbeats 400000 in
theorem add_any (hL : LOk L) (h : Pst w B pb tv L ok d s) (t : M.Nd) (y : Int) (la : Option Addr) (ln lc : Nat) (ht : NdV w ok t [.int .i64 t.kind, .int .i64 t.a, .int .i64 t.b, .int .i64 t.c, .slice la ln lc, .string ⟨t.text.toArray⟩, .int .i64 t.n, .int .i64 t.ty, .int .i64 t.at']) (hy : t.ty = -1) (hf : s.N.length + 1 ≤ s.i) (hB : B ≤ w.heap.size) (hok : ∀ g, w.heap.size ≤ g → ok g) :
    Calls Tryz.prog 51 #[.pointer (some ⟨pb, 0, none⟩), .agg #[.int .i64 t.kind, .int .i64 t.a, .int .i64 t.b, .int .i64 t.c, .slice la ln lc, .string ⟨t.text.toArray⟩, .int .i64 t.n, .int .i64 y, .int .i64 t.at']] w fun e w' => e = .returned (.int .i64 (s.N.length : Int)) ∧ Kept B ok w w' ∧ Pst w' B pb tv L ok d ⟨s.i, s.N ++ [t], s.T⟩ := by
  have HA := addTyped_any hL (h.alloc (.cells #[.int .i64 t.kind, .int .i64 t.a, .int .i64 t.b, .int .i64 t.c, .slice la ln lc, .string ⟨t.text.toArray⟩, .int .i64 t.n, .int .i64 (-1), .int .i64 t.at'] 63)) t la ln lc (NdV.chg (Chg.alloc (fun _ => False) _ _) (fun _ _ _ x _ => x) (fun _ x _ => x) _ _ ht) hf (by simp; omega) (fun g hg => hok g (by simp at hg; omega))
  rw [hy] at HA
  clear h ht
  go_enter Tryz.func51, Tryz.ntmps51
  go_wp2_with fail
  refine HA.mono ?_
  clear HA
  rintro e w1 ⟨rfl, hk, hp⟩
  have HK := hide (((Kept.refl B ok w).alloc _).trans hk)
  have HP := hide hp
  clear hk hp
  go_wp2_with fail
  go_ret
  exact ⟨rfl, HK.out, HP.out⟩
end
end Go.Proofs.YtjojlcfoiknlhaaGreatDoor
