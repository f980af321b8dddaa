/-
  The contracts of newName and objectType.
-/
import Derived.Test.YtkilicjjaljghaaGreatLst
namespace Go.Proofs.YtkilicjjaljghaaGreat
open Go.RowKit

section
variable {w : World} {B pb : Nat} {tv : Value} {L : List M.Tk} {ok : Nat → Prop} {d : Nat} {s : M.St}

theorem Tryz.infoStr : (Tryz.prog.info? 9).map (fun i => (i.zero, i.size, i.bytes)) = some (some (.string ⟨#[]⟩), 1, 16) := by kernel_rfl

def svals (ms : List (List UInt8)) : List Value := ms.map fun m => .string ⟨m.toArray⟩
theorem svals_snoc (ms : List (List UInt8)) (m : List UInt8) : svals (ms ++ [m]) = svals ms ++ [.string ⟨m.toArray⟩] := by simp [svals]

/-- Names that lie in a variable of the call's own. -/
def Nms (w : World) (lo nb : Nat) (names : List (List UInt8)) : Prop :=
  lo ≤ nb ∧ ∃ ad c, w.heap[nb]? = some (.cells #[.slice ad names.length c] 33 (0, 0)) ∧ w.ownsRow lo 9 1 (.slice ad names.length c) names.length (svals names)

def tagS (w : World) (k : Nat) : Prop := ∃ cs e fz, w.heap[k]? = some (.cells cs e fz) ∧ (e = 33 ∨ e = 9)
def KeptS (B : Nat) (ok : Nat → Prop) (lo : Nat) (w w' : World) : Prop := Chg (fun k => (B ≤ k ∧ tag w k ∧ ok k) ∨ (lo ≤ k ∧ tagS w k)) w w'

theorem Nms.kept {ok : Nat → Prop} {w w' : World} {lo nb : Nat} {names : List (List UInt8)} (h : Nms w lo nb names) (hk : Kept B ok w w') : Nms w' lo nb names := by
  obtain ⟨h1, ad, c, h2, h3⟩ := h
  refine ⟨h1, ad, c, ?_, owns_kept h3 hk (by decide)⟩
  rw [hk.block nb (Array.getElem?_eq_some_iff.1 h2).1 (fun x => ?_)]
  · exact h2
  · obtain ⟨cs, e, fz, hh, r⟩ := x.2.1
    rw [h2] at hh
    simp only [Option.some.injEq, Obj.cells.injEq] at hh
    obtain ⟨_, rfl, _⟩ := hh
    rcases r with r | r | r <;> exact absurd r (by decide)

theorem keepS {w a b : World} {nb : Nat} {v : Value} (h1 : a.cell? ⟨nb, 0, none⟩ = some v) (h2 : Hid (Chg (fun _ => False) w a)) (hc : Chg (fun _ => False) a b) : b.cell? ⟨nb, 0, none⟩ = some v ∧ Hid (Chg (fun _ => False) w b) := by
  refine ⟨?_, h2.out.trans hc (fun _ _ x => x)⟩
  rw [World.cell?_of_block (hc.block nb (World.block_lt_of_cell? a _ h1) (fun x => x))]
  exact h1

theorem svals_at {w : World} {g : Nat} {ms : List (List UInt8)} (hg : g < w.heap.size) (hc : ∀ j u, (svals ms)[j]? = some u → w.cell? ⟨g, j, none⟩ = some u) : Strs w g ms :=
  ⟨hg, fun j hj => hc j _ (by simp [svals, hj])⟩

set_option maxHeartbeats 400000 in
theorem index_none (w : World) (ad : Option Addr) (c : Nat) (t : List UInt8) :
    Calls Tryz.prog 115 #[.slice ad 0 c, .string ⟨t.toArray⟩] w fun e w' => e = .returned (.int .i64 (-1)) ∧ w' = w := by
  go_enter Tryz.func115, Tryz.ntmps115
  go_wp2
  go_loop [8] (fun i => i = .int .i64 0) (fun _ => 0)
  case atStart => rfl
  case round =>
    subst hrel
    go_wp2
    go_ret
    exact ⟨rfl, rfl⟩

set_option maxHeartbeats 400000 in
theorem contains_none (w : World) (ad : Option Addr) (c : Nat) (t : List UInt8) :
    Calls Tryz.prog 97 #[.slice ad 0 c, .string ⟨t.toArray⟩] w fun e w' => e = .returned (.bool false) ∧ w' = w := by
  have H := index_none w ad c t
  go_enter Tryz.func97, Tryz.ntmps97
  go_wp2_with fail
  refine H.mono ?_
  clear H
  rintro e w1 ⟨rfl, rfl⟩
  go_wp2
  go_ret
  exact ⟨rfl, rfl⟩

/-- Contains, at texts that are owned. -/
theorem contains_own (w : World) (lo : Nat) (ad : Option Addr) (c : Nat) (ms : List (List UInt8)) (t : List UInt8) (h : w.ownsRow lo 9 1 (.slice ad ms.length c) ms.length (svals ms)) (hm : ms.length ≤ 4000) :
    Calls Tryz.prog 97 #[.slice ad ms.length c, .string ⟨t.toArray⟩] w fun e w' => e = .returned (.bool (M.has ms t)) ∧ w' = w := by
  by_cases hz : 0 < ms.length
  · obtain ⟨g, rfl, _, hg, _, _, hcell⟩ := owns_cell h hz
    exact contains_any w g c ms t (svals_at hg hcell) hm
  · have : ms = [] := List.eq_nil_of_length_eq_zero (by omega)
    subst this
    exact contains_none w ad c t

theorem Nms.push {w w1 w2 : World} {lo nb n c g cap : Nat} {ad : Option Addr} {xs : List Value} {x : Value} (h : Pst w B pb tv L ok d s) (hnb : lo ≤ nb) (hb : w.heap[nb]? = some (.cells #[.slice ad n c] 33 (0, 0))) (ho : w.ownsRow lo 9 1 (.slice ad n c) n xs) (h1 : Chg (fun _ => False) w w1)
    (hg : w1.grownBy w2 (Value.ownBlock (.slice ad n c))) (ho2 : w2.ownsRow lo 9 1 (.slice (some ⟨g, 0, none⟩) (n + 1) cap) (n + 1) (xs ++ [x])) :
    KeptS B ok lo w (w2.setCell ⟨nb, 0, none⟩ (.slice (some ⟨g, 0, none⟩) (n + 1) cap)) ∧ Pst (w2.setCell ⟨nb, 0, none⟩ (.slice (some ⟨g, 0, none⟩) (n + 1) cap)) B pb tv L ok d s ∧
      (w2.setCell ⟨nb, 0, none⟩ (.slice (some ⟨g, 0, none⟩) (n + 1) cap)).heap[nb]? = some (.cells #[.slice (some ⟨g, 0, none⟩) (n + 1) cap] 33 (0, 0)) ∧
      (w2.setCell ⟨nb, 0, none⟩ (.slice (some ⟨g, 0, none⟩) (n + 1) cap)).ownsRow lo 9 1 (.slice (some ⟨g, 0, none⟩) (n + 1) cap) (n + 1) (xs ++ [x]) := by
  have hlt := (Array.getElem?_eq_some_iff.1 hb).1
  have hb1 : w1.heap[nb]? = w.heap[nb]? := h1.block nb hlt (fun x => x)
  have ho1 : w1.ownsRow lo 9 1 (.slice ad n c) n xs := owns_chg ho h1 (fun _ _ x => x)
  have hne : some nb ≠ Value.ownBlock (.slice ad n c) := by
    intro hx
    obtain ⟨_, cur, hh⟩ := owns_tag ho1 nb hx.symm
    rw [hb1, hb] at hh
    simp only [Option.some.injEq, Obj.cells.injEq] at hh
    exact absurd hh.2.1 (by decide)
  have hb2 : w2.heap[nb]? = some (.cells #[.slice ad n c] 33 (0, 0)) := by rw [hg.block nb (Nat.lt_of_lt_of_le hlt h1.size) hne, hb1, hb]
  have hc3 : Chg (fun k => some k = Value.ownBlock (.slice ad n c) ∨ k = nb) w (w2.setCell ⟨nb, 0, none⟩ (.slice (some ⟨g, 0, none⟩) (n + 1) cap)) :=
    (((h1.mono fun _ _ x => x.elim).trans (Chg.grown hg) (fun _ _ x => x)).mono fun _ _ x => .inl x).trans (Chg.set _ _ _) (fun _ _ x => .inr x)
  have htag : ∀ k, (some k = Value.ownBlock (.slice ad n c) ∨ k = nb) → lo ≤ k ∧ ∃ cs e, w.heap[k]? = some (.cells cs e (0, 0)) ∧ (e = 33 ∨ e = 9) := by
    rintro k (hx | rfl)
    · obtain ⟨h2, cur, hh⟩ := owns_tag ho k hx.symm
      exact ⟨h2, cur, _, hh, .inr rfl⟩
    · exact ⟨hnb, _, _, hb, .inl rfl⟩
  refine ⟨hc3.mono fun k _ hx => ?_, h.chg hc3 (fun k cur e hk hx => ?_) (fun _ x _ => x), by rw [heap_setCell_same w2 nb 0 _ _ _ hb2]; rfl, owns_chg ho2 (Chg.set w2 ⟨nb, 0, none⟩ _) (fun k hk hx => ?_)⟩
  · obtain ⟨h2, cs, e, hh, r⟩ := htag k hx
    exact .inr ⟨h2, cs, e, _, hh, r⟩
  · obtain ⟨h2, cs, e', hh, r⟩ := htag k hx
    rw [hk] at hh
    simp only [Option.some.injEq, Obj.cells.injEq] at hh
    obtain ⟨_, rfl, _⟩ := hh
    refine ⟨by rcases r with rfl | rfl <;> decide, by rcases r with rfl | rfl <;> decide, by rcases r with rfl | rfl <;> decide, fun ht => ?_, fun hx2 => ?_⟩
    · obtain ⟨_, cur3, hh3⟩ := owns_tag h.toks k ht
      rw [hk] at hh3
      simp only [Option.some.injEq, Obj.cells.injEq] at hh3
      obtain ⟨_, rfl, _⟩ := hh3
      rcases r with r | r <;> exact absurd r (by decide)
    · rcases r with rfl | rfl <;> rcases hx2 with hx2 | hx2 <;> exact absurd hx2 (by decide)
  · have hx' : k = nb := hx
    subst hx'
    obtain ⟨_, cur2, hh2⟩ := owns_tag ho2 k hk
    rw [hb2] at hh2
    simp only [Option.some.injEq, Obj.cells.injEq] at hh2
    exact absurd hh2.2.1 (by decide)

theorem Kept.toS {lo : Nat} {w w' : World} (h : Kept B ok w w') : KeptS B ok lo w w' := Chg.mono h fun _ _ x => .inl x
theorem KeptS.after {lo : Nat} {a b c : World} (h : Kept B ok a b) (k : KeptS B ok lo b c) : KeptS B ok lo a c := by
  refine ⟨k.os.trans h.os, k.tape.trans h.tape, k.output.trans h.output, Nat.le_trans h.size k.size, fun i hi hn => ?_⟩
  have h1 := h.block i hi (fun x => hn (.inl x))
  refine (k.block i (Nat.lt_of_lt_of_le hi h.size) (fun x => hn ?_)).trans h1
  rcases x with ⟨x1, ⟨cs, e, fz, hh, r⟩, x3⟩ | ⟨x1, cs, e, fz, hh, r⟩
  · exact .inl ⟨x1, ⟨cs, e, fz, by rw [← h1]; exact hh, r⟩, x3⟩
  · exact .inr ⟨x1, cs, e, fz, by rw [← h1]; exact hh, r⟩

set_option maxRecDepth 100000 in
set_option maxHeartbeats 3000000 in
theorem newName_any (hL : LOk L) (h : Pst w B pb tv L ok d s) (lo nb : Nat) (names : List (List UInt8)) (hn : Nms w lo nb names) (hl : names.length ≤ 1001) (hlo : lo ≤ w.heap.size) :
    Calls Tryz.prog 126 #[.pointer (some ⟨pb, 0, none⟩), .pointer (some ⟨nb, 0, none⟩)] w fun e w' => KeptS B ok lo w w' ∧
      match M.newName L s names with
      | some (.ok s' nm) => e = .returned (.string ⟨nm.toArray⟩) ∧ Nms w' lo nb (names ++ [nm]) ∧ Pst w' B pb tv L ok d s'
      | some (.fail er p) => e = gu er p
      | none => False := by
  have H := fun w1 (h1 : Pst w1 B pb tv L ok d s) => token_any hL h1
  have HF := fun w1 (h1 : Pst w1 B pb tv L ok d s) => fail_any hL h1 6
  have HN := fun w1 (h1 : Pst w1 B pb tv L ok d s) => pname_any hL h1
  have HP := hide h
  have HM := hide hn
  obtain ⟨hnb, ad, c, hb, ho⟩ := hn
  have hlt := (Array.getElem?_eq_some_iff.1 hb).1
  have k0 : w.cell? ⟨nb, 0, none⟩ = some (.slice ad names.length c) := by rw [cell_of_row w nb 0 _ _ _ hb]; rfl
  have k1 : Hid (Chg (fun _ => False) w w.drew) := Chg.drewN (fun _ => False) w 1
  have hf0 := tok_kind
  have hf1 := tok_text
  unfold M.newName M.flt
  clear h
  generalize M.tk L s.i = tk at *
  obtain ⟨kd, tx, pl⟩ := tk
  simp only [tkv] at H HF HN ⊢
  by_cases hk : kd = 1
  · subst hk
    have HC : Hid (∀ w1 : World, Chg (fun _ => False) w w1 → Calls Tryz.prog 97 #[.slice ad names.length c, .string ⟨tx.toArray⟩] w1 fun e w' => e = .returned (.bool (M.has names tx)) ∧ w' = w1) :=
      fun w1 h1 => contains_own w1 lo ad c names tx (owns_chg ho h1 (fun _ _ x => x)) (by omega)
    generalize M.has names tx = r at *
    go_enter Tryz.func126, Tryz.ntmps126
    go_wp2_with fail
    go_region_held3 (fun w' => w'.cell? ⟨nb, 0, none⟩ = some (.slice ad names.length c) ∧ Hid (Chg (fun _ => False) w w'))
      (first
        | exact ⟨k0, k1⟩
        | exact keepS (by assumption) (by assumption) hc
        | (go_split_ands; exact keepS (by assumption) (by assumption) hc)
        | (go_split_ands; exact ⟨by assumption, by assumption⟩))
      (first
        | ((go_at_call 94; go_split_ands; refine (H _ (HP.out.still (Hid.out (by assumption)))).mono ?_; rintro e w' ⟨rfl, hc⟩))
        | ((go_at_call 97; go_split_ands; refine (HC.out _ (Hid.out (by assumption))).mono ?_; rintro e w' ⟨rfl, rfl⟩)))
    have C1 : Hid (Chg (fun _ => False) w w') := by assumption
    have P1 := hide (HP.out.still C1.out)
    cases r
    · go_wp2_with fail
      refine (HN _ P1.out).mono ?_
      rintro e w2 ⟨hk2, hr⟩
      rcases hr with ⟨_, rfl, hp2⟩ | ⟨hx, _⟩
      · have K2 := hide ((still_kept (B := B) (ok := ok) C1.out).trans hk2)
        have N2 := hide (HM.out.kept K2.out)
        have P2 := hide hp2
        obtain ⟨_, ad2, c2, hb2, ho2⟩ := N2.out
        have hlt2 := (Array.getElem?_eq_some_iff.1 hb2).1
        have q0 : w2.cell? ⟨nb, 0, none⟩ = some (.slice ad2 names.length c2) := by rw [cell_of_row w2 nb 0 _ _ _ hb2]; rfl
        have fz : w2.frozen? ⟨nb, 0, none⟩ = false := frozen_of_row w2 nb 0 _ _ hb2
        have hne : Value.ownBlock (.slice ad2 names.length c2) ≠ some nb := by
          intro hx
          obtain ⟨_, cur, hh⟩ := owns_tag ho2 nb hx
          rw [hb2] at hh
          simp only [Option.some.injEq, Obj.cells.injEq] at hh
          exact absurd hh.2.1 (by decide)
        have HX := hide (fun (w3 w4 : World) (g cap : Nat) => Nms.push (w1 := w3) (w2 := w4) (g := g) (cap := cap) (x := .string ⟨tx.toArray⟩) hp2 hnb hb2 ho2)
        have O2 := hide ho2
        have hlo2 : lo ≤ w2.heap.size := Nat.le_trans hlo K2.out.size
        obtain ⟨i0, hi, hz0, hz1, hz2⟩ := info_parts Tryz.infoStr
        clear hk2 hp2 hb2 ho2 HN HF H HC hb ho k0 k1
        have hw3 := hide (O2.out.alloc (.cells #[.string ⟨tx.toArray⟩] 9))
        go_wp2_with (at_builtin; refine wpList_append_lies _ rfl _ _ _ rfl lo 9 i0 _ 1 16 Tryz.underlying33 hi hz0 hz1 hz2 rfl (by decide) (.slice ad2 names.length c2) names.length (svals names) rfl hw3.out ⟨w2.heap.size, 0, none⟩ 1 1 [.string ⟨tx.toArray⟩] rfl rfl ?c1 ?c2 ?c0 ?c3 ?c4 ?c5 (w2.heap.size + 1) (by simp) ?_)
        case c1 => exact cell_one_new _ _ _
        case c2 => intro u hu; simp at hu; rcases hu with rfl; rfl
        case c0 => omega
        case c3 => simp only [maxLen]; omega
        case c4 => omega
        case c5 => simp; omega
        · intro gg cap w3 hown hgrow hat hlt3
          have z4 : w3.cell? ⟨nb, 0, none⟩ = some (.slice ad2 names.length c2) := by rw [hgrow.cell_far _ (by simp; omega) (Ne.symm hne)]; exact cell_old hlt2 q0
          have y4 : w3.frozen? ⟨nb, 0, none⟩ = false := by rw [hgrow.frozen_far _ (by simp; omega) (Ne.symm hne)]; exact frz_old hlt2 fz
          have HQ := hide (HX.out _ _ gg cap (Chg.alloc (fun _ => False) _ _) hgrow hown)
          clear hgrow hown HX hw3 O2 hne
          go_wp2_with fail
          go_ret
          refine ⟨KeptS.after K2.out HQ.out.1, rfl, ⟨hnb, some ⟨gg, 0, none⟩, cap, ?_, ?_⟩, HQ.out.2.1⟩
          · have := HQ.out.2.2.1
            simpa using this
          · have := HQ.out.2.2.2
            rw [svals_snoc]
            simpa using this
      · exact absurd rfl hx
    · go_wp2_with fail
      refine (HF _ P1.out).mono ?_
      rintro e w2 ⟨rfl, hc2⟩
      exact ⟨rfl, (still_kept (B := B) (ok := ok) (C1.out.trans hc2 (fun _ _ x => x))).toS, rfl⟩
  · have hk' : (kd == 1) = false := by simp [hk]
    clear hb ho
    go_enter Tryz.func126, Tryz.ntmps126
    go_wp2_with fail
    refine wp_region_held_drew (S := fun w' => Hid (Chg (fun _ => False) w w')) (by kernel_rfl) k1 (fun hHeld => ?_)
    refine wpAnyH_take (i := 0) (oi := Oper.mk (some 6) _ _ _ _ _) (v := .pointer (some ⟨pb, 0, none⟩)) rfl (by kernel_rfl) (by kernel_rfl) (by kernel_rfl) (fun _ _ _ h => h) (Or.inl ⟨by rfl, fun w _ => by go_simp⟩) (by assumption) ?_
    simp only [Act.put, List.setIfInBounds_toArray, List.set_cons_zero, List.set_cons_succ]
    refine wpAnyH_ready (rs := [1]) (by kernel_rfl) (by simp) ?_
    refine AllReadyH.cons (o := Oper.mk (some 7) _ _ _ _ _) rfl (fun K hK => ?_) AllReadyH.nil
    go_simp
    refine (H _ (HP.out.still k1.out)).mono ?_
    rintro e w' ⟨rfl, hc⟩
    have C1 := hide (k1.out.trans hc (fun _ _ x => x))
    refine hK _ _ C1 (fun _ => ?_)
    clear hK K hHeld
    refine wpAnyH_take (i := 2) (oi := Oper.mk (some 8) _ _ _ _ _) (v := .int .i64 kd) rfl (by kernel_rfl) (by kernel_rfl) (by kernel_rfl) (fun _ _ _ h => h) (Or.inl ⟨by rfl, fun w _ => by go_simp⟩) (by assumption) ?_
    simp only [Act.put, List.setIfInBounds_toArray, List.set_cons_zero, List.set_cons_succ]
    refine wpAnyH_take (i := 3) (oi := Oper.mk (some 9) _ _ _ _ _) (v := .bool false) rfl (by kernel_rfl) (by kernel_rfl) (by kernel_rfl) (fun _ _ _ h => h) (Or.inl ⟨by rfl, fun w _ => by go_simp⟩) (by assumption) ?_
    simp only [Act.put, List.setIfInBounds_toArray, List.set_cons_zero, List.set_cons_succ]
    refine wpAnyH_take (i := 4) (oi := Oper.mk (some 10) _ _ _ _ _) (v := .bool false) rfl (by kernel_rfl) (by kernel_rfl) (by kernel_rfl) (fun _ _ _ h => h) (Or.inl ⟨by rfl, fun w _ => by go_simp⟩) (by assumption) ?_
    simp only [Act.put, List.setIfInBounds_toArray, List.set_cons_zero, List.set_cons_succ]
    refine wpAnyH_take (i := 5) (oi := Oper.mk (some 11) _ _ _ _ _) (v := undef) rfl (by kernel_rfl) (by kernel_rfl) (by kernel_rfl) (fun _ _ _ h => h) (Or.inr ⟨by rfl, rfl⟩) (by assumption) ?_
    simp only [Act.put, List.setIfInBounds_toArray, List.set_cons_zero, List.set_cons_succ]
    refine wpAnyH_take (i := 6) (oi := Oper.mk (some 12) _ _ _ _ _) (v := undef) rfl (by kernel_rfl) (by kernel_rfl) (by kernel_rfl) (fun _ _ _ h => h) (Or.inr ⟨by rfl, rfl⟩) (by assumption) ?_
    simp only [Act.put, List.setIfInBounds_toArray, List.set_cons_zero, List.set_cons_succ]
    refine wpAnyH_take (i := 7) (oi := Oper.mk (some 13) _ _ _ _ _) (v := undef) rfl (by kernel_rfl) (by kernel_rfl) (by kernel_rfl) (fun _ _ _ h => h) (Or.inr ⟨by rfl, rfl⟩) (by assumption) ?_
    simp only [Act.put, List.setIfInBounds_toArray, List.set_cons_zero, List.set_cons_succ]
    refine wpAnyH_take (i := 8) (oi := Oper.mk (some 14) _ _ _ _ _) (v := undef) rfl (by kernel_rfl) (by kernel_rfl) (by kernel_rfl) (fun _ _ _ h => h) (Or.inr ⟨by rfl, rfl⟩) (by assumption) ?_
    simp only [Act.put, List.setIfInBounds_toArray, List.set_cons_zero, List.set_cons_succ]
    refine wpAnyH_take (i := 9) (oi := Oper.mk (some 15) _ _ _ _ _) (v := undef) rfl (by kernel_rfl) (by kernel_rfl) (by kernel_rfl) (fun _ _ _ h => h) (Or.inr ⟨by rfl, rfl⟩) (by assumption) ?_
    simp only [Act.put, List.setIfInBounds_toArray, List.set_cons_zero, List.set_cons_succ]
    refine wpAnyH_take (i := 10) (oi := Oper.mk (some 16) _ _ _ _ _) (v := undef) rfl (by kernel_rfl) (by kernel_rfl) (by kernel_rfl) (fun _ _ _ h => h) (Or.inr ⟨by rfl, rfl⟩) (by assumption) ?_
    simp only [Act.put, List.setIfInBounds_toArray, List.set_cons_zero, List.set_cons_succ]
    refine wpAnyH_take (i := 11) (oi := Oper.mk (some 17) _ _ _ _ _) (v := undef) rfl (by kernel_rfl) (by kernel_rfl) (by kernel_rfl) (fun _ _ _ h => h) (Or.inr ⟨by rfl, rfl⟩) (by assumption) ?_
    simp only [Act.put, List.setIfInBounds_toArray, List.set_cons_zero, List.set_cons_succ]
    refine wpAnyH_take (i := 12) (oi := Oper.mk (some 18) _ _ _ _ _) (v := .bool false) rfl (by kernel_rfl) (by kernel_rfl) (by kernel_rfl) (fun _ _ _ h => h) (Or.inl ⟨by rfl, fun w _ => by go_simp⟩) (by assumption) ?_
    simp only [Act.put, List.setIfInBounds_toArray, List.set_cons_zero, List.set_cons_succ]
    refine wpAnyH_done (by kernel_rfl) ?_ _
    have P1 := hide (HP.out.still C1.out)
    go_wp2_with fail
    refine (HN _ P1.out).mono ?_
    rintro e w2 ⟨hk2, hr⟩
    rcases hr with ⟨hx, _⟩ | ⟨_, rfl⟩
    · exact absurd hx hk
    · have K2 := (still_kept (B := B) (ok := ok) C1.out).trans hk2
      exact ⟨rfl, K2.toS, by simp [hk]; rfl⟩
end
end Go.Proofs.YtkilicjjaljghaaGreat
