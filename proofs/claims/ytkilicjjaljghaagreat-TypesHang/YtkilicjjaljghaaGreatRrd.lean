/-
  The reference's reader: what it holds, and its small methods.
-/
import Derived.Test.YtkilicjjaljghaaGreatTun
import Derived.Test.YtkilicjjaljghaaGreatTokens
import Derived.Test.YtkilicjjaljghaaGreatPlainC
namespace Go.Proofs.YtkilicjjaljghaaGreat
open Go.RowKit

/-- The cells of a type, of which its kind alone is told. -/
def TyK (t : M.Ty) (xs : List Value) : Prop := ∃ a b c, xs = [.int .i64 t.kind, a, b, c]
theorem TyK.len {t : M.Ty} {xs : List Value} (h : TyK t xs) : xs.length = 4 := by obtain ⟨_, _, _, rfl⟩ := h; rfl

/-- What a reader may change. -/
def tagR (w : World) (k : Nat) : Prop := ∃ cs e fz, w.heap[k]? = some (.cells cs e fz) ∧ (e = 77 ∨ e = 52)
def RKept (B : Nat) (w w' : World) : Prop := Chg (fun k => B ≤ k ∧ tagR w k) w w'
theorem RKept.refl (B : Nat) (w : World) : RKept B w w := Chg.refl _ _
theorem RKept.trans {B : Nat} {a b c : World} (h : RKept B a b) (k : RKept B b c) : RKept B a c := by
  refine ⟨k.os.trans h.os, k.tape.trans h.tape, k.output.trans h.output, Nat.le_trans h.size k.size, fun i hi hn => ?_⟩
  have h1 := h.block i hi hn
  refine (k.block i (Nat.lt_of_lt_of_le hi h.size) (fun x => hn ⟨x.1, ?_⟩)).trans h1
  obtain ⟨cs, e, fz, hh, r⟩ := x.2
  exact ⟨cs, e, fz, by rw [← h1]; exact hh, r⟩
theorem RKept.still {B : Nat} {w w' : World} (h : Chg (fun _ => False) w w') : RKept B w w' := h.mono fun _ _ x => x.elim
theorem RKept.new {B : Nat} {S : Nat → Prop} {a b c : World} (h : RKept B a b) (k : Chg S b c) (hs : ∀ i, S i → a.heap.size ≤ i) : RKept B a c := Chg.trans h k fun i hi x => by have := hs i x; omega
theorem RKept.below {B : Nat} {w w' : World} (h : RKept B w w') (hB : B ≤ w.heap.size) : Below B w w' := Chg.toBelow h (fun _ _ x => x.1) hB
theorem RKept.other {B : Nat} {w w' : World} (hc : RKept B w w') {q : Nat} {cs : Array Value} {e : TypeId} {fz : Nat × Nat} (h : w.heap[q]? = some (.cells cs e fz)) (he : e ≠ 77 ∧ e ≠ 52) : w'.heap[q]? = some (.cells cs e fz) := by
  rw [hc.block q (Array.getElem?_eq_some_iff.1 h).1 (fun x => ?_)]
  · exact h
  · obtain ⟨cs2, e2, fz2, hh, r⟩ := x.2
    rw [h] at hh
    simp only [Option.some.injEq, Obj.cells.injEq] at hh
    obtain ⟨_, rfl, _⟩ := hh
    rcases r with r | r
    · exact he.1 r
    · exact he.2 r
theorem RKept.own {B : Nat} {w w' : World} (hc : RKept B w w') {base size n : Nat} {e : TypeId} {v : Value} {xs : List Value} (h : w.ownsRow base e size v n xs) (he : e ≠ 77 ∧ e ≠ 52) : w'.ownsRow base e size v n xs := by
  refine owns_chg h hc fun g hg x => ?_
  obtain ⟨_, cur, hh⟩ := owns_tag h g hg
  obtain ⟨cs2, e2, fz2, hh2, r⟩ := x.2
  rw [hh] at hh2
  simp only [Option.some.injEq, Obj.cells.injEq] at hh2
  obtain ⟨_, rfl, _⟩ := hh2
  rcases r with r | r
  · exact he.1 r
  · exact he.2 r

/-- What the reader holds, while nothing is wrong. -/
structure Rst (w : World) (B rb : Nat) (tv : Value) (L : List M.Tk) (d : Nat) (s : M.St) : Prop where
  low : B ≤ rb
  at' : s.i < L.length
  few : s.T.length ≤ s.i
  toks : w.ownsRow 0 80 3 tv L.length (rows L)
  blk : ∃ nv yv mv yx, w.heap[rb]? = some (.cells #[tv, .int .i64 (s.i : Int), .int .i64 (d : Int), nv, yv, mv, .int .i64 0, .int .i64 0] 77 (0, 0)) ∧ w.ownsRow B 52 4 yv s.T.length yx ∧ Rws TyK s.T yx

section
variable {w : World} {B rb : Nat} {tv : Value} {L : List M.Tk} {d : Nat} {s : M.St}

theorem Rst.chg {S : Nat → Prop} {w' : World} (h : Rst w B rb tv L d s) (hc : Chg S w w') (hs : ∀ k cur e, w.heap[k]? = some (.cells cur e (0, 0)) → S k → e ≠ 77 ∧ e ≠ 52 ∧ e ≠ 80) : Rst w' B rb tv L d s := by
  obtain ⟨h1, h2, h3, h4, nv, yv, mv, yx, hb, hy, hr⟩ := h
  refine ⟨h1, h2, h3, owns_chg h4 hc fun g hg x => ?_, nv, yv, mv, yx, ?_, owns_chg hy hc fun g hg x => ?_, hr⟩
  · obtain ⟨_, cur, hh⟩ := owns_tag h4 g hg
    exact (hs g cur _ hh x).2.2 rfl
  · rw [hc.block rb (Array.getElem?_eq_some_iff.1 hb).1 (fun x => (hs rb _ _ hb x).1 rfl)]
    exact hb
  · obtain ⟨_, cur, hh⟩ := owns_tag hy g hg
    exact (hs g cur _ hh x).2.1 rfl
theorem Rst.still {w' : World} (h : Rst w B rb tv L d s) (hc : Chg (fun _ => False) w w') : Rst w' B rb tv L d s := h.chg hc (fun _ _ _ _ x => x.elim)

/-- A store into the reader's own block: its token's number, or how deep it is. -/
theorem Rst.store (h : Rst w B rb tv L d s) (o : Nat) (v : Value) (i' d' : Nat) (hi : i' < L.length) (hf : s.i ≤ i')
    (hv : ∀ nv yv mv, (#[tv, .int .i64 (s.i : Int), .int .i64 (d : Int), nv, yv, mv, .int .i64 0, .int .i64 0] : Array Value).setIfInBounds o v = #[tv, .int .i64 (i' : Int), .int .i64 (d' : Int), nv, yv, mv, .int .i64 0, .int .i64 0]) :
    Rst (w.setCell ⟨rb, o, none⟩ v) B rb tv L d' ⟨i', s.N, s.T⟩ ∧ RKept B w (w.setCell ⟨rb, o, none⟩ v) := by
  obtain ⟨h1, h2, h3, h4, nv, yv, mv, yx, hb, hy, hr⟩ := h
  have hc := Chg.set w ⟨rb, o, none⟩ v
  have hno : ∀ {base : Nat} {e : TypeId} {size : Nat} {v : Value} {n : Nat} {xs : List Value}, w.ownsRow base e size v n xs → e ≠ 77 → ∀ g, v.ownBlock = some g → ¬ g = rb := by
    intro base e size v n xs ho he g hg hx
    subst hx
    obtain ⟨_, cur, hh⟩ := owns_tag ho g hg
    rw [hb] at hh
    simp only [Option.some.injEq, Obj.cells.injEq] at hh
    exact he hh.2.1.symm
  refine ⟨⟨h1, hi, by show s.T.length ≤ i'; omega, owns_chg h4 hc (hno h4 (by decide)), nv, yv, mv, yx, by rw [heap_setCell_same w rb o _ _ v hb, hv], owns_chg hy hc (hno hy (by decide)), hr⟩, hc.mono fun k _ hk => ?_⟩
  have hk' : k = rb := hk
  subst hk'
  exact ⟨h1, _, _, _, hb, .inl rfl⟩

theorem Rst.cell (h : Rst w B rb tv L d s) : ∃ g c, tv = .slice (some ⟨g, 0, none⟩) L.length c ∧ L.length ≤ c ∧ c ≤ maxLen ∧ g < w.heap.size ∧ rb < w.heap.size ∧ w.cell? ⟨rb, 0, none⟩ = some (.slice (some ⟨g, 0, none⟩) L.length c) ∧ w.cell? ⟨rb, 1, none⟩ = some (.int .i64 (s.i : Int)) ∧ w.cell? ⟨rb, 2, none⟩ = some (.int .i64 (d : Int)) ∧
      w.cell? ⟨rb, 6, none⟩ = some (.int .i64 0) ∧ w.cell? ⟨rb, 7, none⟩ = some (.int .i64 0) ∧ (∀ o, w.frozen? ⟨rb, o, none⟩ = false) ∧ ∀ j u, (rows L)[j]? = some u → w.cell? ⟨g, j, none⟩ = some u := by
  obtain ⟨ad, c, rfl⟩ := owns_form h.toks
  obtain ⟨g, rfl, _, hg, hc1, hc2, hcell⟩ := owns_cell h.toks (by have := h.at'; omega)
  obtain ⟨nv, yv, mv, yx, hb, _⟩ := h.blk
  have hlt := (Array.getElem?_eq_some_iff.1 hb).1
  have hc := fun o => cell_of_row w rb o _ _ _ hb
  exact ⟨g, c, rfl, hc1, hc2, hg, hlt, by rw [hc]; rfl, by rw [hc]; rfl, by rw [hc]; rfl, by rw [hc]; rfl, by rw [hc]; rfl, fun o => frozen_of_row w rb o _ _ hb, hcell⟩
theorem Rst.nxt (h : Rst w B rb tv L d s) : nxt w rb = s.i := by
  obtain ⟨g, c, -, -, -, -, -, -, c1, -⟩ := h.cell
  simp [YtkilicjjaljghaaGreat.nxt, c1, RowKit.intOf]

set_option maxHeartbeats 400000 in
theorem rbad_any (h : Rst w B rb tv L d s) : Calls Tryz.prog 39 #[.pointer (some ⟨rb, 0, none⟩)] w fun e w' => e = .returned (.bool false) ∧ w' = w := by
  obtain ⟨g, c, -, -, -, -, hlt, -, -, -, c6, -⟩ := h.cell
  clear h
  go_enter Tryz.func39, Tryz.ntmps39
  go_wp2
  go_ret
  exact ⟨rfl, rfl⟩

set_option maxHeartbeats 1000000 in
set_option maxRecDepth 100000 in
theorem rpeek_any (hL : LOk L) (h : Rst w B rb tv L d s) (m : List UInt8) : Calls Tryz.prog 78 #[.pointer (some ⟨rb, 0, none⟩), .string ⟨m.toArray⟩] w fun e w' => e = .returned (.bool (M.isM L s.i [m])) ∧ Chg (fun _ => False) w w' := by
  have hi := h.at'
  have hs := hL.short
  have HB : Hid (∀ a, Chg (fun _ => False) w a → Calls Tryz.prog 39 #[.pointer (some ⟨rb, 0, none⟩)] a fun e w' => e = .returned (.bool false) ∧ w' = a) := fun a ha => rbad_any (h.still ha)
  obtain ⟨g, c, rfl, hc1, hc2, hg, hlt, c0, c1, c2, c6, c7, fz, hcell⟩ := h.cell
  obtain ⟨x0, x1, x2⟩ := tk_cells hi hcell
  clear h hcell
  unfold M.isM
  generalize M.tk L s.i = tk at *
  obtain ⟨kd, tx, pl⟩ := tk
  simp only at x0 x1 x2 ⊢
  have hr : M.has [m] tx = (tx == m) := by rw [Bool.eq_iff_iff]; simp [M.has]
  rw [hr]
  clear hr
  generalize s.i = i at *
  unfold maxLen at hc2
  go_enter Tryz.func78, Tryz.ntmps78
  go_wp2
  go_region
  have hch : Chg (fun _ => False) w ((w.alloc (.cells #[.int .i64 kd, .string ⟨tx.toArray⟩, .int .i64 (pl : Int)] 80)).drew) := (Chg.alloc (fun _ => False) _ _).trans (Chg.drewN (fun _ => False) _ 1) (fun _ _ x => x)
  have HCH := hide hch
  clear hch
  have HBB := hide (HB.out _ HCH.out)
  clear HB
  by_cases h2 : kd = 2
  · subst h2
    go_wp2_with fail
    refine HBB.out.mono ?_
    rintro e w1 ⟨rfl, rfl⟩
    go_wp2
    go_ret
    exact ⟨ret_bool (by simp), HCH.out⟩
  · by_cases h5 : kd = 5
    · subst h5
      go_wp2_with fail
      refine HBB.out.mono ?_
      rintro e w1 ⟨rfl, rfl⟩
      go_wp2
      go_ret
      exact ⟨ret_bool (by simp), HCH.out⟩
    · have h5' : (kd == 5) = false := by simp [h5]
      have h2' : (kd == 2) = false := by simp [h2]
      go_wp2_with fail
      refine HBB.out.mono ?_
      rintro e w1 ⟨rfl, rfl⟩
      go_wp2
      go_ret
      exact ⟨ret_bool (by simp [h5, h2]), HCH.out⟩

set_option maxHeartbeats 400000 in
theorem reat_any (hL : LOk L) (h : Rst w B rb tv L d s) (m : List UInt8) : Calls Tryz.prog 61 #[.pointer (some ⟨rb, 0, none⟩), .string ⟨m.toArray⟩] w fun e w' => e = .returned (.bool (M.isM L s.i [m])) ∧ RKept B w w' ∧ Rst w' B rb tv L d (if M.isM L s.i [m] then s.nx else s) := by
  have hi := h.at'
  have hs := hL.short
  have HP := hide (rpeek_any hL h m)
  have HM := hide (fun hq => hL.mark (ms := [m]) hi hq)
  have FS : Hid (∀ a, Chg (fun _ => False) w a → Rst a B rb tv L d s) := fun a ha => h.still ha
  clear h
  generalize hq : M.isM L s.i [m] = q at *
  go_enter Tryz.func61, Tryz.ntmps61
  go_wp2_with fail
  refine HP.out.mono ?_
  rintro e w1 ⟨rfl, hc⟩
  have R1 := hide (FS.out w1 hc)
  have HC := hide hc
  obtain ⟨g, c, -, -, -, -, hlt, -, c1, -, -, -, fz, -⟩ := R1.out.cell
  have fz1 := fz 1
  clear hc fz
  cases q
  · go_wp2_with fail
    go_ret
    exact ⟨rfl, RKept.still HC.out, R1.out⟩
  · have h1 := HM.out rfl
    have h2 := R1.out.store 1 (.int .i64 ((s.i : Int) + 1)) (s.i + 1) d h1 (by omega) (fun _ _ _ => by simp)
    have H2 := hide h2
    clear h2
    go_wp2_with fail
    go_ret
    exact ⟨rfl, (RKept.still HC.out).trans H2.out.2, H2.out.1⟩

set_option maxHeartbeats 400000 in
theorem rmust_any (hL : LOk L) (h : Rst w B rb tv L d s) (m : List UInt8) (hq : M.isM L s.i [m] = true) : Calls Tryz.prog 76 #[.pointer (some ⟨rb, 0, none⟩), .string ⟨m.toArray⟩] w fun e w' => e = .returned (.tuple #[]) ∧ RKept B w w' ∧ Rst w' B rb tv L d s.nx := by
  have HP := hide (reat_any hL h m)
  rw [hq] at HP
  clear h
  go_enter Tryz.func76, Tryz.ntmps76
  go_wp2_with fail
  refine HP.out.mono ?_
  rintro e w1 ⟨rfl, h1, h2⟩
  go_wp2
  go_end0
  exact ⟨rfl, h1, h2⟩

set_option maxHeartbeats 400000 in
theorem renter_any (h : Rst w B rb tv L d s) (hd : d < 20) : Calls Tryz.prog 59 #[.pointer (some ⟨rb, 0, none⟩)] w fun e w' => e = .returned (.bool true) ∧ RKept B w w' ∧ Rst w' B rb tv L (d + 1) s := by
  obtain ⟨g, c, -, -, -, -, hlt, -, -, c2, -, -, fz, -⟩ := h.cell
  have fz2 := fz 2
  have h2 := h.store 2 (.int .i64 ((d : Int) + 1)) s.i (d + 1) h.at' (Nat.le_refl _) (fun _ _ _ => by simp)
  have H2 := hide h2
  have HB := hide (rbad_any h2.1)
  have e20 : ((d : Int) == 20) = false := by simp; omega
  clear h h2 fz
  go_enter Tryz.func59, Tryz.ntmps59
  go_wp2_with fail
  refine HB.out.mono ?_
  rintro e w1 ⟨rfl, rfl⟩
  go_wp2
  go_ret
  exact ⟨rfl, H2.out.2, H2.out.1⟩

set_option maxHeartbeats 400000 in
theorem rleave_any (h : Rst w B rb tv L (d + 1) s) (hd : d ≤ 20) : Calls Tryz.prog 63 #[.pointer (some ⟨rb, 0, none⟩)] w fun e w' => e = .returned (.tuple #[]) ∧ RKept B w w' ∧ Rst w' B rb tv L d s := by
  obtain ⟨g, c, -, -, -, -, hlt, -, -, c2, -, -, fz, -⟩ := h.cell
  have fz2 := fz 2
  have h2 := h.store 2 (.int .i64 (d : Int)) s.i d h.at' (Nat.le_refl _) (fun _ _ _ => by simp)
  have H2 := hide h2
  have ed : (((d + 1 : Nat) : Int) - 1) = (d : Int) := by omega
  clear h h2 fz
  go_enter Tryz.func63, Tryz.ntmps63
  go_wp2_with fail
  go_end0
  exact ⟨rfl, H2.out.2, H2.out.1⟩
end
end Go.Proofs.YtkilicjjaljghaaGreat
