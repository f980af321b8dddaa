/-
  A map of pairs of numbers: what was found is kept there.
-/
import Derived.Test.YtkilicjjaljghaaGreatTty
import Derived.Test.YtkilicjjaljghaaGreatPlainB
import Derived.Maps.Views
import Derived.Maps.OwnOps
import Derived.DeepKeys4
namespace Go.Proofs.YtkilicjjaljghaaGreat
open Go.RowKit Go.Maps

theorem Tryz.laidOut : laidOutB Tryz.prog = true := by kernel_rfl
theorem Tryz.rowPair : (104 : TypeId) < Tryz.prog.types.size := of_decide_eq_true (by kernel_rfl)
theorem Tryz.widePair : (match Tryz.prog.underlying 104 with | some (.array _ _) | some (.struct _) => true | _ => false) = true := by kernel_rfl
theorem Tryz.keyPair : Tryz.prog.keyType 104 = true := by kernel_rfl
set_option maxRecDepth 100000 in
theorem lawPair : Keyed Tryz.prog 104 := Keyed.of_law (deep_law_laid Tryz.laidOut (m := 2) (by omega) Tryz.rowPair (by kernel_rfl) Tryz.widePair)

theorem Tryz.cellsPair : Tryz.prog.cellsOf 104 = 2 := by kernel_rfl
theorem Tryz.cellsInt : Tryz.prog.cellsOf 3 = 1 := by kernel_rfl

def kp (a b : Int) : Lit := .string (keyBytes [.int .i64 a, .int .i64 b])

theorem keyOf_pair (a b : Int) (ha : (Lit.int .i64 a).wf = true) (hb : (Lit.int .i64 b).wf = true) : keyOf Tryz.prog 104 (.agg #[.int .i64 a, .int .i64 b]) = some (kp a b) := by
  have h2 : 2 ≤ Tryz.prog.types.size + 1 := of_decide_eq_true (by kernel_rfl)
  obtain ⟨m, hm⟩ := Nat.exists_eq_add_of_le h2
  have hf : (Value.agg #[.int .i64 a, .int .i64 b]).formed Tryz.prog 104 = true := by simp [Value.formed, Tryz.underlying104, Tryz.cellsPair]
  unfold keyOf
  simp only [Tryz.underlying104, Tryz.keyPair, hf, Bool.and_self, if_true]
  rw [hm, show 2 + m = m + 1 + 1 by omega]
  simp [Program.keyLits, Tryz.underlying104, Tryz.underlying3, Tryz.cellsPair, Tryz.cellsInt, ha, hb, Value.cells, kp]

theorem kp_inj {a b c d : Int} (ha : (Lit.int .i64 a).wf = true) (hb : (Lit.int .i64 b).wf = true) (hc : (Lit.int .i64 c).wf = true) (hd : (Lit.int .i64 d).wf = true) (h : kp a b = kp c d) : a = c ∧ b = d := by
  have h1 := keyOf_pair a b ha hb
  have h2 := keyOf_pair c d hc hd
  rw [h] at h1
  have := lawPair.inj h1 h2
  simpa using this

theorem wf_small (a : Nat) (h : a < 1000000) : (Lit.int .i64 (a : Int)).wf = true := by
  simp [Lit.wf, IntKind.min, IntKind.max, IntKind.bits, IntKind.signed]
  omega

abbrev Dt := DataW Unit
def zi : Dt := .lit (.int .i64 0)
def at2 (D : Dt) (a b : Nat) : Dt := D.atKey (kp a b) zi
def isZ : Dt → Bool
  | .lit (.int _ c) => c == 0
  | _ => true

def grid (N : Nat) : List (Nat × Nat) := (List.range N).flatMap fun p => (List.range N).map fun q => (p, q)
theorem sum_const (N : Nat) : ∀ l : List Nat, (l.map fun _ => N).sum = l.length * N
  | [] => by simp
  | a :: l => by rw [List.map_cons, List.sum_cons, sum_const N l, List.length_cons, Nat.add_mul]; omega
theorem grid_len (N : Nat) : (grid N).length = N * N := by
  have := sum_const N (List.range N)
  simpa [grid] using this
theorem mem_grid {N a b : Nat} (ha : a < N) (hb : b < N) : (a, b) ∈ grid N := by
  simp only [grid, List.mem_flatMap, List.mem_map, List.mem_range]
  exact ⟨a, ha, b, hb, rfl⟩

/-- How many pairs nothing is kept of. -/
def free (N : Nat) (D : Dt) : Nat := (grid N).countP fun x => isZ (at2 D x.1 x.2)

theorem countP_less {α : Type} {p q : α → Bool} : ∀ {l : List α} {x : α}, (∀ y ∈ l, q y = true → p y = true) → x ∈ l → p x = true → q x = false → l.countP q + 1 ≤ l.countP p
  | a :: l, x, h, hx, hp, hq => by
    have hm : l.countP q ≤ l.countP p := List.countP_mono_left fun y hy => h y (by simp [hy])
    rcases List.mem_cons.1 hx with rfl | hx
    · rw [List.countP_cons_of_pos hp, List.countP_cons_of_neg (by simp [hq])]
      omega
    · have := countP_less (fun y hy => h y (by simp [hy])) hx hp hq
      by_cases hqa : q a = true
      · rw [List.countP_cons_of_pos hqa, List.countP_cons_of_pos (h a (by simp) hqa)]
        omega
      · rw [List.countP_cons_of_neg hqa]
        have : l.countP p ≤ (a :: l).countP p := by
          by_cases hpa : p a = true
          · rw [List.countP_cons_of_pos hpa]; omega
          · rw [List.countP_cons_of_neg hpa]; exact Nat.le_refl _
        omega

theorem at2_same {D : Dt} (hD : IsMap D) {a b : Nat} (d : Dt) : at2 (D.put (kp a b) d) a b = d := atKey_put_same (k := kp a b) hD (show WideAt.IsKeyLit (kp a b) from trivial) d zi
theorem at2_other {D : Dt} {a b p q : Nat} (ha : a < 1000000) (hb : b < 1000000) (hp : p < 1000000) (hq : q < 1000000) (d : Dt) (h : ¬ (p = a ∧ q = b)) : at2 (D.put (kp a b) d) p q = at2 D p q := by
  refine atKey_put_other (fun e => h ?_) d zi
  have := kp_inj (wf_small p hp) (wf_small q hq) (wf_small a ha) (wf_small b hb) e
  omega

theorem free_put {N : Nat} (hN : N ≤ 1000) {D : Dt} (hD : IsMap D) {a b : Nat} (ha : a < N) (hb : b < N) (hz : isZ (at2 D a b) = true) (d : Dt) (hd : isZ d = false) : free N (D.put (kp a b) d) + 1 ≤ free N D := by
  refine countP_less (x := (a, b)) (fun y hy hq => ?_) (mem_grid ha hb) hz (by show isZ (at2 _ _ _) = _; rw [at2_same hD]; exact hd)
  obtain ⟨p, q⟩ := y
  by_cases h : p = a ∧ q = b
  · obtain ⟨rfl, rfl⟩ := h
    exact hz
  · simp only [grid, List.mem_flatMap, List.mem_map, List.mem_range, Prod.mk.injEq] at hy
    obtain ⟨p', hp', q', hq', rfl, rfl⟩ := hy
    simp only at hq ⊢
    rw [at2_other (by omega) (by omega) (by omega) (by omega) d h] at hq
    exact hq

/-- What is kept is right. -/
def Memo (N : Nat) (T : List M.Ty) (D : Dt) : Prop := ∀ p q c, p < N → q < N → at2 D p q = .lit (.int .i64 c) → c = 0 ∨ (p < T.length ∧ q < T.length ∧ ((c = 1 ∧ M.fits (M.tr T p) (M.tr T q) = true) ∨ (c = 2 ∧ M.fits (M.tr T p) (M.tr T q) = false)))

structure Mst (w : World) (mb N : Nat) (T : List M.Ty) (D : Dt) : Prop where
  few : N ≤ 1000
  len : T.length ≤ N
  memo : Memo N T D
  isMap : IsMap D
  own : ∃ n, w.ownsMap Tryz.prog 104 (plainElem Tryz.prog 3) mb n D ∧ n + free N D ≤ N * N

theorem Mst.chg {S : Nat → Prop} {w w' : World} {mb N : Nat} {T : List M.Ty} {D : Dt} (h : Mst w mb N T D) (hc : Chg S w w') (hn : ¬ S mb) : Mst w' mb N T D := by
  obtain ⟨a, b, c, d, n, ⟨es, cl, h1, h2⟩, r⟩ := h
  exact ⟨a, b, c, d, n, ⟨es, cl, by rw [hc.block mb (Array.getElem?_eq_some_iff.1 h1).1 hn]; exact h1, h2⟩, r⟩

theorem Mst.lt {w : World} {mb N : Nat} {T : List M.Ty} {D : Dt} (h : Mst w mb N T D) : mb < w.heap.size := by
  obtain ⟨n, h, _⟩ := h.own
  exact h.lt

theorem Mst.tag {w : World} {mb N : Nat} {T : List M.Ty} {D : Dt} (h : Mst w mb N T D) : ∀ cs e fz, w.heap[mb]? ≠ some (.cells cs e fz) := by
  obtain ⟨n, ⟨es, cl, h1, h2⟩, r⟩ := h.own
  intro cs e fz hx
  rw [h1] at hx
  cases hx

theorem mst_new (w : World) (N : Nat) (hN : N ≤ 1000) : Mst (w.alloc (.map #[] 0)) w.heap.size N [] (.map []) := by
  refine ⟨hN, Nat.zero_le _, fun p q c _ _ h => ?_, isMap_empty, 0, World.ownsMap_made w _ _ _, ?_⟩
  · left
    have : at2 (.map []) p q = zi := rfl
    rw [this] at h
    simp [zi] at h
    exact h.symm
  · have := List.countP_le_length (p := fun x : Nat × Nat => isZ (at2 (.map []) x.1 x.2)) (l := grid N)
    rw [grid_len] at this
    unfold free
    omega

/-- More types. -/
theorem Mst.more {w : World} {mb N : Nat} {T : List M.Ty} {D : Dt} (h : Mst w mb N T D) (hT : M.TsOk T) (X : List M.Ty) (hl : (T ++ X).length ≤ N) : Mst w mb N (T ++ X) D := by
  refine ⟨h.few, hl, fun p q c hp hq he => ?_, h.isMap, h.own⟩
  rcases h.memo p q c hp hq he with h1 | ⟨h1, h2, h3⟩
  · exact .inl h1
  · refine .inr ⟨by simp; omega, by simp; omega, ?_⟩
    rw [M.tr_app X hT h1, M.tr_app X hT h2]
    exact h3

theorem isZ_of {D : Dt} {a b : Nat} {c : Int} (h : at2 D a b = .lit (.int .i64 c)) : isZ (at2 D a b) = (c == 0) := by rw [h]; rfl

/-- What was found is put there. -/
theorem Mst.put {w w' : World} {mb N n : Nat} {T : List M.Ty} {D : Dt} {a b : Nat} (h : Mst w mb N T D) (ha : a < T.length) (hb : b < T.length) (hz : isZ (at2 D a b) = true) (r : Bool) (hr : M.fits (M.tr T a) (M.tr T b) = r) (hn : n + free N D ≤ N * N)
    (ho : w'.ownsMap Tryz.prog 104 (plainElem Tryz.prog 3) mb (n + 1) (D.put (kp a b) (.lit (.int .i64 (if r then 1 else 2))))) : Mst w' mb N T (D.put (kp a b) (.lit (.int .i64 (if r then 1 else 2)))) := by
  have hN := h.few
  have hlen := h.len
  refine ⟨hN, hlen, fun p q c hp hq he => ?_, h.isMap.put _ _, n + 1, ho, ?_⟩
  · by_cases hpq : p = a ∧ q = b
    · obtain ⟨rfl, rfl⟩ := hpq
      rw [at2_same h.isMap] at he
      refine .inr ⟨ha, hb, ?_⟩
      cases r
      · simp at he; exact .inr ⟨he.symm, hr⟩
      · simp at he; exact .inl ⟨he.symm, hr⟩
    · rw [at2_other (by omega) (by omega) (by omega) (by omega) _ hpq] at he
      exact h.memo p q c hp hq he
  · have := free_put hN h.isMap (a := a) (b := b) (by omega) (by omega) hz (.lit (.int .i64 (if r then 1 else 2))) (by cases r <;> rfl)
    omega

end Go.Proofs.YtkilicjjaljghaaGreat
