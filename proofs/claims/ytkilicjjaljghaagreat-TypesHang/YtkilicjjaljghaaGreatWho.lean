/-
  The contract of whole, over typ: giveup.Fault, its deferred closure, and the closure that it does.
-/
import Derived.Test.YtkilicjjaljghaaGreatOty
import Derived.Defers
import Derived.Recover
namespace Go.Proofs.YtkilicjjaljghaaGreat
open Go.RowKit

set_option maxHeartbeats 1000000 in
theorem catch_gu (q : Nat) (er p x y : Int) (older : List PanicEntry) (w : World) (h0 : w.cell? ⟨q, 0, none⟩ = some (.int .i64 x)) (h1 : w.cell? ⟨q, 1, none⟩ = some (.int .i64 y)) (hz : ∀ o, w.frozen? ⟨q, o, none⟩ = false) :
    CallsD Tryz.prog 93 #[.pointer (some ⟨q, 0, none⟩)] (.panicking ({ v := .iface 127 (.agg #[.int .i64 er, .int .i64 p]), recovered := false } :: older)) w fun e u' w' =>
      e = .returned (.tuple #[]) ∧ u' = .panicking ({ v := .iface 127 (.agg #[.int .i64 er, .int .i64 p]), recovered := true } :: older) ∧ Chg (fun k => k = q ∨ w.heap.size ≤ k) w w' ∧ w'.cell? ⟨q, 0, none⟩ = some (.int .i64 er) ∧ w'.cell? ⟨q, 1, none⟩ = some (.int .i64 p) := by
  refine callsD_of_wpS Tryz.func93 rfl fun c₀ cs hu => ?_
  apply wpS_seq
  apply wpS_region
  simp [wpOpsS, go_sem, recoverD, hu, Tryz.ntmps93, Exit.thenS]
  refine wpS_of_wp ?_
  have hta : ∀ w : World, (Instr.typeAssert (.iface 127 (.agg #[.int .i64 er, .int .i64 p])) 20 127 true).run Tryz.prog w = .ok (.tuple #[.agg #[.int .i64 er, .int .i64 p], .bool true]) w := fun _ => by kernel_rfl
  have e1 : (#[.pointer (some ⟨q, 0, none⟩)] ++ ((Array.replicate 15 undef).setIfInBounds 3 (.iface 127 (.agg #[.int .i64 er, .int .i64 p]))).setIfInBounds 0 (.iface 127 (.agg #[.int .i64 er, .int .i64 p])) : Array Value) = #[.pointer (some ⟨q, 0, none⟩), .iface 127 (.agg #[.int .i64 er, .int .i64 p]), undef, undef, .iface 127 (.agg #[.int .i64 er, .int .i64 p]), undef, undef, undef, undef, undef, undef, undef, undef, undef, undef, undef] := rfl
  rw [e1]
  have hq := World.block_lt_of_cell? w _ h0
  go_wp2
  have c3 : Chg (fun k => k = q ∨ w.heap.size ≤ k) w (((w.setCell ⟨q, 0, none⟩ (.int .i64 er)).setCell ⟨q, 1, none⟩ (.int .i64 p)).alloc (.cells #[.int .i64 er, .int .i64 p] 127)) :=
    (((Chg.set w ⟨q, 0, none⟩ _).mono fun _ _ x => .inl x).trans (Chg.set _ ⟨q, 1, none⟩ _) (fun _ _ x => .inl x)).trans (Chg.alloc (fun _ => False) _ _) (fun _ _ x => x.elim)
  have z0 : (((w.setCell ⟨q, 0, none⟩ (.int .i64 er)).setCell ⟨q, 1, none⟩ (.int .i64 p)).alloc (.cells #[.int .i64 er, .int .i64 p] 127)).cell? ⟨q, 0, none⟩ = some (.int .i64 er) := by simp [go_sem, h0, hq]
  have z1 : (((w.setCell ⟨q, 0, none⟩ (.int .i64 er)).setCell ⟨q, 1, none⟩ (.int .i64 p)).alloc (.cells #[.int .i64 er, .int .i64 p] 127)).cell? ⟨q, 1, none⟩ = some (.int .i64 p) := by simp [go_sem, h1, hq]
  exact ⟨rfl, _, rfl, _, by simp [results, Tryz.results93], rfl, rfl, c3, z0, z1⟩

set_option maxHeartbeats 1000000 in
theorem catch_idle (q : Nat) (w : World) :
    CallsD Tryz.prog 93 #[.pointer (some ⟨q, 0, none⟩)] .returning w fun e u' w' =>
      e = .returned (.tuple #[]) ∧ u' = .returning ∧ Chg (fun _ => False) w w' := by
  refine callsD_of_wpS Tryz.func93 rfl fun c₀ cs hu => ?_
  apply wpS_seq
  apply wpS_region
  simp [wpOpsS, go_sem, recoverD, hu, Tryz.ntmps93, Exit.thenS]
  refine wpS_of_wp ?_
  have hta : ∀ w : World, (Instr.typeAssert .nilIface 20 127 true).run Tryz.prog w = .ok (.tuple #[.agg #[.int .i64 0, .int .i64 0], .bool false]) w := fun _ => by kernel_rfl
  have hne : ∀ w : World, (binOp BinOp.neq 20 .nilIface .nilIface).run Tryz.prog w = .ok (.bool false) w := fun _ => by kernel_rfl
  have e1 : (#[.pointer (some ⟨q, 0, none⟩)] ++ ((Array.replicate 15 undef).setIfInBounds 3 .nilIface).setIfInBounds 0 .nilIface : Array Value) = #[.pointer (some ⟨q, 0, none⟩), .nilIface, undef, undef, .nilIface, undef, undef, undef, undef, undef, undef, undef, undef, undef, undef, undef] := rfl
  rw [e1]
  go_wp2
  cases c₀
  simp only at hu
  subst hu
  exact ⟨rfl, _, rfl, _, by simp [results, Tryz.results93], rfl, rfl, Chg.alloc _ _ _⟩

section
variable {w : World} {B pb : Nat} {tv : Value} {L : List M.Tk} {ok : Nat → Prop} {d : Nat} {s : M.St}

/-- What the closure of whole does. -/
def PostC (w : World) (B pb : Nat) (tv : Value) (L : List M.Tk) (ok : Nat → Prop) (d : Nat) (φ : M.Sp → Option (M.Out Int)) (e : Ending) (w' : World) : Prop :=
  Kept B ok w w' ∧ ∃ o, M.Ev L φ o ∧ match o with
    | .ok s' _ => if (M.tk L s'.i).kind = 6 then e = .returned (.tuple #[]) ∧ Pst w' B pb tv L ok d s' else e = gu 1 ((M.tk L s'.i).at' : Int)
    | .fail er p => e = gu er p ∧ er ≠ 0
/-- What giveup.Fault answers of it. -/
def PostF (w : World) (B pb : Nat) (tv : Value) (L : List M.Tk) (ok : Nat → Prop) (d : Nat) (φ : M.Sp → Option (M.Out Int)) (e : Ending) (w' : World) : Prop :=
  Kept B ok w w' ∧ ∃ o, M.Ev L φ o ∧ match o with
    | .ok s' _ => if (M.tk L s'.i).kind = 6 then e = .returned (.agg #[.int .i64 0, .int .i64 0]) ∧ Pst w' B pb tv L ok d s' else e = .returned (.agg #[.int .i64 1, .int .i64 ((M.tk L s'.i).at' : Int)])
    | .fail er p => e = .returned (.agg #[.int .i64 er, .int .i64 p]) ∧ er ≠ 0
/-- What whole answers. -/
def PostW (w : World) (B pb : Nat) (tv : Value) (L : List M.Tk) (ok : Nat → Prop) (d : Nat) (φ : M.Sp → Option (M.Out Int)) (e : Ending) (w' : World) : Prop :=
  Kept B ok w w' ∧ ∃ o, M.Ev L φ o ∧ match o with
    | .ok s' _ => if (M.tk L s'.i).kind = 6 then (if 1200 < s'.N.length ∨ 300 < s'.T.length then e = .returned (.agg #[.int .i64 2, .int .i64 0]) else e = .returned (.agg #[.int .i64 0, .int .i64 0]) ∧ Pst w' B pb tv L ok d s') else e = .returned (.agg #[.int .i64 1, .int .i64 ((M.tk L s'.i).at' : Int)])
    | .fail er p => e = .returned (.agg #[.int .i64 er, .int .i64 p]) ∧ er ≠ 0

/-- A cell of a block that is none of the parser's own. -/
theorem cell_kept {w w' : World} {q o : Nat} {cs : Array Value} {e : TypeId} {v : Value} (hk : Kept B ok w w') (hq : w.heap[q]? = some (.cells cs e (0, 0))) (he : e ≠ 96 ∧ e ≠ 186 ∧ e ≠ 52) (hv : cs[o]? = some v) :
    w'.heap[q]? = some (.cells cs e (0, 0)) ∧ w'.cell? ⟨q, o, none⟩ = some v := by
  have h1 : w'.heap[q]? = some (.cells cs e (0, 0)) := by
    rw [hk.block q (Array.getElem?_eq_some_iff.1 hq).1 (fun x => ?_)]
    · exact hq
    · obtain ⟨cs', e', fz, hh, r⟩ := x.2.1
      rw [hq] at hh
      simp only [Option.some.injEq, Obj.cells.injEq] at hh
      obtain ⟨_, rfl, _⟩ := hh
      rcases r with r | r | r
      · exact he.1 r
      · exact he.2.1 r
      · exact he.2.2 r
  exact ⟨h1, by rw [cell_of_row w' q o _ _ _ h1]; exact hv⟩

set_option maxHeartbeats 1000000 in
theorem whole1_any (hL : LOk L) (hok : ∀ g, w.heap.size ≤ g → ok g) (hB : B ≤ w.heap.size) (h : Pst w B pb tv L ok d s) (qf qp : Nat) (hf : w.heap[qf]? = some (.cells #[.func (.func 47) #[.pointer (some ⟨pb, 0, none⟩)] #[]] 78 (0, 0)))
    (hp : w.heap[qp]? = some (.cells #[.pointer (some ⟨pb, 0, none⟩)] 94 (0, 0))) :
    Calls Tryz.prog 69 #[.pointer (some ⟨qf, 0, none⟩), .pointer (some ⟨qp, 0, none⟩)] w (PostC w B pb tv L ok d (fun r => r.typ d s)) := by
  have HM := typ_con hL (L.length - s.i) w ok d s (Nat.le_refl _) hok hB h
  have f0 : w.cell? ⟨qf, 0, none⟩ = some (.func (.func 47) #[.pointer (some ⟨pb, 0, none⟩)] #[]) := by rw [cell_of_row w qf 0 _ _ _ hf]; rfl
  have HQ := hide hp
  clear hf hp h
  go_enter Tryz.func69, Tryz.ntmps69
  go_wp2_with fail
  refine HM.mono ?_
  clear HM
  rintro e w1 ⟨hk, o, hev, hpost⟩
  have K1 := hide hk
  have E1 := hide hev
  have p0 : w1.cell? ⟨qp, 0, none⟩ = some (.pointer (some ⟨pb, 0, none⟩)) := (cell_kept hk HQ.out (by decide) rfl).2
  have Q1 := hide (cell_kept hk HQ.out (by decide) (o := 0) rfl).1
  clear hk hev f0
  cases o with
  | fail er p =>
    obtain ⟨rfl, he⟩ := hpost
    exact ⟨rfl, K1.out, _, E1.out, rfl, he⟩
  | ok s1 x =>
    obtain ⟨rfl, hp, hg⟩ := hpost
    have HE := ended_any hL hp
    have HF := fun w2 (h2 : Pst w2 B pb tv L ok d s1) => fail_any hL h2 1
    have P1 := hide hp
    clear hp hg
    by_cases h6 : (M.tk L s1.i).kind = 6
    · have h6' : decide ((M.tk L s1.i).kind = 6) = true := by simp [h6]
      rw [h6'] at HE
      go_wp2_with fail
      refine HE.mono ?_
      clear HE
      rintro e w2 ⟨rfl, hc⟩
      have P2 := hide (P1.out.still hc)
      have K2 := hide (K1.out.trans (still_kept hc))
      clear hc
      go_wp2_with fail
      go_end0
      exact ⟨K2.out, _, E1.out, by simp [h6]; exact P2.out⟩
    · have h6' : decide ((M.tk L s1.i).kind = 6) = false := by simp [h6]
      rw [h6'] at HE
      go_wp2_with fail
      refine HE.mono ?_
      clear HE
      rintro e w2 ⟨rfl, hc⟩
      have P2 := hide (P1.out.still hc)
      have K2 := hide (K1.out.trans (still_kept hc))
      have p1 : w2.cell? ⟨qp, 0, none⟩ = some (.pointer (some ⟨pb, 0, none⟩)) := (cell_kept (still_kept (B := B) (ok := ok) hc) Q1.out (by decide) rfl).2
      clear hc
      go_wp2_with fail
      refine (HF _ P2.out).mono ?_
      rintro e w3 ⟨rfl, hc⟩
      exact ⟨rfl, K2.out.trans (still_kept hc), _, E1.out, by show (if (M.tk L s1.i).kind = 6 then _ else _); rw [if_neg h6]; rfl⟩

/-- The named result is stored. -/
theorem fin_cells {w0 w w6 : World} {q : Nat} {a b : Value} {cs : Array Value} (hq : w.heap[q]? = some (.cells cs 24 (0, 0))) (h : Pst w B pb tv L ok d s) (ht : tv.ownBlock ≠ some q) (hk : Kept B ok w0 w) (hq0 : w0.heap.size ≤ q) (hcs : cs.size = 2)
    (hc : Chg (fun _ => False) ((w.setCell ⟨q, 0, none⟩ a).setCell ⟨q, 1, none⟩ b) w6) : w6.cell? ⟨q, 0, none⟩ = some a ∧ w6.cell? ⟨q, 1, none⟩ = some b ∧ Kept B ok w0 w6 ∧ Pst w6 B pb tv L ok d s := by
  have h1 := heap_setCell_same w q 0 cs _ a hq
  have h2 := heap_setCell_same (w.setCell ⟨q, 0, none⟩ a) q 1 _ _ b h1
  have hlt := (Array.getElem?_eq_some_iff.1 h2).1
  have h3 := hc.block q hlt (fun x => x)
  rw [h2] at h3
  refine ⟨?_, ?_, ((hk.setOwn a hq0).setOwn b hq0).trans (still_kept hc), ((h.setOwn a hq ht (by decide)).setOwn b h1 ht (by decide)).still hc⟩
  · rw [cell_of_row w6 q 0 _ _ _ h3]
    simp [hcs]
  · rw [cell_of_row w6 q 1 _ _ _ h3]
    simp [hcs]

set_option maxHeartbeats 1000000 in
theorem fault_typ_any (hL : LOk L) (hok : ∀ g, w.heap.size ≤ g → ok g) (hB : B ≤ w.heap.size) (h : Pst w B pb tv L ok d s) (qf qp : Nat) (hf : w.heap[qf]? = some (.cells #[.func (.func 47) #[.pointer (some ⟨pb, 0, none⟩)] #[]] 78 (0, 0)))
    (hp : w.heap[qp]? = some (.cells #[.pointer (some ⟨pb, 0, none⟩)] 94 (0, 0))) :
    Calls Tryz.prog 68 #[.func (.func 69) #[] #[.pointer (some ⟨qf, 0, none⟩), .pointer (some ⟨qp, 0, none⟩)]] w (PostF w B pb tv L ok d (fun r => r.typ d s)) := by
  have hmf : ∀ (fn : Fn) (first cap : Array Value) (w : World), (Instr.makeFunc fn first cap).run Tryz.prog w = .ok (.func fn first cap) w := fun _ _ _ _ => rfl
  have hlf := (Array.getElem?_eq_some_iff.1 hf).1
  have hlp := (Array.getElem?_eq_some_iff.1 hp).1
  have HM := whole1_any hL (w := w.alloc (.cells #[.int .i64 0, .int .i64 0] 24)) (ok := ok) (fun g hg => hok g (by simp at hg; omega)) (by simp; omega) (h.alloc _) qf qp (by rw [Below.heap_alloc _ _ _ hlf]; exact hf) (by rw [Below.heap_alloc _ _ _ hlp]; exact hp)
  have ht2 : tv.ownBlock ≠ some w.heap.size := h.tokLt (Nat.le_refl _)
  clear hf hp h
  go_enter_defers Tryz.func68, Tryz.ntmps68
  go_wp2_with fail
  refine HM.mono ?_
  clear HM
  rintro e w1 ⟨hk, o, hev, hpost⟩
  obtain ⟨hb1, q0⟩ := cell_kept hk (heap_alloc_new w _) (by decide) (o := 0) rfl
  have q1 := (cell_kept hk (heap_alloc_new w _) (by decide) (o := 1) rfl).2
  have hz := (Array.getElem?_eq_some_iff.1 hb1).1
  have qf' : ∀ o, w1.frozen? ⟨w.heap.size, o, none⟩ = false := fun o => frozen_of_row w1 _ o _ _ hb1
  have HB1 := hide hb1
  have K1 := hide (((Kept.refl B ok w).alloc _).trans hk)
  have E1 := hide hev
  clear hk hev hb1
  cases o with
  | fail er p =>
    obtain ⟨rfl, he⟩ := hpost
    unfold gu
    refine leaves_cons (f := 93) (args := #[.pointer (some ⟨w.heap.size, 0, none⟩)]) (by simp) (by simp [go_sem]) ?_
    refine (catch_gu w.heap.size er p 0 0 [] _ q0 q1 qf').mono ?_
    rintro e u' w2 ⟨rfl, rfl, hc, z0, z1⟩
    have KX : PostF w B pb tv L ok d (fun r => r.typ d s) (.returned (.agg #[.int .i64 er, .int .i64 p])) w2 := ⟨K1.out.trans' hc (fun i hi hx => by omega), _, E1.out, rfl, he⟩
    simp [Leaves, settle, results, Tryz.results68, go_sem, z0, z1]
    exact KX
  | ok s1 x =>
    by_cases h6 : (M.tk L s1.i).kind = 6
    · simp only [h6, if_true] at hpost
      obtain ⟨rfl, hp⟩ := hpost
      have P1 := hide hp
      clear hp
      go_wp2_with fail
      refine leaves_cons (f := 93) (args := #[.pointer (some ⟨w.heap.size, 0, none⟩)]) (by simp) (by simp [go_sem]) ?_
      refine (catch_idle w.heap.size _).mono ?_
      rintro e u' w6 ⟨rfl, rfl, hc6⟩
      obtain ⟨z0, z1, k6, p6⟩ := fin_cells HB1.out P1.out ht2 K1.out (Nat.le_refl _) rfl hc6
      have KX : PostF w B pb tv L ok d (fun r => r.typ d s) (.returned (.agg #[.int .i64 0, .int .i64 0])) w6 := ⟨k6, _, E1.out, by simp [h6, p6]⟩
      simp [Leaves, settle, results, Tryz.results68, go_sem, z0, z1]
      exact KX
    · simp only [h6, if_false] at hpost
      subst hpost
      unfold gu
      refine leaves_cons (f := 93) (args := #[.pointer (some ⟨w.heap.size, 0, none⟩)]) (by simp) (by simp [go_sem]) ?_
      refine (catch_gu w.heap.size 1 ((M.tk L s1.i).at' : Int) 0 0 [] _ q0 q1 qf').mono ?_
      rintro e u' w4 ⟨rfl, rfl, hc4, z0, z1⟩
      have KX : PostF w B pb tv L ok d (fun r => r.typ d s) (.returned (.agg #[.int .i64 1, .int .i64 ((M.tk L s1.i).at' : Int)])) w4 := ⟨K1.out.trans' hc4 (fun i hi hx => by omega), _, E1.out, by simp [h6]⟩
      generalize ((M.tk L s1.i).at' : Int) = pa at *
      simp [Leaves, settle, results, Tryz.results68, go_sem, z0, z1]
      exact KX

theorem heap_three (w : World) (a b c : Obj) : (((w.alloc a).alloc b).alloc c).heap[w.heap.size]? = some a ∧ (((w.alloc a).alloc b).alloc c).heap[w.heap.size + 1]? = some b ∧ (((w.alloc a).alloc b).alloc c).heap[w.heap.size + 2]? = some c := by
  refine ⟨?_, ?_, ?_⟩
  · rw [Below.heap_alloc _ _ _ (by simp; omega), Below.heap_alloc _ _ _ (by simp)]; exact heap_alloc_new w a
  · rw [Below.heap_alloc _ _ _ (by simp)]
    have := heap_alloc_new (w.alloc a) b
    simpa using this
  · have := heap_alloc_new ((w.alloc a).alloc b) c
    simpa using this

set_option maxHeartbeats 2000000 in
theorem whole_typ_any (hL : LOk L) (hok : ∀ g, w.heap.size ≤ g → ok g) (hB : B ≤ w.heap.size) (h : Pst w B pb tv L ok d s) :
    Calls Tryz.prog 46 #[.pointer (some ⟨pb, 0, none⟩), .func (.func 47) #[.pointer (some ⟨pb, 0, none⟩)] #[]] w (PostW w B pb tv L ok d (fun r => r.typ d s)) := by
  have hmf : ∀ (fn : Fn) (first cap : Array Value) (w : World), (Instr.makeFunc fn first cap).run Tryz.prog w = .ok (.func fn first cap) w := fun _ _ _ _ => rfl
  obtain ⟨b0, b1, b2⟩ := heap_three w (.cells #[.pointer (some ⟨pb, 0, none⟩)] 94) (.cells #[.func (.func 47) #[.pointer (some ⟨pb, 0, none⟩)] #[]] 78) (.cells #[.int .i64 0, .int .i64 0] 24)
  have HM := fault_typ_any hL (ok := ok) (fun g hg => hok g (by simp at hg; omega)) (by simp; omega) (((h.alloc _).alloc _).alloc _) (w.heap.size + 1) w.heap.size b1 b0
  have ht2 : tv.ownBlock ≠ some (w.heap.size + 2) := h.tokLt (by omega)
  have B0 := hide b0
  have B2 := hide b2
  clear h b0 b1 b2
  go_enter Tryz.func46, Tryz.ntmps46
  go_wp2_with fail
  refine HM.mono ?_
  clear HM
  rintro e w1 ⟨hk, o, hev, hpost⟩
  have K1 := hide (((((Kept.refl B ok w).alloc _).alloc _).alloc _).trans hk)
  have E1 := hide hev
  have p0 : w1.cell? ⟨w.heap.size, 0, none⟩ = some (.pointer (some ⟨pb, 0, none⟩)) := (cell_kept hk B0.out (by decide) rfl).2
  obtain ⟨hb2, -⟩ := cell_kept hk B2.out (by decide) (o := 0) rfl
  have r0 : w1.cell? ⟨w.heap.size + 2, 0, none⟩ = some (.int .i64 0) := (cell_kept hk B2.out (by decide) (o := 0) rfl).2
  have r1 : w1.cell? ⟨w.heap.size + 2, 1, none⟩ = some (.int .i64 0) := (cell_kept hk B2.out (by decide) (o := 1) rfl).2
  have hz := (Array.getElem?_eq_some_iff.1 hb2).1
  have rf : ∀ o, w1.frozen? ⟨w.heap.size + 2, o, none⟩ = false := fun o => frozen_of_row w1 _ o _ _ hb2
  have HB2 := hide hb2
  clear hk hev hb2 B0 B2
  have hz' : w.heap.size < w1.heap.size := by omega
  cases o with
  | fail er p =>
    obtain ⟨rfl, he⟩ := hpost
    have he' : (er == 0) = false := by simp [he]
    go_wp2_with fail
    exact bodyPost_ret (v := .agg #[.int .i64 er, .int .i64 p]) (by simp [results, Tryz.results46, go_sem, r0, r1, hz]) rfl ⟨((K1.out.setOwn _ (by omega)).setOwn _ (by omega)).alloc _, _, E1.out, rfl, he⟩
  | ok s1 x =>
    by_cases h6 : (M.tk L s1.i).kind = 6
    · simp only [h6, if_true] at hpost
      obtain ⟨rfl, hp⟩ := hpost
      have P1 := hide hp
      obtain ⟨nv, yv, nx, yx, hb, hn, hy, _⟩ := hp.blk
      have hlt := (Array.getElem?_eq_some_iff.1 hb).1
      obtain ⟨na, nc, rfl⟩ := owns_form hn
      obtain ⟨ya, yc, rfl⟩ := owns_form hy
      have c3 : w1.cell? ⟨pb, 3, none⟩ = some (.slice na s1.N.length nc) := by rw [cell_of_row w1 pb 3 _ _ _ hb]; rfl
      have c4 : w1.cell? ⟨pb, 4, none⟩ = some (.slice ya s1.T.length yc) := by rw [cell_of_row w1 pb 4 _ _ _ hb]; rfl
      clear hp hb hn hy
      by_cases hN : (1200 : Int) < (s1.N.length : Int)
      · have hN' : 1200 < s1.N.length := by omega
        go_wp2_with fail
        exact bodyPost_ret (v := .agg #[.int .i64 2, .int .i64 0]) (by simp [results, Tryz.results46, go_sem, r0, r1, hz]) rfl ⟨((K1.out.setOwn _ (by omega)).setOwn _ (by omega)).alloc _, _, E1.out, by simp [h6, hN']⟩
      · have hN' : ¬ 1200 < s1.N.length := by omega
        by_cases hT : (300 : Int) < (s1.T.length : Int)
        · have hT' : 300 < s1.T.length := by omega
          go_wp2_with fail
          exact bodyPost_ret (v := .agg #[.int .i64 2, .int .i64 0]) (by simp [results, Tryz.results46, go_sem, r0, r1, hz]) rfl ⟨((K1.out.setOwn _ (by omega)).setOwn _ (by omega)).alloc _, _, E1.out, by simp [h6, hT']⟩
        · have hT' : ¬ 300 < s1.T.length := by omega
          go_wp2_with fail
          obtain ⟨_, _, k6, p6⟩ := fin_cells (a := .int .i64 0) (b := .int .i64 0) HB2.out P1.out ht2 K1.out (by omega) rfl (Chg.alloc (fun _ => False) _ (.cells #[.int .i64 0, .int .i64 0] 24))
          exact bodyPost_ret (v := .agg #[.int .i64 0, .int .i64 0]) (by simp [results, Tryz.results46, go_sem, r0, r1, hz]) rfl ⟨k6, _, E1.out, by simp [h6, hN', hT', p6]⟩
    · simp only [h6, if_false] at hpost
      subst hpost
      have XP : PostW w B pb tv L ok d (fun r => r.typ d s) (.returned (.agg #[.int .i64 1, .int .i64 ((M.tk L s1.i).at' : Int)])) (((w1.setCell ⟨w.heap.size + 2, 0, none⟩ (.int .i64 1)).setCell ⟨w.heap.size + 2, 1, none⟩ (.int .i64 ((M.tk L s1.i).at' : Int))).alloc (.cells #[.int .i64 1, .int .i64 ((M.tk L s1.i).at' : Int)] 24)) :=
        ⟨((K1.out.setOwn _ (by omega)).setOwn _ (by omega)).alloc _, _, E1.out, by simp [h6]⟩
      have XH := hide XP
      clear XP h6 E1
      go_wp2_with fail
      exact bodyPost_ret (v := .agg #[.int .i64 1, .int .i64 ((M.tk L s1.i).at' : Int)]) (by simp [results, Tryz.results46, go_sem, r0, r1, hz]) rfl XH.out
end
end Go.Proofs.YtkilicjjaljghaaGreat
