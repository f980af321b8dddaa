/-
  The contracts of object and function.
  The contracts of the parser's methods, closed by induction on the tokens that are left.
-/
import Derived.Test.YtjojlcfoiknlhaaGreatDoorLsc
namespace Go.Proofs.YtjojlcfoiknlhaaGreatDoor
open Go.RowKit

section
variable {B pb : Nat} {tv : Value} {L : List M.Tk}

theorem heap_alloc_old (w : World) (o : Obj) {k : Nat} (hk : k < w.heap.size) : (w.alloc o).heap[k]? = w.heap[k]? := Below.heap_alloc _ _ _ hk

set_option maxHeartbeats 2000000 in
set_option maxRecDepth 100000 in
theorem objectN_any (hL : LOk L) (m : Nat) (hE : ∀ m', m' ≤ m → ConN B pb tv L 159 (fun d s r => r.expr d s) m') : ConA B pb tv L 229 objS m := by
  intro at0 w ok d s hm hok hB h
  have hi0 := h.at'
  have hs := hL.short
  have hfw := h.few
  have K := hide (((Kept.refl B ok w).alloc (.cells #[.pointer (some ⟨pb, 0, none⟩)] 51)).alloc (.cells #[.slice none 0 0] 85))
  have P := hide ((h.alloc (.cells #[.pointer (some ⟨pb, 0, none⟩)] 51)).alloc (.cells #[.slice none 0 0] 85))
  have BX : Hid (bxv ((w.alloc (.cells #[.pointer (some ⟨pb, 0, none⟩)] 51)).alloc (.cells #[.slice none 0 0] 85)) w.heap.size pb) := bxv.alloc (heap_alloc_new w _) _
  have NM : Hid (Nms ((w.alloc (.cells #[.pointer (some ⟨pb, 0, none⟩)] 51)).alloc (.cells #[.slice none 0 0] 85)) w.heap.size (w.heap.size + 1) []) := by
    refine ⟨by omega, none, 0, ?_, World.ownsRow_nil _ _ _ _⟩
    have := heap_alloc_new (w.alloc (.cells #[.pointer (some ⟨pb, 0, none⟩)] 51)) (.cells #[.slice none 0 0] 85)
    simpa using this
  have V : Hid (∀ o, M.Ev L (fun r => M.obind (r.list .obj [125] d s [] []) fun s' l => M.addN s' (M.Nd.mk 10 0 0 0 l [] 0 (-1) at0)) o → M.Ev L (fun r => objS at0 d s r) o) := fun o ho => ho
  have H1 := hide (list_object1_any (ok := ok) hL (L.length - s.i) (fun m' hm' w ok d s lo nb bx names hbx hn hl hlo hm hok hB h => object1_any hL m' (fun m'' h'' => hE m'' (by omega)) w ok d s lo nb bx names hbx hn hl hlo hm hok hB h) [125] w.heap.size (w.heap.size + 1) w.heap.size BX.out NM.out (by simp; omega) (Nat.le_refl _) (fun g hg => hok g (Nat.le_trans K.out.size hg)) (Nat.le_trans hB K.out.size) P.out)
  clear h P NM
  generalize hFF : (fun (r : M.Sp) => objS at0 d s r) = FF at V
  have HFF : Hid (objS at0 d s = FF) := hFF
  clear hFF
  rw [HFF.out]
  clear HFF
  go_enter Tryz.func229, Tryz.ntmps229
  go_wp2_with fail
  refine H1.out.mono ?_
  rintro e w3 ⟨hk, o, hev, hpost⟩
  have K' := hide (K.out.transS hk)
  have X3 := hide (BX.out.keptS hk)
  have E1 := hide hev
  have hz := K.out.size
  clear hk hev H1 K BX
  have K := hide K'.out
  clear K'
  cases o with
  | fail er p =>
    obtain ⟨rfl, he⟩ := hpost
    exact ⟨rfl, postN_fail K.out (V.out _ (M.Ev.bad E1.out)) he⟩
  | ok s1 l =>
    obtain ⟨la, lc, rfl, ho, hl, hp, hg⟩ := hpost
    have hg1 : _ ∧ _ ∧ _ ∧ _ := hg
    have P := hide hp
    have O1 := hide ho
    have hi1 := hp.at'
    have cb3 : w3.cell? ⟨w.heap.size, 0, none⟩ = some (.pointer (some ⟨pb, 0, none⟩)) := by rw [cell_of_row w3 _ 0 _ _ _ X3.out]; rfl
    clear hp ho hg X3
    have HX := hide (add_any hL P.out (M.Nd.mk 10 0 0 0 l [] 0 (-1) at0) 0 la l.length lc ⟨_, rfl, owns_base O1.out (Nat.zero_le _), fun g hg => hok g (by have := (owns_tag O1.out g hg).1; omega)⟩ rfl (by omega) (Nat.le_trans hB K.out.size) (fun g hg => hok g (Nat.le_trans K.out.size hg)))
    have EV := hide (V.out _ (M.Ev.bind (k := fun r s' l => M.addN s' (M.Nd.mk 10 0 0 0 l [] 0 (-1) at0)) E1.out M.Ev.pure))
    have GX := hide (show Grow s ⟨s1.i, s1.N ++ [M.Nd.mk 10 0 0 0 l [] 0 (-1) at0], s1.T⟩ by
      simp only [Grow, List.length_append, List.length_cons, List.length_nil]
      omega)
    have hxx : (0 : Int) ≤ (s1.N.length : Int) ∧ (s1.N.length : Int) < ((s1.N ++ [M.Nd.mk 10 0 0 0 l [] 0 (-1) at0]).length : Int) := by simp; omega
    clear P V
    go_wp2_with fail
    refine HX.out.mono ?_
    rintro e w9 ⟨rfl, k9, p9⟩
    have K9 := hide (K.out.trans k9)
    have P9 := hide p9
    clear k9 p9 HX
    go_wp2_with fail
    go_ret
    exact postN_ok K9.out EV.out P9.out GX.out hxx

set_option maxHeartbeats 2000000 in
set_option maxRecDepth 100000 in
theorem function_any (hL : LOk L) (m : Nat) (hK : ∀ m', m' ≤ m → ConN B pb tv L 161 (fun d s r => r.block d s) m') : ConA B pb tv L 228 (fnS L) m := by
  intro at0 w ok d s hm hok hB h
  have hi0 := h.at'
  have hs := hL.short
  have hfw := h.few
  have K := hide ((Kept.refl B ok w).alloc (.cells #[.pointer (some ⟨pb, 0, none⟩)] 51))
  have P := hide (h.alloc (.cells #[.pointer (some ⟨pb, 0, none⟩)] 51))
  have BX : Hid (bxv (w.alloc (.cells #[.pointer (some ⟨pb, 0, none⟩)] 51)) w.heap.size pb) := heap_alloc_new w _
  have V : Hid (∀ o, M.Ev L (fun r => M.obind (M.need L s [40]) fun s1 (_ : Unit) => M.obind (r.list .par [41] d s1 [] []) fun s2 l => M.obind (M.typeIf L r d s2) fun s3 t => M.obind (r.block d s3) fun s4 x => M.addN s4 (M.Nd.mk 6 x 0 0 l [] 0 t at0)) o → M.Ev L (fun r => fnS L at0 d s r) o) := fun o ho => ho
  have H1 := hide (need_any hL P.out [40])
  clear h P
  generalize hFF : (fun (r : M.Sp) => fnS L at0 d s r) = FF at V
  have HFF : Hid (fnS L at0 d s = FF) := hFF
  clear hFF
  rw [HFF.out]
  clear HFF
  go_enter Tryz.func228, Tryz.ntmps228
  go_wp2_with fail
  refine H1.out.mono ?_
  rintro e w1 ⟨hk, hr⟩
  have K' := hide (K.out.trans hk)
  have X1 := hide (BX.out.keptS (hk.toS (lo := 0)))
  have hz1 : w.heap.size < w1.heap.size := by have := hk.size; simp at this; omega
  clear hk H1 K BX
  have K := hide K'.out
  clear K'
  rcases hr with ⟨hb, rfl, hp⟩ | ⟨hb, rfl⟩
  case inr => exact ⟨rfl, postN_fail K.out (V.out _ (M.Ev.bad (need_no hb))) (by decide)⟩
  have V' := hide (fun o (ho : M.Ev L (fun r => M.obind (r.list .par [41] d s.nx [] []) fun s2 l => M.obind (M.typeIf L r d s2) fun s3 t => M.obind (r.block d s3) fun s4 x => M.addN s4 (M.Nd.mk 6 x 0 0 l [] 0 t at0)) o) => V.out o (M.Ev.bind (k := fun r s1 (_ : Unit) => M.obind (r.list .par [41] d s1 [] []) fun s2 l => M.obind (M.typeIf L r d s2) fun s3 t => M.obind (r.block d s3) fun s4 x => M.addN s4 (M.Nd.mk 6 x 0 0 l [] 0 t at0)) (need_yes hb) ho))
  clear V hb
  have V := hide V'.out
  clear V'
  have hi1 := hp.at'
  simp only [M.St.nx] at hi1
  have K' := hide (K.out.alloc (.cells #[.slice none 0 0] 85))
  have P := hide (hp.alloc (.cells #[.slice none 0 0] 85))
  have X2 := hide (X1.out.alloc (.cells #[.slice none 0 0] 85))
  have cb1 : w1.cell? ⟨w.heap.size, 0, none⟩ = some (.pointer (some ⟨pb, 0, none⟩)) := by rw [cell_of_row w1 _ 0 _ _ _ X1.out]; rfl
  have NM : Hid (Nms (w1.alloc (.cells #[.slice none 0 0] 85)) w.heap.size w1.heap.size []) := ⟨by omega, none, 0, heap_alloc_new _ _, World.ownsRow_nil _ _ _ _⟩
  clear hp K X1
  have K := hide K'.out
  clear K'
  have H1 := hide (list_function1_any (ok := ok) hL (L.length - s.nx.i) (fun m' hm' w ok d s lo nb bx names hbx hn hl hlo hm hok hB h => function1_any hL w ok d s lo nb bx names hbx hn hl hlo hok hB h) [41] w.heap.size w1.heap.size w.heap.size X2.out NM.out (by simp; omega) (Nat.le_refl _) (fun g hg => hok g (Nat.le_trans K.out.size hg)) (Nat.le_trans hB K.out.size) P.out)
  clear P NM
  go_wp2_with fail
  refine H1.out.mono ?_
  rintro e w3 ⟨hk, o, hev, hpost⟩
  have K' := hide (K.out.transS hk)
  have X3 := hide (X2.out.keptS hk)
  have E1 := hide hev
  have hz := K.out.size
  clear hk hev H1 K X2 cb1
  have K := hide K'.out
  clear K'
  cases o with
  | fail er p =>
    obtain ⟨rfl, he⟩ := hpost
    exact ⟨rfl, postN_fail K.out (V.out _ (M.Ev.bad E1.out)) he⟩
  | ok s1 l =>
    obtain ⟨la, lc, rfl, ho, hl, hp, hg⟩ := hpost
    have hg1 : _ ∧ _ ∧ _ ∧ _ := hg
    simp only [M.St.nx] at hg1
    have O1 := hide ho
    have hi2 := hp.at'
    have cb3 : w3.cell? ⟨w.heap.size, 0, none⟩ = some (.pointer (some ⟨pb, 0, none⟩)) := by rw [cell_of_row w3 _ 0 _ _ _ X3.out]; rfl
    have V' := hide (fun o (ho : M.Ev L (fun r => M.obind (M.typeIf L r d s1) fun s3 t => M.obind (r.block d s3) fun s4 x => M.addN s4 (M.Nd.mk 6 x 0 0 l [] 0 t at0)) o) => V.out o (M.Ev.bind (k := fun r s2 l => M.obind (M.typeIf L r d s2) fun s3 t => M.obind (r.block d s3) fun s4 x => M.addN s4 (M.Nd.mk 6 x 0 0 l [] 0 t at0)) E1.out ho))
    clear V E1
    have V := hide V'.out
    clear V'
    have H1 := hide (typeIfAny_any hL hp (fun g hg => hok g (Nat.le_trans K.out.size hg)) (Nat.le_trans hB K.out.size))
    clear hp ho hg
    go_wp2_with fail
    refine H1.out.mono ?_
    rintro e w4 ⟨hk, o, hev, hpost⟩
    have K' := hide (K.out.trans hk)
    have X4 := hide (X3.out.keptS (hk.toS (lo := 0)))
    have O4 := hide (owns_kept O1.out hk (by decide))
    have E1 := hide hev
    clear hk hev H1 K X3 O1 cb3
    have K := hide K'.out
    clear K'
    cases o with
    | fail er p =>
      obtain ⟨rfl, he⟩ := hpost
      exact ⟨rfl, postN_fail K.out (V.out _ (M.Ev.bad E1.out)) he⟩
    | ok s2 t =>
      obtain ⟨rfl, hp, hg⟩ := hpost
      have hg2 : _ ∧ _ ∧ _ ∧ _ := hg
      have hi3 := hp.at'
      have cb4 : w4.cell? ⟨w.heap.size, 0, none⟩ = some (.pointer (some ⟨pb, 0, none⟩)) := by rw [cell_of_row w4 _ 0 _ _ _ X4.out]; rfl
      have V' := hide (fun o (ho : M.Ev L (fun r => M.obind (r.block d s2) fun s4 x => M.addN s4 (M.Nd.mk 6 x 0 0 l [] 0 t at0)) o) => V.out o (M.Ev.bind (k := fun r s3 t => M.obind (r.block d s3) fun s4 x => M.addN s4 (M.Nd.mk 6 x 0 0 l [] 0 t at0)) E1.out ho))
      clear V E1
      have V := hide V'.out
      clear V'
      have H1 := hide (hK (L.length - s2.i) (by omega) w4 ok d s2 (Nat.le_refl _) (fun g hg => hok g (Nat.le_trans K.out.size hg)) (Nat.le_trans hB K.out.size) hp)
      clear hp hg
      go_wp2_with fail
      refine H1.out.mono ?_
      rintro e w5 ⟨hk, o, hev, hpost⟩
      have K' := hide (K.out.trans hk)
      have X5 := hide (X4.out.keptS (hk.toS (lo := 0)))
      have O5 := hide (owns_kept O4.out hk (by decide))
      have E1 := hide hev
      clear hk hev H1 K X4 O4 cb4
      have K := hide K'.out
      clear K'
      cases o with
      | fail er p =>
        obtain ⟨rfl, he⟩ := hpost
        exact ⟨rfl, postN_fail K.out (V.out _ (M.Ev.bad E1.out)) he⟩
      | ok s3 x =>
        obtain ⟨rfl, hp, hg, hx⟩ := hpost
        have hg3 : _ ∧ _ ∧ _ ∧ _ := hg
        have hi4 := hp.at'
        have cb5 : w5.cell? ⟨w.heap.size, 0, none⟩ = some (.pointer (some ⟨pb, 0, none⟩)) := by rw [cell_of_row w5 _ 0 _ _ _ X5.out]; rfl
        have HX := hide (addTyped_any hL hp (M.Nd.mk 6 x 0 0 l [] 0 t at0) la l.length lc ⟨_, rfl, owns_base O5.out (Nat.zero_le _), fun g hg => hok g (by have := (owns_tag O5.out g hg).1; omega)⟩ (by omega) (Nat.le_trans hB K.out.size) (fun g hg => hok g (Nat.le_trans K.out.size hg)))
        have EV := hide (V.out _ (M.Ev.bind (k := fun r s4 x => M.addN s4 (M.Nd.mk 6 x 0 0 l [] 0 t at0)) E1.out M.Ev.pure))
        have GX := hide (show Grow s ⟨s3.i, s3.N ++ [M.Nd.mk 6 x 0 0 l [] 0 t at0], s3.T⟩ by
          simp only [Grow, List.length_append, List.length_cons, List.length_nil]
          omega)
        have hxx : (0 : Int) ≤ (s3.N.length : Int) ∧ (s3.N.length : Int) < ((s3.N ++ [M.Nd.mk 6 x 0 0 l [] 0 t at0]).length : Int) := by simp; omega
        clear hp hg V
        go_wp2_with fail
        refine HX.out.mono ?_
        rintro e w9 ⟨rfl, k9, p9⟩
        have K9 := hide (K.out.trans k9)
        have P9 := hide p9
        clear k9 p9 HX
        go_wp2_with fail
        go_ret
        exact postN_ok K9.out EV.out P9.out GX.out hxx
end
end Go.Proofs.YtjojlcfoiknlhaaGreatDoor

namespace Go.Proofs.YtjojlcfoiknlhaaGreatDoor
open Go.RowKit

section
variable {B pb : Nat} {tv : Value} {L : List M.Tk}

def ConX (B pb : Nat) (tv : Value) (L : List M.Tk) (m : Nat) : Prop :=
  ConN B pb tv L 216 (fun d s r => r.oper d s) m ∧ ConN B pb tv L 159 (fun d s r => r.expr d s) m ∧
  ConN B pb tv L 161 (fun d s r => r.block d s) m ∧ ConN B pb tv L 50 (fun d s r => r.stmt d s) m

theorem con_all (hL : LOk L) (hN : M.NuL L) : ∀ m, ConX B pb tv L m := by
  intro m
  induction m using Nat.strongRecOn with
  | ind m ih =>
    have hE : ∀ m', m' < m → ConN B pb tv L 159 (fun d s r => r.expr d s) m' := fun m' h => (ih m' h).2.1
    have hS := simple_any hL hN m hE (fun m' h => function_any hL m' (fun m'' h' => (ih m'' (by omega)).2.2.1)) (fun m' h => objectN_any hL m' (fun m'' h' => hE m'' (by omega)))
    have hO := operand_any hL m (fun m' h => (ih m' h).1) hS (fun m' h => withTail_any hL m' (fun m'' h' => hE m'' (by omega)))
    have hO' : ∀ m', m' ≤ m → ConN B pb tv L 216 (fun d s r => r.oper d s) m' := fun m' h => if e : m' = m then e ▸ hO else (ih m' (by omega)).1
    have hP : ∀ m', m' ≤ m → _ := fun m' h => product_any hL m' (fun m'' h' => hO' m'' (by omega))
    have hSm : ∀ m', m' ≤ m → _ := fun m' h => sum_any hL m' (fun m'' h' => hP m'' (by omega))
    have hEm := expression_any hL m (comparison_any hL m (fun m' h => hSm m' h))
    have hE' : ∀ m', m' ≤ m → ConN B pb tv L 159 (fun d s r => r.expr d s) m' := fun m' h => if e : m' = m then e ▸ hEm else hE m' (by omega)
    have hB := block_any hL m (fun m' h => (ih m' h).2.2.2)
    have hA := anyStatement_any hL (fun d s s' x h => M.expr_new d s s' x h) m hE' (fun m' h => (ih m' h).2.2.1)
    exact ⟨hO, hEm, hB, statement_any hL m hA⟩
end
end Go.Proofs.YtjojlcfoiknlhaaGreatDoor
