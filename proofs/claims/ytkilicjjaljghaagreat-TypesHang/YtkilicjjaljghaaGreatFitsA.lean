/-
  The contracts of Fits' closures, over Fits: IndexFunc, ContainsFunc.
  The contracts of IndexFunc and ContainsFunc over Fits' closures.
  The contracts of objectFits and its closures.
  The contract of objectFits.
-/
import Derived.Test.YtkilicjjaljghaaGreatTag
/- The contracts of Fits' closures, over Fits: IndexFunc, ContainsFunc. -/
namespace Go.Proofs.YtkilicjjaljghaaGreat
open Go.RowKit Go.Maps

/-- Fits, of types whose numbers are together less than m. -/
def FitC (lb mb N : Nat) (T : List M.Ty) (m : Nat) : Prop := ∀ (a b : Nat) (w : World) (D : Dt), a + b + 1 ≤ m → a < T.length → b < T.length → Shp w lb mb N T D →
  Calls Tryz.prog 19 #[.pointer (some ⟨lb, 0, none⟩), .int .i64 (a : Int), .int .i64 (b : Int)] w (FitP w mb N T D (a + b) (M.fits (M.tr T a) (M.tr T b)))

/-- A box, which nothing that Fits changes is. -/
structure Box (w : World) (q : Nat) (v : Value) (e : TypeId) : Prop where
  at' : w.heap[q]? = some (.cells #[v] e (0, 0))
theorem Box.cell {w : World} {q : Nat} {v : Value} {e : TypeId} (h : Box w q v e) : w.cell? ⟨q, 0, none⟩ = some v := by rw [cell_of_row w q 0 _ _ _ h.at']; rfl
theorem Box.lt {w : World} {q : Nat} {v : Value} {e : TypeId} (h : Box w q v e) : q < w.heap.size := (Array.getElem?_eq_some_iff.1 h.at').1
theorem Box.memo {w w' : World} {q mb N : Nat} {T : List M.Ty} {D : Dt} {v : Value} {e : TypeId} (h : Box w q v e) (hm : Mst w mb N T D) (hc : Chg (fun k => k = mb) w w') : Box w' q v e :=
  ⟨by rw [hc.block q h.lt (fun x => by have x' : q = mb := x; subst x'; exact hm.tag _ _ _ h.at')]; exact h.at'⟩
theorem Box.still {w w' : World} {q : Nat} {v : Value} {e : TypeId} (h : Box w q v e) (hc : Chg (fun _ => False) w w') : Box w' q v e := ⟨by rw [hc.block q h.lt (fun x => x)]; exact h.at'⟩
theorem box_new (w : World) (v : Value) (e : TypeId) : Box (w.alloc (.cells #[v] e)) w.heap.size v e := ⟨heap_alloc_new w _⟩
theorem Box.alloc {w : World} {q : Nat} {v : Value} {e : TypeId} (h : Box w q v e) (o : Obj) : Box (w.alloc o) q v e := h.still (Chg.alloc _ _ _)

/-- A row of numbers. -/
theorem ints_cell {w : World} {la : Option Addr} {lc : Nat} {ls : List Int} (h : w.ownsRow 0 3 1 (.slice la ls.length lc) ls.length (ints ls)) {j : Nat} (hj : j < ls.length) : ∃ g, la = some ⟨g, 0, none⟩ ∧ g < w.heap.size ∧ ls.length ≤ lc ∧ lc ≤ maxLen ∧ w.cell? ⟨g, j, none⟩ = some (.int .i64 ls[j]) := by
  obtain ⟨g2, h1, _, h2, h3, h4, h5⟩ := owns_cell h (by omega)
  exact ⟨g2, h1, h2, h3, h4, h5 j _ (by simp [ints, hj])⟩
theorem owns_memo {w w' : World} {base size n mb N : Nat} {T : List M.Ty} {D : Dt} {e : TypeId} {v : Value} {xs : List Value} (h : w.ownsRow base e size v n xs) (hm : Mst w mb N T D) (hc : Chg (fun k => k = mb) w w') : w'.ownsRow base e size v n xs :=
  owns_chg h hc fun g hg x => by
    have x' : g = mb := x
    subst x'
    obtain ⟨_, cur, hh⟩ := owns_tag h g hg
    exact hm.tag _ _ _ hh

section
variable {lb mb N : Nat} {T : List M.Ty}

set_option maxHeartbeats 400000 in
theorem fits1_any (m : Nat) (IH : FitC lb mb N T m) (w : World) (D : Dt) (h : Shp w lb mb N T D) (k b ql qb : Nat) (hk : k < T.length) (hb : b < T.length) (hm : k + b + 1 ≤ m) (hl : Box w ql (.pointer (some ⟨lb, 0, none⟩)) 41) (hq : Box w qb (.int .i64 (b : Int)) 3) :
    Calls Tryz.prog 33 #[.int .i64 (k : Int), .pointer (some ⟨ql, 0, none⟩), .pointer (some ⟨qb, 0, none⟩)] w (FitP w mb N T D (k + b) (!M.fits (M.tr T k) (M.tr T b))) := by
  have H := IH k b w D hm hk hb h
  have c1 := hl.cell
  have c2 := hq.cell
  clear h hl hq
  generalize M.fits (M.tr T k) (M.tr T b) = r at *
  go_enter Tryz.func33, Tryz.ntmps33
  go_wp2_with fail
  refine H.mono ?_
  clear H
  rintro e w1 ⟨rfl, hc, hd⟩
  go_wp2
  go_ret
  exact ⟨rfl, hc, hd⟩

set_option maxHeartbeats 400000 in
theorem fits2_any (m : Nat) (IH : FitC lb mb N T m) (w : World) (D : Dt) (h : Shp w lb mb N T D) (k a ql qa : Nat) (hk : k < T.length) (ha : a < T.length) (hm : a + k + 1 ≤ m) (hl : Box w ql (.pointer (some ⟨lb, 0, none⟩)) 41) (hq : Box w qa (.int .i64 (a : Int)) 3) :
    Calls Tryz.prog 34 #[.int .i64 (k : Int), .pointer (some ⟨ql, 0, none⟩), .pointer (some ⟨qa, 0, none⟩)] w (FitP w mb N T D (a + k) (M.fits (M.tr T a) (M.tr T k))) := by
  have H := IH a k w D hm ha hk h
  have c1 := hl.cell
  have c2 := hq.cell
  clear h hl hq
  generalize M.fits (M.tr T a) (M.tr T k) = r at *
  go_enter Tryz.func34, Tryz.ntmps34
  go_wp2_with fail
  refine H.mono ?_
  clear H
  rintro e w1 ⟨rfl, hc, hd⟩
  go_wp2
  go_ret
  exact ⟨rfl, hc, hd⟩
end
end Go.Proofs.YtkilicjjaljghaaGreat

/- The contracts of IndexFunc and ContainsFunc over Fits' closures. -/
namespace Go.Proofs.YtkilicjjaljghaaGreat
open Go.RowKit Go.Maps

/-- Behind some calls of Fits. -/
structure Mid (w : World) (mb N : Nat) (T : List M.Ty) (D : Dt) (m : Nat) (w' : World) : Prop where
  chg : Chg (fun k => k = mb) w w'
  memo : ∃ D', Mst w' mb N T D' ∧ ∀ p q, p < N → q < N → m ≤ p + q → at2 D' p q = at2 D p q
theorem Mid.refl {w : World} {lb mb N : Nat} {T : List M.Ty} {D : Dt} (h : Shp w lb mb N T D) (m : Nat) : Mid w mb N T D m w := ⟨Chg.refl _ _, D, h.mst, fun _ _ _ _ _ => rfl⟩
theorem Mid.shp {w w' : World} {lb mb N : Nat} {T : List M.Ty} {D : Dt} {m : Nat} (h : Mid w mb N T D m w') (hs : Shp w lb mb N T D) : ∃ D', Shp w' lb mb N T D' ∧ ∀ p q, p < N → q < N → m ≤ p + q → at2 D' p q = at2 D p q := by
  obtain ⟨D', h1, h2⟩ := h.memo
  exact ⟨D', hs.memo h.chg h1, h2⟩
theorem Mid.after {w w1 w2 : World} {mb N : Nat} {T : List M.Ty} {D D1 : Dt} {m m1 : Nat} {r : Bool} {e : Ending} (h : Mid w mb N T D m w1) (hd : ∀ p q, p < N → q < N → m ≤ p + q → at2 D1 p q = at2 D p q) (hm : m1 + 1 ≤ m) (k : FitP w1 mb N T D1 m1 r e w2) : Mid w mb N T D m w2 := by
  obtain ⟨_, h3, D2, h4, h5⟩ := k
  exact ⟨h.chg.trans h3 (fun _ _ x => x), D2, h4, fun p q hp hq hpq => (h5 p q hp hq (by omega)).trans (hd p q hp hq hpq)⟩
theorem Mid.alloc {w w1 : World} {mb N : Nat} {T : List M.Ty} {D : Dt} {m : Nat} (h : Mid w mb N T D m w1) (o : Obj) : Mid w mb N T D m (w1.alloc o) := by
  obtain ⟨D', h1, h2⟩ := h.memo
  exact ⟨h.chg.trans (Chg.alloc (fun _ => False) _ _) (fun _ _ x => x.elim), D', h1.chg (Chg.alloc (fun _ => False) _ _) (fun x => x), h2⟩
theorem Mid.mono {w w1 : World} {mb N : Nat} {T : List M.Ty} {D : Dt} {m m' : Nat} (h : Mid w mb N T D m w1) (hm : m ≤ m') : Mid w mb N T D m' w1 := by
  obtain ⟨D', h1, h2⟩ := h.memo
  exact ⟨h.chg, D', h1, fun p q hp hq hpq => h2 p q hp hq (by omega)⟩

theorem any_take_snoc {α : Type} {p : α → Bool} {l : List α} {j : Nat} (hj : j < l.length) : (l.take (j + 1)).any p = ((l.take j).any p || p l[j]) := by
  rw [List.take_succ_eq_append_getElem hj, List.any_append]
  simp

section
variable {lb mb N : Nat} {T : List M.Ty}

set_option maxHeartbeats 1000000 in
theorem index1_any (m : Nat) (IH : FitC lb mb N T m) (w : World) (D : Dt) (h : Shp w lb mb N T D) (la : Option Addr) (lc : Nat) (ls : List Int) (ho : w.ownsRow 0 3 1 (.slice la ls.length lc) ls.length (ints ls)) (b ql qb : Nat) (hb : b < T.length) (hin : ∀ x ∈ ls, 0 ≤ x ∧ x < T.length ∧ x + b + 1 ≤ m)
    (hl : Box w ql (.pointer (some ⟨lb, 0, none⟩)) 41) (hq : Box w qb (.int .i64 (b : Int)) 3) :
    Calls Tryz.prog 49 #[.slice la ls.length lc, .func (.func 33) #[] #[.pointer (some ⟨ql, 0, none⟩), .pointer (some ⟨qb, 0, none⟩)]] w fun e w' =>
      (∃ r : Int, e = .returned (.int .i64 r) ∧ decide (0 ≤ r) = ls.any fun x => !M.fits (M.tr T x.toNat) (M.tr T b)) ∧ Mid w mb N T D m w' := by
  have HS := hide h
  have HO := hide ho
  have HQ1 := hide hl
  have HQ2 := hide hq
  have HI := hide hin
  clear h ho hl hq hin
  go_enter Tryz.func49, Tryz.ntmps49
  go_wp2
  go_loopw [8] (fun v wr => ∃ j : Nat, j ≤ ls.length ∧ v = .int .i64 (j : Int) ∧ Hid ((ls.take j).any (fun x => !M.fits (M.tr T x.toNat) (M.tr T b)) = false) ∧ Hid (Mid w mb N T D m wr)) (fun v _ => ls.length - (intOf v).toNat)
  case atStart => exact ⟨0, Nat.zero_le _, rfl, by simp [Hid], Mid.refl HS.out m⟩
  case round =>
    obtain ⟨j, hj, rfl, HA, KR⟩ := hrel
    by_cases hjl : j < ls.length
    · obtain ⟨g, rfl, hg, hl1, hl2, y0⟩ := ints_cell (owns_memo HO.out HS.out.mst KR.out.chg) hjl
      have hx := HI.out ls[j] (List.getElem_mem hjl)
      obtain ⟨z, hz⟩ : ∃ z : Nat, ls[j] = (z : Int) := ⟨ls[j].toNat, by omega⟩
      have HT := hide (any_take_snoc (p := fun x : Int => !M.fits (M.tr T x.toNat) (M.tr T b)) hjl)
      have HM := hide (List.getElem_mem hjl)
      simp only [hz, Int.toNat_natCast] at HT HM
      rw [hz] at y0 hx
      obtain ⟨D1, hs1, hd1⟩ := KR.out.shp HS.out
      have HC := fits1_any m IH wr D1 hs1 z b ql qb (by omega) hb (by omega) (HQ1.out.memo HS.out.mst KR.out.chg) (HQ2.out.memo HS.out.mst KR.out.chg)
      have HD := hide hd1
      unfold maxLen at hl2
      have HX := hide (show z + b + 1 ≤ m by omega)
      clear hz hx hs1 hd1
      have HR : Hid (∀ r, r = (!M.fits (M.tr T z) (M.tr T b)) → (∃ x ∈ ls, (!M.fits (M.tr T x.toNat) (M.tr T b)) = true) ∨ r = false) := by
        intro r hr
        cases r
        · exact .inr rfl
        · exact .inl ⟨_, HM.out, by simpa using hr.symm⟩
      generalize hr : (!M.fits (M.tr T z) (M.tr T b)) = r at HT HC
      have HR2 := hide (HR.out r hr.symm)
      clear hr HR
      cases r
      · go_wp2_with fail
        refine HC.mono ?_
        clear HC
        rintro e w2 hf
        have K2 := hide (KR.out.after HD.out (by have := HX.out; omega) hf)
        obtain ⟨rfl, -, -⟩ := hf
        go_wp2
        go_roundw
        case rel => exact ⟨j + 1, by omega, by go_num, by show _ = _; rw [HT.out, HA.out]; rfl, K2.out⟩
        case measure => simp [intOf]; omega
      · go_wp2_with fail
        refine HC.mono ?_
        clear HC
        rintro e w2 hf
        have K2 := hide (KR.out.after HD.out (by have := HX.out; omega) hf)
        obtain ⟨rfl, -, -⟩ := hf
        go_wp2
        go_ret
        refine ⟨⟨_, rfl, ?_⟩, K2.out⟩
        rcases HR2.out with ⟨x, hx1, hx2⟩ | h0
        · rw [List.any_eq_true.2 ⟨x, hx1, hx2⟩]
          simp
        · cases h0
    · have hje : j = ls.length := by omega
      subst hje
      rw [List.take_length] at HA
      go_wp2
      go_ret
      exact ⟨⟨_, rfl, by rw [HA.out]; simp⟩, KR.out⟩

set_option maxHeartbeats 1000000 in
theorem contains1_any (m : Nat) (IH : FitC lb mb N T m) (w : World) (D : Dt) (h : Shp w lb mb N T D) (la : Option Addr) (lc : Nat) (ls : List Int) (ho : w.ownsRow 0 3 1 (.slice la ls.length lc) ls.length (ints ls)) (b ql qb : Nat) (hb : b < T.length) (hin : ∀ x ∈ ls, 0 ≤ x ∧ x < T.length ∧ x + b + 1 ≤ m)
    (hl : Box w ql (.pointer (some ⟨lb, 0, none⟩)) 41) (hq : Box w qb (.int .i64 (b : Int)) 3) :
    Calls Tryz.prog 32 #[.slice la ls.length lc, .func (.func 33) #[] #[.pointer (some ⟨ql, 0, none⟩), .pointer (some ⟨qb, 0, none⟩)]] w fun e w' =>
      e = .returned (.bool (ls.any fun x => !M.fits (M.tr T x.toNat) (M.tr T b))) ∧ Mid w mb N T D m w' := by
  have H := index1_any m IH w D h la lc ls ho b ql qb hb hin hl hq
  clear h ho hl hq hin
  generalize (ls.any fun x => !M.fits (M.tr T x.toNat) (M.tr T b)) = r at *
  go_enter Tryz.func32, Tryz.ntmps32
  go_wp2_with fail
  refine H.mono ?_
  clear H
  rintro e w1 ⟨⟨k, rfl, hk⟩, hm⟩
  go_wp2
  all_goals go_ret
  all_goals exact ⟨ret_bool (by simp_all), hm⟩

set_option maxHeartbeats 1000000 in
theorem index2_any (m : Nat) (IH : FitC lb mb N T m) (w : World) (D : Dt) (h : Shp w lb mb N T D) (la : Option Addr) (lc : Nat) (ls : List Int) (ho : w.ownsRow 0 3 1 (.slice la ls.length lc) ls.length (ints ls)) (b ql qb : Nat) (hb : b < T.length) (hin : ∀ x ∈ ls, 0 ≤ x ∧ x < T.length ∧ x + b + 1 ≤ m)
    (hl : Box w ql (.pointer (some ⟨lb, 0, none⟩)) 41) (hq : Box w qb (.int .i64 (b : Int)) 3) :
    Calls Tryz.prog 49 #[.slice la ls.length lc, .func (.func 34) #[] #[.pointer (some ⟨ql, 0, none⟩), .pointer (some ⟨qb, 0, none⟩)]] w fun e w' =>
      (∃ r : Int, e = .returned (.int .i64 r) ∧ decide (0 ≤ r) = ls.any fun x => M.fits (M.tr T b) (M.tr T x.toNat)) ∧ Mid w mb N T D m w' := by
  have HS := hide h
  have HO := hide ho
  have HQ1 := hide hl
  have HQ2 := hide hq
  have HI := hide hin
  clear h ho hl hq hin
  go_enter Tryz.func49, Tryz.ntmps49
  go_wp2
  go_loopw [8] (fun v wr => ∃ j : Nat, j ≤ ls.length ∧ v = .int .i64 (j : Int) ∧ Hid ((ls.take j).any (fun x => M.fits (M.tr T b) (M.tr T x.toNat)) = false) ∧ Hid (Mid w mb N T D m wr)) (fun v _ => ls.length - (intOf v).toNat)
  case atStart => exact ⟨0, Nat.zero_le _, rfl, by simp [Hid], Mid.refl HS.out m⟩
  case round =>
    obtain ⟨j, hj, rfl, HA, KR⟩ := hrel
    by_cases hjl : j < ls.length
    · obtain ⟨g, rfl, hg, hl1, hl2, y0⟩ := ints_cell (owns_memo HO.out HS.out.mst KR.out.chg) hjl
      have hx := HI.out ls[j] (List.getElem_mem hjl)
      obtain ⟨z, hz⟩ : ∃ z : Nat, ls[j] = (z : Int) := ⟨ls[j].toNat, by omega⟩
      have HT := hide (any_take_snoc (p := fun x : Int => M.fits (M.tr T b) (M.tr T x.toNat)) hjl)
      have HM := hide (List.getElem_mem hjl)
      simp only [hz, Int.toNat_natCast] at HT HM
      rw [hz] at y0 hx
      obtain ⟨D1, hs1, hd1⟩ := KR.out.shp HS.out
      have HC := fits2_any m IH wr D1 hs1 z b ql qb (by omega) hb (by omega) (HQ1.out.memo HS.out.mst KR.out.chg) (HQ2.out.memo HS.out.mst KR.out.chg)
      have HD := hide hd1
      unfold maxLen at hl2
      have HX := hide (show z + b + 1 ≤ m by omega)
      clear hz hx hs1 hd1
      have HR : Hid (∀ r, r = (M.fits (M.tr T b) (M.tr T z)) → (∃ x ∈ ls, (M.fits (M.tr T b) (M.tr T x.toNat)) = true) ∨ r = false) := by
        intro r hr
        cases r
        · exact .inr rfl
        · exact .inl ⟨_, HM.out, by simpa using hr.symm⟩
      generalize hr : (M.fits (M.tr T b) (M.tr T z)) = r at HT HC
      have HR2 := hide (HR.out r hr.symm)
      clear hr HR
      cases r
      · go_wp2_with fail
        refine HC.mono ?_
        clear HC
        rintro e w2 hf
        have K2 := hide (KR.out.after HD.out (by have := HX.out; omega) hf)
        obtain ⟨rfl, -, -⟩ := hf
        go_wp2
        go_roundw
        case rel => exact ⟨j + 1, by omega, by go_num, by show _ = _; rw [HT.out, HA.out]; rfl, K2.out⟩
        case measure => simp [intOf]; omega
      · go_wp2_with fail
        refine HC.mono ?_
        clear HC
        rintro e w2 hf
        have K2 := hide (KR.out.after HD.out (by have := HX.out; omega) hf)
        obtain ⟨rfl, -, -⟩ := hf
        go_wp2
        go_ret
        refine ⟨⟨_, rfl, ?_⟩, K2.out⟩
        rcases HR2.out with ⟨x, hx1, hx2⟩ | h0
        · rw [List.any_eq_true.2 ⟨x, hx1, hx2⟩]
          simp
        · cases h0
    · have hje : j = ls.length := by omega
      subst hje
      rw [List.take_length] at HA
      go_wp2
      go_ret
      exact ⟨⟨_, rfl, by rw [HA.out]; simp⟩, KR.out⟩

set_option maxHeartbeats 1000000 in
theorem contains2_any (m : Nat) (IH : FitC lb mb N T m) (w : World) (D : Dt) (h : Shp w lb mb N T D) (la : Option Addr) (lc : Nat) (ls : List Int) (ho : w.ownsRow 0 3 1 (.slice la ls.length lc) ls.length (ints ls)) (b ql qb : Nat) (hb : b < T.length) (hin : ∀ x ∈ ls, 0 ≤ x ∧ x < T.length ∧ x + b + 1 ≤ m)
    (hl : Box w ql (.pointer (some ⟨lb, 0, none⟩)) 41) (hq : Box w qb (.int .i64 (b : Int)) 3) :
    Calls Tryz.prog 32 #[.slice la ls.length lc, .func (.func 34) #[] #[.pointer (some ⟨ql, 0, none⟩), .pointer (some ⟨qb, 0, none⟩)]] w fun e w' =>
      e = .returned (.bool (ls.any fun x => M.fits (M.tr T b) (M.tr T x.toNat))) ∧ Mid w mb N T D m w' := by
  have H := index2_any m IH w D h la lc ls ho b ql qb hb hin hl hq
  clear h ho hl hq hin
  generalize (ls.any fun x => M.fits (M.tr T b) (M.tr T x.toNat)) = r at *
  go_enter Tryz.func32, Tryz.ntmps32
  go_wp2_with fail
  refine H.mono ?_
  clear H
  rintro e w1 ⟨⟨k, rfl, hk⟩, hm⟩
  go_wp2
  all_goals go_ret
  all_goals exact ⟨ret_bool (by simp_all), hm⟩
end
end Go.Proofs.YtkilicjjaljghaaGreat

/- The contracts of objectFits and its closures. -/
namespace Go.Proofs.YtkilicjjaljghaaGreat
open Go.RowKit Go.Maps

theorem frows_at : ∀ (L : List (List UInt8 × Int)) (k : Nat) (h : k < L.length) (j : Nat), j < 2 → (frows L)[2 * k + j]? = (fcells L[k])[j]?
  | [], k, h, _, _ => by simp at h
  | t :: r, 0, _, j, hj => by
    simp only [frows, List.flatMap_cons, Nat.mul_zero, Nat.zero_add, List.getElem_cons_zero]
    rw [List.getElem?_append_left (by simp [fcells]; omega)]
  | t :: r, k + 1, h, j, hj => by
    simp only [frows, List.flatMap_cons, List.getElem_cons_succ]
    rw [List.getElem?_append_right (by simp [fcells]; omega)]
    have := frows_at r k (by simpa using h) j hj
    rw [← this]
    simp only [fcells, List.length_cons, List.length_nil, frows]
    congr 1
    omega

/-- A row of fields. -/
theorem flds_cell {w : World} {fa : Option Addr} {fc : Nat} {fs : List (List UInt8 × Int)} (h : w.ownsRow 0 55 2 (.slice fa fs.length fc) fs.length (frows fs)) {j : Nat} (hj : j < fs.length) : ∃ g, fa = some ⟨g, 0, none⟩ ∧ g < w.heap.size ∧ fs.length ≤ fc ∧ fc ≤ maxLen ∧
    w.cell? ⟨g, j * 2, none⟩ = some (.string ⟨fs[j].1.toArray⟩) ∧ w.cell? ⟨g, j * 2 + 1, none⟩ = some (.int .i64 fs[j].2) := by
  obtain ⟨g2, h1, _, h2, h3, h4, h5⟩ := owns_cell h (by omega)
  refine ⟨g2, h1, h2, h3, h4, ?_, ?_⟩
  · have := frows_at fs j hj 0 (by omega)
    rw [Nat.mul_comm]
    exact h5 _ _ this
  · have := frows_at fs j hj 1 (by omega)
    rw [Nat.mul_comm]
    exact h5 _ _ this

section
variable {lb mb N : Nat} {T : List M.Ty}

set_option maxHeartbeats 400000 in
theorem same1_any (w : World) (nm nm' : List UInt8) (x : Int) (qw : Nat) (hq : w.cell? ⟨qw, 0, none⟩ = some (.string ⟨nm.toArray⟩)) :
    Calls Tryz.prog 53 #[.agg #[.string ⟨nm'.toArray⟩, .int .i64 x], .pointer (some ⟨qw, 0, none⟩)] w fun e w' => e = .returned (.bool (nm' == nm)) ∧ Chg (fun _ => False) w w' := by
  have hlt := World.block_lt_of_cell? w _ hq
  by_cases h : nm' = nm
  · subst h
    go_enter Tryz.func53, Tryz.ntmps53
    go_wp2
    go_ret
    exact ⟨ret_bool (by simp), Chg.alloc _ _ _⟩
  · go_enter Tryz.func53, Tryz.ntmps53
    go_wp2
    go_ret
    exact ⟨ret_bool (by simp), Chg.alloc _ _ _⟩

/-- The first field of that name, or -1. -/
def Idx (fs : List (List UInt8 × Int)) (nm : List UInt8) (r : Int) : Prop := (∃ k : Nat, ∃ hk : k < fs.length, r = k ∧ fs[k].1 = nm ∧ ∀ i (hi : i < fs.length), i < k → fs[i].1 ≠ nm) ∨ (r = -1 ∧ ∀ p ∈ fs, p.1 ≠ nm)

theorem fieldOf_none {nm : List UInt8} {f : List UInt8 × Int → M.Tr} : ∀ {fs : List (List UInt8 × Int)}, (∀ p ∈ fs, p.1 ≠ nm) → M.fieldOf nm (fs.map (·.1)) (fs.map f) = none
  | [], _ => rfl
  | p :: fs, h => by
    rw [List.map_cons, List.map_cons, M.fieldOf, if_neg (h p (by simp))]
    exact fieldOf_none fun q hq => h q (by simp [hq])
theorem fieldOf_at {nm : List UInt8} {f : List UInt8 × Int → M.Tr} : ∀ {fs : List (List UInt8 × Int)} {k : Nat} (hk : k < fs.length), fs[k].1 = nm → (∀ i (hi : i < fs.length), i < k → fs[i].1 ≠ nm) → M.fieldOf nm (fs.map (·.1)) (fs.map f) = some (f fs[k])
  | [], _, hk, _, _ => by simp at hk
  | p :: fs, 0, _, h1, _ => by
    have h1 : p.1 = nm := h1
    rw [List.map_cons, List.map_cons, M.fieldOf, if_pos h1]; rfl
  | p :: fs, k + 1, hk, h1, h2 => by
    have h0 : p.1 ≠ nm := h2 0 (by simp) (by omega)
    rw [List.map_cons, List.map_cons, M.fieldOf, if_neg h0]
    exact fieldOf_at (by simpa using hk) h1 (fun i hi hik => h2 (i + 1) (by simpa using hi) (by omega))

set_option maxHeartbeats 1000000 in
theorem find_any (w : World) (fa : Option Addr) (fc : Nat) (fs : List (List UInt8 × Int)) (ho : w.ownsRow 0 55 2 (.slice fa fs.length fc) fs.length (frows fs)) (nm : List UInt8) (qw : Nat) (hq : w.cell? ⟨qw, 0, none⟩ = some (.string ⟨nm.toArray⟩)) :
    Calls Tryz.prog 52 #[.slice fa fs.length fc, .func (.func 53) #[] #[.pointer (some ⟨qw, 0, none⟩)]] w fun e w' =>
      (∃ r : Int, e = .returned (.int .i64 r) ∧ Idx fs nm r) ∧ Chg (fun _ => False) w w' := by
  have HO := hide ho
  have hlt := World.block_lt_of_cell? w _ hq
  have HQ := hide hq
  clear ho hq
  go_enter Tryz.func52, Tryz.ntmps52
  go_wp2
  go_loopw [8] (fun v wr => ∃ j : Nat, j ≤ fs.length ∧ v = .int .i64 (j : Int) ∧ Hid (∀ i (hi : i < fs.length), i < j → fs[i].1 ≠ nm) ∧ Hid (Chg (fun _ => False) w wr)) (fun v _ => fs.length - (intOf v).toNat)
  case atStart => exact ⟨0, Nat.zero_le _, rfl, fun _ _ h => by omega, Chg.refl _ _⟩
  case round =>
    obtain ⟨j, hj, rfl, HA, KR⟩ := hrel
    by_cases hjl : j < fs.length
    · obtain ⟨g, rfl, hg, hl1, hl2, y0, y1⟩ := flds_cell (owns_chg HO.out KR.out (fun _ _ x => x)) hjl
      have HC := same1_any wr nm fs[j].1 fs[j].2 qw (by rw [World.cell?_of_block (KR.out.block qw hlt (fun x => x))]; exact HQ.out)
      have HE : Hid (∀ r, r = (fs[j].1 == nm) → (r = true → fs[j].1 = nm) ∧ (r = false → fs[j].1 ≠ nm)) := by
        rintro r rfl
        exact ⟨fun h => by simpa using h, fun h => by simpa using h⟩
      unfold maxLen at hl2
      generalize hr : (fs[j].1 == nm) = r at HC
      have HR := hide (HE.out r hr.symm)
      clear hr HE
      generalize fs[j].2 = fv at *
      generalize hx : (⟨fs[j].1.toArray⟩ : ByteArray) = bx at *
      clear hx
      cases r
      · go_wp2_with fail
        refine HC.mono ?_
        clear HC
        rintro e w2 ⟨rfl, hc⟩
        have K2 := hide (KR.out.trans hc (fun _ _ x => x))
        clear hc
        go_wp2
        go_roundw
        case rel =>
          refine ⟨j + 1, by omega, by go_num, fun i hi hij => ?_, K2.out⟩
          by_cases he : i = j
          · subst he; exact HR.out.2 trivial
          · exact HA.out i hi (by omega)
        case measure => simp [intOf]; omega
      · go_wp2_with fail
        refine HC.mono ?_
        clear HC
        rintro e w2 ⟨rfl, hc⟩
        have K2 := hide (KR.out.trans hc (fun _ _ x => x))
        clear hc
        go_wp2
        go_ret
        exact ⟨⟨_, rfl, .inl ⟨j, hjl, rfl, HR.out.1 trivial, HA.out⟩⟩, K2.out⟩
    · have hje : j = fs.length := by omega
      subst hje
      go_wp2
      go_ret
      refine ⟨⟨_, rfl, .inr ⟨rfl, fun p hp => ?_⟩⟩, KR.out⟩
      obtain ⟨i, hi, rfl⟩ := List.mem_iff_getElem.1 hp
      exact HA.out i hi hi

/-- Has it a field that fits? -/
def wantOk (T : List M.Ty) (has : List (List UInt8 × Int)) (p : List UInt8 × Int) : Bool := match M.fieldOf p.1 (has.map (·.1)) (has.map fun q => M.tr T q.2.toNat) with
  | none => false
  | some x => M.fits x (M.tr T p.2.toNat)


/-- Cells that Fits leaves as they are. -/
theorem cell_memo {w a b : World} {D : Dt} {m q o : Nat} {v : Value} (hm : Mid w mb N T D m a) (hc : Chg (fun k => k = mb) a b) (h : a.cell? ⟨q, o, none⟩ = some v) : b.cell? ⟨q, o, none⟩ = some v := by
  obtain ⟨D', h1, _⟩ := hm.memo
  have hne : q ≠ mb := by
    intro x'
    subst x'
    obtain ⟨n, ⟨es, cl, h2, _⟩, _⟩ := h1.own
    simp [World.cell?, h2] at h
  rw [World.cell?_of_block (hc.block q (World.block_lt_of_cell? a _ h) hne)]
  exact h

theorem Mid.drewN {w w1 : World} {D : Dt} {m : Nat} (h : Mid w mb N T D m w1) (n : Nat) : Mid w mb N T D m (w1.drewN n) := by
  obtain ⟨D', h1, h2⟩ := h.memo
  exact ⟨h.chg.trans (Chg.drewN (fun _ => False) _ n) (fun _ _ x => x.elim), D', h1.chg (Chg.drewN (fun _ => False) _ n) (fun x => x), h2⟩

theorem fits_mid {m : Nat} (IH : FitC lb mb N T m) {w : World} {D : Dt} (hs : Shp w lb mb N T D) {a b : Nat} (hab : a + b + 1 ≤ m) (ha : a < T.length) (hb : b < T.length) (w1 : World) (h : Mid w mb N T D m w1) :
    Calls Tryz.prog 19 #[.pointer (some ⟨lb, 0, none⟩), .int .i64 (a : Int), .int .i64 (b : Int)] w1 fun e w' => e = .returned (.bool (M.fits (M.tr T a) (M.tr T b))) ∧ Chg (fun k => k = mb) w1 w' ∧ Mid w mb N T D m w' := by
  obtain ⟨D1, h1, h2⟩ := h.shp hs
  refine (IH a b w1 D1 hab ha hb h1).mono ?_
  rintro e w2 hf
  exact ⟨hf.1, hf.2.1, h.after h2 hab hf⟩

theorem keep4 {w a b : World} {D : Dt} {m : Nat} {p1 p2 p3 p4 : Nat × Nat} {v1 v2 v3 v4 : Value} (hc : Chg (fun k => k = mb) a b) (hm : Mid w mb N T D m b) (h : a.cell? ⟨p1.1, p1.2, none⟩ = some v1 ∧ a.cell? ⟨p2.1, p2.2, none⟩ = some v2 ∧ a.cell? ⟨p3.1, p3.2, none⟩ = some v3 ∧ a.cell? ⟨p4.1, p4.2, none⟩ = some v4 ∧ Hid (Mid w mb N T D m a)) : b.cell? ⟨p1.1, p1.2, none⟩ = some v1 ∧ b.cell? ⟨p2.1, p2.2, none⟩ = some v2 ∧ b.cell? ⟨p3.1, p3.2, none⟩ = some v3 ∧ b.cell? ⟨p4.1, p4.2, none⟩ = some v4 ∧ Hid (Mid w mb N T D m b) :=
  ⟨cell_memo h.2.2.2.2.out hc h.1, cell_memo h.2.2.2.2.out hc h.2.1, cell_memo h.2.2.2.2.out hc h.2.2.1, cell_memo h.2.2.2.2.out hc h.2.2.2.1, hm⟩

set_option maxHeartbeats 2000000 in
theorem obj1_any (m : Nat) (IH : FitC lb mb N T m) (w : World) (D : Dt) (h : Shp w lb mb N T D) (fa : Option Addr) (fc : Nat) (has : List (List UInt8 × Int)) (ho : w.ownsRow 0 55 2 (.slice fa has.length fc) has.length (frows has)) (nm : List UInt8) (y : Nat) (qh ql : Nat) (hy : y < T.length)
    (hin : ∀ p ∈ has, 0 ≤ p.2 ∧ p.2 < T.length ∧ p.2 + y + 1 ≤ m) (hl : Box w ql (.pointer (some ⟨lb, 0, none⟩)) 41) (hq : Box w qh (.slice fa has.length fc) 50) :
    Calls Tryz.prog 51 #[.agg #[.string ⟨nm.toArray⟩, .int .i64 (y : Int)], .pointer (some ⟨qh, 0, none⟩), .pointer (some ⟨ql, 0, none⟩)] w fun e w' => e = .returned (.bool (!wantOk T has (nm, (y : Int)))) ∧ Mid w mb N T D m w' := by
  have h1 := h.alloc (.cells #[.string ⟨nm.toArray⟩, .int .i64 (y : Int)] 55)
  have HF := find_any (w.alloc (.cells #[.string ⟨nm.toArray⟩, .int .i64 (y : Int)] 55)) fa fc has (ho.alloc _) nm w.heap.size (by rw [World.cell?_alloc_new]; rfl)
  have HW : Hid (∀ r, Idx has nm r → (r = -1 ∧ (!wantOk T has (nm, (y : Int))) = true) ∨ ∃ (k : Nat) (x : Nat) (hk : k < has.length), r = k ∧ has[k].2 = x ∧ x < T.length ∧ x + y + 1 ≤ m ∧ (!wantOk T has (nm, (y : Int))) = !M.fits (M.tr T x) (M.tr T y)) := by
    intro r hr
    rcases hr with ⟨k, hk, rfl, h1, h2⟩ | ⟨rfl, h1⟩
    · have hp := hin _ (List.getElem_mem hk)
      refine .inr ⟨k, has[k].2.toNat, hk, rfl, by omega, by omega, by omega, ?_⟩
      simp only [wantOk]
      rw [fieldOf_at hk h1 h2]
      simp
    · refine .inl ⟨rfl, ?_⟩
      simp only [wantOk]
      rw [fieldOf_none h1]
      rfl
  have HS := hide h1
  have HO := hide (ho.alloc (.cells #[.string ⟨nm.toArray⟩, .int .i64 (y : Int)] 55))
  have HQ1 := hide (hl.alloc (.cells #[.string ⟨nm.toArray⟩, .int .i64 (y : Int)] 55))
  have HQ2 := hide (hq.alloc (.cells #[.string ⟨nm.toArray⟩, .int .i64 (y : Int)] 55))
  have HM := hide (Mid.refl h m)
  have H0 := hide h
  have HB := hide (heap_alloc_new w (.cells #[.string ⟨nm.toArray⟩, .int .i64 (y : Int)] 55))
  have hql := hl.lt
  have hqh := hq.lt
  have cq := hq.cell
  clear h h1 ho hl hq hin
  generalize (!wantOk T has (nm, (y : Int))) = R at *
  go_enter Tryz.func51, Tryz.ntmps51
  go_wp2_with fail
  refine HF.mono ?_
  clear HF
  rintro e w1 ⟨⟨r, rfl, hi⟩, hc⟩
  have S1 := hide (HS.out.still hc)
  have O1 := hide (owns_chg HO.out hc (fun _ _ x => x))
  have Q1 := hide (HQ1.out.still hc)
  have Q2 := hide (HQ2.out.still hc)
  have c1 := Q1.out.cell
  have c2 := Q2.out.cell
  have B1 : Hid (w1.heap[w.heap.size]? = some (.cells #[.string ⟨nm.toArray⟩, .int .i64 (y : Int)] 55 (0, 0))) := (hc.block w.heap.size (by simp) (fun x => x)).trans HB.out
  have c3 : w1.cell? ⟨w.heap.size, 1, none⟩ = some (.int .i64 (y : Int)) := by rw [cell_of_row w1 _ 1 _ _ _ B1.out]; rfl
  have M1 : Hid (Mid w mb N T D m w1) := by
    obtain ⟨D', h1, h2⟩ := (HM.out.alloc (.cells #[.string ⟨nm.toArray⟩, .int .i64 (y : Int)] 55)).memo
    exact ⟨((HM.out.alloc _).chg).trans hc (fun _ _ x => x.elim), D', h1.chg hc (fun x => x), h2⟩
  clear hc HS HO HQ1 HQ2 HM HB
  rcases HW.out r hi with ⟨rfl, hR⟩ | ⟨k, x, hk, rfl, hx, hxl, hxm, hR⟩
  · clear hi HW
    subst hR
    go_wp2_with fail
    go_quiet (fail)
    go_wp2
    go_ret
    exact ⟨ret_bool (by simp), M1.out.drewN _⟩
  · obtain ⟨g, rfl, hg, hl1, hl2, -, y1⟩ := flds_cell O1.out hk
    rw [hx] at y1
    have FM := fun a (ha : Mid w mb N T D m a) => fits_mid IH H0.out hxm hxl hy a ha
    unfold maxLen at hl2
    have hk' : (k : Int) < (has.length : Int) := by omega
    have hk1 : decide ((k : Int) < 0) = false := by simp
    clear hi HW S1 O1 Q1 Q2 hx hxl hxm
    generalize M.fits (M.tr T x) (M.tr T y) = r at *
    have HRR := hide hR
    clear hR
    go_wp2_with fail
    go_region_held3 (fun w' => w'.cell? ⟨qh, 0, none⟩ = some (.slice (some ⟨g, 0, none⟩) has.length fc) ∧ w'.cell? ⟨ql, 0, none⟩ = some (.pointer (some ⟨lb, 0, none⟩)) ∧ w'.cell? ⟨g, k * 2 + 1, none⟩ = some (.int .i64 (x : Int)) ∧ w'.cell? ⟨w.heap.size, 1, none⟩ = some (.int .i64 (y : Int)) ∧ Hid (Mid w mb N T D m w'))
      (first
        | exact ⟨c2, c1, y1, c3, M1.out.drewN 1⟩
        | exact keep4 (p1 := (qh, 0)) (p2 := (ql, 0)) (p3 := (g, k * 2 + 1)) (p4 := (w.heap.size, 1)) hcf hmf ⟨by assumption, by assumption, by assumption, by assumption, by assumption⟩
        | (go_split_ands; exact ⟨by assumption, by assumption, by assumption, by assumption, by assumption⟩))
      (first
        | ((go_at_call 19; go_split_ands; refine (FM _ (Hid.out (by assumption))).mono ?_; rintro e w' ⟨rfl, hcf, hmf⟩)))
    have M2 : Hid (Mid w mb N T D m w') := by assumption
    go_wp2
    go_ret
    exact ⟨ret_bool (by rw [HRR.out]), M2.out⟩
end
end Go.Proofs.YtkilicjjaljghaaGreat

/- The contract of objectFits. -/
namespace Go.Proofs.YtkilicjjaljghaaGreat
open Go.RowKit Go.Maps

section
variable {lb mb N : Nat} {T : List M.Ty}

theorem Mid.trans {w w1 w2 : World} {D D1 : Dt} {m : Nat} (h : Mid w mb N T D m w1) (hd : ∀ p q, p < N → q < N → m ≤ p + q → at2 D1 p q = at2 D p q) (k : Mid w1 mb N T D1 m w2) : Mid w mb N T D m w2 := by
  obtain ⟨D2, h1, h2⟩ := k.memo
  exact ⟨h.chg.trans k.chg (fun _ _ x => x), D2, h1, fun p q hp hq hpq => (h2 p q hp hq hpq).trans (hd p q hp hq hpq)⟩
theorem Mid.box {w w1 : World} {D : Dt} {m q : Nat} {v : Value} {e : TypeId} {D0 : Dt} (h : Mid w mb N T D m w1) (hm : Mst w mb N T D0) (hb : Box w q v e) : Box w1 q v e := hb.memo hm h.chg

set_option maxHeartbeats 1000000 in
theorem indexO_any (m : Nat) (IH : FitC lb mb N T m) (w : World) (D : Dt) (h : Shp w lb mb N T D) (fa : Option Addr) (fc : Nat) (has : List (List UInt8 × Int)) (ho : w.ownsRow 0 55 2 (.slice fa has.length fc) has.length (frows has))
    (ga : Option Addr) (gc : Nat) (wants : List (List UInt8 × Int)) (hw : w.ownsRow 0 55 2 (.slice ga wants.length gc) wants.length (frows wants)) (qh ql : Nat)
    (hin : ∀ p ∈ has, 0 ≤ p.2 ∧ p.2 < T.length ∧ ∀ q ∈ wants, p.2 + q.2 + 1 ≤ m) (hin2 : ∀ q ∈ wants, 0 ≤ q.2 ∧ q.2 < T.length) (hl : Box w ql (.pointer (some ⟨lb, 0, none⟩)) 41) (hq : Box w qh (.slice fa has.length fc) 50) :
    Calls Tryz.prog 52 #[.slice ga wants.length gc, .func (.func 51) #[] #[.pointer (some ⟨qh, 0, none⟩), .pointer (some ⟨ql, 0, none⟩)]] w fun e w' =>
      (∃ r : Int, e = .returned (.int .i64 r) ∧ decide (0 ≤ r) = wants.any fun p => !wantOk T has p) ∧ Mid w mb N T D m w' := by
  have HS := hide h
  have HO := hide ho
  have HW := hide hw
  have HQ1 := hide hl
  have HQ2 := hide hq
  have HI := hide hin
  have HJ := hide hin2
  clear h ho hw hl hq hin hin2
  go_enter Tryz.func52, Tryz.ntmps52
  go_wp2
  go_loopw [8] (fun v wr => ∃ j : Nat, j ≤ wants.length ∧ v = .int .i64 (j : Int) ∧ Hid ((wants.take j).any (fun p => !wantOk T has p) = false) ∧ Hid (Mid w mb N T D m wr)) (fun v _ => wants.length - (intOf v).toNat)
  case atStart => exact ⟨0, Nat.zero_le _, rfl, by simp [Hid], Mid.refl HS.out m⟩
  case round =>
    obtain ⟨j, hj, rfl, HA, KR⟩ := hrel
    by_cases hjl : j < wants.length
    · obtain ⟨g, rfl, hg, hl1, hl2, y0, y1⟩ := flds_cell (owns_memo HW.out HS.out.mst KR.out.chg) hjl
      have hm := List.getElem_mem hjl
      have hx := HJ.out _ hm
      have hxs := fun p hp => (HI.out p hp).2.2 _ hm
      have HT := hide (any_take_snoc (p := fun p => !wantOk T has p) hjl)
      have HM := hide hm
      clear hm
      generalize wants[j] = e0 at *
      obtain ⟨nm, yy⟩ := e0
      simp only at y0 y1 hx hxs
      obtain ⟨z, rfl⟩ : ∃ z : Nat, yy = (z : Int) := ⟨yy.toNat, by omega⟩
      obtain ⟨D1, hs1, hd1⟩ := KR.out.shp HS.out
      have HC := obj1_any m IH wr D1 hs1 fa fc has (owns_memo HO.out HS.out.mst KR.out.chg) nm z qh ql (by omega) (fun p hp => ⟨(HI.out p hp).1, (HI.out p hp).2.1, by have := hxs p hp; omega⟩) (KR.out.box HS.out.mst HQ1.out) (KR.out.box HS.out.mst HQ2.out)
      have HD := hide hd1
      unfold maxLen at hl2
      clear hx hs1 hd1 hxs
      have HR : Hid (∀ r, r = (!wantOk T has (nm, (z : Int))) → (∃ x ∈ wants, (!wantOk T has x) = true) ∨ r = false) := by
        intro r hr
        cases r
        · exact .inr rfl
        · exact .inl ⟨_, HM.out, hr.symm⟩
      generalize hr : (!wantOk T has (nm, (z : Int))) = r at HT HC
      have HR2 := hide (HR.out r hr.symm)
      clear hr HR HM
      generalize hx : (⟨nm.toArray⟩ : ByteArray) = bx at *
      clear hx
      cases r
      · go_wp2_with fail
        refine HC.mono ?_
        clear HC
        rintro e w2 ⟨rfl, hf⟩
        have K2 := hide (KR.out.trans HD.out hf)
        clear hf
        go_wp2
        go_roundw
        case rel => exact ⟨j + 1, by omega, by go_num, by show _ = _; rw [HT.out, HA.out]; rfl, K2.out⟩
        case measure => simp [intOf]; omega
      · go_wp2_with fail
        refine HC.mono ?_
        clear HC
        rintro e w2 ⟨rfl, hf⟩
        have K2 := hide (KR.out.trans HD.out hf)
        clear hf
        go_wp2
        go_ret
        refine ⟨⟨_, rfl, ?_⟩, K2.out⟩
        rcases HR2.out with ⟨x, hx1, hx2⟩ | h0
        · rw [List.any_eq_true.2 ⟨x, hx1, hx2⟩]
          simp
        · cases h0
    · have hje : j = wants.length := by omega
      subst hje
      rw [List.take_length] at HA
      go_wp2
      go_ret
      exact ⟨⟨_, rfl, by rw [HA.out]; simp⟩, KR.out⟩

set_option maxHeartbeats 1000000 in
theorem containsO_any (m : Nat) (IH : FitC lb mb N T m) (w : World) (D : Dt) (h : Shp w lb mb N T D) (fa : Option Addr) (fc : Nat) (has : List (List UInt8 × Int)) (ho : w.ownsRow 0 55 2 (.slice fa has.length fc) has.length (frows has))
    (ga : Option Addr) (gc : Nat) (wants : List (List UInt8 × Int)) (hw : w.ownsRow 0 55 2 (.slice ga wants.length gc) wants.length (frows wants)) (qh ql : Nat)
    (hin : ∀ p ∈ has, 0 ≤ p.2 ∧ p.2 < T.length ∧ ∀ q ∈ wants, p.2 + q.2 + 1 ≤ m) (hin2 : ∀ q ∈ wants, 0 ≤ q.2 ∧ q.2 < T.length) (hl : Box w ql (.pointer (some ⟨lb, 0, none⟩)) 41) (hq : Box w qh (.slice fa has.length fc) 50) :
    Calls Tryz.prog 50 #[.slice ga wants.length gc, .func (.func 51) #[] #[.pointer (some ⟨qh, 0, none⟩), .pointer (some ⟨ql, 0, none⟩)]] w fun e w' =>
      e = .returned (.bool (wants.any fun p => !wantOk T has p)) ∧ Mid w mb N T D m w' := by
  have H := indexO_any m IH w D h fa fc has ho ga gc wants hw qh ql hin hin2 hl hq
  clear h ho hw hl hq hin hin2
  generalize (wants.any fun p => !wantOk T has p) = r at *
  go_enter Tryz.func50, Tryz.ntmps50
  go_wp2_with fail
  refine H.mono ?_
  clear H
  rintro e w1 ⟨⟨k, rfl, hk⟩, hm⟩
  go_wp2
  all_goals go_ret
  all_goals exact ⟨ret_bool (by simp_all), hm⟩

theorem not_any_not {α : Type} (p : α → Bool) : ∀ l : List α, (!l.any fun x => !p x) = l.all p
  | [] => rfl
  | a :: l => by
    rw [List.any_cons, List.all_cons, ← not_any_not p l]
    cases p a <;> simp

set_option maxHeartbeats 1000000 in
theorem objectFits_any (m : Nat) (IH : FitC lb mb N T m) (w : World) (D : Dt) (h : Shp w lb mb N T D) (fa : Option Addr) (fc : Nat) (has : List (List UInt8 × Int)) (ho : w.ownsRow 0 55 2 (.slice fa has.length fc) has.length (frows has))
    (ga : Option Addr) (gc : Nat) (wants : List (List UInt8 × Int)) (hw : w.ownsRow 0 55 2 (.slice ga wants.length gc) wants.length (frows wants))
    (hin : ∀ p ∈ has, 0 ≤ p.2 ∧ p.2 < T.length ∧ ∀ q ∈ wants, p.2 + q.2 + 1 ≤ m) (hin2 : ∀ q ∈ wants, 0 ≤ q.2 ∧ q.2 < T.length) :
    Calls Tryz.prog 35 #[.pointer (some ⟨lb, 0, none⟩), .slice fa has.length fc, .slice ga wants.length gc] w fun e w' =>
      e = .returned (.bool (wants.all fun p => wantOk T has p)) ∧ Mid w mb N T D m w' := by
  have hmf : ∀ (fn : Fn) (first cap : Array Value) (w : World), (Instr.makeFunc fn first cap).run Tryz.prog w = .ok (.func fn first cap) w := fun _ _ _ _ => rfl
  have b1 := box_new w (.pointer (some ⟨lb, 0, none⟩)) 41
  have b2 := box_new (w.alloc (.cells #[.pointer (some ⟨lb, 0, none⟩)] 41)) (.slice fa has.length fc) 50
  simp only [World.size_alloc] at b2
  have H := containsO_any m IH _ D ((h.alloc (.cells #[.pointer (some ⟨lb, 0, none⟩)] 41)).alloc (.cells #[.slice fa has.length fc] 50)) fa fc has ((ho.alloc _).alloc _) ga gc wants ((hw.alloc _).alloc _) (w.heap.size + 1) w.heap.size hin hin2 (b1.alloc _) b2
  have HM := hide (((Mid.refl h m).alloc (.cells #[.pointer (some ⟨lb, 0, none⟩)] 41)).alloc (.cells #[.slice fa has.length fc] 50))
  have HN := hide (not_any_not (fun p => wantOk T has p) wants)
  clear h ho hw hin hin2 b1 b2
  generalize (wants.all fun p => wantOk T has p) = r at *
  generalize (wants.any fun p => !wantOk T has p) = r' at *
  go_enter Tryz.func35, Tryz.ntmps35
  go_wp2_with fail
  refine H.mono ?_
  clear H
  rintro e w1 ⟨rfl, hm⟩
  have M1 := hide (HM.out.trans (fun _ _ _ _ _ => rfl) hm)
  clear hm
  go_wp2
  go_ret
  exact ⟨ret_bool HN.out, M1.out⟩
end
end Go.Proofs.YtkilicjjaljghaaGreat
