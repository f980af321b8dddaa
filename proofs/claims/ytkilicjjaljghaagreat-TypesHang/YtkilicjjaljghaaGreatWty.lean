/-
  The contract of Type, over itself and over object.
-/
import Derived.Test.YtkilicjjaljghaaGreatWriteA
namespace Go.Proofs.YtkilicjjaljghaaGreat
open Go.RowKit Go.Maps

section
variable {B wb : Nat} {tv : Value} {bn : Bool} {T : List M.Ty} {m : Nat}

/-- object, at a type of this number. -/
def WObj (B wb : Nat) (tv : Value) (bn : Bool) (T : List M.Ty) (i : Nat) : Prop := ∀ (hi : i < T.length) (w : World) (bs : List UInt8) (fa : Option Addr) (fc : Nat), T[i].kind = 7 → Wsp w B wb tv bn T bs → B ≤ w.heap.size → w.ownsRow 0 55 2 (.slice fa T[i].fields.length fc) T[i].fields.length (frows T[i].fields) → bs.length + (wtx bn T i).length ≤ 100000000000000 →
  Calls Tryz.prog 79 #[.pointer (some ⟨wb, 0, none⟩), .slice fa T[i].fields.length fc] w (WPost w B wb tv bn (bs ++ wtx bn T i))

/-- Say of one word, behind whatever the writer has done. -/
theorem say1 {a0 : World} (hB : B ≤ a0.heap.size) (a : World) (q : Nat) (bs : List UInt8) (s : ByteArray) (hq : q = a.heap.size) (hk : Wkp B wb a0 a) (hw : Wrt a B wb tv bn bs) (hl : bs.length + s.size ≤ 100000000000000) :
    Calls Tryz.prog 80 #[.pointer (some ⟨wb, 0, none⟩), .slice (some ⟨q, 0, none⟩) 1 1] (a.alloc (.cells #[.string s] 9)) (WPost a0 B wb tv bn (bs ++ s.data.toList)) := by
  subst hq
  have e : s.data.toList.length = s.size := bl s
  refine (say_any (hw.still (Chg.alloc _ _ _)) [s] a.heap.size (0, 0) (heap_alloc_new a _) (by simp) (by simp [said]; omega) (by simp; have := hk.size; omega)).mono ?_
  rintro e w' ⟨rfl, h1, h2⟩
  exact ⟨rfl, (hk.trans (Wkp.still (Chg.alloc _ _ _))).trans h1, by simpa [said] using h2⟩

set_option maxHeartbeats 4000000 in
set_option maxRecDepth 100000 in
theorem wtype_any (IH : WCon B wb tv bn T m) (i : Nat) (him : i ≤ m) (HOB : WObj B wb tv bn T i) (hi : i < T.length) (w : World) (bs : List UInt8) (h : Wsp w B wb tv bn T bs) (hBw : B ≤ w.heap.size) (hlen : bs.length + (wtx bn T i).length ≤ 100000000000000) (hls : T[i].list.length ≤ 100000) :
    Calls Tryz.prog 64 #[.pointer (some ⟨wb, 0, none⟩), .int .i64 (i : Int)] w (WPost w B wb tv bn (bs ++ wtx bn T i)) := by
  have hT := h.ok
  obtain ⟨ad, c, etv, c2, c3, hlt, hcell⟩ := h.cell
  obtain ⟨g, fa, fc, la, lc, rfl, hg, hc1, hc2, x0, x1, x2, x3, of1, ol1⟩ := hcell i hi
  unfold maxLen at hc2
  clear hcell
  have HW8 := hide (fun e => wtx_arr (bn := bn) hT hi e)
  have HW9 := hide (fun e => wtx_fn (bn := bn) hT hi e)
  have HW10 := hide (fun e => wtx_uni (bn := bn) hT hi e)
  have HWp := hide (fun e1 e2 => wtx_plain (bn := bn) hT hi e1 e2)
  have HOb := hide (fun e w' bs' => HOB hi w' bs' fa fc e)
  have hty := hT i hi
  have hls2 := hty.lst
  have hof := hty.of
  have hkinds : T[i].kind = 7 ∨ T[i].kind = 8 ∨ T[i].kind = 9 ∨ T[i].kind = 10 ∨ (1 ≤ T[i].kind ∧ T[i].kind ≤ 6) := by
    rcases hty with ht | ht | ht | ht | ht
    · exact .inr (.inr (.inr (.inr ⟨ht.1, ht.2.1⟩)))
    · exact .inl ht.1
    · exact .inr (.inl ht.1)
    · exact .inr (.inr (.inl ht.1))
    · exact .inr (.inr (.inr (.inl ht.1)))
  clear hty HOB
  generalize wtx bn T i = tx at *
  generalize T[i].kind = k at *
  generalize T[i].of' = o at *
  generalize T[i].fields = fs at *
  generalize T[i].list = ls at *
  have hc0 : Chg (fun _ => False) w ((w.alloc (.cells #[.pointer (some ⟨wb, 0, none⟩)] 83)).alloc (.cells #[.int .i64 k, .slice fa fs.length fc, .slice la ls.length lc, .int .i64 o] 52)) := (Chg.alloc (fun _ => False) _ _).trans (Chg.alloc (fun _ => False) _ _) (fun _ _ x => x)
  have hs0 := h.still hc0
  have hB0 : B ≤ ((w.alloc (.cells #[.pointer (some ⟨wb, 0, none⟩)] 83)).alloc (.cells #[.int .i64 k, .slice fa fs.length fc, .slice la ls.length lc, .int .i64 o] 52)).heap.size := Nat.le_trans hBw hc0.size
  have HEND : Hid (∀ e w' bs', WPost ((w.alloc (.cells #[.pointer (some ⟨wb, 0, none⟩)] 83)).alloc (.cells #[.int .i64 k, .slice fa fs.length fc, .slice la ls.length lc, .int .i64 o] 52)) B wb tv bn bs' e w' → WPost w B wb tv bn bs' e w') := by
    rintro e w' bs' ⟨rfl, h1, h2⟩
    exact ⟨rfl, (Wkp.still hc0).trans h1, h2⟩
  have hx : ((w.alloc (.cells #[.pointer (some ⟨wb, 0, none⟩)] 83)).alloc (.cells #[.int .i64 k, .slice fa fs.length fc, .slice la ls.length lc, .int .i64 o] 52)).heap[w.heap.size]? = some (.cells #[.pointer (some ⟨wb, 0, none⟩)] 83 (0, 0)) := by
    rw [Below.heap_alloc _ _ _ (by simp)]
    exact heap_alloc_new w _
  have ht : ((w.alloc (.cells #[.pointer (some ⟨wb, 0, none⟩)] 83)).alloc (.cells #[.int .i64 k, .slice fa fs.length fc, .slice la ls.length lc, .int .i64 o] 52)).heap[w.heap.size + 1]? = some (.cells #[.int .i64 k, .slice fa fs.length fc, .slice la ls.length lc, .int .i64 o] 52 (0, 0)) := by
    have := heap_alloc_new (w.alloc (.cells #[.pointer (some ⟨wb, 0, none⟩)] 83)) (.cells #[.int .i64 k, .slice fa fs.length fc, .slice la ls.length lc, .int .i64 o] 52)
    simpa using this
  have hol : ((w.alloc (.cells #[.pointer (some ⟨wb, 0, none⟩)] 83)).alloc (.cells #[.int .i64 k, .slice fa fs.length fc, .slice la ls.length lc, .int .i64 o] 52)).ownsRow 0 3 1 (.slice la ls.length lc) ls.length (ints ls) := owns_chg ol1 hc0 (fun _ _ x => x)
  have hofl : ((w.alloc (.cells #[.pointer (some ⟨wb, 0, none⟩)] 83)).alloc (.cells #[.int .i64 k, .slice fa fs.length fc, .slice la ls.length lc, .int .i64 o] 52)).ownsRow 0 55 2 (.slice fa fs.length fc) fs.length (frows fs) := owns_chg of1 hc0 (fun _ _ x => x)
  have FC : Hid (∀ a, Wkp B wb ((w.alloc (.cells #[.pointer (some ⟨wb, 0, none⟩)] 83)).alloc (.cells #[.int .i64 k, .slice fa fs.length fc, .slice la ls.length lc, .int .i64 o] 52)) a → a.cell? ⟨w.heap.size, 0, none⟩ = some (.pointer (some ⟨wb, 0, none⟩)) ∧ a.cell? ⟨w.heap.size + 1, 2, none⟩ = some (.slice la ls.length lc) ∧ a.cell? ⟨w.heap.size + 1, 3, none⟩ = some (.int .i64 o) ∧ w.heap.size < a.heap.size ∧ w.heap.size + 1 < a.heap.size) := by
    intro a ha
    have hx2 := ha.other hs0.wrt hx (by decide) (by decide)
    have ht2 := ha.other hs0.wrt ht (by decide) (by decide)
    exact ⟨by rw [cell_of_row a _ 0 _ _ _ hx2]; rfl, by rw [cell_of_row a _ 2 _ _ _ ht2]; rfl, by rw [cell_of_row a _ 3 _ _ _ ht2]; rfl, (Array.getElem?_eq_some_iff.1 hx2).1, (Array.getElem?_eq_some_iff.1 ht2).1⟩
  have FS := hide (fun a q bs' s => say1 (wb := wb) (tv := tv) (bn := bn) (a0 := ((w.alloc (.cells #[.pointer (some ⟨wb, 0, none⟩)] 83)).alloc (.cells #[.int .i64 k, .slice fa fs.length fc, .slice la ls.length lc, .int .i64 o] 52))) hB0 a q bs' s)
  have FW : Hid (∀ a z bs', Wkp B wb ((w.alloc (.cells #[.pointer (some ⟨wb, 0, none⟩)] 83)).alloc (.cells #[.int .i64 k, .slice fa fs.length fc, .slice la ls.length lc, .int .i64 o] 52)) a → Wrt a B wb tv bn bs' → z < i → bs'.length + (wtx bn T z).length ≤ 100000000000000 → Calls Tryz.prog 64 #[.pointer (some ⟨wb, 0, none⟩), .int .i64 (z : Int)] a (WPost ((w.alloc (.cells #[.pointer (some ⟨wb, 0, none⟩)] 83)).alloc (.cells #[.int .i64 k, .slice fa fs.length fc, .slice la ls.length lc, .int .i64 o] 52)) B wb tv bn (bs' ++ wtx bn T z))) := by
    intro a z bs' ha hw hz hl
    refine (IH z a bs' (by omega) (by omega) (hs0.kept ha hw) (Nat.le_trans hB0 ha.size) hl).mono ?_
    rintro e w' ⟨rfl, h1, h2⟩
    exact ⟨rfl, ha.trans h1, h2⟩
  have FR : Hid (∀ a bs', Wkp B wb ((w.alloc (.cells #[.pointer (some ⟨wb, 0, none⟩)] 83)).alloc (.cells #[.int .i64 k, .slice fa fs.length fc, .slice la ls.length lc, .int .i64 o] 52)) a → Wrt a B wb tv bn bs' → bs'.length + (rowb [44, 32] (fun j => wtx bn T (ls.getD j 0).toNat) ls.length).length ≤ 100000000000000 → Calls Tryz.prog 81 #[.pointer (some ⟨wb, 0, none⟩), .int .i64 (ls.length : Int), .string ⟨#[44, 32]⟩, .func (.func 82) #[] #[.pointer (some ⟨w.heap.size, 0, none⟩), .pointer (some ⟨w.heap.size + 1, 0, none⟩)]] a (WPost ((w.alloc (.cells #[.pointer (some ⟨wb, 0, none⟩)] 83)).alloc (.cells #[.int .i64 k, .slice fa fs.length fc, .slice la ls.length lc, .int .i64 o] 52)) B wb tv bn (bs' ++ rowb [44, 32] (fun j => wtx bn T (ls.getD j 0).toNat) ls.length))) := by
    intro a bs' ha hw hl
    have hsa := hs0.kept ha hw
    have hxa := ha.other hs0.wrt hx (by decide) (by decide)
    have hta := ha.other hs0.wrt ht (by decide) (by decide)
    have hola := ha.own hs0.wrt hol (by decide) (by decide)
    refine (row_type a bs' hw (Nat.le_trans hB0 ha.size) ls.length (by omega) ⟨#[44, 32]⟩ _ _ (fun j => wtx bn T (ls.getD j 0).toNat) hl ?_).mono ?_
    · intro a2 j bs2 hk2 hw2 hj hl2
      have hxx := hls2 ls[j] (List.getElem_mem hj)
      obtain ⟨z, hz⟩ : ∃ z : Nat, ls[j] = (z : Int) := ⟨ls[j].toNat, by omega⟩
      have e : wtx bn T (ls.getD j 0).toNat = wtx bn T z := by
        rw [show ls.getD j 0 = (z : Int) from by simp [hj, hz], Int.toNat_natCast]
      rw [e] at hl2 ⊢
      refine (type1_any IH a2 bs2 (hsa.kept hk2 hw2) (Nat.le_trans hB0 (Nat.le_trans ha.size hk2.size)) j w.heap.size (w.heap.size + 1) _ _ _ la lc ls hj z hz (by omega) (by omega) hl2 (hk2.other hsa.wrt hxa (by decide) (by decide)) (hk2.other hsa.wrt hta (by decide) (by decide)) (hk2.own hsa.wrt hola (by decide) (by decide))).mono ?_
      rintro e w' ⟨rfl, h1, h2⟩
      exact ⟨rfl, hk2.trans h1, h2⟩
    · rintro e w' ⟨rfl, h1, h2⟩
      exact ⟨rfl, ha.trans h1, h2⟩
  have HR0 := hide hs0
  have hk0 := hide (Wkp.refl B wb ((w.alloc (.cells #[.pointer (some ⟨wb, 0, none⟩)] 83)).alloc (.cells #[.int .i64 k, .slice fa fs.length fc, .slice la ls.length lc, .int .i64 o] 52)))
  rcases hkinds with rfl | rfl | rfl | rfl | ⟨hk1, hk2⟩
  · have HC := hide (HOb.out rfl _ bs hs0 hB0 hofl hlen)
    clear h hs0 hx ht hol hofl of1 ol1 FW FS FC HW8 HW9 HW10 HWp HOb hc0 hB0
    go_enter Tryz.func64, Tryz.ntmps64
    go_wp2_with fail
    refine HC.out.mono ?_
    rintro e w1 hp
    have hp2 := HEND.out _ _ _ hp
    obtain ⟨rfl, h1, h2⟩ := hp2
    go_wp2
    go_end0
    exact ⟨rfl, h1, h2⟩
  · have e := HW8.out rfl
    obtain ⟨z, rfl⟩ : ∃ z : Nat, o = (z : Int) := ⟨o.toNat, by have := hof (.inl rfl); omega⟩
    have hzi : z < i := by have := hof (.inl rfl); omega
    rw [Int.toNat_natCast] at e
    subst e
    simp only [List.length_append, List.length_cons, List.length_nil] at hlen
    have HS1 := hide (FS.out _ (w.heap.size + 1 + 1) bs ⟨#[91]⟩ (by simp) hk0.out HR0.out.wrt (by simp [ByteArray.size]; omega))
    clear h hs0 hx ht hol hofl of1 ol1 HW8 HW9 HW10 HWp HOb hc0 hB0 hof
    go_enter Tryz.func64, Tryz.ntmps64
    go_wp2_with fail
    refine HS1.out.mono ?_
    rintro e w1 ⟨rfl, h1, h2⟩
    obtain ⟨d1, d2, d3, l1, l2⟩ := FC.out w1 h1
    have HS2 := hide (FW.out w1 z _ h1 h2 hzi (by simp; omega))
    clear h1 h2 HS1
    go_wp2_with fail
    refine HS2.out.mono ?_
    rintro e w2 ⟨rfl, h3, h4⟩
    obtain ⟨d4, -, -, l4, -⟩ := FC.out w2 h3
    have HS3 := hide (FS.out w2 w2.heap.size _ ⟨#[93]⟩ rfl h3 h4 (by simp [ByteArray.size]; omega))
    clear h3 h4 HS2
    go_wp2_with fail
    refine HS3.out.mono ?_
    rintro e w3 hp
    obtain ⟨rfl, h5, h6⟩ := HEND.out _ _ _ hp
    go_wp2
    go_end0
    exact ⟨rfl, h5, by simpa using h6⟩
  · have e := HW9.out rfl
    obtain ⟨z, rfl⟩ : ∃ z : Nat, o = (z : Int) := ⟨o.toNat, by have := hof (.inr rfl); omega⟩
    have hzi : z < i := by have := hof (.inr rfl); omega
    rw [Int.toNat_natCast] at e
    subst e
    generalize rowb [44, 32] (fun j => wtx bn T (ls.getD j 0).toNat) ls.length = rb at *
    simp only [List.length_append, List.length_cons, List.length_nil] at hlen
    have HS1 := hide (FS.out _ (w.heap.size + 1 + 1) bs ⟨#[40]⟩ (by simp) hk0.out HR0.out.wrt (by simp [ByteArray.size]; omega))
    clear h hs0 hx ht hol hofl of1 ol1 HW8 HW9 HW10 HWp HOb hc0 hB0 hof
    go_enter Tryz.func64, Tryz.ntmps64
    go_wp2_with fail
    refine HS1.out.mono ?_
    rintro e w1 ⟨rfl, h1, h2⟩
    obtain ⟨d1, d2, d3, l1, l2⟩ := FC.out w1 h1
    have HS2 := hide (FR.out w1 _ h1 h2 (by simp; omega))
    clear h1 h2 HS1
    go_wp2_with fail
    refine HS2.out.mono ?_
    rintro e w2 ⟨rfl, h3, h4⟩
    obtain ⟨d4, d5, d6, l4, l5⟩ := FC.out w2 h3
    have HS3 := hide (FS.out w2 w2.heap.size _ ⟨#[41, 32, 61, 62, 32]⟩ rfl h3 h4 (by simp [ByteArray.size]; omega))
    clear h3 h4 HS2
    go_wp2_with fail
    refine HS3.out.mono ?_
    rintro e w3 ⟨rfl, h5, h6⟩
    obtain ⟨d7, -, d8, l7, l8⟩ := FC.out w3 h5
    have HS4 := hide (FW.out w3 z _ h5 h6 hzi (by simp; omega))
    clear h5 h6 HS3
    go_wp2_with fail
    refine HS4.out.mono ?_
    rintro e w4 hp
    obtain ⟨rfl, h7, h8⟩ := HEND.out _ _ _ hp
    go_wp2
    go_end0
    exact ⟨rfl, h7, by simpa using h8⟩
  · have e := HW10.out rfl
    subst e
    have HC := hide (wunion_any IH _ bs hs0 hB0 la lc ls hls (fun x hxm => by have := hls2 x hxm; omega) hol hlen)
    clear h hs0 hx ht hol hofl of1 ol1 FW FS FC FR HW8 HW9 HW10 HWp HOb hc0 hB0 hof
    go_enter Tryz.func64, Tryz.ntmps64
    go_wp2_with fail
    refine HC.out.mono ?_
    rintro e w1 hp
    obtain ⟨rfl, h1, h2⟩ := HEND.out _ _ _ hp
    go_wp2
    go_end0
    exact ⟨rfl, h1, h2⟩
  · have e := HWp.out hk1 hk2
    subst e
    obtain ⟨d1, -, -, l1, l2⟩ := FC.out _ hk0.out
    have d0 : (((w.alloc (.cells #[.pointer (some ⟨wb, 0, none⟩)] 83)).alloc (.cells #[.int .i64 k, .slice fa fs.length fc, .slice la ls.length lc, .int .i64 o] 52))).cell? ⟨w.heap.size + 1, 0, none⟩ = some (.int .i64 k) := by rw [cell_of_row _ _ 0 _ _ _ ht]; rfl
    have HWt := hide HR0.out.wrt
    have hwl : (M.word k).length ≤ 7 := by
      have hk : k = 1 ∨ k = 2 ∨ k = 3 ∨ k = 4 ∨ k = 5 ∨ k = 6 := by omega
      rcases hk with rfl | rfl | rfl | rfl | rfl | rfl <;> decide
    have FP : Hid (∀ n q, q = w.heap.size + 1 + 1 → Calls Tryz.prog 80 #[.pointer (some ⟨wb, 0, none⟩), .slice (some ⟨q, 0, none⟩) 1 1] (((((w.alloc (.cells #[.pointer (some ⟨wb, 0, none⟩)] 83)).alloc (.cells #[.int .i64 k, .slice fa fs.length fc, .slice la ls.length lc, .int .i64 o] 52))).drewN n).alloc (.cells #[.string ⟨(M.word k).toArray⟩] 9)) (WPost w B wb tv bn (bs ++ M.word k))) := by
      intro n q hq
      have hd := Chg.drewN (fun _ => False) ((w.alloc (.cells #[.pointer (some ⟨wb, 0, none⟩)] 83)).alloc (.cells #[.int .i64 k, .slice fa fs.length fc, .slice la ls.length lc, .int .i64 o] 52)) n
      refine (FS.out (World.drewN ((w.alloc (.cells #[.pointer (some ⟨wb, 0, none⟩)] 83)).alloc (.cells #[.int .i64 k, .slice fa fs.length fc, .slice la ls.length lc, .int .i64 o] 52)) n) q bs ⟨(M.word k).toArray⟩ (by rw [hq]; simp) (Wkp.still hd) (HWt.out.still hd) (by simp [ByteArray.size]; omega)).mono ?_
      intro e w' hp
      exact HEND.out _ _ _ hp
    clear h hs0 hx ht hol hofl of1 ol1 FW FS FC FR HW8 HW9 HW10 HWp HOb hc0 hB0 hof
    have e7 : (k == 7) = false := by simp; omega
    have e8 : (k == 8) = false := by simp; omega
    have e9 : (k == 9) = false := by simp; omega
    have e10 : (k == 10) = false := by simp; omega
    have HWD := hide (fun a => word_any k hk1 hk2 a)
    generalize M.word k = wk at *
    go_enter Tryz.func64, Tryz.ntmps64
    go_wp2_with fail
    go_region_with (first
      | (go_at_call 84; refine (HWD.out _).mono ?_; rintro e w' ⟨rfl, rfl⟩)
      | (go_at_call 80; refine (FP.out 1 _ (by simp)).mono ?_; rintro e w1 ⟨rfl, h1, h2⟩))
    all_goals
      go_wp2
      go_end0
      exact ⟨rfl, h1, h2⟩
end
end Go.Proofs.YtkilicjjaljghaaGreat
