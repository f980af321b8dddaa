/-
  The contract of Type, over itself and over object.
  The contract of object, and Type's closed.
-/
import Derived.Test.YtjojlcfoiknlhaaGreatDoorWriteB
import Derived.Test.YtjojlcfoiknlhaaGreatDoorPlainB
namespace Go.Proofs.YtjojlcfoiknlhaaGreatDoor
open Go.RowKit

section
variable {B wb : Nat} {tv : Value} {bn : Wk} {T : List M.Ty} {m : Nat}

/-- object, at a type of this number. -/
def WObj (B wb : Nat) (tv : Value) (bn : Wk) (T : List M.Ty) (i : Nat) : Prop := ∀ (hi : i < T.length) (w : World) (bs : List UInt8) (fa : Option Addr) (fc : Nat), T[i].kind = 7 → Wsp w B wb tv bn T bs → B ≤ w.heap.size → w.ownsRow 0 71 2 (.slice fa T[i].fields.length fc) T[i].fields.length (frows T[i].fields) → bs.length + (wtx bn T i).length ≤ 100000000000000 →
  Calls Tryz.prog 72 #[.pointer (some ⟨wb, 0, none⟩), .slice fa T[i].fields.length fc] w (WPost w B wb tv bn (bs ++ wtx bn T i))

/-- Say of one word, behind whatever the writer has done. -/
theorem say1 {a0 : World} (hB : B ≤ a0.heap.size) (a : World) (q : Nat) (bs : List UInt8) (s : ByteArray) (hq : q = a.heap.size) (hk : Wkp B wb a0 a) (hw : Wrt a B wb tv bn bs) (hl : bs.length + s.size ≤ 100000000000000) :
    Calls Tryz.prog 67 #[.pointer (some ⟨wb, 0, none⟩), .slice (some ⟨q, 0, none⟩) 1 1] (a.alloc (.cells #[.string s] 9)) (WPost a0 B wb tv bn (bs ++ s.data.toList)) := by
  subst hq
  have e : s.data.toList.length = s.size := bl s
  refine (say_any (hw.still (Chg.alloc _ _ _)) [s] a.heap.size (0, 0) (heap_alloc_new a _) (by simp) (by simp [said]; omega) (by simp; have := hk.size; omega)).mono ?_
  rintro e w' ⟨rfl, h1, h2⟩
  exact ⟨rfl, (hk.trans (Wkp.still (Chg.alloc _ _ _))).trans h1, by simpa [said] using h2⟩

set_option maxHeartbeats 4000000 in
set_option maxRecDepth 100000 in
theorem wtype_any (IH : WCon B wb tv bn T m) (i : Nat) (him : i ≤ m) (HOB : WObj B wb tv bn T i) (hi : i < T.length) (w : World) (bs : List UInt8) (h : Wsp w B wb tv bn T bs) (hBw : B ≤ w.heap.size) (hlen : bs.length + (wtx bn T i).length ≤ 100000000000000) (hls : T[i].list.length ≤ 100000) :
    Calls Tryz.prog 40 #[.pointer (some ⟨wb, 0, none⟩), .int .i64 (i : Int)] w (WPost w B wb tv bn (bs ++ wtx bn T i)) := by
  have hT := h.ok
  obtain ⟨ad, c, etv, c2, c3, hlt, hcell⟩ := h.cell
  obtain ⟨g, fa, fc, la, lc, rfl, hg, hc1, hc2, x0, x1, x2, x3, of1, ol1⟩ := hcell i hi
  unfold maxLen at hc2
  clear hcell
  have HW8 := hide (fun e => wtx_arr (bn := bn) hT hi e)
  have HW9 := hide (fun e => wtx_fn (bn := bn) hT hi e)
  have HW10 := hide (fun e => wtx_uni (bn := bn) hT hi e)
  have HWp := hide (fun e1 e2 => wtx_plain (bn := bn) hT hi e1 e2)
  have HOb := hide (fun e w' bs' => HOB hi w' bs' fa fc e)
  have hty := hT i hi
  have hls2 := hty.lst
  have hof := hty.of
  have hkinds : T[i].kind = 7 ∨ T[i].kind = 8 ∨ T[i].kind = 9 ∨ T[i].kind = 10 ∨ (1 ≤ T[i].kind ∧ T[i].kind ≤ 6) := by
    rcases hty with ht | ht | ht | ht | ht
    · exact .inr (.inr (.inr (.inr ⟨ht.1, ht.2.1⟩)))
    · exact .inl ht.1
    · exact .inr (.inl ht.1)
    · exact .inr (.inr (.inl ht.1))
    · exact .inr (.inr (.inr (.inl ht.1)))
  clear hty HOB
  generalize wtx bn T i = tx at *
  generalize T[i].kind = k at *
  generalize T[i].of' = o at *
  generalize T[i].fields = fs at *
  generalize T[i].list = ls at *
  have hc0 : Chg (fun _ => False) w ((w.alloc (.cells #[.pointer (some ⟨wb, 0, none⟩)] 84)).alloc (.cells #[.int .i64 k, .slice fa fs.length fc, .slice la ls.length lc, .int .i64 o] 66)) := (Chg.alloc (fun _ => False) _ _).trans (Chg.alloc (fun _ => False) _ _) (fun _ _ x => x)
  have hs0 := h.still hc0
  have hB0 : B ≤ ((w.alloc (.cells #[.pointer (some ⟨wb, 0, none⟩)] 84)).alloc (.cells #[.int .i64 k, .slice fa fs.length fc, .slice la ls.length lc, .int .i64 o] 66)).heap.size := Nat.le_trans hBw hc0.size
  have HEND : Hid (∀ e w' bs', WPost ((w.alloc (.cells #[.pointer (some ⟨wb, 0, none⟩)] 84)).alloc (.cells #[.int .i64 k, .slice fa fs.length fc, .slice la ls.length lc, .int .i64 o] 66)) B wb tv bn bs' e w' → WPost w B wb tv bn bs' e w') := by
    rintro e w' bs' ⟨rfl, h1, h2⟩
    exact ⟨rfl, (Wkp.still hc0).trans h1, h2⟩
  have hx : ((w.alloc (.cells #[.pointer (some ⟨wb, 0, none⟩)] 84)).alloc (.cells #[.int .i64 k, .slice fa fs.length fc, .slice la ls.length lc, .int .i64 o] 66)).heap[w.heap.size]? = some (.cells #[.pointer (some ⟨wb, 0, none⟩)] 84 (0, 0)) := by
    rw [Below.heap_alloc _ _ _ (by simp)]
    exact heap_alloc_new w _
  have ht : ((w.alloc (.cells #[.pointer (some ⟨wb, 0, none⟩)] 84)).alloc (.cells #[.int .i64 k, .slice fa fs.length fc, .slice la ls.length lc, .int .i64 o] 66)).heap[w.heap.size + 1]? = some (.cells #[.int .i64 k, .slice fa fs.length fc, .slice la ls.length lc, .int .i64 o] 66 (0, 0)) := by
    have := heap_alloc_new (w.alloc (.cells #[.pointer (some ⟨wb, 0, none⟩)] 84)) (.cells #[.int .i64 k, .slice fa fs.length fc, .slice la ls.length lc, .int .i64 o] 66)
    simpa using this
  have hol : ((w.alloc (.cells #[.pointer (some ⟨wb, 0, none⟩)] 84)).alloc (.cells #[.int .i64 k, .slice fa fs.length fc, .slice la ls.length lc, .int .i64 o] 66)).ownsRow 0 3 1 (.slice la ls.length lc) ls.length (ints ls) := owns_chg ol1 hc0 (fun _ _ x => x)
  have hofl : ((w.alloc (.cells #[.pointer (some ⟨wb, 0, none⟩)] 84)).alloc (.cells #[.int .i64 k, .slice fa fs.length fc, .slice la ls.length lc, .int .i64 o] 66)).ownsRow 0 71 2 (.slice fa fs.length fc) fs.length (frows fs) := owns_chg of1 hc0 (fun _ _ x => x)
  have FC : Hid (∀ a, Wkp B wb ((w.alloc (.cells #[.pointer (some ⟨wb, 0, none⟩)] 84)).alloc (.cells #[.int .i64 k, .slice fa fs.length fc, .slice la ls.length lc, .int .i64 o] 66)) a → a.cell? ⟨w.heap.size, 0, none⟩ = some (.pointer (some ⟨wb, 0, none⟩)) ∧ a.cell? ⟨w.heap.size + 1, 2, none⟩ = some (.slice la ls.length lc) ∧ a.cell? ⟨w.heap.size + 1, 3, none⟩ = some (.int .i64 o) ∧ w.heap.size < a.heap.size ∧ w.heap.size + 1 < a.heap.size) := by
    intro a ha
    have hx2 := ha.other hs0.wrt hx (by decide) (by decide)
    have ht2 := ha.other hs0.wrt ht (by decide) (by decide)
    exact ⟨by rw [cell_of_row a _ 0 _ _ _ hx2]; rfl, by rw [cell_of_row a _ 2 _ _ _ ht2]; rfl, by rw [cell_of_row a _ 3 _ _ _ ht2]; rfl, (Array.getElem?_eq_some_iff.1 hx2).1, (Array.getElem?_eq_some_iff.1 ht2).1⟩
  have FS := hide (fun a q bs' s => say1 (wb := wb) (tv := tv) (bn := bn) (a0 := ((w.alloc (.cells #[.pointer (some ⟨wb, 0, none⟩)] 84)).alloc (.cells #[.int .i64 k, .slice fa fs.length fc, .slice la ls.length lc, .int .i64 o] 66))) hB0 a q bs' s)
  have FW : Hid (∀ a z bs', Wkp B wb ((w.alloc (.cells #[.pointer (some ⟨wb, 0, none⟩)] 84)).alloc (.cells #[.int .i64 k, .slice fa fs.length fc, .slice la ls.length lc, .int .i64 o] 66)) a → Wrt a B wb tv bn bs' → z < i → bs'.length + (wtx bn T z).length ≤ 100000000000000 → Calls Tryz.prog 40 #[.pointer (some ⟨wb, 0, none⟩), .int .i64 (z : Int)] a (WPost ((w.alloc (.cells #[.pointer (some ⟨wb, 0, none⟩)] 84)).alloc (.cells #[.int .i64 k, .slice fa fs.length fc, .slice la ls.length lc, .int .i64 o] 66)) B wb tv bn (bs' ++ wtx bn T z))) := by
    intro a z bs' ha hw hz hl
    refine (IH z a bs' (by omega) (by omega) (hs0.kept ha hw) (Nat.le_trans hB0 ha.size) hl).mono ?_
    rintro e w' ⟨rfl, h1, h2⟩
    exact ⟨rfl, ha.trans h1, h2⟩
  have FR : Hid (∀ a bs', Wkp B wb ((w.alloc (.cells #[.pointer (some ⟨wb, 0, none⟩)] 84)).alloc (.cells #[.int .i64 k, .slice fa fs.length fc, .slice la ls.length lc, .int .i64 o] 66)) a → Wrt a B wb tv bn bs' → bs'.length + (rowb [44, 32] (fun j => wtx bn T (ls.getD j 0).toNat) ls.length).length ≤ 100000000000000 → Calls Tryz.prog 73 #[.pointer (some ⟨wb, 0, none⟩), .int .i64 (ls.length : Int), .string ⟨#[44, 32]⟩, .func (.func 74) #[] #[.pointer (some ⟨w.heap.size, 0, none⟩), .pointer (some ⟨w.heap.size + 1, 0, none⟩)]] a (WPost ((w.alloc (.cells #[.pointer (some ⟨wb, 0, none⟩)] 84)).alloc (.cells #[.int .i64 k, .slice fa fs.length fc, .slice la ls.length lc, .int .i64 o] 66)) B wb tv bn (bs' ++ rowb [44, 32] (fun j => wtx bn T (ls.getD j 0).toNat) ls.length))) := by
    intro a bs' ha hw hl
    have hsa := hs0.kept ha hw
    have hxa := ha.other hs0.wrt hx (by decide) (by decide)
    have hta := ha.other hs0.wrt ht (by decide) (by decide)
    have hola := ha.own hs0.wrt hol (by decide) (by decide)
    refine (row_type a bs' hw (Nat.le_trans hB0 ha.size) ls.length (by omega) ⟨#[44, 32]⟩ _ _ (fun j => wtx bn T (ls.getD j 0).toNat) hl ?_).mono ?_
    · intro a2 j bs2 hk2 hw2 hj hl2
      have hxx := hls2 ls[j] (List.getElem_mem hj)
      obtain ⟨z, hz⟩ : ∃ z : Nat, ls[j] = (z : Int) := ⟨ls[j].toNat, by omega⟩
      have e : wtx bn T (ls.getD j 0).toNat = wtx bn T z := by
        rw [show ls.getD j 0 = (z : Int) from by simp [hj, hz], Int.toNat_natCast]
      rw [e] at hl2 ⊢
      refine (type1_any IH a2 bs2 (hsa.kept hk2 hw2) (Nat.le_trans hB0 (Nat.le_trans ha.size hk2.size)) j w.heap.size (w.heap.size + 1) _ _ _ la lc ls hj z hz (by omega) (by omega) hl2 (hk2.other hsa.wrt hxa (by decide) (by decide)) (hk2.other hsa.wrt hta (by decide) (by decide)) (hk2.own hsa.wrt hola (by decide) (by decide))).mono ?_
      rintro e w' ⟨rfl, h1, h2⟩
      exact ⟨rfl, hk2.trans h1, h2⟩
    · rintro e w' ⟨rfl, h1, h2⟩
      exact ⟨rfl, ha.trans h1, h2⟩
  have HR0 := hide hs0
  have hk0 := hide (Wkp.refl B wb ((w.alloc (.cells #[.pointer (some ⟨wb, 0, none⟩)] 84)).alloc (.cells #[.int .i64 k, .slice fa fs.length fc, .slice la ls.length lc, .int .i64 o] 66)))
  rcases hkinds with rfl | rfl | rfl | rfl | ⟨hk1, hk2⟩
  · have HC := hide (HOb.out rfl _ bs hs0 hB0 hofl hlen)
    clear h hs0 hx ht hol hofl of1 ol1 FW FS FC HW8 HW9 HW10 HWp HOb hc0 hB0
    go_enter Tryz.func40, Tryz.ntmps40
    go_wp2_with fail
    refine HC.out.mono ?_
    rintro e w1 hp
    have hp2 := HEND.out _ _ _ hp
    obtain ⟨rfl, h1, h2⟩ := hp2
    go_wp2
    go_end0
    exact ⟨rfl, h1, h2⟩
  · have e := HW8.out rfl
    obtain ⟨z, rfl⟩ : ∃ z : Nat, o = (z : Int) := ⟨o.toNat, by have := hof (.inl rfl); omega⟩
    have hzi : z < i := by have := hof (.inl rfl); omega
    rw [Int.toNat_natCast] at e
    subst e
    simp only [List.length_append, List.length_cons, List.length_nil] at hlen
    have HS1 := hide (FS.out _ (w.heap.size + 1 + 1) bs ⟨#[91]⟩ (by simp) hk0.out HR0.out.wrt (by simp [ByteArray.size]; omega))
    clear h hs0 hx ht hol hofl of1 ol1 HW8 HW9 HW10 HWp HOb hc0 hB0 hof
    go_enter Tryz.func40, Tryz.ntmps40
    go_wp2_with fail
    refine HS1.out.mono ?_
    rintro e w1 ⟨rfl, h1, h2⟩
    obtain ⟨d1, d2, d3, l1, l2⟩ := FC.out w1 h1
    have HS2 := hide (FW.out w1 z _ h1 h2 hzi (by simp; omega))
    clear h1 h2 HS1
    go_wp2_with fail
    refine HS2.out.mono ?_
    rintro e w2 ⟨rfl, h3, h4⟩
    obtain ⟨d4, -, -, l4, -⟩ := FC.out w2 h3
    have HS3 := hide (FS.out w2 w2.heap.size _ ⟨#[93]⟩ rfl h3 h4 (by simp [ByteArray.size]; omega))
    clear h3 h4 HS2
    go_wp2_with fail
    refine HS3.out.mono ?_
    rintro e w3 hp
    obtain ⟨rfl, h5, h6⟩ := HEND.out _ _ _ hp
    go_wp2
    go_end0
    exact ⟨rfl, h5, by simpa using h6⟩
  · have e := HW9.out rfl
    obtain ⟨z, rfl⟩ : ∃ z : Nat, o = (z : Int) := ⟨o.toNat, by have := hof (.inr rfl); omega⟩
    have hzi : z < i := by have := hof (.inr rfl); omega
    rw [Int.toNat_natCast] at e
    subst e
    generalize rowb [44, 32] (fun j => wtx bn T (ls.getD j 0).toNat) ls.length = rb at *
    simp only [List.length_append, List.length_cons, List.length_nil] at hlen
    have HS1 := hide (FS.out _ (w.heap.size + 1 + 1) bs ⟨#[40]⟩ (by simp) hk0.out HR0.out.wrt (by simp [ByteArray.size]; omega))
    clear h hs0 hx ht hol hofl of1 ol1 HW8 HW9 HW10 HWp HOb hc0 hB0 hof
    go_enter Tryz.func40, Tryz.ntmps40
    go_wp2_with fail
    refine HS1.out.mono ?_
    rintro e w1 ⟨rfl, h1, h2⟩
    obtain ⟨d1, d2, d3, l1, l2⟩ := FC.out w1 h1
    have HS2 := hide (FR.out w1 _ h1 h2 (by simp; omega))
    clear h1 h2 HS1
    go_wp2_with fail
    refine HS2.out.mono ?_
    rintro e w2 ⟨rfl, h3, h4⟩
    obtain ⟨d4, d5, d6, l4, l5⟩ := FC.out w2 h3
    have HS3 := hide (FS.out w2 w2.heap.size _ ⟨#[41, 32, 61, 62, 32]⟩ rfl h3 h4 (by simp [ByteArray.size]; omega))
    clear h3 h4 HS2
    go_wp2_with fail
    refine HS3.out.mono ?_
    rintro e w3 ⟨rfl, h5, h6⟩
    obtain ⟨d7, -, d8, l7, l8⟩ := FC.out w3 h5
    have HS4 := hide (FW.out w3 z _ h5 h6 hzi (by simp; omega))
    clear h5 h6 HS3
    go_wp2_with fail
    refine HS4.out.mono ?_
    rintro e w4 hp
    obtain ⟨rfl, h7, h8⟩ := HEND.out _ _ _ hp
    go_wp2
    go_end0
    exact ⟨rfl, h7, by simpa using h8⟩
  · have e := HW10.out rfl
    subst e
    have HC := hide (wunion_any IH _ bs hs0 hB0 la lc ls hls (fun x hxm => by have := hls2 x hxm; omega) hol hlen)
    clear h hs0 hx ht hol hofl of1 ol1 FW FS FC FR HW8 HW9 HW10 HWp HOb hc0 hB0 hof
    go_enter Tryz.func40, Tryz.ntmps40
    go_wp2_with fail
    refine HC.out.mono ?_
    rintro e w1 hp
    obtain ⟨rfl, h1, h2⟩ := HEND.out _ _ _ hp
    go_wp2
    go_end0
    exact ⟨rfl, h1, h2⟩
  · have e := HWp.out hk1 hk2
    subst e
    obtain ⟨d1, -, -, l1, l2⟩ := FC.out _ hk0.out
    have d0 : (((w.alloc (.cells #[.pointer (some ⟨wb, 0, none⟩)] 84)).alloc (.cells #[.int .i64 k, .slice fa fs.length fc, .slice la ls.length lc, .int .i64 o] 66))).cell? ⟨w.heap.size + 1, 0, none⟩ = some (.int .i64 k) := by rw [cell_of_row _ _ 0 _ _ _ ht]; rfl
    have HWt := hide HR0.out.wrt
    have hwl : (M.word k).length ≤ 7 := by
      have hk : k = 1 ∨ k = 2 ∨ k = 3 ∨ k = 4 ∨ k = 5 ∨ k = 6 := by omega
      rcases hk with rfl | rfl | rfl | rfl | rfl | rfl <;> decide
    have FP : Hid (∀ n q, q = w.heap.size + 1 + 1 → Calls Tryz.prog 67 #[.pointer (some ⟨wb, 0, none⟩), .slice (some ⟨q, 0, none⟩) 1 1] (((((w.alloc (.cells #[.pointer (some ⟨wb, 0, none⟩)] 84)).alloc (.cells #[.int .i64 k, .slice fa fs.length fc, .slice la ls.length lc, .int .i64 o] 66))).drewN n).alloc (.cells #[.string ⟨(M.word k).toArray⟩] 9)) (WPost w B wb tv bn (bs ++ M.word k))) := by
      intro n q hq
      have hd := Chg.drewN (fun _ => False) ((w.alloc (.cells #[.pointer (some ⟨wb, 0, none⟩)] 84)).alloc (.cells #[.int .i64 k, .slice fa fs.length fc, .slice la ls.length lc, .int .i64 o] 66)) n
      refine (FS.out (World.drewN ((w.alloc (.cells #[.pointer (some ⟨wb, 0, none⟩)] 84)).alloc (.cells #[.int .i64 k, .slice fa fs.length fc, .slice la ls.length lc, .int .i64 o] 66)) n) q bs ⟨(M.word k).toArray⟩ (by rw [hq]; simp) (Wkp.still hd) (HWt.out.still hd) (by simp [ByteArray.size]; omega)).mono ?_
      intro e w' hp
      exact HEND.out _ _ _ hp
    clear h hs0 hx ht hol hofl of1 ol1 FW FS FC FR HW8 HW9 HW10 HWp HOb hc0 hB0 hof
    have e7 : (k == 7) = false := by simp; omega
    have e8 : (k == 8) = false := by simp; omega
    have e9 : (k == 9) = false := by simp; omega
    have e10 : (k == 10) = false := by simp; omega
    have HWD := hide (fun a => word_any k hk1 hk2 a)
    generalize M.word k = wk at *
    go_enter Tryz.func40, Tryz.ntmps40
    go_wp2_with fail
    go_region_with (first
      | (go_at_call 76; refine (HWD.out _).mono ?_; rintro e w' ⟨rfl, rfl⟩)
      | (go_at_call 67; refine (FP.out 1 _ (by simp)).mono ?_; rintro e w1 ⟨rfl, h1, h2⟩))
    all_goals
      go_wp2
      go_end0
      exact ⟨rfl, h1, h2⟩
end
end Go.Proofs.YtjojlcfoiknlhaaGreatDoor

namespace Go.Proofs.YtjojlcfoiknlhaaGreatDoor
open Go.RowKit

variable {α : Type} in
theorem flat_get (enc : α → List Value) (hk : ∀ x, (enc x).length = 2) : ∀ (l : List α) (i c : Nat) (hi : i < l.length), c < 2 → (l.flatMap enc)[i * 2 + c]? = (enc l[i])[c]?
  | [], _, _, hi, _ => by simp at hi
  | x :: r, 0, c, _, hc => by
    rw [List.flatMap_cons, List.getElem?_append_left (by rw [hk]; omega)]
    simp
  | x :: r, i + 1, c, hi, hc => by
    rw [List.flatMap_cons, List.getElem?_append_right (by rw [hk]; omega), hk, show (i + 1) * 2 + c - 2 = i * 2 + c by omega, flat_get enc hk r i c (by simpa using hi) hc]
    rfl


/-- A field, and some of them, as they are written. -/
def fldb (bn : Wk) (T : List M.Ty) (p : List UInt8 × Int) : List UInt8 := [32] ++ p.1 ++ [58, 32] ++ wtx bn T p.2.toNat ++ [59]
def fldsb (bn : Wk) (T : List M.Ty) (l : List (List UInt8 × Int)) : List UInt8 := l.flatMap (fldb bn T)
theorem fldsb_take {bn : Wk} {T : List M.Ty} (l : List (List UInt8 × Int)) {j : Nat} (hj : j < l.length) : fldsb bn T (l.take (j + 1)) = fldsb bn T (l.take j) ++ fldb bn T l[j] := by
  unfold fldsb
  rw [List.take_succ_eq_append_getElem hj, List.flatMap_append]
  simp
theorem fldsb_le {bn : Wk} {T : List M.Ty} (l : List (List UInt8 × Int)) {j : Nat} (hj : j < l.length) : (fldsb bn T (l.take j)).length + (fldb bn T l[j]).length ≤ (fldsb bn T l).length := by
  have h1 := fldsb_take (bn := bn) (T := T) l hj
  have h2 : fldsb bn T l = fldsb bn T (l.take (j + 1)) ++ fldsb bn T (l.drop (j + 1)) := by
    unfold fldsb
    rw [← List.flatMap_append, List.take_append_drop]
  rw [h2, h1]
  simp only [List.length_append]
  omega

section
variable {bn : Wk} {T : List M.Ty} {i : Nat}
theorem obj_parts (hT : M.TsOk T) (hi : i < T.length) (h : T[i].kind = 7) : T[i].list = [] ∧ (T[i].fields.map (·.1)).Nodup := by
  rcases hT i hi with ht | ht | ht | ht | ht
  · omega
  · exact ⟨ht.2.1, ht.2.2.1⟩
  · omega
  · omega
  · omega
theorem wtx_obj (hbn : bn.b = false) (hT : M.TsOk T) (hi : i < T.length) (h : T[i].kind = 7) : wtx bn T i = [123] ++ fldsb bn T (T[i].fields) ++ (if T[i].fields.length = 0 then [] else [32]) ++ [125] := by
  obtain ⟨hl, hn⟩ := obj_parts hT hi h
  have e : M.tr T i = .nd 7 (T[i].fields.map (·.1)) (T[i].fields.map fun p => (fun z : Int => M.tr T z.toNat) p.2) := by
    rw [M.tr_eq hT hi, if_neg (by omega), hl, h]
    simp
  unfold wtx
  rw [e]
  have e2 : ∀ t, wtr bn t = t := fun t => by simp [wtr, hbn]
  rw [e2, M.txt_obj T[i].fields (fun z : Int => M.tr T z.toNat)]
  unfold fldsb fldb wtx
  simp only [e2]
end

section
variable {B wb : Nat} {tv : Value} {bn : Wk} {T : List M.Ty} {m : Nat}

/-- Say of three words. -/
theorem say3 {a0 : World} (hB : B ≤ a0.heap.size) (a : World) (q : Nat) (bs : List UInt8) (s1 s2 s3 : ByteArray) (hq : q = a.heap.size) (hk : Wkp B wb a0 a) (hw : Wrt a B wb tv bn bs) (hl : bs.length + s1.size + s2.size + s3.size ≤ 100000000000000) :
    Calls Tryz.prog 67 #[.pointer (some ⟨wb, 0, none⟩), .slice (some ⟨q, 0, none⟩) 3 3] (a.alloc (.cells #[.string s1, .string s2, .string s3] 9)) (WPost a0 B wb tv bn (bs ++ (s1.data.toList ++ s2.data.toList ++ s3.data.toList))) := by
  subst hq
  have e1 : s1.data.toList.length = s1.size := bl s1
  have e2 : s2.data.toList.length = s2.size := bl s2
  have e3 : s3.data.toList.length = s3.size := bl s3
  refine (say_any (hw.still (Chg.alloc _ _ _)) [s1, s2, s3] a.heap.size (0, 0) (heap_alloc_new a _) (by simp) (by simp [said]; omega) (by simp; have := hk.size; omega)).mono ?_
  rintro e w' ⟨rfl, h1, h2⟩
  exact ⟨rfl, (hk.trans (Wkp.still (Chg.alloc _ _ _))).trans h1, by simpa [said] using h2⟩

/-- The cells of a row of fields. -/
theorem ofld_cell {w : World} {base : Nat} {ga : Option Addr} {gc : Nat} {gs : List (List UInt8 × Int)} (ho : w.ownsRow base 71 2 (.slice ga gs.length gc) gs.length (frows gs)) {j : Nat} (hj : j < gs.length) :
    ∃ g, ga = some ⟨g, 0, none⟩ ∧ g < w.heap.size ∧ gs.length ≤ gc ∧ gc ≤ maxLen ∧ w.cell? ⟨g, j * 2, none⟩ = some (.string ⟨gs[j].1.toArray⟩) ∧ w.cell? ⟨g, j * 2 + 1, none⟩ = some (.int .i64 gs[j].2) := by
  obtain ⟨g, rfl, -, hg, h1, h2, hc⟩ := owns_cell ho (by omega)
  have a0 := flat_get fcells (fun _ => rfl) gs j 0 hj (by omega)
  have a1 := flat_get fcells (fun _ => rfl) gs j 1 hj (by omega)
  exact ⟨g, rfl, hg, h1, h2, hc _ _ a0, hc _ _ a1⟩

set_option maxHeartbeats 4000000 in
set_option maxRecDepth 100000 in
theorem wobject_any (hbn : bn.b = false) (IH : WCon B wb tv bn T m) (i : Nat) (him : i ≤ m) (hi : i < T.length) (hfs : T[i].fields.length ≤ 1001) : WObj B wb tv bn T i := by
  intro _ w bs fa fc hk7 h hBw ho hlen
  have hT := h.ok
  have hE := wtx_obj (bn := bn) hbn hT hi hk7
  have hnd := (obj_parts hT hi hk7).2
  have hfld := (hT i hi).fld
  have hmem : ∀ p ∈ T[i].fields, 0 ≤ p.2 ∧ p.2 < (i : Int) := fun p hp => hfld p hp
  have hlen2 : bs.length + (fldsb bn T (T[i].fields)).length + 2 ≤ 100000000000000 := by
    rw [hE] at hlen
    simp only [List.length_append, List.length_cons, List.length_nil] at hlen
    omega
  have hlen3 : T[i].fields.length ≠ 0 → bs.length + (fldsb bn T (T[i].fields)).length + 3 ≤ 100000000000000 := by
    intro h0
    rw [hE, if_neg h0] at hlen
    simp only [List.length_append, List.length_cons, List.length_nil] at hlen
    omega
  have HE := hide hE
  clear hE hfld hk7 hlen
  generalize wtx bn T i = tx at *
  obtain ⟨c2, c3, hwl⟩ := h.wrt.tys
  rw [hbn] at c3
  generalize T[i].fields = gs at *
  /- what follows, whatever was done ahead of it -/
  have FS1 : Hid (∀ a0 : World, Chg (fun _ => False) w a0 → ∀ a q bs' s, q = a.heap.size → Wkp B wb a0 a → Wrt a B wb tv bn bs' → bs'.length + s.size ≤ 100000000000000 → Calls Tryz.prog 67 #[.pointer (some ⟨wb, 0, none⟩), .slice (some ⟨q, 0, none⟩) 1 1] (a.alloc (.cells #[.string s] 9)) (WPost a0 B wb tv bn (bs' ++ s.data.toList))) :=
    fun a0 hc a q bs' s => say1 (Nat.le_trans hBw hc.size) a q bs' s
  have FS3 : Hid (∀ a0 : World, Chg (fun _ => False) w a0 → ∀ a q bs' s1 s2 s3, q = a.heap.size → Wkp B wb a0 a → Wrt a B wb tv bn bs' → bs'.length + s1.size + s2.size + s3.size ≤ 100000000000000 → Calls Tryz.prog 67 #[.pointer (some ⟨wb, 0, none⟩), .slice (some ⟨q, 0, none⟩) 3 3] (a.alloc (.cells #[.string s1, .string s2, .string s3] 9)) (WPost a0 B wb tv bn (bs' ++ (s1.data.toList ++ s2.data.toList ++ s3.data.toList)))) :=
    fun a0 hc a q bs' s1 s2 s3 => say3 (Nat.le_trans hBw hc.size) a q bs' s1 s2 s3
  have FW : Hid (∀ a0 : World, Chg (fun _ => False) w a0 → ∀ a z bs', Wkp B wb a0 a → Wrt a B wb tv bn bs' → z < i → bs'.length + (wtx bn T z).length ≤ 100000000000000 → Calls Tryz.prog 40 #[.pointer (some ⟨wb, 0, none⟩), .int .i64 (z : Int)] a (WPost a0 B wb tv bn (bs' ++ wtx bn T z))) := by
    intro a0 hc a z bs' ha hw hz hl
    refine (IH z a bs' (by omega) (by omega) ((h.still hc).kept ha hw) (Nat.le_trans hBw (Nat.le_trans hc.size ha.size)) hl).mono ?_
    rintro e w' ⟨rfl, h1, h2⟩
    exact ⟨rfl, ha.trans h1, h2⟩
  have FWR : Hid (∀ a0 : World, Chg (fun _ => False) w a0 → Wrt a0 B wb tv bn bs) := fun a0 hc => h.wrt.still hc
  have FR : Hid (∀ a0 : World, Chg (fun _ => False) w a0 → ∀ ga gc, a0.ownsRow 0 71 2 (.slice ga gs.length gc) gs.length (frows gs) → ∀ a, Wkp B wb a0 a → a.ownsRow 0 71 2 (.slice ga gs.length gc) gs.length (frows gs)) :=
    fun a0 hc ga gc hr a ha => ha.own (h.wrt.still hc) hr (by decide) (by decide)
  have hnn := hide hnd
  clear hnd
  · have hc0 : Chg (fun _ => False) w w := Chg.refl _ _
    have hr0 := hide ho
    clear h ho
    go_enter Tryz.func72, Tryz.ntmps72
    go_wp2_with fail
    have HS1 := hide (FS1.out w hc0 w w.heap.size bs ⟨#[123]⟩ rfl (Wkp.refl _ _ _) (FWR.out w hc0) (by simp [ByteArray.size]; omega))
    refine HS1.out.mono ?_
    rintro e u1 ⟨rfl, h1, h2⟩
    have K1 := hide h1
    have R1 := hide h2
    clear h1 h2 HS1
    go_wp2_with fail
    go_loopw [19] (fun v wr => ∃ j : Nat, j ≤ gs.length ∧ v = .int .i64 (j : Int) ∧ Hid (Wrt wr B wb tv bn (bs ++ [123] ++ fldsb bn T (gs.take j))) ∧ Hid (Wkp B wb w wr)) (fun v _ => gs.length - (intOf v).toNat)
    case atStart => exact ⟨0, Nat.zero_le _, rfl, by simpa [fldsb] using R1, K1.out⟩
    case round =>
      obtain ⟨j, hj, rfl, WR, CR⟩ := hrel
      have hBr : B ≤ wr.heap.size := Nat.le_trans hBw (Nat.le_trans hc0.size CR.out.size)
      by_cases hjl : j < gs.length
      · have hl := fldsb_le (bn := bn) (T := T) gs hjl
        have HT := hide (fldsb_take (bn := bn) (T := T) gs hjl)
        obtain ⟨g, hga, hg, hg1, hg2, x0, x1⟩ := ofld_cell (FR.out w hc0 _ _ hr0.out wr CR.out) hjl
        subst hga
        unfold maxLen at hg2
        have hzm := hmem gs[j] (List.getElem_mem hjl)
        unfold fldb at hl HT
        generalize gs[j] = p at *
        obtain ⟨nm, zz⟩ := p
        obtain ⟨z, rfl⟩ : ∃ z : Nat, zz = (z : Int) := ⟨zz.toNat, by have := hzm.1; simp only at this; omega⟩
        have hzi : z < i := by have := hzm.2; simp only at this; omega
        simp only [Int.toNat_natCast, List.length_append, List.length_cons, List.length_nil] at hl HT x0 x1
        clear hzm
        have ha1 : Chg (fun _ => False) wr (wr.alloc (.cells #[.string ⟨nm.toArray⟩, .int .i64 (z : Int)] 71)) := Chg.alloc _ _ _
        have HW3 := hide (say3 (B := B) (wb := wb) (tv := tv) (bn := bn) (a0 := wr.alloc (.cells #[.string ⟨nm.toArray⟩, .int .i64 (z : Int)] 71)) (Nat.le_trans hBr ha1.size) _ (wr.heap.size + 1) _ ⟨#[32]⟩ ⟨nm.toArray⟩ ⟨#[58, 32]⟩ (by simp) (Wkp.refl _ _ _) (WR.out.still ha1) (by simp [ByteArray.size]; omega))
        have WA := hide (WR.out.still ha1)
        have CR2 := hide (CR.out.trans (Wkp.still ha1))
        have hwr : wr.heap.size < (wr.alloc (.cells #[.string ⟨nm.toArray⟩, .int .i64 (z : Int)] 71)).heap.size := by simp
        clear CR WR ha1
        go_wp2_with fail
        refine HW3.out.mono ?_
        rintro e w3 ⟨rfl, h3, h4⟩
        have hq := h3.other WA.out (heap_alloc_new wr _) (by decide) (by decide)
        have d1 : w3.cell? ⟨wr.heap.size, 1, none⟩ = some (.int .i64 (z : Int)) := by rw [cell_of_row w3 _ 1 _ _ _ hq]; rfl
        have d2 : wr.heap.size < w3.heap.size := Nat.lt_of_lt_of_le hwr h3.size
        have HWT := hide (FW.out w hc0 w3 z _ (CR2.out.trans h3) h4 hzi (by simp only [List.length_append, List.length_cons, List.length_nil]; omega))
        clear h3 h4 hq WA CR2 HW3 hwr
        go_wp2_with fail
        refine HWT.out.mono ?_
        rintro e w4 ⟨rfl, h5, h6⟩
        have HS4 := hide (FS1.out w hc0 w4 w4.heap.size _ ⟨#[59]⟩ rfl h5 h6 (by simp [ByteArray.size]; omega))
        clear h5 h6 HWT
        go_wp2_with fail
        refine HS4.out.mono ?_
        rintro e w5 ⟨rfl, h7, h8⟩
        have K7 := hide h7
        have R8 := hide h8
        clear h7 h8 HS4
        go_wp2
        go_roundw
        case rel => exact ⟨j + 1, by omega, by go_num, by rw [HT.out]; simpa using R8, K7.out⟩
        case measure => simp [intOf]; omega
      · have hje : j = gs.length := by omega
        subst hje
        rw [List.take_length] at WR
        have hcw : Wkp B wb w w := Wkp.still hc0
        by_cases hz : gs.length = 0
        · have HS5 := hide (FS1.out w hc0 wr wr.heap.size _ ⟨#[125]⟩ rfl CR.out WR.out (by simp [ByteArray.size]; omega))
          have HE2 := HE.out
          rw [if_pos hz] at HE2
          have HE3 := hide HE2
          clear HE2 HE
          clear CR WR
          have hz0 : (gs.length : Int) = 0 := by omega
          simp only [hz0] at *
          go_wp2_with fail
          refine HS5.out.mono ?_
          rintro e w6 ⟨rfl, h9, h10⟩
          go_wp2
          go_end0
          exact ⟨rfl, hcw.trans h9, by rw [HE3.out]; simpa using h10⟩
        · have hpos : (0 : Int) < (gs.length : Int) := by omega
          have hlen4 := hlen3 hz
          have HE2 := HE.out
          rw [if_neg hz] at HE2
          have HE3 := hide HE2
          clear HE2 HE
          have HS5 := hide (FS1.out w hc0 wr wr.heap.size _ ⟨#[32]⟩ rfl CR.out WR.out (by simp [ByteArray.size]; omega))
          clear CR WR
          go_wp2_with fail
          refine HS5.out.mono ?_
          rintro e w6 ⟨rfl, h9, h10⟩
          have HS6 := hide (FS1.out w hc0 w6 w6.heap.size _ ⟨#[125]⟩ rfl h9 h10 (by simp [ByteArray.size]; omega))
          clear h9 h10 HS5
          go_wp2_with fail
          refine HS6.out.mono ?_
          rintro e w7 ⟨rfl, h11, h12⟩
          go_wp2
          go_end0
          exact ⟨rfl, hcw.trans h11, by rw [HE3.out]; simpa using h12⟩

theorem wcon_any (hbn : bn.b = false) (hls : ∀ i (hi : i < T.length), T[i].list.length ≤ 100000 ∧ T[i].fields.length ≤ 1001) : ∀ m, WCon B wb tv bn T m
  | 0 => fun i w bs hm => by omega
  | m + 1 => fun i w bs him hi h hBw hlen => wtype_any (wcon_any hbn hls m) i (by omega) (wobject_any hbn (wcon_any hbn hls m) i (by omega) hi (hls i hi).2) hi w bs h hBw hlen (hls i hi).1
end
end Go.Proofs.YtjojlcfoiknlhaaGreatDoor
