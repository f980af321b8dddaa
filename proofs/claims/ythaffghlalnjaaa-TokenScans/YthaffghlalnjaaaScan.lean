/-
  The contract of Scan: it returns the tokens, in memory of its own, or the first fault.
-/
import Derived.Test.YthaffghlalnjaaaFirst
import Derived.Test.YthaffghlalnjaaaMathc
namespace Go.Proofs.Ythaffghlalnjaaa
open Go.RowKit

def tcells (t : M.Tk) : List Value := [.int .i64 t.kind, .string ⟨t.text.toArray⟩, .int .i64 (t.at' : Int)]
def rows (L : List M.Tk) : List Value := L.flatMap tcells
theorem rows_snoc (L : List M.Tk) (t : M.Tk) : rows (L ++ [t]) = rows L ++ tcells t := by simp [rows]

theorem Try.info32 : (Try.prog.info? 32).map (fun i => (i.zero, i.size, i.bytes)) = some (some (.agg #[.int .i64 0, .string ⟨#[]⟩, .int .i64 0]), 3, 32) := by kernel_rfl

/-- The answer of a scan: the tokens in new memory, and the fault. -/
def Ans (R : List M.Tk × Int × Nat) (w : World) (e : Ending) (w' : World) : Prop :=
  ∃ ad c, e = .returned (.tuple #[.slice ad R.1.length c, .agg #[.int .i64 R.2.1, .int .i64 (R.2.2 : Int)]]) ∧ w'.ownsRow w.heap.size 32 3 (.slice ad R.1.length c) R.1.length (rows R.1) ∧ Below w.heap.size w w'

theorem ownsRow_base {w : World} {base base' : Nat} {e : TypeId} {size : Nat} {v : Value} {n : Nat} {xs : List Value} (h : w.ownsRow base e size v n xs) (hb : base' ≤ base) : w.ownsRow base' e size v n xs := by
  obtain ⟨h1, h2⟩ := h
  refine ⟨h1, ?_⟩
  rcases h2 with h2 | ⟨g, cap, cur, hv, hg, r⟩
  · exact .inl h2
  · exact .inr ⟨g, cap, cur, hv, Nat.le_trans hb hg, r⟩

theorem ownsRow_form {w : World} {base : Nat} {e : TypeId} {size : Nat} {v : Value} {n : Nat} {xs : List Value} (h : w.ownsRow base e size v n xs) : ∃ ad c, v = .slice ad n c := by
  rcases h.2 with ⟨rfl, rfl⟩ | ⟨g, cap, cur, hv, _⟩
  · exact ⟨_, _, rfl⟩
  · exact ⟨_, _, hv⟩

theorem ans_fault {w w' : World} (e : Int) (a : Nat) (hb : Below w.heap.size w w') : Ans ([], e, a) w (.returned (.tuple #[.slice none 0 0, .agg #[.int .i64 e, .int .i64 (a : Int)]])) w' :=
  ⟨none, 0, rfl, World.ownsRow_nil _ _ _ _, hb⟩

theorem hide {p : Prop} (h : p) : Hid p := h

theorem old_cell {w wr : World} {cs : Array Value} {t : TypeId} (h : Below (w.heap.size + 1) (w.alloc (.cells cs t)) wr) :
    (∀ o v, cs[o]? = some v → wr.cell? ⟨w.heap.size, o, none⟩ = some v) ∧ (∀ o, wr.frozen? ⟨w.heap.size, o, none⟩ = false) ∧ w.heap.size < wr.heap.size := by
  refine ⟨fun o v hv => ?_, fun o => ?_, ?_⟩
  · rw [h.cell (p := ⟨w.heap.size, o, none⟩) (by simp), World.cell?_alloc_new, hv]
  · rw [h.frozen (p := ⟨w.heap.size, o, none⟩) (by simp)]; simp
  · have := h.size; simp at this; omega

theorem below_fault {w wr w1 : World} {o o2 : Obj} (hnx : Below (w.heap.size + 1) (w.alloc o) wr) (hb : Below wr.heap.size wr w1) (v0 v1 : Value) :
    Below w.heap.size w (((w1.setCell ⟨w.heap.size, 0, none⟩ v0).setCell ⟨w.heap.size, 1, none⟩ v1).alloc o2) := by
  have h1 : Below w.heap.size w wr := ((Below.refl _ _).alloc (Nat.le_refl _) o).trans (hnx.mono (by omega))
  have h2 := ((h1.trans (hb.mono h1.size)).setCell (p := ⟨w.heap.size, 0, none⟩) (by simp) v0).setCell (p := ⟨w.heap.size, 1, none⟩) (by simp) v1
  exact h2.alloc h2.size _

theorem ownsRow_below {w w' : World} {base : Nat} {e : TypeId} {size : Nat} {v : Value} {n : Nat} {xs : List Value} (h : w.ownsRow base e size v n xs) (hb : Below w.heap.size w w') : w'.ownsRow base e size v n xs :=
  h.kept (row := none) ⟨hb.os, hb.tape, hb.output, hb.size, fun k hk _ => hb.block k hk⟩ (by cases hv : v.ownBlock <;> simp)

theorem cell_three_new (w : World) (o : Obj) (x y z : Value) (t : TypeId) : ∀ j u, [x, y, z][j]? = some u → ((w.alloc o).alloc (.cells #[x, y, z] t)).cell? ((⟨w.heap.size + 1, 0, none⟩ : Addr).add j) = some u := by
  intro j u hj
  have hadd : (⟨w.heap.size + 1, 0, none⟩ : Addr).add j = ⟨w.heap.size + 1, j, none⟩ := by unfold Addr.add; split <;> simp_all
  rw [hadd, World.cell?_alloc_at _ _ _ _ (by simp)]
  rw [← hj]; simp

theorem cell_three_one (w : World) (x y z : Value) (t : TypeId) : ∀ j u, [x, y, z][j]? = some u → (w.alloc (.cells #[x, y, z] t)).cell? ((⟨w.heap.size, 0, none⟩ : Addr).add j) = some u := by
  intro j u hj
  have hadd : (⟨w.heap.size, 0, none⟩ : Addr).add j = ⟨w.heap.size, j, none⟩ := by unfold Addr.add; split <;> simp_all
  rw [hadd, World.cell?_alloc_at _ _ _ _ rfl]
  rw [← hj]; simp

theorem rel_more {w2 : World} {base n : Nat} {ad : Option Addr} {c : Nat} {acc : List M.Tk} {t : M.Tk} (h : w2.ownsRow base 32 3 (.slice ad n c) n (rows acc ++ [.int .i64 t.kind, .string ⟨t.text.toArray⟩, .int .i64 (t.at' : Int)])) :
    w2.ownsRow base 32 3 (.slice ad n c) n (rows (acc ++ [t])) := by rw [rows_snoc]; exact h

theorem rel_below' {w wr w2 : World} {o o2 : Obj} {v : Value} {n : Nat} {xs : List Value} (hnx : Below (w.heap.size + 1) (w.alloc o) wr) (hown : wr.ownsRow (w.heap.size + 1) 32 3 v n xs)
    (hg : (wr.alloc o2).grownBy w2 v.ownBlock) : Below (w.heap.size + 1) (w.alloc o) w2 := by
  have hsz : w.heap.size + 1 ≤ wr.heap.size := by have := hnx.size; simpa using this
  exact (hnx.alloc hsz o2).grown hg (by simp; omega) (fun k hk => (hown.lt k hk).1)

theorem rel_below {w wr w1 w2 : World} {o o2 o3 : Obj} {v : Value} {n : Nat} {xs : List Value} (hnx : Below (w.heap.size + 1) (w.alloc o) wr) (hb : Below wr.heap.size wr w1) (hown : wr.ownsRow (w.heap.size + 1) 32 3 v n xs)
    (hg : ((w1.alloc o2).alloc o3).grownBy w2 v.ownBlock) : Below (w.heap.size + 1) (w.alloc o) w2 := by
  have hsz : w.heap.size + 1 ≤ wr.heap.size := by have := hnx.size; simpa using this
  have h1 := hnx.trans (hb.mono hsz)
  have hsz1 : w.heap.size + 1 ≤ w1.heap.size := Nat.le_trans hsz hb.size
  exact ((h1.alloc hsz1 o2).alloc (by simp; omega) o3).grown hg (by simp; omega) (fun k hk => (hown.lt k hk).1)

theorem ans_ok {w w2 : World} {o : Obj} {ad : Option Addr} {c n : Nat} {acc : List M.Tk} {L : Nat} (ho : w2.ownsRow (w.heap.size + 1) 32 3 (.slice ad (acc.length + 1) c) (acc.length + 1) (rows (acc ++ [⟨6, [], L⟩])))
    (hb : Below (w.heap.size + 1) (w.alloc o) w2) (v0 v1 : Value) : Ans (acc ++ [⟨6, [], L⟩], 0, n) w (.returned (.tuple #[.slice ad (acc.length + 1) c, .agg #[.int .i64 0, .int .i64 (n : Int)]])) ((w2.setCell ⟨w.heap.size, 0, none⟩ v0).setCell ⟨w.heap.size, 1, none⟩ v1) := by
  refine ⟨ad, c, by simp, ?_, ((((Below.refl _ _).alloc (Nat.le_refl _) o).trans (hb.mono (by omega))).setCell (by simp) _).setCell (by simp) _⟩
  have := ownsRow_base (ownsRow_setCell_below (ownsRow_setCell_below ho (a := ⟨w.heap.size, 0, none⟩) (by simp) v0) (a := ⟨w.heap.size, 1, none⟩) (by simp) v1) (Nat.le_succ _)
  simpa using this

set_option maxHeartbeats 1000000 in
theorem scan_any (s : ByteArray) (w : World) (hs : s.size ≤ maxLen) : Calls Try.prog 5 #[.string s] w (Ans (M.scan s.data.toList) w) := by
  have hR : Hid (M.scan s.data.toList = if 4000 < s.size then ([], 2, 0) else M.scanF (s.size + 1) s.data.toList 0 []) := by show _ = _; unfold M.scan; rw [bl]
  generalize M.scan s.data.toList = R at *
  unfold maxLen at hs
  by_cases hbig : (4000 : Int) < s.size
  · go_enter Try.func5, Try.ntmps5
    go_wp2
    rw [hR.out, if_pos (by omega)]
    exact bodyPost_ret (v := .tuple #[.slice none 0 0, .agg #[.int .i64 2, .int .i64 ((0 : Nat) : Int)]]) (by simp [results, Try.results5, go_sem]) rfl (ans_fault 2 0 ((Below.refl _ _).alloc (Nat.le_refl _) _))
  · rw [if_neg (by omega)] at hR
    go_enter Try.func5, Try.ntmps5
    go_wp2_with fail
    refine (skip_any s 0 _ (by omega) (by omega)).mono ?_
    rintro e w1 ⟨rfl, rfl⟩
    have hle := M.sp_le M.blank (s.data.toList.drop 0)
    rw [List.length_drop, bl] at hle
    have hle2 : 0 + M.sp M.blank (s.data.toList.drop 0) ≤ s.size := by omega
    clear hle
    rw [M.scanF_skip] at hR
    have h0 : Hid (M.sp M.blank (s.data.toList.drop (0 + M.sp M.blank (s.data.toList.drop 0))) = 0) := by
      have h := M.sp_drop M.blank (s.data.toList.drop 0)
      rw [List.drop_drop] at h
      exact h
    generalize 0 + M.sp M.blank (s.data.toList.drop 0) = a at *
    go_wp2_with fail
    go_loopw [4, 5] (fun v i wr => ∃ (a f : Nat) (acc : List M.Tk) (ad : Option Addr) (c : Nat), a ≤ s.size ∧ i = .int .i64 a ∧ Hid (M.sp M.blank (s.data.toList.drop a) = 0) ∧ s.size - a < f + 1 ∧ Hid (R = M.scanF (f + 1) s.data.toList a acc) ∧ acc.length ≤ 1000 ∧ v = .slice ad acc.length c ∧
        Hid (wr.ownsRow (w.heap.size + 1) 32 3 (.slice ad acc.length c) acc.length (rows acc)) ∧ Hid (Below (w.heap.size + 1) (w.alloc (Obj.cells #[Value.int IntKind.i64 0, Value.int IntKind.i64 0] 25)) wr)) (fun _ i _ => s.size - (intOf i).toNat)
    case atStart => exact ⟨a, s.size, [], none, 0, by omega, rfl, h0, by omega, hR, by simp, rfl, World.ownsRow_nil _ _ _ _, Below.refl _ _⟩
    case round =>
      clear hR h0 hle2
      obtain ⟨a, f, acc, ad, c, ha, rfl, hbl, hf, hR, hacc, rfl, hown, hnx⟩ := hrel
      have HR := hR.out
      rw [M.scanF_at _ _ _ _ hbl.out, bl] at HR
      clear hR hbl
      obtain ⟨hwc, hwf, hwz⟩ := old_cell hnx.out
      by_cases hlt : a < s.size
      · rw [if_neg (by omega)] at HR
        go_wp2_with fail
        refine (first_any _ _ (Nat.le_trans (ext_size _ _ _) (by omega)) (by rw [ByteArray.size_extract]; omega)).mono ?_
        rintro e w1 ⟨rfl, hb⟩
        rw [ext_end]
        have hfl := M.first_le (s.data.toList.drop a)
        rw [List.length_drop, bl] at hfl
        generalize M.first (s.data.toList.drop a) = r at *
        obtain ⟨k, t, n⟩ := r
        simp only at HR hfl
        unfold res
        have HRR := hide HR
        clear HR
        obtain ⟨hc, hfz⟩ := bcell hb
        have q0 : w1.cell? ⟨w.heap.size, 0, none⟩ = some (.int .i64 0) := (hc _ _ hwz).trans (hwc 0 _ rfl)
        have q1 : w1.cell? ⟨w.heap.size, 1, none⟩ = some (.int .i64 0) := (hc _ _ hwz).trans (hwc 1 _ rfl)
        have z0 : ∀ o, w1.frozen? ⟨w.heap.size, o, none⟩ = false := fun o => (hfz _ _ hwz).trans (hwf o)
        have hz : w.heap.size < w1.heap.size := Nat.lt_of_lt_of_le hwz hb.size
        have HB := hide hb
        clear hc hfz hb hwc hwf
        by_cases hn : n = 0
        · subst hn
          go_wp2_with fail
          rw [HRR.out, if_pos (by trivial)]
          exact bodyPost_ret (v := .tuple #[.slice none 0 0, .agg #[.int .i64 1, .int .i64 (a : Int)]]) (by simp [results, Try.results5, go_sem, q0, q1, hz]) rfl (ans_fault 1 a (below_fault hnx.out HB.out _ _))
        · have hn' : ((n : Int) == 0) = false := by simp; omega
          have HRR2 := HRR.out
          rw [if_neg hn] at HRR2
          have HR3 := hide HRR2
          clear HRR2 HRR
          by_cases hm : acc.length = 1000
          · have hm' : ((acc.length : Int) == 1000) = true := by simp; omega
            rw [if_pos hm] at HR3
            clear hm
            go_wp2_with fail
            rw [HR3.out]
            exact bodyPost_ret (v := .tuple #[.slice none 0 0, .agg #[.int .i64 2, .int .i64 (a : Int)]]) (by simp [results, Try.results5, go_sem, q0, q1, hz]) rfl (ans_fault 2 a (below_fault hnx.out HB.out _ _))
          · have hm' : ((acc.length : Int) == 1000) = false := by simp; omega
            rw [if_neg hm] at HR3
            have hm2 : acc.length < 1000 := by omega
            clear hm
            obtain ⟨i0, hi, hz0, hz1, hz2⟩ := info_parts Try.info32
            have hw2 := (ownsRow_below hown.out HB.out).alloc (.cells #[Value.int IntKind.i64 k, Value.string { data := t.toArray }, Value.int IntKind.i64 (a : Int)] 32)
            have hw3 := hide (hw2.alloc (.cells #[Value.int IntKind.i64 k, Value.string { data := t.toArray }, Value.int IntKind.i64 (a : Int)] 32))
            clear hw2
            go_wp2_with (at_builtin; refine wpList_append_own _ rfl _ _ 22 rfl (w.heap.size + 1) 32 i0 (.agg #[.int .i64 0, .string ⟨#[]⟩, .int .i64 0]) 3 32 Try.underlying22 hi hz0 hz1 hz2 rfl (by decide) _ _ _ rfl hw3.out ⟨w1.heap.size + 1, 0, none⟩ 1 1 [.int .i64 k, .string ⟨t.toArray⟩, .int .i64 (a : Int)] rfl rfl ?c1 ?c2 ?c3 ?c4 ?c5 ?_)
            case c1 => exact cell_three_new _ _ _ _ _ _
            case c2 => intro u hu; simp at hu; rcases hu with rfl | rfl | rfl <;> rfl
            case c3 => simp only [maxLen]; omega
            case c4 => omega
            case c5 => simp; omega
            · intro v' w2 hown2 hg2 _
              obtain ⟨ad2, c2, hv2⟩ := ownsRow_form hown2
              rw [hv2] at hown2 ⊢
              obtain ⟨f', rfl⟩ : ∃ f', f = f' + 1 := ⟨f - 1, by omega⟩
              rw [M.scanF_skip] at HR3
              have hsk := M.sp_le M.blank (s.data.toList.drop (a + n))
              rw [List.length_drop, bl] at hsk
              have hbl := hide (M.sp_drop M.blank (s.data.toList.drop (a + n)))
              rw [List.drop_drop] at hbl
              have HO := hide (rel_more (t := ⟨k, t, a⟩) hown2)
              have HBB := hide (rel_below hnx.out HB.out hown.out hg2)
              clear hown2 hg2 hown hnx HB hw3
              go_wp2_with fail
              rw [show ((a : Int) + (n : Int)) = ((a + n : Nat) : Int) from by omega]
              refine (skip_any s (a + n) _ (by omega) (by omega)).mono ?_
              rintro e w3 ⟨rfl, rfl⟩
              generalize hsp : M.sp M.blank (s.data.toList.drop (a + n)) = b at *
              clear hsp
              go_wp2_with fail
              go_roundw
              case rel => exact ⟨a + n + b, f', _, ad2, c2, by omega, rfl, hbl, by omega, HR3, by simp; omega, by simp, by have := HO.out; show World.ownsRow _ _ _ _ _ _ _; simpa using this, HBB⟩
              case measure => simp [intOf]; omega
      · rw [if_pos (by omega)] at HR
        have HR3 := hide HR
        clear HR
        have hz : w.heap.size < wr.heap.size := hwz
        obtain ⟨i0, hi, hz0, hz1, hz2⟩ := info_parts Try.info32
        have hw3 := hide (hown.out.alloc (.cells #[Value.int IntKind.i64 6, Value.string { data := #[] }, Value.int IntKind.i64 (s.size : Int)] 32))
        go_wp2_with (at_builtin; refine wpList_append_own _ rfl _ _ 22 rfl (w.heap.size + 1) 32 i0 (.agg #[.int .i64 0, .string ⟨#[]⟩, .int .i64 0]) 3 32 Try.underlying22 hi hz0 hz1 hz2 rfl (by decide) _ _ _ rfl hw3.out ⟨wr.heap.size, 0, none⟩ 1 1 [.int .i64 6, .string ⟨#[]⟩, .int .i64 (s.size : Int)] rfl rfl ?c1 ?c2 ?c3 ?c4 ?c5 ?_)
        case c1 => exact cell_three_one _ _ _ _ _
        case c2 => intro u hu; simp at hu; rcases hu with rfl | rfl | rfl <;> rfl
        case c3 => simp only [maxLen]; omega
        case c4 => omega
        case c5 => simp; omega
        · intro v' w2 hown2 hg2 _
          obtain ⟨ad2, c2, hv2⟩ := ownsRow_form hown2
          rw [hv2] at hown2 ⊢
          have HO := hide (rel_more (t := ⟨6, [], s.size⟩) hown2)
          have HBB := hide (rel_below' hnx.out hown.out hg2)
          clear hown2 hg2 hown hnx hw3 hwc hwf hwz hv2
          obtain ⟨hwc, hwf, hwz⟩ := old_cell HBB.out
          have q0 : w2.cell? ⟨w.heap.size, 0, none⟩ = some (.int .i64 0) := hwc 0 _ rfl
          have q1 : w2.cell? ⟨w.heap.size, 1, none⟩ = some (.int .i64 0) := hwc 1 _ rfl
          clear hwc
          go_wp2_with fail
          rw [HR3.out]
          exact bodyPost_ret (v := .tuple #[.slice ad2 (acc.length + 1) c2, .agg #[.int .i64 0, .int .i64 ((0 : Nat) : Int)]]) (by simp [results, Try.results5, go_sem, q0, q1]) rfl (ans_ok HO.out HBB.out _ _)
end Go.Proofs.Ythaffghlalnjaaa
