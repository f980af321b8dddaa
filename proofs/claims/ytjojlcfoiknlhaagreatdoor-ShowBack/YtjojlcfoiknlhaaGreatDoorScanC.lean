/-
  The contract of Scan: it returns the tokens, in memory of its own, or the first fault.
  The contract of tree.Type: it returns the types of the text, in memory of its own, or the first fault.
-/
import Derived.Test.YtjojlcfoiknlhaaGreatDoorScanB
import Derived.Test.YtjojlcfoiknlhaaGreatDoorPlainA
import Derived.Test.YtjojlcfoiknlhaaGreatDoorParseA
import Derived.Test.YtjojlcfoiknlhaaGreatDoorWho
namespace Go.Proofs.YtjojlcfoiknlhaaGreatDoor
open Go.RowKit

theorem Tryz.info60 : (Tryz.prog.info? 60).map (fun i => (i.zero, i.size, i.bytes)) = some (some (.agg #[.int .i64 0, .string ⟨#[]⟩, .int .i64 0]), 3, 32) := by kernel_rfl

/-- The answer of a scan: the tokens in new memory, and the fault. -/
def Ans (R : List M.Tk × Int × Nat) (w : World) (e : Ending) (w' : World) : Prop :=
  ∃ ad c, e = .returned (.tuple #[.slice ad R.1.length c, .agg #[.int .i64 R.2.1, .int .i64 (R.2.2 : Int)]]) ∧ w'.ownsRow w.heap.size 60 3 (.slice ad R.1.length c) R.1.length (rows R.1) ∧ Below w.heap.size w w'

theorem ownsRow_base {w : World} {base base' : Nat} {e : TypeId} {size : Nat} {v : Value} {n : Nat} {xs : List Value} (h : w.ownsRow base e size v n xs) (hb : base' ≤ base) : w.ownsRow base' e size v n xs := by
  obtain ⟨h1, h2⟩ := h
  refine ⟨h1, ?_⟩
  rcases h2 with h2 | ⟨g, cap, cur, hv, hg, r⟩
  · exact .inl h2
  · exact .inr ⟨g, cap, cur, hv, Nat.le_trans hb hg, r⟩

theorem ownsRow_form {w : World} {base : Nat} {e : TypeId} {size : Nat} {v : Value} {n : Nat} {xs : List Value} (h : w.ownsRow base e size v n xs) : ∃ ad c, v = .slice ad n c := by
  rcases h.2 with ⟨rfl, rfl⟩ | ⟨g, cap, cur, hv, _⟩
  · exact ⟨_, _, rfl⟩
  · exact ⟨_, _, hv⟩

theorem ans_fault {w w' : World} (e : Int) (a : Nat) (hb : Below w.heap.size w w') : Ans ([], e, a) w (.returned (.tuple #[.slice none 0 0, .agg #[.int .i64 e, .int .i64 (a : Int)]])) w' :=
  ⟨none, 0, rfl, World.ownsRow_nil _ _ _ _, hb⟩

theorem old_cell {w wr : World} {cs : Array Value} {t : TypeId} (h : Below (w.heap.size + 1) (w.alloc (.cells cs t)) wr) :
    (∀ o v, cs[o]? = some v → wr.cell? ⟨w.heap.size, o, none⟩ = some v) ∧ (∀ o, wr.frozen? ⟨w.heap.size, o, none⟩ = false) ∧ w.heap.size < wr.heap.size := by
  refine ⟨fun o v hv => ?_, fun o => ?_, ?_⟩
  · rw [h.cell (p := ⟨w.heap.size, o, none⟩) (by simp), World.cell?_alloc_new, hv]
  · rw [h.frozen (p := ⟨w.heap.size, o, none⟩) (by simp)]; simp
  · have := h.size; simp at this; omega

theorem below_fault {w wr w1 : World} {o o2 : Obj} (hnx : Below (w.heap.size + 1) (w.alloc o) wr) (hb : Below wr.heap.size wr w1) (v0 v1 : Value) :
    Below w.heap.size w (((w1.setCell ⟨w.heap.size, 0, none⟩ v0).setCell ⟨w.heap.size, 1, none⟩ v1).alloc o2) := by
  have h1 : Below w.heap.size w wr := ((Below.refl _ _).alloc (Nat.le_refl _) o).trans (hnx.mono (by omega))
  have h2 := ((h1.trans (hb.mono h1.size)).setCell (p := ⟨w.heap.size, 0, none⟩) (by simp) v0).setCell (p := ⟨w.heap.size, 1, none⟩) (by simp) v1
  exact h2.alloc h2.size _

theorem ownsRow_below {w w' : World} {base : Nat} {e : TypeId} {size : Nat} {v : Value} {n : Nat} {xs : List Value} (h : w.ownsRow base e size v n xs) (hb : Below w.heap.size w w') : w'.ownsRow base e size v n xs :=
  h.kept (row := none) ⟨hb.os, hb.tape, hb.output, hb.size, fun k hk _ => hb.block k hk⟩ (by cases hv : v.ownBlock <;> simp)

theorem cell_three_new (w : World) (o : Obj) (x y z : Value) (t : TypeId) : ∀ j u, [x, y, z][j]? = some u → ((w.alloc o).alloc (.cells #[x, y, z] t)).cell? ((⟨w.heap.size + 1, 0, none⟩ : Addr).add j) = some u := by
  intro j u hj
  have hadd : (⟨w.heap.size + 1, 0, none⟩ : Addr).add j = ⟨w.heap.size + 1, j, none⟩ := by unfold Addr.add; split <;> simp_all
  rw [hadd, World.cell?_alloc_at _ _ _ _ (by simp)]
  rw [← hj]; simp

theorem cell_three_one (w : World) (x y z : Value) (t : TypeId) : ∀ j u, [x, y, z][j]? = some u → (w.alloc (.cells #[x, y, z] t)).cell? ((⟨w.heap.size, 0, none⟩ : Addr).add j) = some u := by
  intro j u hj
  have hadd : (⟨w.heap.size, 0, none⟩ : Addr).add j = ⟨w.heap.size, j, none⟩ := by unfold Addr.add; split <;> simp_all
  rw [hadd, World.cell?_alloc_at _ _ _ _ rfl]
  rw [← hj]; simp

theorem rel_more {w2 : World} {base n : Nat} {ad : Option Addr} {c : Nat} {acc : List M.Tk} {t : M.Tk} (h : w2.ownsRow base 60 3 (.slice ad n c) n (rows acc ++ [.int .i64 t.kind, .string ⟨t.text.toArray⟩, .int .i64 (t.at' : Int)])) :
    w2.ownsRow base 60 3 (.slice ad n c) n (rows (acc ++ [t])) := by rw [rows_snoc]; exact h

theorem rel_below' {w wr w2 : World} {o o2 : Obj} {v : Value} {n : Nat} {xs : List Value} (hnx : Below (w.heap.size + 1) (w.alloc o) wr) (hown : wr.ownsRow (w.heap.size + 1) 60 3 v n xs)
    (hg : (wr.alloc o2).grownBy w2 v.ownBlock) : Below (w.heap.size + 1) (w.alloc o) w2 := by
  have hsz : w.heap.size + 1 ≤ wr.heap.size := by have := hnx.size; simpa using this
  exact (hnx.alloc hsz o2).grown hg (by simp; omega) (fun k hk => (hown.lt k hk).1)

theorem rel_below {w wr w1 w2 : World} {o o2 o3 : Obj} {v : Value} {n : Nat} {xs : List Value} (hnx : Below (w.heap.size + 1) (w.alloc o) wr) (hb : Below wr.heap.size wr w1) (hown : wr.ownsRow (w.heap.size + 1) 60 3 v n xs)
    (hg : ((w1.alloc o2).alloc o3).grownBy w2 v.ownBlock) : Below (w.heap.size + 1) (w.alloc o) w2 := by
  have hsz : w.heap.size + 1 ≤ wr.heap.size := by have := hnx.size; simpa using this
  have h1 := hnx.trans (hb.mono hsz)
  have hsz1 : w.heap.size + 1 ≤ w1.heap.size := Nat.le_trans hsz hb.size
  exact ((h1.alloc hsz1 o2).alloc (by simp; omega) o3).grown hg (by simp; omega) (fun k hk => (hown.lt k hk).1)

theorem ans_ok {w w2 : World} {o : Obj} {ad : Option Addr} {c n : Nat} {acc : List M.Tk} {L : Nat} (ho : w2.ownsRow (w.heap.size + 1) 60 3 (.slice ad (acc.length + 1) c) (acc.length + 1) (rows (acc ++ [⟨6, [], L⟩])))
    (hb : Below (w.heap.size + 1) (w.alloc o) w2) (v0 v1 : Value) : Ans (acc ++ [⟨6, [], L⟩], 0, n) w (.returned (.tuple #[.slice ad (acc.length + 1) c, .agg #[.int .i64 0, .int .i64 (n : Int)]])) ((w2.setCell ⟨w.heap.size, 0, none⟩ v0).setCell ⟨w.heap.size, 1, none⟩ v1) := by
  refine ⟨ad, c, by simp, ?_, ((((Below.refl _ _).alloc (Nat.le_refl _) o).trans (hb.mono (by omega))).setCell (by simp) _).setCell (by simp) _⟩
  have := ownsRow_base (ownsRow_setCell_below (ownsRow_setCell_below ho (a := ⟨w.heap.size, 0, none⟩) (by simp) v0) (a := ⟨w.heap.size, 1, none⟩) (by simp) v1) (Nat.le_succ _)
  simpa using this

set_option maxHeartbeats 1000000 in
theorem scan_any (s : ByteArray) (w : World) (hs : s.size ≤ maxLen) : Calls Tryz.prog 24 #[.string s] w (Ans (M.scan s.data.toList) w) := by
  have hR : Hid (M.scan s.data.toList = if 4000 < s.size then ([], 2, 0) else M.scanF (s.size + 1) s.data.toList 0 []) := by show _ = _; unfold M.scan; rw [bl]
  generalize M.scan s.data.toList = R at *
  unfold maxLen at hs
  by_cases hbig : (4000 : Int) < s.size
  · go_enter Tryz.func24, Tryz.ntmps24
    go_wp2
    rw [hR.out, if_pos (by omega)]
    exact bodyPost_ret (v := .tuple #[.slice none 0 0, .agg #[.int .i64 2, .int .i64 ((0 : Nat) : Int)]]) (by simp [results, Tryz.results24, go_sem]) rfl (ans_fault 2 0 ((Below.refl _ _).alloc (Nat.le_refl _) _))
  · rw [if_neg (by omega)] at hR
    go_enter Tryz.func24, Tryz.ntmps24
    go_wp2_with fail
    refine (skip_any s 0 _ (by omega) (by omega)).mono ?_
    rintro e w1 ⟨rfl, rfl⟩
    have hle := M.sp_le M.blank (s.data.toList.drop 0)
    rw [List.length_drop, bl] at hle
    have hle2 : 0 + M.sp M.blank (s.data.toList.drop 0) ≤ s.size := by omega
    clear hle
    rw [M.scanF_skip] at hR
    have h0 : Hid (M.sp M.blank (s.data.toList.drop (0 + M.sp M.blank (s.data.toList.drop 0))) = 0) := by
      have h := M.sp_drop M.blank (s.data.toList.drop 0)
      rw [List.drop_drop] at h
      exact h
    generalize 0 + M.sp M.blank (s.data.toList.drop 0) = a at *
    go_wp2_with fail
    go_loopw [4, 5] (fun v i wr => ∃ (a f : Nat) (acc : List M.Tk) (ad : Option Addr) (c : Nat), a ≤ s.size ∧ i = .int .i64 a ∧ Hid (M.sp M.blank (s.data.toList.drop a) = 0) ∧ s.size - a < f + 1 ∧ Hid (R = M.scanF (f + 1) s.data.toList a acc) ∧ acc.length ≤ 1000 ∧ v = .slice ad acc.length c ∧
        Hid (wr.ownsRow (w.heap.size + 1) 60 3 (.slice ad acc.length c) acc.length (rows acc)) ∧ Hid (Below (w.heap.size + 1) (w.alloc (Obj.cells #[Value.int IntKind.i64 0, Value.int IntKind.i64 0] 28)) wr)) (fun _ i _ => s.size - (intOf i).toNat)
    case atStart => exact ⟨a, s.size, [], none, 0, by omega, rfl, h0, by omega, hR, by simp, rfl, World.ownsRow_nil _ _ _ _, Below.refl _ _⟩
    case round =>
      clear hR h0 hle2
      obtain ⟨a, f, acc, ad, c, ha, rfl, hbl, hf, hR, hacc, rfl, hown, hnx⟩ := hrel
      have HR := hR.out
      rw [M.scanF_at _ _ _ _ hbl.out, bl] at HR
      clear hR hbl
      obtain ⟨hwc, hwf, hwz⟩ := old_cell hnx.out
      by_cases hlt : a < s.size
      · rw [if_neg (by omega)] at HR
        go_wp2_with fail
        refine (first_any _ _ (Nat.le_trans (ext_size _ _ _) (by omega)) (by rw [ByteArray.size_extract]; omega)).mono ?_
        rintro e w1 ⟨rfl, hb⟩
        rw [ext_end]
        have hfl := M.first_le (s.data.toList.drop a)
        rw [List.length_drop, bl] at hfl
        generalize M.first (s.data.toList.drop a) = r at *
        obtain ⟨k, t, n⟩ := r
        simp only at HR hfl
        unfold res
        have HRR := hide HR
        clear HR
        obtain ⟨hc, hfz⟩ := bcell hb
        have q0 : w1.cell? ⟨w.heap.size, 0, none⟩ = some (.int .i64 0) := (hc _ _ hwz).trans (hwc 0 _ rfl)
        have q1 : w1.cell? ⟨w.heap.size, 1, none⟩ = some (.int .i64 0) := (hc _ _ hwz).trans (hwc 1 _ rfl)
        have z0 : ∀ o, w1.frozen? ⟨w.heap.size, o, none⟩ = false := fun o => (hfz _ _ hwz).trans (hwf o)
        have hz : w.heap.size < w1.heap.size := Nat.lt_of_lt_of_le hwz hb.size
        have HB := hide hb
        clear hc hfz hb hwc hwf
        by_cases hn : n = 0
        · subst hn
          go_wp2_with fail
          rw [HRR.out, if_pos (by trivial)]
          exact bodyPost_ret (v := .tuple #[.slice none 0 0, .agg #[.int .i64 1, .int .i64 (a : Int)]]) (by simp [results, Tryz.results24, go_sem, q0, q1, hz]) rfl (ans_fault 1 a (below_fault hnx.out HB.out _ _))
        · have hn' : ((n : Int) == 0) = false := by simp; omega
          have HRR2 := HRR.out
          rw [if_neg hn] at HRR2
          have HR3 := hide HRR2
          clear HRR2 HRR
          by_cases hm : acc.length = 1000
          · have hm' : ((acc.length : Int) == 1000) = true := by simp; omega
            rw [if_pos hm] at HR3
            clear hm
            go_wp2_with fail
            rw [HR3.out]
            exact bodyPost_ret (v := .tuple #[.slice none 0 0, .agg #[.int .i64 2, .int .i64 (a : Int)]]) (by simp [results, Tryz.results24, go_sem, q0, q1, hz]) rfl (ans_fault 2 a (below_fault hnx.out HB.out _ _))
          · have hm' : ((acc.length : Int) == 1000) = false := by simp; omega
            rw [if_neg hm] at HR3
            have hm2 : acc.length < 1000 := by omega
            clear hm
            obtain ⟨i0, hi, hz0, hz1, hz2⟩ := info_parts Tryz.info60
            have hw2 := (ownsRow_below hown.out HB.out).alloc (.cells #[Value.int IntKind.i64 k, Value.string { data := t.toArray }, Value.int IntKind.i64 (a : Int)] 60)
            have hw3 := hide (hw2.alloc (.cells #[Value.int IntKind.i64 k, Value.string { data := t.toArray }, Value.int IntKind.i64 (a : Int)] 60))
            clear hw2
            go_wp2_with (at_builtin; refine wpList_append_own _ rfl _ _ 48 rfl (w.heap.size + 1) 60 i0 (.agg #[.int .i64 0, .string ⟨#[]⟩, .int .i64 0]) 3 32 Tryz.underlying48 hi hz0 hz1 hz2 rfl (by decide) _ _ _ rfl hw3.out ⟨w1.heap.size + 1, 0, none⟩ 1 1 [.int .i64 k, .string ⟨t.toArray⟩, .int .i64 (a : Int)] rfl rfl ?c1 ?c2 ?c3 ?c4 ?c5 ?_)
            case c1 => exact cell_three_new _ _ _ _ _ _
            case c2 => intro u hu; simp at hu; rcases hu with rfl | rfl | rfl <;> rfl
            case c3 => simp only [maxLen]; omega
            case c4 => omega
            case c5 => simp; omega
            · intro v' w2 hown2 hg2 _
              obtain ⟨ad2, c2, hv2⟩ := ownsRow_form hown2
              rw [hv2] at hown2 ⊢
              obtain ⟨f', rfl⟩ : ∃ f', f = f' + 1 := ⟨f - 1, by omega⟩
              rw [M.scanF_skip] at HR3
              have hsk := M.sp_le M.blank (s.data.toList.drop (a + n))
              rw [List.length_drop, bl] at hsk
              have hbl := hide (M.sp_drop M.blank (s.data.toList.drop (a + n)))
              rw [List.drop_drop] at hbl
              have HO := hide (rel_more (t := ⟨k, t, a⟩) hown2)
              have HBB := hide (rel_below hnx.out HB.out hown.out hg2)
              clear hown2 hg2 hown hnx HB hw3
              go_wp2_with fail
              rw [show ((a : Int) + (n : Int)) = ((a + n : Nat) : Int) from by omega]
              refine (skip_any s (a + n) _ (by omega) (by omega)).mono ?_
              rintro e w3 ⟨rfl, rfl⟩
              generalize hsp : M.sp M.blank (s.data.toList.drop (a + n)) = b at *
              clear hsp
              go_wp2_with fail
              go_roundw
              case rel => exact ⟨a + n + b, f', _, ad2, c2, by omega, rfl, hbl, by omega, HR3, by simp; omega, by simp, by have := HO.out; show World.ownsRow _ _ _ _ _ _ _; simpa using this, HBB⟩
              case measure => simp [intOf]; omega
      · rw [if_pos (by omega)] at HR
        have HR3 := hide HR
        clear HR
        have hz : w.heap.size < wr.heap.size := hwz
        obtain ⟨i0, hi, hz0, hz1, hz2⟩ := info_parts Tryz.info60
        have hw3 := hide (hown.out.alloc (.cells #[Value.int IntKind.i64 6, Value.string { data := #[] }, Value.int IntKind.i64 (s.size : Int)] 60))
        go_wp2_with (at_builtin; refine wpList_append_own _ rfl _ _ 48 rfl (w.heap.size + 1) 60 i0 (.agg #[.int .i64 0, .string ⟨#[]⟩, .int .i64 0]) 3 32 Tryz.underlying48 hi hz0 hz1 hz2 rfl (by decide) _ _ _ rfl hw3.out ⟨wr.heap.size, 0, none⟩ 1 1 [.int .i64 6, .string ⟨#[]⟩, .int .i64 (s.size : Int)] rfl rfl ?c1 ?c2 ?c3 ?c4 ?c5 ?_)
        case c1 => exact cell_three_one _ _ _ _ _
        case c2 => intro u hu; simp at hu; rcases hu with rfl | rfl | rfl <;> rfl
        case c3 => simp only [maxLen]; omega
        case c4 => omega
        case c5 => simp; omega
        · intro v' w2 hown2 hg2 _
          obtain ⟨ad2, c2, hv2⟩ := ownsRow_form hown2
          rw [hv2] at hown2 ⊢
          have HO := hide (rel_more (t := ⟨6, [], s.size⟩) hown2)
          have HBB := hide (rel_below' hnx.out hown.out hg2)
          clear hown2 hg2 hown hnx hw3 hwc hwf hwz hv2
          obtain ⟨hwc, hwf, hwz⟩ := old_cell HBB.out
          have q0 : w2.cell? ⟨w.heap.size, 0, none⟩ = some (.int .i64 0) := hwc 0 _ rfl
          have q1 : w2.cell? ⟨w.heap.size, 1, none⟩ = some (.int .i64 0) := hwc 1 _ rfl
          clear hwc
          go_wp2_with fail
          rw [HR3.out]
          exact bodyPost_ret (v := .tuple #[.slice ad2 (acc.length + 1) c2, .agg #[.int .i64 0, .int .i64 ((0 : Nat) : Int)]]) (by simp [results, Tryz.results24, go_sem, q0, q1]) rfl (ans_ok HO.out HBB.out _ _)
end Go.Proofs.YtjojlcfoiknlhaaGreatDoor

namespace Go.Proofs.YtjojlcfoiknlhaaGreatDoor
open Go.RowKit

/-- Types that lie in memory from a block on. -/
def TyOwn (w : World) (lo : Nat) (v : Value) (T : List M.Ty) : Prop := ∃ yx, w.ownsRow lo 66 4 v T.length yx ∧ Rws (TyV w (fun g => lo ≤ g)) T yx

def TyAns (l : List UInt8) (w : World) (e : Ending) (w' : World) : Prop :=
  Below w.heap.size w w' ∧ ((∃ er p, M.TRes l (.inl (er, p)) ∧ e = .returned (.tuple #[.slice none 0 0, .agg #[.int .i64 er, .int .i64 p]])) ∨
    ∃ T ad c, M.TRes l (.inr T) ∧ e = .returned (.tuple #[.slice ad T.length c, .agg #[.int .i64 0, .int .i64 0]]) ∧ TyOwn w' w.heap.size (.slice ad T.length c) T)

theorem pst_new {w : World} {B c pb : Nat} (hpb : pb = w.heap.size) {ad : Option Addr} {L : List M.Tk} {ok : Nat → Prop} (hB : B ≤ w.heap.size) (hok : ∀ g, w.heap.size ≤ g → ok g) (hL : 0 < L.length) (ho : w.ownsRow B 60 3 (.slice ad L.length c) L.length (rows L)) :
    Pst (w.alloc (.cells #[.slice ad L.length c, .int .i64 0, .int .i64 0, .slice none 0 0, .slice none 0 0] 53)) B pb (.slice ad L.length c) L ok 0 ⟨0, [], []⟩ := by
  subst hpb
  exact ⟨hB, hL, ⟨by simp, by simp⟩, owns_base (ho.alloc _) (Nat.zero_le _), ⟨hok _ (Nat.le_refl _), fun v g hv hg => by rw [World.cell?_alloc_new] at hv; cases hv; simp [Value.ownBlock] at hg, fun v g hv hg => by rw [World.cell?_alloc_new] at hv; cases hv; simp [Value.ownBlock] at hg⟩, _, _, [], [], heap_alloc_new w _, World.ownsRow_nil _ _ _ _, World.ownsRow_nil _ _ _ _, rfl, rfl⟩

theorem fin_bad {w w4 : World} {l : List UInt8} {er p : Int} {o : Obj} (hb : Below w.heap.size w w4) (hz : w.heap.size < w4.heap.size) (ht : M.TRes l (.inl (er, p))) :
    TyAns l w (.returned (.tuple #[.slice none 0 0, .agg #[.int .i64 er, .int .i64 p]])) (((w4.setCell ⟨w.heap.size, 0, none⟩ (.int .i64 er)).setCell ⟨w.heap.size, 1, none⟩ (.int .i64 p)).alloc o).drew :=
  ⟨(((hb.setCell (by simp) _).setCell (by simp) _).alloc (by simp; omega) _).drew, .inl ⟨er, p, ht, rfl⟩⟩

theorem fin_good {w w4 : World} {l : List UInt8} {ad : Option Addr} {c : Nat} {T : List M.Ty} {yx : List Value} {cs : Array Value} {a b : Value} {o : Obj} (hb : Below w.heap.size w w4) (hz : w.heap.size < w4.heap.size) (hq : w4.heap[w.heap.size]? = some (.cells cs 28 (0, 0)))
    (ho : w4.ownsRow w.heap.size 66 4 (.slice ad T.length c) T.length yx) (hr : Rws (TyV w4 (fun g => w.heap.size ≤ g)) T yx) (ht : M.TRes l (.inr T)) :
    TyAns l w (.returned (.tuple #[.slice ad T.length c, .agg #[.int .i64 0, .int .i64 0]])) (((w4.setCell ⟨w.heap.size, 0, none⟩ a).setCell ⟨w.heap.size, 1, none⟩ b).alloc o) := by
  have hc : Chg (fun k => k = w.heap.size) w4 (((w4.setCell ⟨w.heap.size, 0, none⟩ a).setCell ⟨w.heap.size, 1, none⟩ b).alloc o) :=
    ((Chg.set w4 ⟨w.heap.size, 0, none⟩ a).trans (Chg.set _ ⟨w.heap.size, 1, none⟩ b) (fun _ _ x => x)).trans (Chg.alloc (fun _ => False) _ _) (fun _ _ x => x.elim)
  refine ⟨((hb.setCell (by simp) _).setCell (by simp) _).alloc (by simp; omega) _, .inr ⟨T, ad, c, ht, rfl, yx, owns_chg ho hc (fun g hg hx => ?_), hr.imp (TyV.chg hc (fun g _ _ hx hh => ?_) (fun _ x _ => x))⟩⟩
  · subst hx
    obtain ⟨_, cur, hh⟩ := owns_tag ho _ hg
    rw [hq] at hh
    simp only [Option.some.injEq, Obj.cells.injEq] at hh
    exact absurd hh.2.1 (by decide)
  · subst hx
    obtain ⟨cur, e, hh, he⟩ := hh
    rw [hq] at hh
    simp only [Option.some.injEq, Obj.cells.injEq] at hh
    rcases he with rfl | rfl <;> exact absurd hh.2.1 (by decide)

set_option maxHeartbeats 2000000 in
theorem type_any (s : ByteArray) (w : World) (hs : s.size ≤ maxLen) : Calls Tryz.prog 13 #[.string s] w (TyAns s.data.toList w) := by
  have HS := fun w1 => scan_any s w1 hs
  go_enter Tryz.func13, Tryz.ntmps13
  go_wp2_with fail
  refine (HS _).mono ?_
  clear HS
  rintro e w1 ⟨ad, c, rfl, ho, hb⟩
  obtain ⟨qc, qf, hz⟩ := own_cell (Chg.below hb) (by simp)
  have q0 : w1.cell? ⟨w.heap.size, 0, none⟩ = some (.int .i64 0) := qc 0 _ rfl
  have q1 : w1.cell? ⟨w.heap.size, 1, none⟩ = some (.int .i64 0) := qc 1 _ rfl
  have HB := hide (((Below.refl w.heap.size w).alloc (Nat.le_refl _) (.cells #[.int .i64 0, .int .i64 0] 28)).trans (hb.mono (by simp)))
  have HQ := hide ((hb.block w.heap.size (by simp)).trans (heap_alloc_new w _))
  have HO := hide (owns_base ho (by simp : w.heap.size ≤ _))
  clear qc hb ho
  by_cases he : (M.scan s.data.toList).2.1 = 0
  · have he' : ((M.scan s.data.toList).2.1 != 0) = false := by simp [he]
    obtain ⟨hl1, hl0, hl2⟩ := M.scan_last _ he
    have hw1 : w.heap.size ≤ w1.heap.size := by omega
    have HW := whole_typ_any (w := (w1.alloc (.cells #[.int .i64 0, .int .i64 ((M.scan s.data.toList).2.2 : Int)] 28)).alloc (.cells #[.slice ad (M.scan s.data.toList).1.length c, .int .i64 0, .int .i64 0, .slice none 0 0, .slice none 0 0] 53))
      (B := w.heap.size) (pb := w1.heap.size + 1) (ok := fun g => w.heap.size ≤ g) ⟨hl1, hl2⟩ (fun g hg => by simp at hg; omega) (by simp; omega) (pst_new (by simp) (by simp; omega) (fun g hg => by simp at hg; omega) hl0 (HO.out.alloc _))
    have HE : Hid (∀ o, M.Ev (M.scan s.data.toList).1 (fun r => r.typ 0 ⟨0, [], []⟩) o → M.Ev (M.scan s.data.toList).1 (fun r => r.typ 0 ⟨0, [], []⟩) o) := fun _ h => h
    have HZ := hide he
    clear HO hl2
    go_wp2_with fail
    refine HW.mono ?_
    clear HW
    rintro e w4 ⟨hk, o, hev, hm⟩
    have HQ4 : Hid (w4.heap[w.heap.size]? = some (.cells #[.int .i64 0, .int .i64 0] 28 (0, 0))) := by
      have h2 : ((w1.alloc (.cells #[.int .i64 0, .int .i64 ((M.scan s.data.toList).2.2 : Int)] 28)).alloc (.cells #[.slice ad (M.scan s.data.toList).1.length c, .int .i64 0, .int .i64 0, .slice none 0 0, .slice none 0 0] 53)).heap[w.heap.size]? = some (.cells #[.int .i64 0, .int .i64 0] 28 (0, 0)) := by
        rw [Below.heap_alloc _ _ _ (by simp; omega), Below.heap_alloc _ _ _ hz]
        exact HQ.out
      show _ = _
      rw [hk.block w.heap.size (by simp; omega) (fun x => ?_)]
      · exact h2
      · obtain ⟨cs, e, fz, hh, r⟩ := x.2.1
        rw [h2] at hh
        simp only [Option.some.injEq, Obj.cells.injEq] at hh
        obtain ⟨_, rfl, _⟩ := hh
        rcases r with r | r | r <;> exact absurd r (by decide)
    have z4 : w.heap.size < w4.heap.size := by have := hk.size; simp at this; omega
    have B4 := hide (((HB.out.alloc hw1 _).alloc (by simp; omega) _).trans (hk.below (by simp; omega)))
    have E4 := hide hev
    have y0 : w4.cell? ⟨w.heap.size, 0, none⟩ = some (.int .i64 0) := by rw [cell_of_row w4 _ 0 _ _ _ HQ4.out]; rfl
    have y1 : w4.cell? ⟨w.heap.size, 1, none⟩ = some (.int .i64 0) := by rw [cell_of_row w4 _ 1 _ _ _ HQ4.out]; rfl
    have yf : ∀ o, w4.frozen? ⟨w.heap.size, o, none⟩ = false := fun o => frozen_of_row w4 _ o _ _ HQ4.out
    clear hk hev q0 q1 qf hz HB HE
    cases o with
    | fail er p =>
      obtain ⟨rfl, hne⟩ := hm
      have hne' : (er != 0) = true := by simp [hne]
      have TR := hide (show M.TRes s.data.toList (.inl (er, p)) from ⟨hne, .inr ⟨HZ.out, .inl E4.out⟩⟩)
      clear E4 HQ
      go_wp2_with fail
      go_region
      go_wp2_with fail
      exact bodyPost_ret (v := .tuple #[.slice none 0 0, .agg #[.int .i64 er, .int .i64 p]]) (by simp [results, Tryz.results13, go_sem, y0, y1, z4]) rfl (fin_bad B4.out z4 TR.out)
    | ok s' x =>
      by_cases h6 : (M.tk (M.scan s.data.toList).1 s'.i).kind = 6
      · simp only [h6, if_true] at hm
        by_cases hmany : 1200 < s'.N.length ∨ 300 < s'.T.length
        · rw [if_pos hmany] at hm
          subst hm
          have TR := hide (show M.TRes s.data.toList (.inl (2, 0)) from ⟨by decide, .inr ⟨HZ.out, .inr ⟨s', x, E4.out, by rw [if_pos h6]; exact ⟨hmany, rfl, rfl⟩⟩⟩⟩)
          clear hmany h6
          have hne' : ((2 : Int) != 0) = true := by decide
          clear E4 HQ
          go_wp2_with fail
          go_region
          go_wp2_with fail
          exact bodyPost_ret (v := .tuple #[.slice none 0 0, .agg #[.int .i64 2, .int .i64 0]]) (by simp [results, Tryz.results13, go_sem, y0, y1, z4]) rfl (fin_bad B4.out z4 TR.out)
        · rw [if_neg hmany] at hm
          obtain ⟨rfl, hp⟩ := hm
          have TR := hide (show M.TRes s.data.toList (.inr s'.T) from ⟨HZ.out, s', x, E4.out, h6, by omega, by omega, rfl⟩)
          have PP := hide hp
          obtain ⟨nv, yv, nx, yx, hb, hn, hy, hrn, hry⟩ := hp.blk
          obtain ⟨ya, yc, rfl⟩ := owns_form hy
          have c4 : w4.cell? ⟨w1.heap.size + 1, 4, none⟩ = some (.slice ya s'.T.length yc) := by rw [cell_of_row w4 _ 4 _ _ _ hb]; rfl
          have hlt := (Array.getElem?_eq_some_iff.1 hb).1
          have OO := hide hy
          have RR := hide hry
          clear hp hb hn hy hrn hry hmany h6 E4 HQ
          go_wp2_with fail
          exact bodyPost_ret (v := .tuple #[.slice ya s'.T.length yc, .agg #[.int .i64 0, .int .i64 0]]) (by simp [results, Tryz.results13, go_sem, y0, y1, z4]) rfl (fin_good B4.out z4 HQ4.out OO.out RR.out TR.out)
      · simp only [h6, if_false] at hm
        subst hm
        have TR := hide (show M.TRes s.data.toList (.inl (1, ((M.tk (M.scan s.data.toList).1 s'.i).at' : Int))) from ⟨by decide, .inr ⟨HZ.out, .inr ⟨s', x, E4.out, by rw [if_neg h6]; exact ⟨rfl, rfl⟩⟩⟩⟩)
        clear h6
        generalize ((M.tk (M.scan s.data.toList).1 s'.i).at' : Int) = pp at *
        have hne' : ((1 : Int) != 0) = true := by decide
        clear E4 HQ
        go_wp2_with fail
        go_region
        go_wp2_with fail
        exact bodyPost_ret (v := .tuple #[.slice none 0 0, .agg #[.int .i64 1, .int .i64 pp]]) (by simp [results, Tryz.results13, go_sem, y0, y1, z4]) rfl (fin_bad B4.out z4 TR.out)
  · have he' : ((M.scan s.data.toList).2.1 != 0) = true := by simp [he]
    have TR := hide (show M.TRes s.data.toList (.inl ((M.scan s.data.toList).2.1, ((M.scan s.data.toList).2.2 : Int))) from ⟨he, .inl ⟨rfl, rfl⟩⟩)
    clear HQ HO
    generalize (M.scan s.data.toList).2.1 = er at *
    generalize ((M.scan s.data.toList).2.2 : Int) = p at *
    go_wp2_with fail
    go_region
    go_wp2_with fail
    exact bodyPost_ret (v := .tuple #[.slice none 0 0, .agg #[.int .i64 er, .int .i64 p]]) (by simp [results, Tryz.results13, go_sem, q0, q1, hz]) rfl (fin_bad HB.out hz TR.out)
end Go.Proofs.YtjojlcfoiknlhaaGreatDoor
