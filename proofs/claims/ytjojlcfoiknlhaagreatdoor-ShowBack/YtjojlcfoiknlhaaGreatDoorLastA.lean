/-
  The contract of show.Print.
  show.Type of a text that is 'num | text'.
-/
import Derived.Test.YtjojlcfoiknlhaaGreatDoorPrintC
import Derived.Test.YtjojlcfoiknlhaaGreatDoorPlainE
namespace Go.Proofs.YtjojlcfoiknlhaaGreatDoor
open Go.RowKit

/-- What a program's nodes must be for the printer. -/
structure Trd (N : List M.Nd) (T : List M.Ty) (ps : List M.Nt) : Prop where
  ok : M.TsOk T
  ls : ∀ i (hi : i < T.length), T[i].list.length ≤ 100000 ∧ T[i].fields.length ≤ 1001
  num : ∀ i (h : i < N.length), -9223372036854775808 ≤ N[i].n ∧ N[i].n ≤ 9223372036854775807
  main : ∃ h : N.length - 1 < N.length, M.AtL N T ps N[N.length - 1].list
  gd : ∀ p ∈ ps, M.Gd p ∧ 17 ≤ p.k ∧ p.k ≤ 25 ∧ M.szN p ≤ 1000000
  few : ps.length ≤ 1000000 ∧ N.length ≤ 1200
  len : (M.lines 0 (M.prL 0 ps)).length ≤ 1000000000000

def PnAns (l : List UInt8) (w : World) (e : Ending) (w' : World) : Prop :=
  Below w.heap.size w w' ∧ ((∃ er p, M.PRes l (.inl (er, p)) ∧ e = .returned (.tuple #[.string ⟨#[]⟩, .agg #[.int .i64 er, .int .i64 p]])) ∨
    ∃ N T ps, M.PRes l (.inr (N, T)) ∧ Trd N T ps ∧ ((4000 < (M.lines 0 (M.prL 0 ps)).length ∧ e = .returned (.tuple #[.string ⟨#[]⟩, .agg #[.int .i64 2, .int .i64 0]])) ∨
      ((M.lines 0 (M.prL 0 ps)).length ≤ 4000 ∧ e = .returned (.tuple #[.string ⟨(M.lines 0 (M.prL 0 ps)).toArray⟩, .agg #[.int .i64 0, .int .i64 0]]))))

theorem tyown_still {w w' : World} {lo : Nat} {v : Value} {T : List M.Ty} (h : TyOwn w lo v T) (hc : Chg (fun _ => False) w w') : TyOwn w' 0 v T := by
  obtain ⟨yx, h1, h2⟩ := h
  exact ⟨yx, owns_base (owns_chg h1 hc (fun _ _ x => x)) (Nat.zero_le _), h2.imp (TyV.chg hc (fun _ _ _ x => x.elim) (fun _ _ _ => Nat.zero_le _))⟩
theorem ndown_still {w w' : World} {lo : Nat} {v : Value} {N : List M.Nd} (h : NdOwn w lo v N) (hc : Chg (fun _ => False) w w') : NdOwn w' 0 v N := by
  obtain ⟨nx, h1, h2⟩ := h
  exact ⟨nx, owns_base (owns_chg h1 hc (fun _ _ x => x)) (Nat.zero_le _), h2.imp (NdV.chg hc (fun _ _ _ x => x.elim) (fun _ _ _ => Nat.zero_le _))⟩
theorem lines_ne {d : Nat} {ps : List M.Nt} (h : ps ≠ []) : M.lines d (M.prL d ps) ≠ [] := by
  cases ps with
  | nil => exact absurd rfl h
  | cons p r => simp [M.prL_map, M.lines]

set_option maxHeartbeats 4000000 in
set_option maxRecDepth 100000 in
theorem print_any (s : ByteArray) (w : World) (hs : s.size ≤ maxLen) (ht : Tab w w.heap.size) (hA : ∀ N T, M.PRes s.data.toList (.inr (N, T)) → ∃ ps, Trd N T ps) : Calls Tryz.prog 16 #[.string s] w (PnAns s.data.toList w) := by
  have HP := hide (fun w1 => parse_any s w1 hs)
  go_enter Tryz.func16, Tryz.ntmps16
  go_wp2_with fail
  refine (HP.out _).mono ?_
  clear HP
  rintro e w1 ⟨hb, hr⟩
  have hz : w.heap.size < w1.heap.size := by have := hb.size; simp at this; omega
  have QF : Hid (w1.heap[w.heap.size]? = some (.cells #[.int .i64 0, .int .i64 0] 28 (0, 0))) := by
    show _ = _
    rw [hb.block w.heap.size (by simp)]
    exact heap_alloc_new w _
  have HB := hide (((Below.refl w.heap.size w).alloc (Nat.le_refl _) (.cells #[.int .i64 0, .int .i64 0] 28)).trans (hb.mono (by simp)))
  have p0 : w1.cell? ⟨w.heap.size, 0, none⟩ = some (.int .i64 0) := by rw [cell_of_row w1 _ 0 _ _ _ QF.out]; rfl
  have p1 : w1.cell? ⟨w.heap.size, 1, none⟩ = some (.int .i64 0) := by rw [cell_of_row w1 _ 1 _ _ _ QF.out]; rfl
  have pf : ∀ o, w1.frozen? ⟨w.heap.size, o, none⟩ = false := fun o => frozen_of_row w1 _ o _ _ QF.out
  rcases hr with ⟨er, p, hres, rfl⟩ | ⟨N, T, na, nc, ya, yc, hres, rfl, hN, hT⟩
  · have hne : er ≠ 0 := hres.1
    have hne' : (er != 0) = true := by simp [hne]
    have TR := hide hres
    clear hb hres
    go_wp2_with fail
    go_region
    all_goals go_wp2_with fail
    exact bodyPost_ret (v := .tuple #[.string ⟨#[]⟩, .agg #[.int .i64 er, .int .i64 p]]) (by simp [results, Tryz.results16, go_sem, p0, p1, hz]) rfl ⟨((((HB.out.setCell (by simp) _).setCell (by simp) _).alloc (by simp; omega) _).alloc (by simp; omega) _).drew, .inl ⟨er, p, TR.out, rfl⟩⟩
  · obtain ⟨ps, htr⟩ := hA N T hres
    have TR := hide hres
    have TD := hide htr
    have ON := hide hN
    have OT := hide hT
    have TB : Hid (Tab w1 w.heap.size) := tab_chg (tab_chg ht (Chg.alloc (fun _ => False) _ (.cells #[.int .i64 0, .int .i64 0] 28)) (fun _ _ x => x)) (Chg.below hb) (fun k hk x => by simp at x; omega)
    clear hb hres htr hN hT ht hA
    have hc3 : Chg (fun _ => False) w1 (((w1.alloc (.cells #[.slice na N.length nc, .slice ya T.length yc, .int .i64 ((N.length : Int) - 1)] 25)).alloc (.cells #[.int .i64 0, .int .i64 0] 28)).alloc (.cells #[.pointer none, .slice none 0 0, .slice ya T.length yc, .bool false, .slice na N.length nc, .int .i64 0] 80)) := ((Chg.alloc (fun _ => False) _ _).trans (Chg.alloc (fun _ => False) _ _) (fun _ _ x => x)).trans (Chg.alloc (fun _ => False) _ _) (fun _ _ x => x)
    have hb3 : (((w1.alloc (.cells #[.slice na N.length nc, .slice ya T.length yc, .int .i64 ((N.length : Int) - 1)] 25)).alloc (.cells #[.int .i64 0, .int .i64 0] 28)).alloc (.cells #[.pointer none, .slice none 0 0, .slice ya T.length yc, .bool false, .slice na N.length nc, .int .i64 0] 80)).heap[w1.heap.size + 1 + 1]? = some (.cells #[.pointer none, .slice none 0 0, .slice ya T.length yc, .bool false, .slice na N.length nc, .int .i64 0] 80 (0, 0)) := by
      have := heap_alloc_new ((w1.alloc (.cells #[.slice na N.length nc, .slice ya T.length yc, .int .i64 ((N.length : Int) - 1)] 25)).alloc (.cells #[.int .i64 0, .int .i64 0] 28)) (.cells #[.pointer none, .slice none 0 0, .slice ya T.length yc, .bool false, .slice na N.length nc, .int .i64 0] 80)
      simpa using this
    have htab : Tab (((w1.alloc (.cells #[.slice na N.length nc, .slice ya T.length yc, .int .i64 ((N.length : Int) - 1)] 25)).alloc (.cells #[.int .i64 0, .int .i64 0] 28)).alloc (.cells #[.pointer none, .slice none 0 0, .slice ya T.length yc, .bool false, .slice na N.length nc, .int .i64 0] 80)) (w.heap.size + 1) := by
      obtain ⟨t1, g, t2, t3, t4⟩ := TB.out
      exact tab_chg ⟨t1, g, t2, by omega, t4⟩ hc3 (fun _ _ x => x)
    have hp := psp_new (B := w.heap.size + 1) (by omega) hb3 TD.out.ok (tyown_still OT.out hc3) (ndown_still ON.out hc3) htab
    obtain ⟨hzm, hat⟩ := TD.out.main
    have hB3 : w.heap.size + 1 ≤ (((w1.alloc (.cells #[.slice na N.length nc, .slice ya T.length yc, .int .i64 ((N.length : Int) - 1)] 25)).alloc (.cells #[.int .i64 0, .int .i64 0] 28)).alloc (.cells #[.pointer none, .slice none 0 0, .slice ya T.length yc, .bool false, .slice na N.length nc, .int .i64 0] 80)).heap.size := Nat.le_trans (by omega) hc3.size
    have hbf : (((w1.alloc (.cells #[.slice na N.length nc, .slice ya T.length yc, .int .i64 ((N.length : Int) - 1)] 25)).alloc (.cells #[.int .i64 0, .int .i64 0] 28)).alloc (.cells #[.pointer none, .slice none 0 0, .slice ya T.length yc, .bool false, .slice na N.length nc, .int .i64 0] 80)).heap[w.heap.size]? = some (.cells #[.int .i64 0, .int .i64 0] 28 (0, 0)) := (hc3.block _ hz (fun x => x)).trans QF.out
    have HB3 := hide (HB.out.trans (Chg.toBelow hc3 (fun _ _ x => x.elim) (by omega)))
    have em : ((N.length - 1 : Nat) : Int) = (N.length : Int) - 1 := by omega
    have hlen := TD.out.len
    by_cases hps : ps = []
    · subst hps
      have hli : N[N.length - 1].list = [] := by rw [M.AtL] at hat; exact hat
      have HS := hide (statements_nil (N.length - 1) hzm _ [] hli hp)
      rw [em] at HS
      have HN := hide (blen_any hp.sp.wrt)
      have HStr := hide (bstring_nil (wb := w1.heap.size + 1 + 1) hb3 rfl)
      have q0 : (((w1.alloc (.cells #[.slice na N.length nc, .slice ya T.length yc, .int .i64 ((N.length : Int) - 1)] 25)).alloc (.cells #[.int .i64 0, .int .i64 0] 28)).alloc (.cells #[.pointer none, .slice none 0 0, .slice ya T.length yc, .bool false, .slice na N.length nc, .int .i64 0] 80)).cell? ⟨w.heap.size, 0, none⟩ = some (.int .i64 0) := by rw [cell_of_row _ _ 0 _ _ _ hbf]; rfl
      have q1 : (((w1.alloc (.cells #[.slice na N.length nc, .slice ya T.length yc, .int .i64 ((N.length : Int) - 1)] 25)).alloc (.cells #[.int .i64 0, .int .i64 0] 28)).alloc (.cells #[.pointer none, .slice none 0 0, .slice ya T.length yc, .bool false, .slice na N.length nc, .int .i64 0] 80)).cell? ⟨w.heap.size, 1, none⟩ = some (.int .i64 0) := by rw [cell_of_row _ _ 1 _ _ _ hbf]; rfl
      have qf : ∀ o, (((w1.alloc (.cells #[.slice na N.length nc, .slice ya T.length yc, .int .i64 ((N.length : Int) - 1)] 25)).alloc (.cells #[.int .i64 0, .int .i64 0] 28)).alloc (.cells #[.pointer none, .slice none 0 0, .slice ya T.length yc, .bool false, .slice na N.length nc, .int .i64 0] 80)).frozen? ⟨w.heap.size, o, none⟩ = false := fun o => frozen_of_row _ _ o _ _ hbf
      have hz5 : w.heap.size < (((w1.alloc (.cells #[.slice na N.length nc, .slice ya T.length yc, .int .i64 ((N.length : Int) - 1)] 25)).alloc (.cells #[.int .i64 0, .int .i64 0] 28)).alloc (.cells #[.pointer none, .slice none 0 0, .slice ya T.length yc, .bool false, .slice na N.length nc, .int .i64 0] 80)).heap.size := by omega
      clear hp hbf hb3 htab hB3 hc3 p0 p1 pf hz
      go_wp2_with fail
      refine HS.out.mono ?_
      rintro e w5 ⟨rfl, rfl⟩
      clear HS
      generalize (((w1.alloc (.cells #[.slice na N.length nc, .slice ya T.length yc, .int .i64 ((N.length : Int) - 1)] 25)).alloc (.cells #[.int .i64 0, .int .i64 0] 28)).alloc (.cells #[.pointer none, .slice none 0 0, .slice ya T.length yc, .bool false, .slice na N.length nc, .int .i64 0] 80)) = w5 at *
      go_wp2_with fail
      refine HN.out.mono ?_
      rintro e w6 ⟨rfl, rfl⟩
      clear HN
      go_wp2_with fail
      refine HStr.out.mono ?_
      rintro e w7 ⟨rfl, rfl⟩
      clear HStr
      go_wp2_with fail
      exact bodyPost_ret (v := .tuple #[.string ⟨#[]⟩, .agg #[.int .i64 0, .int .i64 0]]) (by simp [results, Tryz.results16, go_sem, q0, q1]) rfl ⟨((HB3.out.drew).setCell (by simp) _).setCell (by simp) _, .inr ⟨N, T, [], TR.out, TD.out, .inr ⟨by simp [M.prL, M.lines], by simp [M.prL, M.lines]⟩⟩⟩
    · have HS := hide (statements_any (print_all TD.out.ls TD.out.num 1000000).2.1 (N.length - 1) 0 hzm ps _ [] (fun p hm => by obtain ⟨g1, g2, g3, g4⟩ := TD.out.gd p hm; exact ⟨g4, g1, g2, g3⟩) (fun p hm => by have := (TD.out.gd p hm).2.2.2; omega) hat hp hB3 (by omega) TD.out.few.1 (by simp; omega))
      rw [em] at HS
      have FO : Hid (∀ a, Wkp (w.heap.size + 1) (w1.heap.size + 1 + 1) (((w1.alloc (.cells #[.slice na N.length nc, .slice ya T.length yc, .int .i64 ((N.length : Int) - 1)] 25)).alloc (.cells #[.int .i64 0, .int .i64 0] 28)).alloc (.cells #[.pointer none, .slice none 0 0, .slice ya T.length yc, .bool false, .slice na N.length nc, .int .i64 0] 80)) a → a.heap[w.heap.size]? = some (.cells #[.int .i64 0, .int .i64 0] 28 (0, 0))) := fun a ha => ha.other hp.sp.wrt hbf (by decide) (by decide)
      have HL := hide (lines_ne (d := 0) hps)
      clear hp hbf hb3 htab
      generalize hll : M.lines 0 (M.prL 0 ps) = LL at *
      have HLL := hide hll
      clear hll
      go_wp2_with fail
      refine HS.out.mono ?_
      rintro e w5 ⟨rfl, h1, h2⟩
      rw [List.nil_append] at h2
      have q5 := FO.out w5 h1
      have q0 : w5.cell? ⟨w.heap.size, 0, none⟩ = some (.int .i64 0) := by rw [cell_of_row w5 _ 0 _ _ _ q5]; rfl
      have q1 : w5.cell? ⟨w.heap.size, 1, none⟩ = some (.int .i64 0) := by rw [cell_of_row w5 _ 1 _ _ _ q5]; rfl
      have qf : ∀ o, w5.frozen? ⟨w.heap.size, o, none⟩ = false := fun o => frozen_of_row w5 _ o _ _ q5
      have hz5 := (Array.getElem?_eq_some_iff.1 q5).1
      have B5 := hide (HB3.out.trans ((h1.below hB3).mono (by omega)))
      have HN := hide (blen_any h2)
      have HStr := hide (bstring_any h2 HL.out)
      have Q5 := hide q5
      clear h1 h2 q5 HS FO hB3 hc3
      go_wp2_with fail
      refine HN.out.mono ?_
      rintro e w6 ⟨rfl, rfl⟩
      clear HN
      by_cases hbig : 4000 < LL.length
      · have hbig' : (4000 : Int) < (LL.length : Int) := by omega
        go_wp2_with fail
        exact bodyPost_ret (v := .tuple #[.string ⟨#[]⟩, .agg #[.int .i64 2, .int .i64 0]]) (by simp [results, Tryz.results16, go_sem, q0, q1]) rfl ⟨(B5.out.setCell (by simp) _).setCell (by simp) _, .inr ⟨N, T, ps, TR.out, TD.out, .inl ⟨by rw [HLL.out]; exact hbig, rfl⟩⟩⟩
      · have hbig' : ¬ (4000 : Int) < (LL.length : Int) := by omega
        go_wp2_with fail
        refine HStr.out.mono ?_
        rintro e w7 ⟨rfl, hb7⟩
        have q7 := (hb7.block w.heap.size (by omega)).trans Q5.out
        have r0 : w7.cell? ⟨w.heap.size, 0, none⟩ = some (.int .i64 0) := by rw [cell_of_row w7 _ 0 _ _ _ q7]; rfl
        have r1 : w7.cell? ⟨w.heap.size, 1, none⟩ = some (.int .i64 0) := by rw [cell_of_row w7 _ 1 _ _ _ q7]; rfl
        have rf : ∀ o, w7.frozen? ⟨w.heap.size, o, none⟩ = false := fun o => frozen_of_row w7 _ o _ _ q7
        have hz7 := (Array.getElem?_eq_some_iff.1 q7).1
        have B7 := hide (B5.out.trans (hb7.mono (by omega)))
        clear hb7 q7 HStr
        go_wp2_with fail
        exact bodyPost_ret (v := .tuple #[.string ⟨LL.toArray⟩, .agg #[.int .i64 0, .int .i64 0]]) (by simp [results, Tryz.results16, go_sem, r0, r1]) rfl ⟨(B7.out.setCell (by simp) _).setCell (by simp) _, .inr ⟨N, T, ps, TR.out, TD.out, .inr ⟨by rw [HLL.out]; omega, by rw [HLL.out]⟩⟩⟩
end Go.Proofs.YtjojlcfoiknlhaaGreatDoor

namespace Go.Proofs.YtjojlcfoiknlhaaGreatDoor
open Go.RowKit

def wkw : Wk := ⟨false, 78, #[], .inl ⟨rfl, rfl⟩⟩
theorem wtx_wkw (T : List M.Ty) (j : Nat) : wtx wkw T j = M.txt' (M.tr T j) := by simp [wtx, wtr, wkw]
theorem wsp_new {w : World} {B wb : Nat} {ya : Option Addr} {yc : Nat} {T : List M.Ty} (hB : B ≤ wb) (hb : w.heap[wb]? = some (.cells #[.pointer none, .slice none 0 0, .slice ya T.length yc, .bool false] 78 (0, 0))) (hT : M.TsOk T) (hy : TyOwn w 0 (.slice ya T.length yc) T) :
    Wsp w B wb (.slice ya T.length yc) wkw T [] := by
  obtain ⟨yx, hy1, hy2⟩ := hy
  exact ⟨⟨hB, .pointer none, .slice none 0 0, by simpa [wkw] using hb, .inl rfl, World.ownsRow_nil _ _ _ _⟩, hT, yx, hy1, hy2.imp (TyV.chg (Chg.refl (fun _ => False) _) (fun _ _ _ x => x.elim) (fun _ _ _ => trivial))⟩

set_option maxHeartbeats 4000000 in
set_option maxRecDepth 100000 in
theorem showType_at (s : ByteArray) (w : World) (hs : s.size ≤ maxLen) (hT0 : M.TRes s.data.toList (.inr M.btT)) :
    Calls Tryz.prog 19 #[.string s] w fun e w' => e = .returned (.tuple #[.string ⟨[110, 117, 109, 32, 124, 32, 116, 101, 120, 116].toArray⟩, .agg #[.int .i64 0, .int .i64 0]]) ∧ Below w.heap.size w w' := by
  have HP := hide (fun w1 => type_any s w1 hs)
  go_enter Tryz.func19, Tryz.ntmps19
  go_wp2_with fail
  refine (HP.out _).mono ?_
  clear HP
  rintro e w1 ⟨hb, hr⟩
  have hz : w.heap.size < w1.heap.size := by have := hb.size; simp at this; omega
  have QF : Hid (w1.heap[w.heap.size]? = some (.cells #[.int .i64 0, .int .i64 0] 28 (0, 0))) := by
    show _ = _
    rw [hb.block w.heap.size (by simp)]
    exact heap_alloc_new w _
  have HB := hide (((Below.refl w.heap.size w).alloc (Nat.le_refl _) (.cells #[.int .i64 0, .int .i64 0] 28)).trans (hb.mono (by simp)))
  rcases hr with ⟨er, p, hres, rfl⟩ | ⟨T, ya, yc, hres, rfl, hT⟩
  · have := M.tres_one hT0 hres
    cases this
  · obtain rfl : T = M.btT := by
      have := M.tres_one hT0 hres
      simpa using this
    have OT := hide hT
    clear hb hres hT hT0
    have hlT : M.btT.length = 3 := rfl
    have hc3 : Chg (fun _ => False) w1 ((w1.alloc (.cells #[.int .i64 0, .int .i64 0] 28)).alloc (.cells #[.pointer none, .slice none 0 0, .slice ya M.btT.length yc, .bool false] 78)) := (Chg.alloc (fun _ => False) _ _).trans (Chg.alloc (fun _ => False) _ _) (fun _ _ x => x)
    have hb3 : ((w1.alloc (.cells #[.int .i64 0, .int .i64 0] 28)).alloc (.cells #[.pointer none, .slice none 0 0, .slice ya M.btT.length yc, .bool false] 78)).heap[w1.heap.size + 1]? = some (.cells #[.pointer none, .slice none 0 0, .slice ya M.btT.length yc, .bool false] 78 (0, 0)) := by
      have := heap_alloc_new (w1.alloc (.cells #[.int .i64 0, .int .i64 0] 28)) (.cells #[.pointer none, .slice none 0 0, .slice ya M.btT.length yc, .bool false] 78)
      simpa using this
    have hp := wsp_new (B := w.heap.size + 1) (by omega) hb3 M.btT_ok.1 (tyown_still OT.out hc3)
    have hB3 : w.heap.size + 1 ≤ ((w1.alloc (.cells #[.int .i64 0, .int .i64 0] 28)).alloc (.cells #[.pointer none, .slice none 0 0, .slice ya M.btT.length yc, .bool false] 78)).heap.size := Nat.le_trans (by omega) hc3.size
    have hbf : ((w1.alloc (.cells #[.int .i64 0, .int .i64 0] 28)).alloc (.cells #[.pointer none, .slice none 0 0, .slice ya M.btT.length yc, .bool false] 78)).heap[w.heap.size]? = some (.cells #[.int .i64 0, .int .i64 0] 28 (0, 0)) := (hc3.block w.heap.size hz (fun x => x)).trans QF.out
    have HB3 := hide (HB.out.trans (Chg.toBelow hc3 (fun _ _ x => x.elim) (by omega)))
    have etx : wtx wkw M.btT 2 = [110, 117, 109, 32, 124, 32, 116, 101, 120, 116] := by rw [wtx_wkw, M.btT_ok.2]; decide
    have HS := hide (wcon_any (bn := wkw) rfl (fun i hi => by
      have : i = 0 ∨ i = 1 ∨ i = 2 := by omega
      rcases this with rfl | rfl | rfl <;> exact ⟨by show (_ : Nat) ≤ 100000; simp [M.btT], by simp [M.btT]⟩) 3 2 _ [] (by omega) (by omega) hp hB3 (by rw [etx]; decide))
    rw [etx] at HS
    have FO : Hid (∀ a, Wkp (w.heap.size + 1) (w1.heap.size + 1) ((w1.alloc (.cells #[.int .i64 0, .int .i64 0] 28)).alloc (.cells #[.pointer none, .slice none 0 0, .slice ya M.btT.length yc, .bool false] 78)) a → a.heap[w.heap.size]? = some (.cells #[.int .i64 0, .int .i64 0] 28 (0, 0))) := fun a h => by
      rw [h.block w.heap.size (Array.getElem?_eq_some_iff.1 hbf).1 (fun x => by have := x.1; omega)]
      exact hbf
    rw [hlT] at *
    clear hp hbf hb3
    go_wp2_with fail
    refine HS.out.mono ?_
    rintro e w5 ⟨rfl, h1, h2⟩
    rw [List.nil_append] at h2
    have q5 := FO.out w5 h1
    have q0 : w5.cell? ⟨w.heap.size, 0, none⟩ = some (.int .i64 0) := by rw [cell_of_row w5 _ 0 _ _ _ q5]; rfl
    have q1 : w5.cell? ⟨w.heap.size, 1, none⟩ = some (.int .i64 0) := by rw [cell_of_row w5 _ 1 _ _ _ q5]; rfl
    have qf : ∀ o, w5.frozen? ⟨w.heap.size, o, none⟩ = false := fun o => frozen_of_row w5 _ o _ _ q5
    have hz5 := (Array.getElem?_eq_some_iff.1 q5).1
    have B5 := hide (HB3.out.trans ((h1.below hB3).mono (by omega)))
    have HStr := hide (bstring_any h2 (by simp))
    have Q5 := hide q5
    clear h1 h2 q5 HS FO hB3 hc3
    go_wp2_with fail
    refine HStr.out.mono ?_
    rintro e w6 ⟨rfl, hb6⟩
    have q6 : w6.heap[w.heap.size]? = some (.cells #[.int .i64 0, .int .i64 0] 28 (0, 0)) := by rw [hb6.block w.heap.size (by omega)]; exact Q5.out
    have r0 : w6.cell? ⟨w.heap.size, 0, none⟩ = some (.int .i64 0) := by rw [cell_of_row w6 _ 0 _ _ _ q6]; rfl
    have r1 : w6.cell? ⟨w.heap.size, 1, none⟩ = some (.int .i64 0) := by rw [cell_of_row w6 _ 1 _ _ _ q6]; rfl
    have rf : ∀ o, w6.frozen? ⟨w.heap.size, o, none⟩ = false := fun o => frozen_of_row w6 _ o _ _ q6
    have hz6 := (Array.getElem?_eq_some_iff.1 q6).1
    have B6 := hide (B5.out.trans (hb6.mono (by omega)))
    clear HStr hb6 q6 q0 q1 qf
    go_wp2_with fail
    exact bodyPost_ret (v := .tuple #[.string ⟨[110, 117, 109, 32, 124, 32, 116, 101, 120, 116].toArray⟩, .agg #[.int .i64 0, .int .i64 0]]) (by simp [results, Tryz.results19, go_sem, r0, r1]) rfl ⟨rfl, (B6.out.setCell (by simp) _).setCell (by simp) _⟩
end Go.Proofs.YtjojlcfoiknlhaaGreatDoor
