/-
  ShowBack returns true.
-/
import Derived.Test.YtjojlcfoiknlhaaGreatDoorLastC
import Derived.Test.YtjojlcfoiknlhaaGreatDoorPlainE
namespace Go.Proofs.YtjojlcfoiknlhaaGreatDoor
open Go.RowKit

theorem tab_to {w w' : World} (h : Tab w w.heap.size) (hc : Chg (fun _ => False) w w') : Tab w' w'.heap.size := by
  obtain ⟨t1, g, t2, t3, t4⟩ := tab_chg h hc (fun _ _ x => x)
  exact ⟨t1, g, t2, t4, t4⟩
/-- A fault's block may change. -/
theorem ndok_fault {w w' : World} {lo b : Nat} {v : Value} {N : List M.Nd} {cs : Array Value} {fz : Nat × Nat} (hb : w.heap[b]? = some (.cells cs 28 fz)) (hc : Chg (fun k => k = b) w w') (h : NdOwn w lo v N) : NdOk w' v N := by
  obtain ⟨nx, h1, h2⟩ := h
  refine ⟨nx, owns_base (owns_chg h1 hc (fun g hg hx => ?_)) (Nat.zero_le _), h2.imp (NdV.chg hc (fun g _ _ hx ht => ?_) (fun _ _ _ => trivial))⟩
  · subst hx
    obtain ⟨_, cur, hh⟩ := owns_tag h1 g hg
    rw [hb] at hh
    simp at hh
  · subst hx
    obtain ⟨cur, e, hh, he⟩ := ht
    rw [hb] at hh
    simp only [Option.some.injEq, Obj.cells.injEq] at hh
    obtain ⟨_, rfl, _⟩ := hh
    rcases he with he | he <;> exact absurd he (by decide)
theorem tyok_fault {w w' : World} {lo b : Nat} {v : Value} {T : List M.Ty} {cs : Array Value} {fz : Nat × Nat} (hb : w.heap[b]? = some (.cells cs 28 fz)) (hc : Chg (fun k => k = b) w w') (h : TyOwn w lo v T) : TyOwn w' 0 v T := by
  obtain ⟨nx, h1, h2⟩ := h
  refine ⟨nx, owns_base (owns_chg h1 hc (fun g hg hx => ?_)) (Nat.zero_le _), h2.imp (TyV.chg hc (fun g _ _ hx ht => ?_) (fun _ _ _ => Nat.zero_le _))⟩
  · subst hx
    obtain ⟨_, cur, hh⟩ := owns_tag h1 g hg
    rw [hb] at hh
    simp at hh
  · subst hx
    obtain ⟨cur, e, hh, he⟩ := ht
    rw [hb] at hh
    simp only [Option.some.injEq, Obj.cells.injEq] at hh
    obtain ⟨_, rfl, _⟩ := hh
    rcases he with he | he <;> exact absurd he (by decide)

set_option maxHeartbeats 8000000 in
set_option maxRecDepth 100000 in
theorem showBack_any (s : ByteArray) (w : World) (hs : s.size ≤ maxLen) (ht : Tab w w.heap.size) : Calls Tryz.prog 7 #[.string s] w fun e w' => e = .returned (.bool true) ∧ Below w.heap.size w w' := by
  have HS := hide (showBegun_any w ht)
  have HT := hide treeBegun_any
  have HP := hide (fun (a : World) (ha : Chg (fun _ => False) w a) => print_any s a hs (tab_to ht ha) (hA_all _))
  have TB := hide ht
  clear ht
  go_enter Tryz.func7, Tryz.ntmps7
  go_wp2_with fail
  refine HS.out.mono ?_
  rintro e w1 ⟨rfl, hb1⟩
  have C1 := hide (chgB hb1)
  clear hb1 HS
  go_wp2_with fail
  refine (HT.out w1).mono ?_
  rintro e w2 ⟨rfl, hb2⟩
  have C2 := hide (chg2 C1.out (chgB hb2))
  clear hb2 HT C1
  go_wp2_with fail
  refine (HP.out _ C2.out).mono ?_
  rintro e w3 ⟨hb3, hr⟩
  have C3 := hide (chg2 C2.out (chgB hb3))
  clear hb3 HP C2
  rcases hr with ⟨er, p, hres, rfl⟩ | ⟨N, T, ps, hres, htr, he⟩
  · have hne : er ≠ 0 := hres.1
    have hne' : (er != 0) = true := by simp [hne]
    clear hres
    go_wp2
    go_ret
    exact ⟨rfl, Chg.toBelow (chg2 C3.out (Chg.alloc (fun _ => False) _ _)) (fun _ _ x => x.elim) (Nat.le_refl _)⟩
  rcases he with ⟨_, rfl⟩ | ⟨hl, rfl⟩
  · go_wp2
    go_ret
    exact ⟨rfl, Chg.toBelow (chg2 C3.out (Chg.alloc (fun _ => False) _ _)) (fun _ _ x => x.elim) (Nat.le_refl _)⟩
  obtain ⟨ps0, hp⟩ := M.parse_tree hres
  obtain rfl := trd_one htr hp
  obtain ⟨N', hres', hfl, hp'⟩ := hp.back hl
  have hszL : (⟨(M.lines 0 (M.prL 0 ps)).toArray⟩ : ByteArray).size ≤ maxLen := by
    show (M.lines 0 (M.prL 0 ps)).toArray.size ≤ maxLen
    unfold maxLen
    simp
    omega
  have P1 := hide (parse_at s hs hres)
  have P2 := hide (parse_at ⟨(M.lines 0 (M.prL 0 ps)).toArray⟩ hszL (N := N') (T := T) hres')
  have P3 := hide (fun (a : World) (ha : Chg (fun _ => False) w a) => print_at ⟨(M.lines 0 (M.prL 0 ps)).toArray⟩ hszL (N := N') (T := T) hres' hp' hl a (tab_to TB.out ha))
  have hlen : N'.length = N.length := by have := congrArg List.length hfl; simpa using this
  have hnl : ∀ i (hi : i < N.length), N[i].list.length ≤ 1000000 := hp.nl
  have SP := hide (fun (a : World) (pa pb ya yb : Option Addr) (ca cb yc yd : Nat) n1 n2 t1 t2 => sameProgram_any a pa pb ya yb ca cb yc yd N N' T N.length T.length ((N.length : Int) - 1) rfl hlen rfl hfl hp.lenN hp.lenT hnl hp.ls n1 n2 t1 t2)
  rw [hlen] at P2
  clear hres hres' htr hp hp' hl hfl hszL hlen TB hnl
  generalize N.length = nn at *
  generalize T.length = tn at *
  generalize M.lines 0 (M.prL 0 ps) = LL at *
  go_wp2_with fail
  refine (P1.out _).mono ?_
  rintro e w4 ⟨hb4, na, nc, ya, yc, rfl, hN, hT⟩
  have q4 : w4.heap[w3.heap.size]? = some (.cells #[.int .i64 0, .int .i64 0] 28 (0, 0)) := by
    rw [hb4.block w3.heap.size (by simp)]
    exact heap_alloc_new w3 _
  have f0 : w4.cell? ⟨w3.heap.size, 0, none⟩ = some (.int .i64 0) := by rw [cell_of_row w4 _ 0 _ _ _ q4]; rfl
  have f1 : w4.cell? ⟨w3.heap.size, 1, none⟩ = some (.int .i64 0) := by rw [cell_of_row w4 _ 1 _ _ _ q4]; rfl
  have ff : ∀ o, w4.frozen? ⟨w3.heap.size, o, none⟩ = false := fun o => frozen_of_row w4 _ o _ _ q4
  have l4 : w3.heap.size < w4.heap.size := (Array.getElem?_eq_some_iff.1 q4).1
  have C4 := hide (chg2 (chg2 C3.out (Chg.alloc (fun _ => False) _ _)) (chgB hb4))
  have Q4 := hide q4
  have HN1 := hide hN
  have HT1 := hide hT
  have hz3 := C3.out.size
  have hCX : Chg (fun k => k = w3.heap.size) w4 (((w4.setCell ⟨w3.heap.size, 0, none⟩ (.int .i64 0)).setCell ⟨w3.heap.size, 1, none⟩ (.int .i64 0)).alloc (.cells #[.slice na nn nc, .slice ya tn yc, .int .i64 ((nn : Int) - 1)] 25)) := ((Chg.set w4 ⟨w3.heap.size, 0, none⟩ (.int .i64 0)).trans (Chg.set _ ⟨w3.heap.size, 1, none⟩ (.int .i64 0)) (fun _ _ x => x)).trans (Chg.alloc (fun k => k = w3.heap.size) _ _) (fun _ _ x => x)
  have hsz : (((w4.setCell ⟨w3.heap.size, 0, none⟩ (.int .i64 0)).setCell ⟨w3.heap.size, 1, none⟩ (.int .i64 0))).heap.size = w4.heap.size := by simp [World.setCell]
  have N1 := hide (ndok_fault q4 hCX hN)
  have T1 := hide (tyok_fault q4 hCX hT)
  have CWX : Hid (Chg (fun _ => False) w (((w4.setCell ⟨w3.heap.size, 0, none⟩ (.int .i64 0)).setCell ⟨w3.heap.size, 1, none⟩ (.int .i64 0)).alloc (.cells #[.slice na nn nc, .slice ya tn yc, .int .i64 ((nn : Int) - 1)] 25))) := ((C4.out.mono (fun _ _ x => x.elim)).trans hCX (fun _ _ x => x)).mono (fun k hk x => by have : k = w3.heap.size := x; omega)
  have x0 : (((w4.setCell ⟨w3.heap.size, 0, none⟩ (.int .i64 0)).setCell ⟨w3.heap.size, 1, none⟩ (.int .i64 0)).alloc (.cells #[.slice na nn nc, .slice ya tn yc, .int .i64 ((nn : Int) - 1)] 25)).cell? ⟨w3.heap.size, 0, none⟩ = some (.int .i64 0) := by go_simp
  have bx : (((w4.setCell ⟨w3.heap.size, 0, none⟩ (.int .i64 0)).setCell ⟨w3.heap.size, 1, none⟩ (.int .i64 0)).alloc (.cells #[.slice na nn nc, .slice ya tn yc, .int .i64 ((nn : Int) - 1)] 25)).heap[w4.heap.size]? = some (.cells #[.slice na nn nc, .slice ya tn yc, .int .i64 ((nn : Int) - 1)] 25 (0, 0)) := by
    have := heap_alloc_new (((w4.setCell ⟨w3.heap.size, 0, none⟩ (.int .i64 0)).setCell ⟨w3.heap.size, 1, none⟩ (.int .i64 0))) (.cells #[.slice na nn nc, .slice ya tn yc, .int .i64 ((nn : Int) - 1)] 25)
    rw [hsz] at this
    exact this
  have PX : Hid (∀ a, Chg (fun _ => False) (((w4.setCell ⟨w3.heap.size, 0, none⟩ (.int .i64 0)).setCell ⟨w3.heap.size, 1, none⟩ (.int .i64 0)).alloc (.cells #[.slice na nn nc, .slice ya tn yc, .int .i64 ((nn : Int) - 1)] 25)) a → a.cell? ⟨w3.heap.size, 0, none⟩ = some (.int .i64 0) ∧ a.cell? ⟨w4.heap.size, 0, none⟩ = some (.slice na nn nc) ∧ a.cell? ⟨w4.heap.size, 1, none⟩ = some (.slice ya tn yc) ∧ a.cell? ⟨w4.heap.size, 2, none⟩ = some (.int .i64 ((nn : Int) - 1)) ∧ NdOk a (.slice na nn nc) N ∧ TyOwn a 0 (.slice ya tn yc) T) := fun a ha => by
    refine ⟨cell_still ha x0, cell_still ha ?_, cell_still ha ?_, cell_still ha ?_, N1.out.still ha, tyown_chg T1.out ha⟩
    · rw [cell_of_row _ _ 0 _ _ _ bx]; rfl
    · rw [cell_of_row _ _ 1 _ _ _ bx]; rfl
    · rw [cell_of_row _ _ 2 _ _ _ bx]; rfl
  have lX : w4.heap.size < (((w4.setCell ⟨w3.heap.size, 0, none⟩ (.int .i64 0)).setCell ⟨w3.heap.size, 1, none⟩ (.int .i64 0)).alloc (.cells #[.slice na nn nc, .slice ya tn yc, .int .i64 ((nn : Int) - 1)] 25)).heap.size := by simp only [World.size_alloc, hsz]; omega
  clear hN hT q4 hb4 P1 C3 hCX x0 bx N1 T1 HN1 HT1 Q4 C4
  go_wp2_with fail
  refine (P2.out _).mono ?_
  rintro e w5 ⟨hb5, nb, nd, yb, yd, rfl, hN, hT⟩
  have C5 := hide (chgB hb5)
  have hz5 : w4.heap.size < w5.heap.size := Nat.lt_of_lt_of_le lX hb5.size
  have CW5 := hide (chg2 CWX.out C5.out)
  have N2 := hide hN
  have T2 := hide hT
  have C6 : Hid (Chg (fun _ => False) w5 ((w5.alloc (.cells #[.slice nb nn nd, .slice yb tn yd, .int .i64 ((nn : Int) - 1)] 25)).alloc (.cells #[.int .i64 0, .int .i64 0] 28))) := chg2 (Chg.alloc (fun _ => False) _ _) (Chg.alloc (fun _ => False) _ _)
  have b1 : ((w5.alloc (.cells #[.slice nb nn nd, .slice yb tn yd, .int .i64 ((nn : Int) - 1)] 25)).alloc (.cells #[.int .i64 0, .int .i64 0] 28)).heap[w5.heap.size]? = some (.cells #[.slice nb nn nd, .slice yb tn yd, .int .i64 ((nn : Int) - 1)] 25 (0, 0)) := by
    rw [(Chg.alloc (fun _ => False) (w5.alloc (.cells #[.slice nb nn nd, .slice yb tn yd, .int .i64 ((nn : Int) - 1)] 25)) (.cells #[.int .i64 0, .int .i64 0] 28)).block w5.heap.size (by simp) (fun x => x)]
    exact heap_alloc_new w5 _
  have b2 : ((w5.alloc (.cells #[.slice nb nn nd, .slice yb tn yd, .int .i64 ((nn : Int) - 1)] 25)).alloc (.cells #[.int .i64 0, .int .i64 0] 28)).heap[w5.heap.size + 1]? = some (.cells #[.int .i64 0, .int .i64 0] 28 (0, 0)) := by
    have := heap_alloc_new (w5.alloc (.cells #[.slice nb nn nd, .slice yb tn yd, .int .i64 ((nn : Int) - 1)] 25)) (.cells #[.int .i64 0, .int .i64 0] 28)
    simpa using this
  have PY : Hid (∀ a, Chg (fun _ => False) ((w5.alloc (.cells #[.slice nb nn nd, .slice yb tn yd, .int .i64 ((nn : Int) - 1)] 25)).alloc (.cells #[.int .i64 0, .int .i64 0] 28)) a → (a.cell? ⟨w3.heap.size, 0, none⟩ = some (.int .i64 0) ∧ a.cell? ⟨w4.heap.size, 0, none⟩ = some (.slice na nn nc) ∧ a.cell? ⟨w4.heap.size, 1, none⟩ = some (.slice ya tn yc) ∧ a.cell? ⟨w4.heap.size, 2, none⟩ = some (.int .i64 ((nn : Int) - 1)) ∧ NdOk a (.slice na nn nc) N ∧ TyOwn a 0 (.slice ya tn yc) T) ∧
      a.cell? ⟨w5.heap.size + 1, 0, none⟩ = some (.int .i64 0) ∧ a.cell? ⟨w5.heap.size, 0, none⟩ = some (.slice nb nn nd) ∧ a.cell? ⟨w5.heap.size, 1, none⟩ = some (.slice yb tn yd) ∧ a.cell? ⟨w5.heap.size, 2, none⟩ = some (.int .i64 ((nn : Int) - 1)) ∧ NdOk a (.slice nb nn nd) N' ∧ TyOwn a 0 (.slice yb tn yd) T) := fun a ha => by
    refine ⟨PX.out a (chg2 C5.out (chg2 C6.out ha)), cell_still ha ?_, cell_still ha ?_, cell_still ha ?_, cell_still ha ?_, ndok_of N2.out (chg2 C6.out ha), tyown_chg T2.out (chg2 C6.out ha)⟩
    · rw [cell_of_row _ _ 0 _ _ _ b2]; rfl
    · rw [cell_of_row _ _ 0 _ _ _ b1]; rfl
    · rw [cell_of_row _ _ 1 _ _ _ b1]; rfl
    · rw [cell_of_row _ _ 2 _ _ _ b1]; rfl
  have CWY := hide (chg2 CW5.out C6.out)
  clear hb5 hN hT b1 b2 P2 PX C5 CW5 CWX f0 f1 ff
  go_wp2_with fail
  refine (P3.out _ CWY.out).mono ?_
  rintro e w6 ⟨hb6, rfl⟩
  have hz6 : w5.heap.size + 1 < w6.heap.size := by have := hb6.size; simp only [World.size_alloc] at this; omega
  obtain ⟨⟨a0, a1, a2, a3, a4, a5⟩, a6, a7, a8, a9, a10, a11⟩ := PY.out w6 (chgB hb6)
  have CW6 := hide (chg2 CWY.out (chgB hb6))
  have l3 : w3.heap.size < w6.heap.size := by omega
  have l4' : w4.heap.size < w6.heap.size := by omega
  have l5 : w5.heap.size < w6.heap.size := by omega
  have SQ := hide (SP.out (w6.alloc (.cells #[.int .i64 0, .int .i64 0] 28)) _ _ _ _ _ _ _ _ (a4.still (Chg.alloc (fun _ => False) _ _)) (a10.still (Chg.alloc (fun _ => False) _ _)) (tyown_chg a5 (Chg.alloc (fun _ => False) _ _)) (tyown_chg a11 (Chg.alloc (fun _ => False) _ _)))
  clear a4 a5 a10 a11 SP PY P3 hb6 CWY
  go_wp2_with fail
  refine SQ.out.mono ?_
  rintro e w7 ⟨rfl, hc7⟩
  have CW7 := hide (chg2 (chg2 CW6.out (Chg.alloc (fun _ => False) _ _)) hc7)
  clear SQ hc7 CW6
  go_wp2
  go_ret
  exact ⟨rfl, Chg.toBelow CW7.out (fun _ _ x => x.elim) (Nat.le_refl _)⟩
end Go.Proofs.YtjojlcfoiknlhaaGreatDoor
