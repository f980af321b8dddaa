/-
  The contract of moved.
-/
import Derived.Test.YtkilicjjaljghaaGreatFig
import Derived.Test.YtkilicjjaljghaaGreatPlainB
namespace Go.Proofs.YtkilicjjaljghaaGreat
open Go.RowKit Go.Maps

theorem owns_below {B : Nat} {w w' : World} {base : Nat} {e : TypeId} {size : Nat} {v : Value} {n : Nat} {xs : List Value} (h : w.ownsRow base e size v n xs) (hb : Below B w w') (hs : ∀ g, v.ownBlock = some g → g < B) : w'.ownsRow base e size v n xs :=
  owns_chg h (Chg.below hb) fun g hg x => by have := hs g hg; omega

def mvF (b : Int) (l : List (List UInt8 × Int)) : List (List UInt8 × Int) := l.map fun p => (p.1, p.2 + b)
theorem mvF_snoc (b : Int) {l : List (List UInt8 × Int)} {j : Nat} (hj : j < l.length) : mvF b (l.take (j + 1)) = mvF b (l.take j) ++ [(l[j].1, l[j].2 + b)] := by
  unfold mvF
  rw [List.take_succ_eq_append_getElem hj, List.map_append]
  simp
def mvI (b : Int) (l : List Int) : List Int := l.map fun x => x + b
theorem mvI_snoc (b : Int) {l : List Int} {j : Nat} (hj : j < l.length) : mvI b (l.take (j + 1)) = mvI b (l.take j) ++ [l[j] + b] := by
  unfold mvI
  rw [List.take_succ_eq_append_getElem hj, List.map_append]
  simp

theorem cell_two_at (w : World) (a b : Value) (t : TypeId) (q : Nat) (hq : q = w.heap.size) : ∀ j u, [a, b][j]? = some u → (w.alloc (.cells #[a, b] t)).cell? ((⟨q, 0, none⟩ : Addr).add j) = some u := by
  subst hq
  intro j u hj
  match j, hj with
  | 0, hj => simp at hj; subst hj; simp [Addr.add]
  | 1, hj => simp at hj; subst hj; simp [Addr.add]

/-- Behind an append, and the store of what it gave into a type. -/
theorem ty_push {w wr w4 w5 : World} {n0 q o sz j j' : Nat} {e : TypeId} {v v' : Value} {xs ys : List Value} {cs : Array Value} (hq : wr.heap[q]? = some (.cells cs 52 (0, 0))) (hn : n0 ≤ q) (ho : wr.ownsRow n0 e sz v j xs) (he : e ≠ 52) (hB : Below n0 w wr) (hn0 : n0 ≤ w.heap.size)
    (h1 : Chg (fun _ => False) wr w4) (hg : w4.grownBy w5 v.ownBlock) (ho5 : w5.ownsRow n0 e sz v' j' ys) :
    (w5.cell? ⟨q, o, none⟩ = cs[o]?) ∧ w5.frozen? ⟨q, o, none⟩ = false ∧ q < w5.heap.size ∧ Below n0 w (w5.setCell ⟨q, o, none⟩ v') ∧ (w5.setCell ⟨q, o, none⟩ v').ownsRow n0 e sz v' j' ys ∧ (w5.setCell ⟨q, o, none⟩ v').heap[q]? = some (.cells (cs.setIfInBounds o v') 52 (0, 0)) ∧
      (∀ (k : Nat) (cs' : Array Value), k ≠ q → wr.heap[k]? = some (Obj.cells cs' 52 (0, 0)) → (w5.setCell ⟨q, o, none⟩ v').heap[k]? = some (Obj.cells cs' 52 (0, 0))) ∧
      (∀ {e' : TypeId} {sz' n' : Nat} {u : Value} {zs : List Value}, e' ≠ e → e' ≠ 52 → wr.ownsRow n0 e' sz' u n' zs → (w5.setCell ⟨q, o, none⟩ v').ownsRow n0 e' sz' u n' zs) := by
  have ho4 : w4.ownsRow n0 e sz v j xs := owns_chg ho h1 (fun _ _ x => x)
  have keep : ∀ (k : Nat) (cs' : Array Value), wr.heap[k]? = some (Obj.cells cs' 52 (0, 0)) → w5.heap[k]? = some (Obj.cells cs' 52 (0, 0)) := by
    intro k cs' hk
    have hk4 : w4.heap[k]? = some (.cells cs' 52 (0, 0)) := by rw [h1.block k (Array.getElem?_eq_some_iff.1 hk).1 (fun x => x)]; exact hk
    rw [hg.block k (Array.getElem?_eq_some_iff.1 hk4).1 (fun hx => ?_)]
    · exact hk4
    · obtain ⟨_, cur, hh⟩ := owns_tag ho4 k hx.symm
      rw [hk4] at hh
      simp only [Option.some.injEq, Obj.cells.injEq] at hh
      exact he hh.2.1.symm
  have hq5 := keep q cs hq
  have hC : Chg (fun k => n0 ≤ k) wr w5 := (h1.mono fun _ _ x => x.elim).trans (Chg.grown hg) (fun k _ x => (owns_tag ho4 k x.symm).1)
  have hC2 : Chg (fun k => n0 ≤ k) wr (w5.setCell ⟨q, o, none⟩ v') := hC.trans (Chg.set _ _ _) (fun k _ x => by have x' : k = q := x; omega)
  refine ⟨cell_of_row w5 q o _ _ _ hq5, frozen_of_row w5 q o _ _ hq5, (Array.getElem?_eq_some_iff.1 hq5).1, hB.trans (hC2.toBelow (fun _ _ x => x) (Nat.le_trans hn0 hB.size)), owns_chg ho5 (Chg.set _ _ _) (fun g hgg hx => ?_), heap_setCell_same w5 q o _ _ _ hq5, fun k cs' hne hk => ?_, fun {e' sz' n' u zs} he1 he2 hu => ?_⟩
  · have hx' : g = q := hx
    subst hx'
    obtain ⟨_, cur, hh⟩ := owns_tag ho5 g hgg
    rw [hq5] at hh
    simp only [Option.some.injEq, Obj.cells.injEq] at hh
    exact he hh.2.1.symm
  · rw [heap_setCell_other _ _ _ _ (by exact hne)]
    exact keep k cs' hk
  · have hu4 : w4.ownsRow n0 e' sz' u n' zs := owns_chg hu h1 (fun _ _ x => x)
    refine owns_chg (owns_chg hu4 (Chg.grown hg) (fun g hgg hx => ?_)) (Chg.set _ _ _) (fun g hgg hx => ?_)
    · obtain ⟨_, cur, hh⟩ := owns_tag hu4 g hgg
      obtain ⟨_, cur2, hh2⟩ := owns_tag ho4 g hx.symm
      rw [hh] at hh2
      simp only [Option.some.injEq, Obj.cells.injEq] at hh2
      exact he1 hh2.2.1
    · have hx' : g = q := hx
      subst hx'
      have hu5 := owns_chg hu4 (Chg.grown hg) (fun g hgg hx => by
        obtain ⟨_, cur, hh⟩ := owns_tag hu4 g hgg
        obtain ⟨_, cur2, hh2⟩ := owns_tag ho4 g hx.symm
        rw [hh] at hh2
        simp only [Option.some.injEq, Obj.cells.injEq] at hh2
        exact he1 hh2.2.1)
      obtain ⟨_, cur, hh⟩ := owns_tag hu5 g hgg
      rw [hq5] at hh
      simp only [Option.some.injEq, Obj.cells.injEq] at hh
      exact he2 hh.2.1.symm

set_option maxRecDepth 10000 in
set_option maxHeartbeats 2000000 in
theorem moved_any (w : World) (k o : Int) (fs : List (List UInt8 × Int)) (ls : List Int) (fa la : Option Addr) (fc lc : Nat) (b : Nat) (hf : w.ownsRow 0 55 2 (.slice fa fs.length fc) fs.length (frows fs)) (hl : w.ownsRow 0 3 1 (.slice la ls.length lc) ls.length (ints ls))
    (hb : b ≤ 1000) (h1 : ∀ p ∈ fs, 0 ≤ p.2 ∧ p.2 ≤ 1000) (h2 : ∀ x ∈ ls, 0 ≤ x ∧ x ≤ 1000) (ho : 0 ≤ o ∧ o ≤ 1000) (hn : fs.length ≤ 2000 ∧ ls.length ≤ 2000) :
    Calls Tryz.prog 48 #[.agg #[.int .i64 k, .slice fa fs.length fc, .slice la ls.length lc, .int .i64 o], .int .i64 (b : Int)] w fun e w' => Below w.heap.size w w' ∧
      ∃ fa' fc' la' lc', e = .returned (.agg #[.int .i64 k, .slice fa' fs.length fc', .slice la' ls.length lc', .int .i64 (o + b)]) ∧ w'.ownsRow w.heap.size 55 2 (.slice fa' fs.length fc') fs.length (frows (mvF b fs)) ∧ w'.ownsRow w.heap.size 3 1 (.slice la' ls.length lc') ls.length (ints (mvI b ls)) := by
  have HF := hide hf
  have HL := hide hl
  have H1 := hide h1
  have H2 := hide h2
  obtain ⟨hn1, hn2⟩ := hn
  have hLF : Hid (∀ g, Value.ownBlock (.slice fa fs.length fc) = some g → g < w.heap.size) := fun g hg => (hf.lt g hg).2
  have hLL : Hid (∀ g, Value.ownBlock (.slice la ls.length lc) = some g → g < w.heap.size) := fun g hg => (hl.lt g hg).2
  clear hf hl h1 h2
  go_enter Tryz.func48, Tryz.ntmps48
  go_wp2_with fail
  obtain ⟨z0, z1, z2⟩ := heap_three w (.cells #[.int .i64 k, .slice fa fs.length fc, .slice la ls.length lc, .int .i64 o] 52) (.cells #[.int .i64 0, .slice none 0 0, .slice none 0 0, .int .i64 0] 52) (.cells #[.int .i64 k, .slice none 0 0, .slice none 0 0, .int .i64 (o + b)] 52)
  have Z0 := hide z0
  have Z1 := hide z1
  have Z2 := hide z2
  have B3 := hide ((((Below.refl w.heap.size w).alloc (Nat.le_refl _) (.cells #[.int .i64 k, .slice fa fs.length fc, .slice la ls.length lc, .int .i64 o] 52)).alloc (by simp) (.cells #[.int .i64 0, .slice none 0 0, .slice none 0 0, .int .i64 0] 52)).alloc (by simp; omega) (.cells #[.int .i64 k, .slice none 0 0, .slice none 0 0, .int .i64 (o + b)] 52))
  clear z0 z1 z2
  go_loopw [20] (fun v wr => ∃ (j : Nat) (xa : Option Addr) (xc : Nat), j ≤ fs.length ∧ v = .int .i64 (j : Int) ∧ Hid (wr.heap[w.heap.size]? = some (.cells #[.int .i64 k, .slice fa fs.length fc, .slice la ls.length lc, .int .i64 o] 52 (0, 0))) ∧ Hid (wr.heap[w.heap.size + 1]? = some (.cells #[.int .i64 0, .slice none 0 0, .slice none 0 0, .int .i64 0] 52 (0, 0))) ∧
      Hid (wr.heap[w.heap.size + 2]? = some (.cells #[.int .i64 k, .slice xa j xc, .slice none 0 0, .int .i64 (o + b)] 52 (0, 0))) ∧ Hid (Below w.heap.size w wr) ∧ Hid (wr.ownsRow w.heap.size 55 2 (.slice xa j xc) j (frows (mvF b (fs.take j))))) (fun v _ => fs.length - (intOf v).toNat)
  case atStart => exact ⟨0, none, 0, Nat.zero_le _, rfl, Z0.out, Z1.out, Z2.out, B3.out, by show World.ownsRow _ _ _ _ _ _ _; exact World.ownsRow_nil _ _ _ _⟩
  case round =>
    clear Z0 Z1 Z2 B3
    obtain ⟨j, xa, xc, hj, rfl, Z0, Z1, Z2, BR, OR⟩ := hrel
    have d0 : wr.cell? ⟨w.heap.size + 2, 1, none⟩ = some (.slice xa j xc) := by rw [cell_of_row wr _ 1 _ _ _ Z2.out]; rfl
    have hz2 := (Array.getElem?_eq_some_iff.1 Z2.out).1
    by_cases hjl : j < fs.length
    · obtain ⟨g, rfl, hg, hl1, hl2, y0, y1⟩ := flds_cell (owns_below HF.out BR.out hLF.out) hjl
      have hx := H1.out fs[j] (List.getElem_mem hjl)
      have HT := hide (mvF_snoc b hjl)
      generalize fs[j] = fj at *
      obtain ⟨nm, y⟩ := fj
      simp only at y0 y1 hx HT
      unfold maxLen at hl2
      obtain ⟨i0, hi0, hzz0, hzz1, hzz2⟩ := info_parts Tryz.infoField
      have hw3 := hide ((OR.out.alloc (.cells #[.string ⟨nm.toArray⟩, .int .i64 y] 55)).alloc (.cells #[.string ⟨nm.toArray⟩, .int .i64 (y + b)] 55))
      have hsz := BR.out.size
      go_wp2_with (at_builtin; refine wpList_append_own_at _ rfl _ _ 50 rfl w.heap.size 55 i0 _ 2 24 Tryz.underlying50 hi0 hzz0 hzz1 hzz2 rfl (by decide) _ _ _ rfl hw3.out ⟨wr.heap.size + 1, 0, none⟩ 1 1 [.string ⟨nm.toArray⟩, .int .i64 (y + b)] rfl rfl ?c1 ?c2 ?c3 ?c4 ?c5 ?_)
      case c1 => exact cell_two_at _ _ _ _ _ (by simp)
      case c2 => intro u hu; simp at hu; rcases hu with rfl | rfl <;> rfl
      case c3 => simp only [maxLen]; omega
      case c4 => omega
      case c5 => simp; omega
      · intro v' w5 hown2 hg2 _ hat
        obtain ⟨xa2, xc2, rfl⟩ := owns_form hown2
        obtain ⟨k0, k1, k2, k3, k4, k5, k6, k7⟩ := ty_push (o := 1) Z2.out (by omega) OR.out (by decide) BR.out (Nat.le_refl _) ((Chg.alloc (fun _ => False) wr _).trans (Chg.alloc (fun _ => False) _ _) (fun _ _ x => x)) hg2 hown2
        have K0 : w5.cell? ⟨w.heap.size + 2, 1, none⟩ = some (.slice xa j xc) := k0
        have K3 := hide k3
        have K4 := hide k4
        have K5 := hide k5
        have K6 := hide (k6 w.heap.size _ (by omega) Z0.out)
        have K7 := hide (k6 (w.heap.size + 1) _ (by omega) Z1.out)
        clear k0 k3 k4 k5 k6 k7 hown2 hg2 hat hw3 OR Z0 Z1 Z2 BR
        go_wp2_with fail
        go_roundw
        case rel => exact ⟨j + 1, xa2, xc2, by omega, by go_num, K6.out, K7.out, K5.out, K3.out, by
          show World.ownsRow _ _ _ _ _ _ _
          rw [HT.out, frows_snoc]
          exact K4.out⟩
        case measure => simp [intOf]; omega
    · have hje : j = fs.length := by omega
      subst hje
      have OF := hide OR.out
      rw [List.take_length] at OF
      have BB := hide BR.out
      have e2 : wr.cell? ⟨w.heap.size, 2, none⟩ = some (.slice la ls.length lc) := by rw [cell_of_row wr _ 2 _ _ _ Z0.out]; rfl
      have hz0 := (Array.getElem?_eq_some_iff.1 Z0.out).1
      have hz1 := (Array.getElem?_eq_some_iff.1 Z1.out).1
      clear OR
      go_wp2_with fail
      go_loopw [40] (fun v wq => ∃ (i : Nat) (ya : Option Addr) (yc : Nat), i ≤ ls.length ∧ v = .int .i64 (i : Int) ∧ Hid (wq.heap[w.heap.size + 1]? = some (.cells #[.int .i64 0, .slice none 0 0, .slice none 0 0, .int .i64 0] 52 (0, 0))) ∧
          Hid (wq.heap[w.heap.size + 2]? = some (.cells #[.int .i64 k, .slice xa fs.length xc, .slice ya i yc, .int .i64 (o + b)] 52 (0, 0))) ∧ Hid (Below w.heap.size w wq) ∧ Hid (wq.ownsRow w.heap.size 55 2 (.slice xa fs.length xc) fs.length (frows (mvF b fs))) ∧ Hid (wq.ownsRow w.heap.size 3 1 (.slice ya i yc) i (ints (mvI b (ls.take i))))) (fun v _ => ls.length - (intOf v).toNat)
      case atStart => exact ⟨0, none, 0, Nat.zero_le _, rfl, Z1.out, Z2.out, BB.out, OF.out, by show World.ownsRow _ _ _ _ _ _ _; exact World.ownsRow_nil _ _ _ _⟩
      case round =>
        clear Z0 Z1 Z2 BR d0 e2 hz0 hz1 hz2 OF BB
        obtain ⟨i, ya, yc, hi, rfl, Z1, Z2, BR, OF, OR⟩ := hrel
        have d0 : wr.cell? ⟨w.heap.size + 2, 2, none⟩ = some (.slice ya i yc) := by rw [cell_of_row wr _ 2 _ _ _ Z2.out]; rfl
        have hz2 := (Array.getElem?_eq_some_iff.1 Z2.out).1
        have hz1 := (Array.getElem?_eq_some_iff.1 Z1.out).1
        by_cases hil : i < ls.length
        · obtain ⟨g, rfl, hg, hl1, hl2, y0⟩ := ints_cell (owns_below HL.out BR.out hLL.out) hil
          have hx := H2.out ls[i] (List.getElem_mem hil)
          have HT := hide (mvI_snoc b hil)
          generalize ls[i] = y at *
          unfold maxLen at hl2
          obtain ⟨i0, hi0, hzz0, hzz1, hzz2⟩ := info_parts Tryz.infoInt
          have hw3 := hide (OR.out.alloc (.cells #[.int .i64 (y + b)] 3))
          have hsz := BR.out.size
          go_wp2_with (at_builtin; refine wpList_append_own_at _ rfl _ _ 42 rfl w.heap.size 3 i0 (.int .i64 0) 1 8 Tryz.underlying42 hi0 hzz0 hzz1 hzz2 rfl (by decide) _ _ _ rfl hw3.out ⟨wr.heap.size, 0, none⟩ 1 1 [.int .i64 (y + b)] rfl rfl ?c1 ?c2 ?c3 ?c4 ?c5 ?_)
          case c1 => exact cell_one_new _ _ _
          case c2 => intro u hu; simp at hu; rcases hu with rfl; rfl
          case c3 => simp only [maxLen]; omega
          case c4 => omega
          case c5 => simp; omega
          · intro v' w5 hown2 hg2 _ hat
            obtain ⟨ya2, yc2, rfl⟩ := owns_form hown2
            obtain ⟨k0, k1, k2, k3, k4, k5, k6, k7⟩ := ty_push (o := 2) Z2.out (by omega) OR.out (by decide) BR.out (Nat.le_refl _) (Chg.alloc (fun _ => False) wr _) hg2 hown2
            have K0 : w5.cell? ⟨w.heap.size + 2, 2, none⟩ = some (.slice ya i yc) := k0
            have K3 := hide k3
            have K4 := hide k4
            have K5 := hide k5
            have K6 := hide (k6 (w.heap.size + 1) _ (by omega) Z1.out)
            have K7 := hide (k7 (by decide) (by decide) OF.out)
            clear k0 k3 k4 k5 k6 k7 hown2 hg2 hat hw3 OR Z1 Z2 BR OF
            go_wp2_with fail
            go_roundw
            case rel => exact ⟨i + 1, ya2, yc2, by omega, by go_num, K6.out, K5.out, K3.out, K7.out, by
              show World.ownsRow _ _ _ _ _ _ _
              rw [HT.out, ints_snoc]
              exact K4.out⟩
            case measure => simp [intOf]; omega
        · have hie : i = ls.length := by omega
          subst hie
          have OL := hide OR.out
          rw [List.take_length] at OL
          have m0 : wr.cell? ⟨w.heap.size + 2, 0, none⟩ = some (.int .i64 k) := by rw [cell_of_row wr _ 0 _ _ _ Z2.out]; rfl
          have m1 : wr.cell? ⟨w.heap.size + 2, 1, none⟩ = some (.slice xa fs.length xc) := by rw [cell_of_row wr _ 1 _ _ _ Z2.out]; rfl
          have m3 : wr.cell? ⟨w.heap.size + 2, 3, none⟩ = some (.int .i64 (o + b)) := by rw [cell_of_row wr _ 3 _ _ _ Z2.out]; rfl
          have n0 : wr.cell? ⟨w.heap.size + 1, 0, none⟩ = some (.int .i64 0) := by rw [cell_of_row wr _ 0 _ _ _ Z1.out]; rfl
          have n1 : wr.cell? ⟨w.heap.size + 1, 1, none⟩ = some (.slice none 0 0) := by rw [cell_of_row wr _ 1 _ _ _ Z1.out]; rfl
          have n2 : wr.cell? ⟨w.heap.size + 1, 2, none⟩ = some (.slice none 0 0) := by rw [cell_of_row wr _ 2 _ _ _ Z1.out]; rfl
          have n3 : wr.cell? ⟨w.heap.size + 1, 3, none⟩ = some (.int .i64 0) := by rw [cell_of_row wr _ 3 _ _ _ Z1.out]; rfl
          have nf : ∀ o, wr.frozen? ⟨w.heap.size + 1, o, none⟩ = false := fun o => frozen_of_row wr _ o _ _ Z1.out
          have CC : ∀ a0 a1 a2 a3, Chg (fun k => k = w.heap.size + 1) wr ((((wr.setCell ⟨w.heap.size + 1, 0, none⟩ a0).setCell ⟨w.heap.size + 1, 1, none⟩ a1).setCell ⟨w.heap.size + 1, 2, none⟩ a2).setCell ⟨w.heap.size + 1, 3, none⟩ a3) := fun a0 a1 a2 a3 =>
            (((Chg.set wr ⟨w.heap.size + 1, 0, none⟩ a0).trans (Chg.set _ ⟨w.heap.size + 1, 1, none⟩ a1) (fun _ _ x => x)).trans (Chg.set _ ⟨w.heap.size + 1, 2, none⟩ a2) (fun _ _ x => x)).trans (Chg.set _ ⟨w.heap.size + 1, 3, none⟩ a3) (fun _ _ x => x)
          have HX : ∀ a0 a1 a2 a3, Hid (Below w.heap.size w ((((wr.setCell ⟨w.heap.size + 1, 0, none⟩ a0).setCell ⟨w.heap.size + 1, 1, none⟩ a1).setCell ⟨w.heap.size + 1, 2, none⟩ a2).setCell ⟨w.heap.size + 1, 3, none⟩ a3) ∧
              ((((wr.setCell ⟨w.heap.size + 1, 0, none⟩ a0).setCell ⟨w.heap.size + 1, 1, none⟩ a1).setCell ⟨w.heap.size + 1, 2, none⟩ a2).setCell ⟨w.heap.size + 1, 3, none⟩ a3).ownsRow w.heap.size 55 2 (.slice xa fs.length xc) fs.length (frows (mvF b fs)) ∧
              ((((wr.setCell ⟨w.heap.size + 1, 0, none⟩ a0).setCell ⟨w.heap.size + 1, 1, none⟩ a1).setCell ⟨w.heap.size + 1, 2, none⟩ a2).setCell ⟨w.heap.size + 1, 3, none⟩ a3).ownsRow w.heap.size 3 1 (.slice ya ls.length yc) ls.length (ints (mvI b ls))) := by
            intro a0 a1 a2 a3
            refine ⟨BR.out.trans ((CC a0 a1 a2 a3).toBelow (fun k _ x => by omega) BR.out.size), owns_chg OF.out (CC a0 a1 a2 a3) (fun g hg hx => ?_), owns_chg OL.out (CC a0 a1 a2 a3) (fun g hg hx => ?_)⟩
            · subst hx
              obtain ⟨_, cur, hh⟩ := owns_tag OF.out _ hg
              have hz := Z1.out
              rw [hh] at hz
              simp only [Option.some.injEq, Obj.cells.injEq] at hz
              exact absurd hz.2.1 (by decide)
            · subst hx
              obtain ⟨_, cur, hh⟩ := owns_tag OL.out _ hg
              have hz := Z1.out
              rw [hh] at hz
              simp only [Option.some.injEq, Obj.cells.injEq] at hz
              exact absurd hz.2.1 (by decide)
          clear CC
          go_wp2_with fail
          exact bodyPost_ret (v := .agg #[.int .i64 k, .slice xa fs.length xc, .slice ya ls.length yc, .int .i64 (o + b)]) (by simp [results, Tryz.results48, go_sem, n0, n1, n2, n3]) rfl ⟨(HX _ _ _ _).out.1, xa, xc, ya, yc, rfl, (HX _ _ _ _).out.2.1, (HX _ _ _ _).out.2.2⟩
end Go.Proofs.YtkilicjjaljghaaGreat
