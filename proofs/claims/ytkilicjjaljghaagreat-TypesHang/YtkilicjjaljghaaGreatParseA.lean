/-
  The contract of addType.
  The contracts of the parser's methods that read a name, a plain type, and what may be in itself.
  The contracts of plainType, member and union.
-/
import Derived.Test.YtkilicjjaljghaaGreatTok
import Derived.Deep.RegionHeld3
import Derived.Deep.RegionLaw
import Derived.Deep.AppendLies
/- The contract of addType. -/
namespace Go.Proofs.YtkilicjjaljghaaGreat
open Go.RowKit

theorem Tryz.infoTy : (Tryz.prog.info? 52).map (fun i => (i.zero, i.size, i.bytes)) = some (some (.agg #[.int .i64 0, .slice none 0 0, .slice none 0 0, .int .i64 0]), 4, 64) := by kernel_rfl

section
variable {w : World} {B pb : Nat} {tv : Value} {L : List M.Tk} {ok : Nat → Prop} {d : Nat} {s : M.St}

theorem heap_alloc2 (w : World) (a b : Obj) : ((w.alloc a).alloc b).drew.heap[w.heap.size + 1]? = some b := by
  have := heap_alloc_new (w.alloc a) b
  simp only [World.size_alloc] at this
  exact this

theorem cell_old {w : World} {o : Obj} {b j : Nat} {v : Value} (hb : b < w.heap.size) (h : w.cell? ⟨b, j, none⟩ = some v) : (w.alloc o).cell? ⟨b, j, none⟩ = some v := by
  rw [World.cell?_of_block (Below.heap_alloc w o b hb)]; exact h
theorem frz_old {w : World} {o : Obj} {b j : Nat} (hb : b < w.heap.size) (h : w.frozen? ⟨b, j, none⟩ = false) : (w.alloc o).frozen? ⟨b, j, none⟩ = false := by
  rw [World.frozen?_of_block (Below.heap_alloc w o b hb)]; exact h
theorem cell_new {w : World} {cs : Array Value} {t : TypeId} {j : Nat} {v : Value} (h : cs[j]? = some v) : (w.alloc (.cells cs t)).cell? ⟨w.heap.size, j, none⟩ = some v := by
  rw [World.cell?_alloc_new, h]

/-- Behind an append to a parser's types. -/
theorem Pst.pushT {w w1 w2 : World} {B pb : Nat} {tv : Value} {L : List M.Tk} {ok : Nat → Prop} {d : Nat} {s : M.St} {nv : Value} {nx yx : List Value} {ad : Option Addr} {c g cap : Nat} {t : M.Ty} {fv lv : Value} (hlow : B ≤ pb) (hat : s.i < L.length) (hfew : s.N.length ≤ s.i) (hf : s.T.length + 1 ≤ s.i)
    (htoks : w.ownsRow 0 80 3 tv L.length (rows L)) (hb : w.heap[pb]? = some (.cells #[tv, .int .i64 (s.i : Int), .int .i64 (d : Int), nv, .slice ad s.T.length c] 96 (0, 0)))
    (hn : w.ownsRow B 186 9 nv s.N.length nx) (hy : w.ownsRow B 52 4 (.slice ad s.T.length c) s.T.length yx) (hrn : Rws (NdV w ok) s.N nx) (hry : Rws (TyV w ok) s.T yx) (ht : TyV w ok t [.int .i64 t.kind, fv, lv, .int .i64 t.of']) (hok : ok pb ∧ (∀ g, nv.ownBlock = some g → ok g) ∧ (∀ g, Value.ownBlock (.slice ad s.T.length c) = some g → ok g)) (hgok : ok g)
    (h1 : Chg (fun _ => False) w w1) (hg : w1.grownBy w2 (Value.ownBlock (.slice ad s.T.length c))) (ho : w2.ownsRow B 52 4 (.slice (some ⟨g, 0, none⟩) (s.T.length + 1) cap) (s.T.length + 1) (yx ++ [.int .i64 t.kind, fv, lv, .int .i64 t.of'])) :
    Kept B ok w (w2.setCell ⟨pb, 4, none⟩ (.slice (some ⟨g, 0, none⟩) (s.T.length + 1) cap)) ∧ Pst (w2.setCell ⟨pb, 4, none⟩ (.slice (some ⟨g, 0, none⟩) (s.T.length + 1) cap)) B pb tv L ok d ⟨s.i, s.N, s.T ++ [t]⟩ := by
  have hlt := (Array.getElem?_eq_some_iff.1 hb).1
  have hb1 : w1.heap[pb]? = w.heap[pb]? := h1.block pb hlt (fun x => x)
  have hy1 : w1.ownsRow B 52 4 (.slice ad s.T.length c) s.T.length yx := owns_chg hy h1 (fun _ _ x => x)
  have hne : some pb ≠ Value.ownBlock (.slice ad s.T.length c) := by
    intro hx
    obtain ⟨_, cur, hh⟩ := owns_tag hy1 pb hx.symm
    rw [hb1, hb] at hh
    simp only [Option.some.injEq, Obj.cells.injEq] at hh
    exact absurd hh.2.1 (by decide)
  have hb2 : w2.heap[pb]? = some (.cells #[tv, .int .i64 (s.i : Int), .int .i64 (d : Int), nv, .slice ad s.T.length c] 96 (0, 0)) := by rw [hg.block pb (Nat.lt_of_lt_of_le hlt h1.size) hne, hb1, hb]
  have hc2 : Chg (fun k => some k = Value.ownBlock (.slice ad s.T.length c)) w w2 := (h1.mono fun _ _ x => x.elim).trans (Chg.grown hg) (fun _ _ x => x)
  have hc3 : Chg (fun k => some k = Value.ownBlock (.slice ad s.T.length c) ∨ k = pb) w (w2.setCell ⟨pb, 4, none⟩ (.slice (some ⟨g, 0, none⟩) (s.T.length + 1) cap)) := (hc2.mono fun _ _ x => .inl x).trans (Chg.set _ _ _) (fun _ _ x => .inr x)
  have hno : ∀ {base : Nat} {e : TypeId} {size : Nat} {v : Value} {n : Nat} {xs : List Value}, w.ownsRow base e size v n xs → e ≠ 96 → e ≠ 52 → ∀ k, v.ownBlock = some k → ¬ (some k = Value.ownBlock (.slice ad s.T.length c) ∨ k = pb) := by
    intro base e size v n xs hw he he2 k hk hx
    obtain ⟨_, cur, hh⟩ := owns_tag hw k hk
    rcases hx with hx | rfl
    · obtain ⟨_, cur2, hh2⟩ := owns_tag hy k hx.symm
      rw [hh] at hh2
      simp only [Option.some.injEq, Obj.cells.injEq] at hh2
      exact he2 hh2.2.1
    · rw [hb] at hh
      simp only [Option.some.injEq, Obj.cells.injEq] at hh
      exact he hh.2.1.symm
  have key : ∀ k, ok k → k < w.heap.size → (some k = Value.ownBlock (.slice ad s.T.length c) ∨ k = pb) → (∃ cur e, w.heap[k]? = some (.cells cur e (0, 0)) ∧ (e = 55 ∨ e = 3)) → False := by
    rintro k _ _ hx ⟨cur, e, hh, he⟩
    rcases hx with hx | rfl
    · obtain ⟨_, cur2, hh2⟩ := owns_tag hy k hx.symm
      rw [hh] at hh2
      simp only [Option.some.injEq, Obj.cells.injEq] at hh2
      rcases he with rfl | rfl <;> exact absurd hh2.2.1 (by decide)
    · rw [hb] at hh
      simp only [Option.some.injEq, Obj.cells.injEq] at hh
      rcases he with rfl | rfl <;> exact absurd hh.2.1 (by decide)
  have hb3 : (w2.setCell ⟨pb, 4, none⟩ (.slice (some ⟨g, 0, none⟩) (s.T.length + 1) cap)).heap[pb]? = some (.cells #[tv, .int .i64 (s.i : Int), .int .i64 (d : Int), nv, .slice (some ⟨g, 0, none⟩) (s.T.length + 1) cap] 96 (0, 0)) := by rw [heap_setCell_same w2 pb 4 _ _ _ hb2]; rfl
  refine ⟨hc3.mono fun k hk hx => ?_, hlow, hat, ⟨hfew, by simp; omega⟩, owns_chg htoks hc3 (hno htoks (by decide) (by decide)), ⟨hok.1, fun u g' hu hg' => ?_, fun u g' hu hg' => ?_⟩, nv, _, nx, _, hb3, owns_chg hn hc3 (hno hn (by decide) (by decide)), ?_, hrn.imp (NdV.chg hc3 key (fun _ x _ => x)), (hry.imp (TyV.chg hc3 key (fun _ x _ => x))).snoc (TyV.chg hc3 key (fun _ x _ => x) _ _ ht)⟩
  · rcases hx with hx | rfl
    · obtain ⟨hk1, cur2, hh2⟩ := owns_tag hy k hx.symm
      exact ⟨hk1, ⟨_, _, _, hh2, .inr (.inr rfl)⟩, hok.2.2 _ hx.symm⟩
    · exact ⟨hlow, ⟨_, _, _, hb, .inl rfl⟩, hok.1⟩
  · rw [cell_of_row _ pb 3 _ _ _ hb3] at hu
    cases hu
    exact hok.2.1 _ hg'
  · rw [cell_of_row _ pb 4 _ _ _ hb3] at hu
    cases hu
    have hg2 : some g = some g' := hg'
    cases hg2
    exact hgok
  · have := owns_chg ho (Chg.set w2 ⟨pb, 4, none⟩ (.slice (some ⟨g, 0, none⟩) (s.T.length + 1) cap)) (fun k hk hx => by
      have hx' : k = pb := hx
      subst hx'
      obtain ⟨_, cur2, hh2⟩ := owns_tag ho k hk
      rw [hb2] at hh2
      simp only [Option.some.injEq, Obj.cells.injEq] at hh2
      exact absurd hh2.2.1 (by decide))
    simpa using this

set_option maxRecDepth 100000 in
set_option maxHeartbeats 3200000 in
theorem addType_any (hL : LOk L) (h : Pst w B pb tv L ok d s) (t : M.Ty) (fa la : Option Addr) (fn fc ln lc : Nat) (ht : TyV w ok t [.int .i64 t.kind, .slice fa fn fc, .slice la ln lc, .int .i64 t.of']) (hf : s.T.length + 1 ≤ s.i) (hB : B ≤ w.heap.size) (hok : ∀ g, w.heap.size ≤ g → ok g) :
    Calls Tryz.prog 100 #[.pointer (some ⟨pb, 0, none⟩), .agg #[.int .i64 t.kind, .slice fa fn fc, .slice la ln lc, .int .i64 t.of']] w fun e w' => e = .returned (.int .i64 (s.T.length : Int)) ∧ Kept B ok w w' ∧ Pst w' B pb tv L ok d ⟨s.i, s.N, s.T ++ [t]⟩ := by
  obtain ⟨hlow, hat, hfew, htoks, hoks, nv, yv, nx, yx, hb, hn, hy, hrn, hry⟩ := h
  obtain ⟨ad, c, rfl⟩ := owns_form hy
  have hs := hL.short
  have hlt := (Array.getElem?_eq_some_iff.1 hb).1
  have c4 : w.cell? ⟨pb, 4, none⟩ = some (.slice ad s.T.length c) := by rw [cell_of_row w pb 4 _ _ _ hb]; rfl
  have fz : ∀ o, w.frozen? ⟨pb, o, none⟩ = false := fun o => frozen_of_row w pb o _ _ hb
  have hoks2 : ok pb ∧ (∀ g, nv.ownBlock = some g → ok g) ∧ (∀ g, Value.ownBlock (.slice ad s.T.length c) = some g → ok g) := ⟨hoks.1, fun g hg => hoks.2.1 _ g (by rw [cell_of_row w pb 3 _ _ _ hb]; rfl) hg, fun g hg => hoks.2.2 _ g c4 hg⟩
  have HP := hide (fun (w1 w2 : World) (g cap : Nat) => Pst.pushT (w1 := w1) (w2 := w2) (g := g) (cap := cap) hlow hat hfew.1 hf htoks hb hn hy hrn hry ht hoks2)
  have HG := hide (fun (g : Nat) (hg : Value.ownBlock (.slice ad s.T.length c) = some g ∨ g = w.heap.size + 2) => show ok g from by rcases hg with hg | hg; exact hoks2.2.2 g hg; exact hok g (by omega))
  clear hoks hoks2
  have hne : Value.ownBlock (.slice ad s.T.length c) ≠ some pb := by
    intro hx
    obtain ⟨_, cur, hh⟩ := owns_tag hy pb hx
    rw [hb] at hh
    simp only [Option.some.injEq, Obj.cells.injEq] at hh
    exact absurd hh.2.1 (by decide)
  have hne2 : Value.ownBlock (.slice ad s.T.length c) ≠ some w.heap.size := by
    intro hx
    have := (hy.lt _ hx).2
    omega
  have HY := hide hy
  obtain ⟨i0, hi, hz0, hz1, hz2⟩ := info_parts Tryz.infoTy
  clear ht htoks hb hn hy hrn hry
  go_enter Tryz.func100, Tryz.ntmps100
  go_wp2_with fail
  go_region_law ((refine step_append_lies _ (by rfl) _ _ _ (by rfl) B 52 i0 _ 4 64 Tryz.underlying27 hi hz0 hz1 hz2 rfl (by omega) (.slice ad s.T.length c) s.T.length yx (by rfl) (((HY.out.alloc _).alloc _).drew) ⟨w.heap.size + 1, 0, none⟩ 1 1 [.int .i64 t.kind, .slice fa fn fc, .slice la ln lc, .int .i64 t.of'] (by rfl) (by rfl) (World.news_of_block (cs := #[.int .i64 t.kind, .slice fa fn fc, .slice la ln lc, .int .i64 t.of']) (t := 52) (fr := (0, 0)) (heap_alloc2 w _ _)) (by simp [Value.oneCell']) (by omega) (by simp only [maxLen]; omega) (by omega) (by simp; omega) (w.heap.size + 2) (by simp) ?_
                  intro gg cap w1 hown1 hgrow hat1 hlt1
                  have z4 : w1.cell? ⟨pb, 4, none⟩ = some (.slice ad s.T.length c) := by rw [hgrow.cell_far _ (by simp; omega) (Ne.symm hne)]; exact cell_old (by simp; omega) (cell_old hlt c4)
                  have y4 : w1.frozen? ⟨pb, 4, none⟩ = false := by rw [hgrow.frozen_far _ (by simp; omega) (Ne.symm hne)]; exact frz_old (by simp; omega) (frz_old hlt (fz 4))))
  all_goals
    have HQ := hide (HP.out _ _ gg cap (HG.out gg hat1) (((Chg.alloc (fun _ => False) w _).trans (Chg.alloc (fun _ => False) _ _) (fun _ _ x => x)).trans (Chg.drewN (fun _ => False) _ 1) (fun _ _ x => x)) hgrow hown1)
    clear hgrow hown1 HP HY
    go_wp2
    go_ret
    exact ⟨ret_int (by omega), HQ.out.1, HQ.out.2⟩
end
end Go.Proofs.YtkilicjjaljghaaGreat

/- The contracts of the parser's methods that read a name, a plain type, and what may be in itself. -/
namespace Go.Proofs.YtkilicjjaljghaaGreat
open Go.RowKit

def Grow (s s' : M.St) : Prop := s.i < s'.i ∧ s'.N.length + s.i ≤ s.N.length + s'.i ∧ s'.T.length + s.i ≤ s.T.length + s'.i ∧ s.N.length ≤ s'.N.length

/-- What a method that reads a part answers: what the plain function says. -/
def Post (w : World) (B pb : Nat) (tv : Value) (L : List M.Tk) (ok : Nat → Prop) (d : Nat) (s : M.St) (φ : M.Sp → Option (M.Out Int)) (e : Ending) (w' : World) : Prop :=
  Kept B ok w w' ∧ ∃ o, M.Ev L φ o ∧ match o with
    | .ok s' x => e = .returned (.int .i64 x) ∧ Pst w' B pb tv L ok d s' ∧ Grow s s'
    | .fail er p => e = gu er p ∧ er ≠ 0

def Con (B pb : Nat) (tv : Value) (L : List M.Tk) (K : Nat) (φ : Nat → M.St → M.Sp → Option (M.Out Int)) (m : Nat) : Prop :=
  ∀ (w : World) (ok : Nat → Prop) (d : Nat) (s : M.St), L.length - s.i ≤ m → (∀ g, w.heap.size ≤ g → ok g) → B ≤ w.heap.size → Pst w B pb tv L ok d s →
    Calls Tryz.prog K #[.pointer (some ⟨pb, 0, none⟩)] w (Post w B pb tv L ok d s (φ d s))

section
variable {w : World} {B pb : Nat} {tv : Value} {L : List M.Tk} {ok : Nat → Prop} {d : Nat} {s : M.St}

set_option maxHeartbeats 400000 in
theorem pname_any (hL : LOk L) (h : Pst w B pb tv L ok d s) :
    Calls Tryz.prog 142 #[.pointer (some ⟨pb, 0, none⟩)] w fun e w' => Kept B ok w w' ∧
      ((M.tk L s.i).kind = 1 ∧ e = .returned (.string ⟨(M.tk L s.i).text.toArray⟩) ∧ Pst w' B pb tv L ok d s.nx ∨ (M.tk L s.i).kind ≠ 1 ∧ e = gu 1 ((M.tk L s.i).at' : Int)) := by
  have H := token_any hL h
  have HF := fun w1 (h1 : Pst w1 B pb tv L ok d s) => fail_any hL h1 1
  have HT := fun w1 (h1 : Pst w1 B pb tv L ok d s) => take_any hL h1
  have HS := hide (fun w1 (hc : Chg (fun _ => False) w w1) => h.still hc)
  have hf0 := tok_kind
  have hf1 := tok_text
  generalize M.tk L s.i = tk at *
  obtain ⟨kd, tx, pl⟩ := tk
  simp only [tkv] at H HT HF ⊢
  generalize (⟨tx.toArray⟩ : ByteArray) = bx at *
  clear h
  go_enter Tryz.func142, Tryz.ntmps142
  go_wp2_with fail
  refine H.mono ?_
  clear H
  rintro e w1 ⟨rfl, hc⟩
  have HP := hide (HS.out w1 hc)
  have HK := hide (still_kept (B := B) (ok := ok) hc)
  clear hc HS
  by_cases hk : kd = 1
  · subst hk
    go_wp2_with fail
    refine (HT _ HP.out (by decide)).mono ?_
    clear HT
    rintro e w2 ⟨rfl, hk2, hp2⟩
    have H2 := hide (HK.out.trans hk2)
    have H3 := hide hp2
    clear hk2 hp2
    go_wp2
    go_ret
    exact ⟨H2.out, rfl, H3.out⟩
  · have hk' : (kd == 1) = false := by simp [hk]
    go_wp2_with fail
    refine (HF _ HP.out).mono ?_
    rintro e w2 ⟨rfl, hc⟩
    exact ⟨rfl, HK.out.trans (still_kept hc), .inr ⟨hk, rfl⟩⟩

set_option maxHeartbeats 400000 in
theorem plainKind_any (w : World) (t : List UInt8) :
    Calls Tryz.prog 128 #[.string ⟨t.toArray⟩] w fun e w' => e = .returned (.int .i64 (M.plainKind t)) ∧ w' = w := by
  go_enter Tryz.func128, Tryz.ntmps128
  go_wp2
  all_goals go_ret
  all_goals exact ⟨ret_int (by simp_all [M.plainKind]), rfl⟩

theorem ev_flt {α : Type} {L : List M.Tk} {φ : M.Sp → Option (M.Out α)} {i : Nat} {e : Int} (h : ∀ r, φ r = M.flt L i e) : M.Ev L φ (.fail e ((M.tk L i).at' : Int)) := M.Ev.pure.eq h

set_option maxHeartbeats 400000 in
theorem inside_union_any (hL : LOk L) (m : Nat) (φ : Nat → M.St → M.Sp → Option (M.Out Int)) (hU : Con B pb tv L 74 φ m) (b : Bool) (hm : L.length - s.i ≤ m) (hok : ∀ g, w.heap.size ≤ g → ok g) (hB : B ≤ w.heap.size) (h : Pst w B pb tv L ok d s) :
    Calls Tryz.prog 73 #[.pointer (some ⟨pb, 0, none⟩), .bool b, .func (.func 74) #[.pointer (some ⟨pb, 0, none⟩)] #[]] w (Post w B pb tv L ok d s (fun r => M.inside L b d s (fun d s => φ d s r))) := by
  obtain ⟨g, c, nv, yv, -, -, -, -, hlt, -, c1, c2, -, -, fz, -⟩ := h.cell
  have HF := fun er => fail_any hL h er
  have HP := hide h
  clear h
  cases b
  · go_enter Tryz.func73, Tryz.ntmps73
    go_wp2_with fail
    refine (HF 1).mono ?_
    rintro e w2 ⟨rfl, hc⟩
    exact ⟨rfl, still_kept hc, _, ev_flt (e := 1) (i := s.i) (fun r => by simp [M.inside]), rfl, by decide⟩
  · by_cases hd : 20 ≤ d
    · have hd' : (20 : Int) ≤ (d : Int) := by omega
      go_enter Tryz.func73, Tryz.ntmps73
      go_wp2_with fail
      refine (HF 8).mono ?_
      rintro e w2 ⟨rfl, hc⟩
      exact ⟨rfl, still_kept hc, _, ev_flt (e := 8) (i := s.i) (fun r => by simp [M.inside, hd]), rfl, by decide⟩
    · have hd' : ¬ (20 : Int) ≤ (d : Int) := by omega
      have HD := hide hd
      clear hd
      go_enter Tryz.func73, Tryz.ntmps73
      go_wp2_with fail
      refine (hU _ ok (d + 1) s hm (by simpa using hok) (by simpa using hB) (by simpa using HP.out.deeper (d + 1))).mono ?_
      rintro e w2 ⟨hk, o, hev, hpost⟩
      have HK := hide ((HP.out.keptSet 2 _).trans hk)
      have HE := hide (hev.eq (ψ := fun r => M.inside L true d s (fun d s => φ d s r)) (fun r => by simp [M.inside, HD.out]))
      cases o with
      | fail er p =>
        obtain ⟨rfl, he⟩ := hpost
        exact ⟨rfl, HK.out, _, HE.out, rfl, he⟩
      | ok s' x =>
        obtain ⟨rfl, hp, hg⟩ := hpost
        have HP2 := hide hp
        have HG := hide hg
        obtain ⟨g', c', nv', yv', -, -, -, -, hlt', -, -, c2', -, -, fz', -⟩ := hp.cell
        clear hp hg hev hk HF hU
        go_wp2_with fail
        go_ret
        exact ⟨HK.out.trans (HP2.out.keptSet _ _), _, HE.out, rfl, HP2.out.deeper d, HG.out⟩

def strV (ms : List (List UInt8)) : Array Value := (ms.map fun m => Value.string ⟨m.toArray⟩).toArray
theorem strs_many (w : World) (ms : List (List UInt8)) (t : TypeId) : Strs (w.alloc (.cells (strV ms) t)) w.heap.size ms := by
  refine ⟨by simp, fun j hj => ?_⟩
  rw [World.cell?_alloc_new]
  simp [strV, hj]

set_option maxHeartbeats 400000 in
theorem typ_any (hL : LOk L) (m : Nat) (hU : Con B pb tv L 74 (fun d s r => r.union d s) m) : Con B pb tv L 47 (fun d s r => r.typ d s) m := by
  intro w ok d s hm hok hB h
  have HI := fun w1 (hc : Chg (fun _ => False) w w1) (b : Bool) => inside_union_any (w := w1) (ok := ok) hL m _ hU b hm (fun g hg => hok g (Nat.le_trans hc.size hg)) (Nat.le_trans hB hc.size) (h.still hc)
  have HS := is_any hL (h.alloc (.cells (strV M.typeBegins) 9)) w.heap.size 9 M.typeBegins (strs_many _ _ _) (by decide)
  clear hU
  have HE := hide (fun b (hb : b = M.isM L s.i M.typeBegins) o (ho : M.Ev L (fun r => M.inside L b d s (fun d s => r.union d s)) o) => (M.Ev.step (φ := fun r => r.typ d s) (ho.eq (fun r => by rw [hb]; rfl))))
  generalize M.isM L s.i M.typeBegins = b at *
  go_enter Tryz.func47, Tryz.ntmps47
  go_wp2_with fail
  refine HS.mono ?_
  clear HS
  rintro e w1 ⟨rfl, hc⟩
  have HC := hide ((Chg.alloc (fun _ => False) w _).trans hc (fun _ _ x => x))
  clear hc
  go_wp2_with fail
  refine (HI w1 HC.out b).mono ?_
  clear HI
  rintro e w2 ⟨hk, o, hev, hpost⟩
  have HK := hide ((still_kept HC.out).trans hk)
  have HV := hide (HE.out b rfl o hev)
  clear hk hev HE
  cases o with
  | fail er p =>
    obtain ⟨rfl, he⟩ := hpost
    exact ⟨rfl, HK.out, _, HV.out, rfl, he⟩
  | ok s' x =>
    obtain ⟨rfl, hp, hg⟩ := hpost
    have HP2 := hide hp
    have HG := hide hg
    clear hp hg
    go_wp2_with fail
    go_ret
    exact ⟨HK.out, _, HV.out, rfl, HP2.out, HG.out⟩

end
end Go.Proofs.YtkilicjjaljghaaGreat

/- The contracts of plainType, member and union. -/
namespace Go.Proofs.YtkilicjjaljghaaGreat
open Go.RowKit

section
variable {w : World} {B pb : Nat} {tv : Value} {L : List M.Tk} {ok : Nat → Prop} {d : Nat} {s : M.St}

theorem post_fail {φ : M.Sp → Option (M.Out Int)} {w' : World} {er p : Int} (hk : Kept B ok w w') (hev : M.Ev L φ (.fail er p)) (he : er ≠ 0) : Post w B pb tv L ok d s φ (gu er p) w' := ⟨hk, _, hev, rfl, he⟩
theorem post_ok {φ : M.Sp → Option (M.Out Int)} {w' : World} {s' : M.St} {x : Int} (hk : Kept B ok w w') (hev : M.Ev L φ (.ok s' x)) (hp : Pst w' B pb tv L ok d s') (hg : Grow s s') : Post w B pb tv L ok d s φ (.returned (.int .i64 x)) w' := ⟨hk, _, hev, rfl, hp, hg⟩

theorem tyv_plain (w : World) (ok : Nat → Prop) (k o : Int) : TyV w ok ⟨k, [], [], o⟩ [.int .i64 k, .slice none 0 0, .slice none 0 0, .int .i64 o] :=
  ⟨_, _, rfl, World.ownsRow_nil _ _ _ _, World.ownsRow_nil _ _ _ _, by simp [Value.ownBlock], by simp [Value.ownBlock]⟩

def plainSp (L : List M.Tk) (s : M.St) : Option (M.Out Int) := if (M.tk L s.i).kind = 2 ∧ M.plainKind (M.tk L s.i).text ≠ 0 then M.addT s.nx ⟨M.plainKind (M.tk L s.i).text, [], [], 0⟩ else M.flt L s.i 1

set_option maxHeartbeats 400000 in
theorem plainType_any (hL : LOk L) (hB : B ≤ w.heap.size) (hok : ∀ g, w.heap.size ≤ g → ok g) (h : Pst w B pb tv L ok d s) :
    Calls Tryz.prog 119 #[.pointer (some ⟨pb, 0, none⟩)] w (Post w B pb tv L ok d s (fun _ => plainSp L s)) := by
  have H := fun w1 (h1 : Pst w1 B pb tv L ok d s) => token_any hL h1
  have HF := fun w1 (h1 : Pst w1 B pb tv L ok d s) => fail_any hL h1 1
  have HA := fun w1 (h1 : Pst w1 B pb tv L ok d s.nx) (hs : w.heap.size ≤ w1.heap.size) (k : Int) => addType_any hL h1 ⟨k, [], [], 0⟩ none none 0 0 0 0 (tyv_plain w1 ok k 0) (by show s.T.length + 1 ≤ s.i + 1; have := h.few; omega) (Nat.le_trans hB hs) (fun g hg => hok g (Nat.le_trans hs hg))
  have hf0 := tok_kind
  have hf1 := tok_text
  have hs := hL.short
  have hi := h.at'
  have HN := hide (fun (hk : (M.tk L s.i).kind = 2) => show s.i + 1 < L.length by
    have h1 := hL.last s.i hi
    by_cases h2 : s.i + 1 = L.length
    · have := h1.2 h2
      omega
    · omega)
  have HV := hide (show plainSp L s = if (M.tk L s.i).kind = 2 ∧ M.plainKind (M.tk L s.i).text ≠ 0 then M.addT s.nx ⟨M.plainKind (M.tk L s.i).text, [], [], 0⟩ else some (.fail 1 ((M.tk L s.i).at' : Int)) from rfl)
  have HP := hide h
  clear h
  generalize plainSp L s = V at *
  generalize M.tk L s.i = tk at *
  obtain ⟨kd, tx, pl⟩ := tk
  simp only [tkv] at H HF HN HV
  have HPK := fun w1 => plainKind_any w1 tx
  generalize M.plainKind tx = pk at *
  generalize (⟨tx.toArray⟩ : ByteArray) = bx at *
  go_enter Tryz.func119, Tryz.ntmps119
  go_wp2_with fail
  refine (H _ HP.out).mono ?_
  rintro e w1 ⟨rfl, hc⟩
  have HP1 := hide (HP.out.still hc)
  have HC1 := hide hc
  clear hc
  by_cases hk : kd = 2
  · subst hk
    go_wp2_with fail
    refine (H _ HP1.out).mono ?_
    clear H
    rintro e w2 ⟨rfl, hc⟩
    have HP2 := hide (HP1.out.still hc)
    have HC2 := hide (HC1.out.trans hc (fun _ _ x => x))
    clear hc HP1 HC1
    go_wp2_with fail
    refine (HPK _).mono ?_
    clear HPK
    rintro e w3 ⟨rfl, rfl⟩
    by_cases hp : pk = 0
    · subst hp
      go_wp2_with fail
      refine (HF _ HP2.out).mono ?_
      clear HF
      rintro e w4 ⟨rfl, hc⟩
      exact ⟨rfl, post_fail ((still_kept HC2.out).trans (still_kept hc)) (M.Ev.pure.eq (fun _ => by rw [HV.out]; simp)) (by decide)⟩
    · have hp' : (pk == 0) = false := by simp [hp]
      obtain ⟨g', c', nv', yv', -, -, -, -, hlt', -, c1', -, -, -, fz', -⟩ := HP2.out.cell
      have HN2 := hide (HP2.out.next (HN.out trivial))
      have HK2 := hide ((still_kept HC2.out).trans (HP2.out.keptSet 1 (.int .i64 ((s.i : Int) + 1))))
      go_wp2_with fail
      refine (HA _ HN2.out (by have := HC2.out.size; simp; omega) pk).mono ?_
      clear HA
      rintro e w4 ⟨rfl, hk4, hp4⟩
      have HK4 := hide (HK2.out.trans hk4)
      have HP4 := hide hp4
      clear hk4 hp4 HN2 HK2
      go_wp2_with fail
      go_ret
      exact post_ok HK4.out (M.Ev.pure.eq (fun _ => by rw [HV.out]; simp [hp, M.addT])) HP4.out (by simp [Grow, M.St.nx]; omega)
  · have hk' : (kd == 2) = false := by simp [hk]
    go_wp2_with fail
    refine (HF _ HP1.out).mono ?_
    clear HF
    rintro e w4 ⟨rfl, hc⟩
    exact ⟨rfl, post_fail ((still_kept HC1.out).trans (still_kept hc)) (M.Ev.pure.eq (fun _ => by rw [HV.out]; simp [hk])) (by decide)⟩

theorem grow_nx {s s' : M.St} (h : Grow s.nx s') : Grow s s' := by
  obtain ⟨h1, h2, h3, h4⟩ := h
  simp only [M.St.nx] at h1 h2 h3 h4
  exact ⟨by omega, by omega, by omega, by omega⟩

set_option maxHeartbeats 1000000 in
theorem member_any (hL : LOk L) (m : Nat) (hTyp : ∀ m', m' < m → Con B pb tv L 47 (fun d s r => r.typ d s) m')
    (hObj : ∀ m', m' < m → Con B pb tv L 116 (fun d s r => r.objL d s []) m') (hFob : ∀ m', m' < m → Con B pb tv L 118 (fun d s r => r.fob d s) m') :
    Con B pb tv L 98 (fun d s r => r.member d s) m := by
  intro w ok d s hm hok hB h
  have hi := h.at'
  have hs := hL.short
  have HT := fun w1 (h1 : Pst w1 B pb tv L ok d s) mk => took_any hL h1 mk
  have HPl := fun w1 (h1 : Pst w1 B pb tv L ok d s) (hb : w.heap.size ≤ w1.heap.size) => plainType_any hL (Nat.le_trans hB hb) (fun g hg => hok g (Nat.le_trans hb hg)) h1
  have HO := fun w1 (h1 : Pst w1 B pb tv L ok d s.nx) (hb : w.heap.size ≤ w1.heap.size) => hObj (L.length - (s.i + 1)) (by omega) w1 ok d s.nx (Nat.le_refl _) (fun g hg => hok g (Nat.le_trans hb hg)) (Nat.le_trans hB hb) h1
  have HB := fun w1 (h1 : Pst w1 B pb tv L ok d s.nx) (hb : w.heap.size ≤ w1.heap.size) => hFob (L.length - (s.i + 1)) (by omega) w1 ok d s.nx (Nat.le_refl _) (fun g hg => hok g (Nat.le_trans hb hg)) (Nat.le_trans hB hb) h1
  have HY := fun w1 (h1 : Pst w1 B pb tv L ok d s.nx) (hb : w.heap.size ≤ w1.heap.size) => hTyp (L.length - (s.i + 1)) (by omega) w1 ok d s.nx (Nat.le_refl _) (fun g hg => hok g (Nat.le_trans hb hg)) (Nat.le_trans hB hb) h1
  have HN := fun w1 s1 (h1 : Pst w1 B pb tv L ok d s1) => need_any hL h1 [93]
  have HA := fun w1 (s1 : M.St) (h1 : Pst w1 B pb tv L ok d s1) (hs : w.heap.size ≤ w1.heap.size) (hq : s1.T.length + 1 ≤ s1.i) (k : Int) => addType_any hL h1 ⟨8, [], [], k⟩ none none 0 0 0 0 (tyv_plain w1 ok 8 k) hq (Nat.le_trans hB hs) (fun g hg => hok g (Nat.le_trans hs hg))
  have HV : Hid (∀ o, M.Ev L (fun r => if M.isM L s.i [[123]] then r.objL d s.nx [] else if M.isM L s.i [[91]] then M.obind (r.typ d s.nx) fun s x => M.obind (M.need L s [93]) fun s _ => M.addT s ⟨8, [], [], x⟩
      else if M.isM L s.i [[40]] then r.fob d s.nx else plainSp L s) o → M.Ev L (fun r => r.member d s) o) := fun o ho => M.Ev.step (ho.eq (fun r => rfl))
  have HF := hide h.few
  have HP := hide h
  clear h hTyp hObj hFob
  have H1 := HT w HP.out [123]
  have H2 := fun w1 (h1 : Pst w1 B pb tv L ok d s) => HT w1 h1 [91]
  have H3 := fun w1 (h1 : Pst w1 B pb tv L ok d s) => HT w1 h1 [40]
  clear HT
  generalize M.isM L s.i [[123]] = b1 at *
  generalize M.isM L s.i [[91]] = b2 at *
  generalize M.isM L s.i [[40]] = b3 at *
  generalize plainSp L s = V at *
  go_enter Tryz.func98, Tryz.ntmps98
  go_wp2_with fail
  refine H1.mono ?_
  clear H1
  rintro e w1 ⟨rfl, hk, hp⟩
  have K1 := hide hk
  have P1 := hide hp
  clear hk hp
  cases b1
  · go_wp2_with fail
    refine (H2 _ (by simpa using P1.out)).mono ?_
    clear H2
    rintro e w2 ⟨rfl, hk, hp⟩
    have K2 := hide (K1.out.trans hk)
    have P2 := hide hp
    clear hk hp P1 K1
    cases b2
    · go_wp2_with fail
      refine (H3 _ (by simpa using P2.out)).mono ?_
      clear H3
      rintro e w3 ⟨rfl, hk, hp⟩
      have K3 := hide (K2.out.trans hk)
      have P3 := hide hp
      clear hk hp P2 K2
      cases b3
      · go_wp2_with fail
        refine (HPl _ (by simpa using P3.out) K3.out.size).mono ?_
        rintro e w4 ⟨hk, o, hev, hpost⟩
        have K4 := hide (K3.out.trans hk)
        have E4 := hide (HV.out o (hev.eq (fun r => by simp)))
        clear hk hev
        cases o with
        | fail er p =>
          obtain ⟨rfl, he⟩ := hpost
          exact ⟨rfl, post_fail K4.out E4.out he⟩
        | ok s' x =>
          obtain ⟨rfl, hp, hg⟩ := hpost
          have P4 := hide hp
          have G4 := hide hg
          clear hp hg
          go_wp2_with fail
          go_ret
          exact post_ok K4.out E4.out P4.out G4.out
      · go_wp2_with fail
        refine (HB _ (by simpa using P3.out) K3.out.size).mono ?_
        rintro e w4 ⟨hk, o, hev, hpost⟩
        have K4 := hide (K3.out.trans hk)
        have E4 := hide (HV.out o (hev.eq (fun r => by simp)))
        clear hk hev
        cases o with
        | fail er p =>
          obtain ⟨rfl, he⟩ := hpost
          exact ⟨rfl, post_fail K4.out E4.out he⟩
        | ok s' x =>
          obtain ⟨rfl, hp, hg⟩ := hpost
          have P4 := hide hp
          have G4 := hide (grow_nx hg)
          clear hp hg
          go_wp2_with fail
          go_ret
          exact post_ok K4.out E4.out P4.out G4.out
    · go_wp2_with fail
      refine (HY _ (by simpa using P2.out) K2.out.size).mono ?_
      rintro e w4 ⟨hk, o, hev, hpost⟩
      have K4 := hide (K2.out.trans hk)
      have E4 := hide hev
      clear hk hev
      cases o with
      | fail er p =>
        obtain ⟨rfl, he⟩ := hpost
        exact ⟨rfl, post_fail K4.out (HV.out _ ((M.Ev.bad E4.out).eq (fun r => by simp; rfl))) he⟩
      | ok s' x =>
        obtain ⟨rfl, hp, hg⟩ := hpost
        have P4 := hide hp
        have G4 := hide (grow_nx hg)
        clear hp hg
        go_wp2_with fail
        refine (HN _ _ P4.out).mono ?_
        rintro e w5 ⟨hk, hr⟩
        have K5 := hide (K4.out.trans hk)
        clear hk
        rcases hr with ⟨hb, rfl, hp⟩ | ⟨hb, rfl⟩
        · have P5 := hide hp
          have B5 := hide hb
          clear hp hb
          go_wp2_with fail
          refine (HA _ _ P5.out K5.out.size (by have := P4.out.few; simp [M.St.nx]; omega) x).mono ?_
          rintro e w6 ⟨rfl, hk, hp⟩
          have K6 := hide (K5.out.trans hk)
          have P6 := hide hp
          clear hk hp
          go_wp2_with fail
          go_ret
          refine post_ok K6.out (HV.out _ (M.Ev.eq (M.Ev.bind E4.out (k := fun _ s x => M.obind (M.need L s [93]) fun s _ => M.addT s ⟨8, [], [], x⟩) (M.Ev.pure.eq (fun r => ?_))) (fun r => by simp))) P6.out ?_
          · simp [M.need, B5.out, M.obind, M.addT]
          · have := G4.out
            simp only [Grow, M.St.nx, List.length_append, List.length_cons, List.length_nil] at this ⊢
            omega
        · refine ⟨rfl, post_fail K5.out (HV.out _ (M.Ev.eq (M.Ev.bind E4.out (k := fun _ s x => M.obind (M.need L s [93]) fun s _ => M.addT s ⟨8, [], [], x⟩) (M.Ev.pure.eq (fun r => ?_))) (fun r => by simp))) (by decide)⟩
          simp [M.need, hb, M.obind, M.flt]
  · go_wp2_with fail
    refine (HO _ (by simpa using P1.out) K1.out.size).mono ?_
    rintro e w4 ⟨hk, o, hev, hpost⟩
    have K4 := hide (K1.out.trans hk)
    have E4 := hide (HV.out o (hev.eq (fun r => by simp)))
    clear hk hev
    cases o with
    | fail er p =>
      obtain ⟨rfl, he⟩ := hpost
      exact ⟨rfl, post_fail K4.out E4.out he⟩
    | ok s' x =>
      obtain ⟨rfl, hp, hg⟩ := hpost
      have P4 := hide hp
      have G4 := hide (grow_nx hg)
      clear hp hg
      go_wp2_with fail
      go_ret
      exact post_ok K4.out E4.out P4.out G4.out
end
end Go.Proofs.YtkilicjjaljghaaGreat
