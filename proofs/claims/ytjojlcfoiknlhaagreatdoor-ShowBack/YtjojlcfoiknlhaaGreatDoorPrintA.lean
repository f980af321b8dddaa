/-
  The printer: what it holds; the contracts of binds, within, typeIfAny, get, at.
  The printer: contracts as they are used one behind the other; within, typeIfAny, get, at.
-/
import Derived.Test.YtjojlcfoiknlhaaGreatDoorWriteC
import Derived.Test.YtjojlcfoiknlhaaGreatDoorPlainC
import Derived.Test.YtjojlcfoiknlhaaGreatDoorPrs
import Derived.Shelf.Strconv.Itoa3
namespace Go.Proofs.YtjojlcfoiknlhaaGreatDoor
open Go.RowKit

/-- A printer's block, its nodes and how deep it is. -/
def pk (nv : Value) (d : Nat) : Wk := ⟨false, 80, #[nv, .int .i64 (d : Int)], .inr ⟨rfl, nv, d, rfl⟩⟩

/-- The library's table of powers lies below. -/
def Tab (w : World) (B : Nat) : Prop := Lib.TabIs Tryz.prog w "internal/strconv.uint64pow10" .u64 Lib.pow10Tab ∧ ∃ g, Tryz.prog.globalNamed "internal/strconv.uint64pow10" = some g ∧ g < B ∧ g < w.heap.size
theorem tab_chg {S : Nat → Prop} {w w' : World} {B : Nat} (h : Tab w B) (hc : Chg S w w') (hs : ∀ k, k < B → ¬ S k) : Tab w' B := by
  obtain ⟨ht, g, hg, hgB, hgw⟩ := h
  have hb := hc.block g hgw (hs g hgB)
  refine ⟨?_, g, hg, hgB, Nat.lt_of_lt_of_le hgw hc.size⟩
  unfold Lib.TabIs World.var? at *
  simp only [hg] at ht ⊢
  simpa [hb] using ht

/-- A printer, the nodes and the types that it writes. -/
structure Psp (w : World) (B wb : Nat) (tv nv : Value) (d : Nat) (N : List M.Nd) (T : List M.Ty) (bs : List UInt8) : Prop where
  sp : Wsp w B wb tv (pk nv d) T bs
  row : ∃ nx, w.ownsRow 0 63 9 nv N.length nx ∧ Rws (NdV w (fun _ => True)) N nx
  tab : Tab w B

/-- What is not the writer's is kept. -/
theorem wkp_not {w w' : World} {B wb : Nat} {tv : Value} {bn : Wk} {bs : List UInt8} (_ : Wkp B wb w w') (hw : Wrt w B wb tv bn bs) {k : Nat} {cur : Array Value} {e : TypeId} (hk : w.heap[k]? = some (.cells cur e (0, 0))) (he : e ≠ 5 ∧ e ≠ 78 ∧ e ≠ 80) : ¬ (B ≤ k ∧ (k = wb ∨ ∃ cs fz, w.heap[k]? = some (.cells cs 5 fz))) := by
  rintro ⟨_, hx | ⟨cs, fz, hx⟩⟩
  · subst hx
    obtain ⟨p, v, hb, _⟩ := hw.blk
    rw [hb] at hk
    simp only [Option.some.injEq, Obj.cells.injEq] at hk
    exact bn.ne he.2.1 he.2.2 hk.2.1
  · rw [hk] at hx
    simp only [Option.some.injEq, Obj.cells.injEq] at hx
    exact he.1 hx.2.1

section
variable {w w' : World} {B wb : Nat} {tv nv : Value} {d : Nat} {N : List M.Nd} {T : List M.Ty} {bs bs' : List UInt8}

theorem nrow_kept {bn : Wk} (hc : Wkp B wb w w') (hw : Wrt w B wb tv bn bs) (h : ∃ nx, w.ownsRow 0 63 9 nv N.length nx ∧ Rws (NdV w (fun _ => True)) N nx) : ∃ nx, w'.ownsRow 0 63 9 nv N.length nx ∧ Rws (NdV w' (fun _ => True)) N nx := by
  obtain ⟨nx, ho, hr⟩ := h
  refine ⟨nx, owns_chg ho hc fun g hg x => ?_, hr.imp (NdV.chg hc (fun g _ _ hx hh => ?_) (fun _ _ _ => trivial))⟩
  · obtain ⟨_, cur, hh⟩ := owns_tag ho g hg
    exact wkp_not hc hw hh (by decide) x
  · obtain ⟨cur, e, hh, he⟩ := hh
    rcases he with rfl | rfl
    · exact wkp_not hc hw hh (by decide) hx
    · exact wkp_not hc hw hh (by decide) hx
theorem Psp.kept {d' : Nat} (h : Psp w B wb tv nv d N T bs) (hc : Wkp B wb w w') (h' : Wrt w' B wb tv (pk nv d') bs') : Psp w' B wb tv nv d' N T bs' := by
  have hs := h.sp
  obtain ⟨hw, hT, yx, ho, hr⟩ := hs
  refine ⟨⟨h', hT, yx, owns_chg ho hc fun g hg x => ?_, hr.imp (TyV.chg hc (fun g _ _ hx hh => ?_) (fun _ _ _ => trivial))⟩, nrow_kept hc hw h.row, tab_chg h.tab hc (fun k hk x => by have := x.1; omega)⟩
  · obtain ⟨_, cur, hh⟩ := owns_tag ho g hg
    exact wkp_not hc hw hh (by decide) x
  · obtain ⟨cur, e, hh, he⟩ := hh
    rcases he with rfl | rfl
    · exact wkp_not hc hw hh (by decide) hx
    · exact wkp_not hc hw hh (by decide) hx
theorem Psp.still (h : Psp w B wb tv nv d N T bs) (hc : Chg (fun _ => False) w w') : Psp w' B wb tv nv d N T bs := h.kept (Wkp.still hc) (h.sp.wrt.still hc)

/-- The value of a node. -/
def ndv (n : M.Nd) (la : Option Addr) (lc : Nat) : Value := .agg #[.int .i64 n.kind, .int .i64 n.a, .int .i64 n.b, .int .i64 n.c, .slice la n.list.length lc, .string ⟨n.text.toArray⟩, .int .i64 n.n, .int .i64 n.ty, .int .i64 n.at']

theorem Psp.cell (h : Psp w B wb tv nv d N T bs) : ∃ na nc, nv = .slice na N.length nc ∧ w.cell? ⟨wb, 4, none⟩ = some (.slice na N.length nc) ∧ w.cell? ⟨wb, 5, none⟩ = some (.int .i64 (d : Int)) ∧ (∀ o, w.frozen? ⟨wb, o, none⟩ = false) ∧ wb < w.heap.size ∧
    ∀ i (hi : i < N.length), ∃ g la lc, na = some ⟨g, 0, none⟩ ∧ g < w.heap.size ∧ N.length ≤ nc ∧ nc ≤ maxLen ∧ w.cell? ⟨g, i * 9, none⟩ = some (.int .i64 N[i].kind) ∧ w.cell? ⟨g, i * 9 + 1, none⟩ = some (.int .i64 N[i].a) ∧ w.cell? ⟨g, i * 9 + 2, none⟩ = some (.int .i64 N[i].b) ∧ w.cell? ⟨g, i * 9 + 3, none⟩ = some (.int .i64 N[i].c) ∧
      w.cell? ⟨g, i * 9 + 4, none⟩ = some (.slice la N[i].list.length lc) ∧ w.cell? ⟨g, i * 9 + 5, none⟩ = some (.string ⟨N[i].text.toArray⟩) ∧ w.cell? ⟨g, i * 9 + 6, none⟩ = some (.int .i64 N[i].n) ∧ w.cell? ⟨g, i * 9 + 7, none⟩ = some (.int .i64 N[i].ty) ∧ w.cell? ⟨g, i * 9 + 8, none⟩ = some (.int .i64 N[i].at') ∧
      w.ownsRow 0 3 1 (.slice la N[i].list.length lc) N[i].list.length (ints N[i].list) := by
  obtain ⟨nx, hn, hr⟩ := h.row
  obtain ⟨na, nc, rfl⟩ := owns_form hn
  obtain ⟨_, p, v, hb, _⟩ := h.sp.wrt
  refine ⟨na, nc, rfl, by rw [cell_of_row w wb 4 _ _ _ hb]; rfl, by rw [cell_of_row w wb 5 _ _ _ hb]; rfl, fun o => frozen_of_row w wb o _ _ hb, (Array.getElem?_eq_some_iff.1 hb).1, fun i hi => ?_⟩
  obtain ⟨g, rfl, _, hg, hc1, hc2, hcell⟩ := owns_cell hn (by omega)
  obtain ⟨xs, ht, hx⟩ := Rws.at (z := 9) (fun _ _ h => h.len) i hi hr
  obtain ⟨lv, rfl, ho2, _⟩ := ht
  obtain ⟨la, lc, rfl⟩ := owns_form ho2
  refine ⟨g, la, lc, rfl, hg, hc1, hc2, hcell _ _ ?_, hcell _ _ ?_, hcell _ _ ?_, hcell _ _ ?_, hcell _ _ ?_, hcell _ _ ?_, hcell _ _ ?_, hcell _ _ ?_, hcell _ _ ?_, ho2⟩
  · have := hx 0 (by omega); simpa using this
  · have := hx 1 (by omega); simpa using this
  · have := hx 2 (by omega); simpa using this
  · have := hx 3 (by omega); simpa using this
  · have := hx 4 (by omega); simpa using this
  · have := hx 5 (by omega); simpa using this
  · have := hx 6 (by omega); simpa using this
  · have := hx 7 (by omega); simpa using this
  · have := hx 8 (by omega); simpa using this
end

set_option maxHeartbeats 1000000 in
theorem binds_any (n : M.Nd) (la : Option Addr) (lc : Nat) (w : World) : Calls Tryz.prog 191 #[ndv n la lc] w fun e w' => e = .returned (.int .i64 (M.bnK n.kind n.text : Int)) ∧ Chg (fun _ => False) w w' := by
  obtain ⟨kd, a, b, c, l, tx, n, ty, at0⟩ := n
  simp only [ndv]
  by_cases h13 : kd = 13
  · subst h13
    go_enter Tryz.func191, Tryz.ntmps191
    go_wp2
    go_ret
    exact ⟨rfl, Chg.alloc _ _ _⟩
  by_cases h12 : kd = 12
  · subst h12
    go_enter Tryz.func191, Tryz.ntmps191
    go_wp2
    all_goals go_ret
    all_goals exact ⟨ret_int (by simp_all [M.bnK]), Chg.alloc _ _ _⟩
  have e13 : (kd == 13) = false := by simp [h13]
  have e12 : (kd != 12) = true := by simp [h12]
  have e : M.bnK kd tx = 5 := by simp [M.bnK, h12, h13]
  rw [e]
  go_enter Tryz.func191, Tryz.ntmps191
  go_wp2
  go_ret
  exact ⟨rfl, Chg.alloc _ _ _⟩

section
variable {B wb : Nat} {tv : Value} {bn : Wk}
/-- Say of two words. -/
theorem say2 {a0 : World} (hB : B ≤ a0.heap.size) (a : World) (q : Nat) (bs : List UInt8) (s1 s2 : ByteArray) (hq : q = a.heap.size) (hk : Wkp B wb a0 a) (hw : Wrt a B wb tv bn bs) (hl : bs.length + s1.size + s2.size ≤ 100000000000000) :
    Calls Tryz.prog 67 #[.pointer (some ⟨wb, 0, none⟩), .slice (some ⟨q, 0, none⟩) 2 2] (a.alloc (.cells #[.string s1, .string s2] 9)) (WPost a0 B wb tv bn (bs ++ (s1.data.toList ++ s2.data.toList))) := by
  subst hq
  have e1 : s1.data.toList.length = s1.size := bl s1
  have e2 : s2.data.toList.length = s2.size := bl s2
  refine (say_any (hw.still (Chg.alloc _ _ _)) [s1, s2] a.heap.size (0, 0) (heap_alloc_new a _) (by simp) (by simp [said]; omega) (by simp; have := hk.size; omega)).mono ?_
  rintro e w' ⟨rfl, h1, h2⟩
  exact ⟨rfl, (hk.trans (Wkp.still (Chg.alloc _ _ _))).trans h1, by simpa [said] using h2⟩
end
end Go.Proofs.YtjojlcfoiknlhaaGreatDoor

namespace Go.Proofs.YtjojlcfoiknlhaaGreatDoor
open Go.RowKit

/-- A call that writes X, whatever was written since w0. -/
def CC (w0 : World) (B wb : Nat) (tv : Value) (bn : Wk) (K : Nat) (args : Array Value) (X : List UInt8) : Prop :=
  ∀ (a : World) (bs : List UInt8), Wkp B wb w0 a → Wrt a B wb tv bn bs → bs.length + X.length ≤ 100000000000000 → Calls Tryz.prog K args a (WPost w0 B wb tv bn (bs ++ X))
def CS (w0 : World) (B wb : Nat) (tv : Value) (bn : Wk) : Prop :=
  (∀ (a : World) (bs : List UInt8) (q n : Nat) (l1 : List UInt8), q = a.heap.size → Wkp B wb w0 a → Wrt a B wb tv bn bs → bs.length + l1.length ≤ 100000000000000 →
    Calls Tryz.prog 67 #[.pointer (some ⟨wb, 0, none⟩), .slice (some ⟨q, 0, none⟩) 1 1] (a.alloc (.cells #[.string ⟨l1.toArray⟩] 9)) (WPost w0 B wb tv bn (bs ++ l1)) ∧
    Calls Tryz.prog 67 #[.pointer (some ⟨wb, 0, none⟩), .slice (some ⟨q, 0, none⟩) 1 1] ((a.drewN n).alloc (.cells #[.string ⟨l1.toArray⟩] 9)) (WPost w0 B wb tv bn (bs ++ l1))) ∧
  (∀ (a : World) (bs : List UInt8) (q n : Nat) (l1 l2 : List UInt8), q = a.heap.size → Wkp B wb w0 a → Wrt a B wb tv bn bs → bs.length + l1.length + l2.length ≤ 100000000000000 →
    Calls Tryz.prog 67 #[.pointer (some ⟨wb, 0, none⟩), .slice (some ⟨q, 0, none⟩) 2 2] (a.alloc (.cells #[.string ⟨l1.toArray⟩, .string ⟨l2.toArray⟩] 9)) (WPost w0 B wb tv bn (bs ++ (l1 ++ l2))) ∧
    Calls Tryz.prog 67 #[.pointer (some ⟨wb, 0, none⟩), .slice (some ⟨q, 0, none⟩) 2 2] ((a.drewN n).alloc (.cells #[.string ⟨l1.toArray⟩, .string ⟨l2.toArray⟩] 9)) (WPost w0 B wb tv bn (bs ++ (l1 ++ l2)))) ∧
  (∀ (a : World) (bs : List UInt8) (q n : Nat) (l1 l2 l3 : List UInt8), q = a.heap.size → Wkp B wb w0 a → Wrt a B wb tv bn bs → bs.length + l1.length + l2.length + l3.length ≤ 100000000000000 →
    Calls Tryz.prog 67 #[.pointer (some ⟨wb, 0, none⟩), .slice (some ⟨q, 0, none⟩) 3 3] (a.alloc (.cells #[.string ⟨l1.toArray⟩, .string ⟨l2.toArray⟩, .string ⟨l3.toArray⟩] 9)) (WPost w0 B wb tv bn (bs ++ (l1 ++ l2 ++ l3))) ∧
    Calls Tryz.prog 67 #[.pointer (some ⟨wb, 0, none⟩), .slice (some ⟨q, 0, none⟩) 3 3] ((a.drewN n).alloc (.cells #[.string ⟨l1.toArray⟩, .string ⟨l2.toArray⟩, .string ⟨l3.toArray⟩] 9)) (WPost w0 B wb tv bn (bs ++ (l1 ++ l2 ++ l3))))

section
variable {B wb : Nat} {tv nv : Value} {bn : Wk} {N : List M.Nd} {T : List M.Ty}

theorem bsz (l : List UInt8) : (⟨l.toArray⟩ : ByteArray).size = l.length := rfl
theorem cs_any {w0 : World} (hB : B ≤ w0.heap.size) : CS w0 B wb tv bn := by
  have h1 : ∀ (a : World) (bs : List UInt8) (q : Nat) (l1 : List UInt8), q = a.heap.size → Wkp B wb w0 a → Wrt a B wb tv bn bs → bs.length + l1.length ≤ 100000000000000 → Calls Tryz.prog 67 #[.pointer (some ⟨wb, 0, none⟩), .slice (some ⟨q, 0, none⟩) 1 1] (a.alloc (.cells #[.string ⟨l1.toArray⟩] 9)) (WPost w0 B wb tv bn (bs ++ l1)) := by
    intro a bs q l1 hq hk hw hl
    exact say1 hB a q bs ⟨l1.toArray⟩ hq hk hw (by rw [bsz]; exact hl)
  have h2 : ∀ (a : World) (bs : List UInt8) (q : Nat) (l1 l2 : List UInt8), q = a.heap.size → Wkp B wb w0 a → Wrt a B wb tv bn bs → bs.length + l1.length + l2.length ≤ 100000000000000 → Calls Tryz.prog 67 #[.pointer (some ⟨wb, 0, none⟩), .slice (some ⟨q, 0, none⟩) 2 2] (a.alloc (.cells #[.string ⟨l1.toArray⟩, .string ⟨l2.toArray⟩] 9)) (WPost w0 B wb tv bn (bs ++ (l1 ++ l2))) := by
    intro a bs q l1 l2 hq hk hw hl
    exact say2 hB a q bs ⟨l1.toArray⟩ ⟨l2.toArray⟩ hq hk hw (by rw [bsz, bsz]; exact hl)
  have h3 : ∀ (a : World) (bs : List UInt8) (q : Nat) (l1 l2 l3 : List UInt8), q = a.heap.size → Wkp B wb w0 a → Wrt a B wb tv bn bs → bs.length + l1.length + l2.length + l3.length ≤ 100000000000000 → Calls Tryz.prog 67 #[.pointer (some ⟨wb, 0, none⟩), .slice (some ⟨q, 0, none⟩) 3 3] (a.alloc (.cells #[.string ⟨l1.toArray⟩, .string ⟨l2.toArray⟩, .string ⟨l3.toArray⟩] 9)) (WPost w0 B wb tv bn (bs ++ (l1 ++ l2 ++ l3))) := by
    intro a bs q l1 l2 l3 hq hk hw hl
    exact say3 hB a q bs ⟨l1.toArray⟩ ⟨l2.toArray⟩ ⟨l3.toArray⟩ hq hk hw (by rw [bsz, bsz, bsz]; exact hl)
  have hd : ∀ (a : World) (bs : List UInt8) (n : Nat), Wkp B wb w0 a → Wrt a B wb tv bn bs → Wkp B wb w0 (a.drewN n) ∧ Wrt (a.drewN n) B wb tv bn bs := fun a bs n hk hw => ⟨hk.trans (Wkp.still (Chg.drewN _ _ n)), hw.still (Chg.drewN _ _ n)⟩
  refine ⟨fun a bs q n l1 hq hk hw hl => ⟨h1 a bs q l1 hq hk hw hl, ?_⟩, fun a bs q n l1 l2 hq hk hw hl => ⟨h2 a bs q l1 l2 hq hk hw hl, ?_⟩, fun a bs q n l1 l2 l3 hq hk hw hl => ⟨h3 a bs q l1 l2 l3 hq hk hw hl, ?_⟩⟩
  · exact h1 (a.drewN n) bs q l1 (by rw [hq]; simp) (hd a bs n hk hw).1 (hd a bs n hk hw).2 hl
  · exact h2 (a.drewN n) bs q l1 l2 (by rw [hq]; simp) (hd a bs n hk hw).1 (hd a bs n hk hw).2 hl
  · exact h3 (a.drewN n) bs q l1 l2 l3 (by rw [hq]; simp) (hd a bs n hk hw).1 (hd a bs n hk hw).2 hl

/-- A tree as a part that was written. -/
def pcOf (d : Nat) (t : M.Nt) : M.Pc := ⟨M.bnd t, t.k, M.pr d t⟩

/-- expression, at trees of at most this size. -/
def PE (B wb : Nat) (tv nv : Value) (N : List M.Nd) (T : List M.Ty) (m : Nat) : Prop :=
  ∀ (t : M.Nt) (i : Int) (d : Nat) (w : World) (bs : List UInt8), M.szN t ≤ m → d + M.szN t ≤ 1000000 → M.Gd t → M.isE t.k → M.At N T t i → Psp w B wb tv nv d N T bs → B ≤ w.heap.size → bs.length + (M.pr d t).length ≤ 100000000000000 →
    Calls Tryz.prog 138 #[.pointer (some ⟨wb, 0, none⟩), .int .i64 i] w (WPost w B wb tv (pk nv d) (bs ++ M.pr d t))

theorem PE.cc {m : Nat} (h : PE B wb tv nv N T m) {t : M.Nt} {i : Int} {d : Nat} {w0 : World} {bs0 : List UInt8} (hs : M.szN t ≤ m) (hd : d + M.szN t ≤ 1000000) (hg : M.Gd t) (he : M.isE t.k) (ha : M.At N T t i) (hp : Psp w0 B wb tv nv d N T bs0) (hB : B ≤ w0.heap.size) :
    CC w0 B wb tv (pk nv d) 138 #[.pointer (some ⟨wb, 0, none⟩), .int .i64 i] (M.pr d t) := by
  intro a bs hk hw hl
  refine (h t i d a bs hs hd hg he ha (hp.kept hk hw) (Nat.le_trans hB hk.size) hl).mono ?_
  rintro e w' ⟨rfl, h1, h2⟩
  exact ⟨rfl, hk.trans h1, h2⟩


set_option maxHeartbeats 2000000 in
set_option maxRecDepth 100000 in
theorem within_any {m : Nat} (hE : PE B wb tv nv N T m) {t : M.Nt} {i : Int} {d : Nat} {w : World} {bs : List UInt8} (least : Nat) (hs : M.szN t ≤ m) (hd : d + M.szN t ≤ 1000000) (hg : M.Gd t) (he : M.isE t.k) (ha : M.At N T t i) (hp : Psp w B wb tv nv d N T bs) (hB : B ≤ w.heap.size) (hlen : bs.length + (M.wi least (pcOf d t)).length ≤ 100000000000000) :
    Calls Tryz.prog 169 #[.pointer (some ⟨wb, 0, none⟩), .int .i64 i, .int .i64 (least : Int)] w (WPost w B wb tv (pk nv d) (bs ++ M.wi least (pcOf d t))) := by
  have CE := hide (hE.cc hs hd hg he ha hp hB)
  have SY := hide (cs_any (B := B) (wb := wb) (tv := tv) (bn := pk nv d) hB)
  obtain ⟨na, nc, rfl, c4, c5, fz, hlt, hcell⟩ := hp.cell
  have P0 := hide hp
  clear hp
  cases t with
  | ty t0 => cases t0 <;> simp [M.Nt.k, M.isE] at he
  | nd k tx n ps =>
  rw [M.At] at ha
  obtain ⟨j, rfl, hj, e1, e2, -, -⟩ := ha
  obtain ⟨g, la, lc, rfl, hgl, hc1, hc2, x0, x1, x2, x3, x4, x5, x6, x7, x8, -⟩ := hcell j hj
  have HBI := hide (fun a => binds_any N[j] la lc a)
  clear hcell
  rw [e1, e2] at HBI
  rw [e1] at x0
  rw [e2] at x5
  simp only [ndv, e1, e2] at HBI
  unfold maxLen at hc2
  have HX1 : Hid (least ≤ M.bnK k tx → M.wi least (pcOf d (.nd k tx n ps)) = M.pr d (.nd k tx n ps)) := fun h => if_pos h
  have HX2 : Hid (¬ least ≤ M.bnK k tx → M.wi least (pcOf d (.nd k tx n ps)) = [40] ++ M.pr d (.nd k tx n ps) ++ [41]) := fun h => if_neg h
  generalize M.wi least (pcOf d (.nd k tx n ps)) = XX at *
  generalize M.bnK k tx = bk at *
  generalize M.pr d (.nd k tx n ps) = tx1 at *
  generalize N[j].a = va at *
  generalize N[j].b = vb at *
  generalize N[j].c = vc at *
  generalize N[j].n = vn at *
  generalize N[j].ty = vt at *
  generalize N[j].at' = vp at *
  generalize N[j].list = vl at *
  go_enter Tryz.func169, Tryz.ntmps169
  go_wp2_with fail
  refine (HBI.out _).mono ?_
  rintro e w0 ⟨rfl, hc⟩
  have K0 := hide (Wkp.still (B := B) (wb := wb) hc)
  have R0 := hide (P0.out.sp.wrt.still hc)
  have hz0 : w.heap.size ≤ w0.heap.size := hc.size
  clear hc HBI P0
  have END : Hid (∀ a bs', Wkp B wb w a → Wrt a B wb tv (pk (.slice (some ⟨g, 0, none⟩) N.length nc) d) bs' → bs' = bs ++ XX → WPost w B wb tv (pk (.slice (some ⟨g, 0, none⟩) N.length nc) d) (bs ++ XX) (.returned (.tuple #[])) a) := fun a bs' h1 h2 e => ⟨rfl, h1, e ▸ h2⟩
  by_cases hl : least ≤ bk
  · have hl' : (least : Int) ≤ (bk : Int) := by omega
    have HXr := hide (HX1.out hl)
    rw [HXr.out] at hlen
    have H0 := hide (CE.out _ _ K0.out R0.out (by first | omega | (simp; omega) | (simp at hlen; omega) | (simp at hlen ⊢; omega)))
    go_wp2_with fail
    refine (H0.out).mono ?_
    rintro e w1 ⟨rfl, h1, h2⟩
    have K1 := hide h1
    have R1 := hide h2
    clear h1 h2 H0 K0 R0
    have HE := hide (END.out _ _ K1.out R1.out (by rw [HXr.out]; try simp))
    clear K1 R1
    go_wp2
    go_end0
    exact HE.out
  · have hl' : ¬ (least : Int) ≤ (bk : Int) := by omega
    have HXr := hide (HX2.out hl)
    rw [HXr.out] at hlen
    have H0 := hide (SY.out.1 _ _ _ 1 [40] rfl K0.out R0.out (by first | omega | (simp; omega) | (simp at hlen; omega) | (simp at hlen ⊢; omega)))
    go_wp2_with fail
    refine (H0.out.1).mono ?_
    rintro e w1 ⟨rfl, h1, h2⟩
    have K1 := hide h1
    have R1 := hide h2
    clear h1 h2 H0 K0 R0
    have H1 := hide (CE.out _ _ K1.out R1.out (by first | omega | (simp; omega) | (simp at hlen; omega) | (simp at hlen ⊢; omega)))
    go_wp2_with fail
    refine (H1.out).mono ?_
    rintro e w2 ⟨rfl, h1, h2⟩
    have K2 := hide h1
    have R2 := hide h2
    clear h1 h2 H1 K1 R1
    have H2 := hide (SY.out.1 _ _ _ 1 [41] rfl K2.out R2.out (by first | omega | (simp; omega) | (simp at hlen; omega) | (simp at hlen ⊢; omega)))
    go_wp2_with fail
    refine (H2.out.1).mono ?_
    rintro e w3 ⟨rfl, h1, h2⟩
    have K3 := hide h1
    have R3 := hide h2
    clear h1 h2 H2 K2 R2
    have HE := hide (END.out _ _ K3.out R3.out (by rw [HXr.out]; try simp))
    clear K3 R3
    go_wp2
    go_end0
    exact HE.out
end
end Go.Proofs.YtjojlcfoiknlhaaGreatDoor
