/-
  What a parser holds, in memory: its block, its tokens, nodes and types; what a call of one of its methods may change.
-/
import Derived.Test.YtkilicjjaljghaaGreatScanA
import Derived.Test.YtkilicjjaljghaaGreatPlainA
import Derived.Maps.AppendAt
import Derived.Deep.QuietTactic
import Derived.BigQuiet
namespace Go.Proofs.YtkilicjjaljghaaGreat
open Go.RowKit

/-- All blocks but some are as they were. -/
structure Chg (S : Nat → Prop) (w w' : World) : Prop where
  os : w'.os = w.os
  tape : w'.tape = w.tape
  output : w'.output = w.output
  size : w.heap.size ≤ w'.heap.size
  block : ∀ k, k < w.heap.size → ¬ S k → w'.heap[k]? = w.heap[k]?

theorem Chg.refl (S : Nat → Prop) (w : World) : Chg S w w := ⟨rfl, rfl, rfl, Nat.le_refl _, fun _ _ _ => rfl⟩
theorem Chg.trans {S S' : Nat → Prop} {a b c : World} (h : Chg S a b) (k : Chg S' b c) (hs : ∀ i, i < a.heap.size → S' i → S i) : Chg S a c :=
  ⟨k.os.trans h.os, k.tape.trans h.tape, k.output.trans h.output, Nat.le_trans h.size k.size,
   fun i hi hn => (k.block i (Nat.lt_of_lt_of_le hi h.size) (fun x => hn (hs i hi x))).trans (h.block i hi hn)⟩
theorem Chg.mono {S S' : Nat → Prop} {a b : World} (h : Chg S a b) (hs : ∀ i, i < a.heap.size → S i → S' i) : Chg S' a b :=
  ⟨h.os, h.tape, h.output, h.size, fun i hi hn => h.block i hi (fun x => hn (hs i hi x))⟩
theorem Chg.alloc (S : Nat → Prop) (w : World) (o : Obj) : Chg S w (w.alloc o) := ⟨rfl, rfl, rfl, by simp, fun k hk _ => Below.heap_alloc _ _ _ hk⟩
theorem Chg.set (w : World) (a : Addr) (v : Value) : Chg (fun k => k = a.block) w (w.setCell a v) :=
  ⟨rfl, rfl, rfl, by simp [World.setCell], fun k _ hn => Below.heap_setCell _ _ _ _ hn⟩
theorem Chg.drewN (S : Nat → Prop) (w : World) (n : Nat) : Chg S w (w.drewN n) := ⟨rfl, rfl, rfl, Nat.le_refl _, fun _ _ _ => rfl⟩
theorem Chg.grown {w w' : World} {row : Option Nat} (h : w.grownBy w' row) : Chg (fun k => some k = row) w w' := ⟨h.os, h.tape, h.output, h.size, fun k hk hn => h.block k hk hn⟩
theorem Chg.below {B : Nat} {w w' : World} (h : Below B w w') : Chg (fun k => B ≤ k) w w' := ⟨h.os, h.tape, h.output, h.size, fun k _ hn => h.block k (by omega)⟩
theorem Chg.toBelow {S : Nat → Prop} {B : Nat} {w w' : World} (h : Chg S w w') (hs : ∀ i, i < w.heap.size → S i → B ≤ i) (hB : B ≤ w.heap.size) : Below B w w' :=
  ⟨h.os, h.tape, h.output, h.size, fun k hk => h.block k (by omega) (fun x => by have := hs k (by omega) x; omega)⟩

theorem owns_chg {S : Nat → Prop} {w w' : World} {base : Nat} {e : TypeId} {size : Nat} {v : Value} {n : Nat} {xs : List Value} (h : w.ownsRow base e size v n xs) (hc : Chg S w w')
    (hs : ∀ g, v.ownBlock = some g → ¬ S g) : w'.ownsRow base e size v n xs := by
  refine ⟨h.1, ?_⟩
  rcases h.2 with h2 | ⟨g, cap, cur, rfl, hb, hg, r⟩
  · exact .inl h2
  · exact .inr ⟨g, cap, cur, rfl, hb, by rw [hc.block g (Array.getElem?_eq_some_iff.1 hg).1 (hs g rfl)]; exact hg, r⟩

/-- The block of a slice that is owned bears its element's type. -/
theorem owns_tag {w : World} {base : Nat} {e : TypeId} {size : Nat} {v : Value} {n : Nat} {xs : List Value} (h : w.ownsRow base e size v n xs) : ∀ g, v.ownBlock = some g → base ≤ g ∧ ∃ cur, w.heap[g]? = some (.cells cur e (0, 0)) := by
  intro g hg
  rcases h.2 with ⟨rfl, _⟩ | ⟨g', cap, cur, rfl, hb, hh, _⟩
  · simp [Value.ownBlock] at hg
  · simp only [Value.ownBlock, Option.some.injEq] at hg
    subst hg
    exact ⟨hb, cur, hh⟩

theorem owns_base {w : World} {base base' : Nat} {e : TypeId} {size : Nat} {v : Value} {n : Nat} {xs : List Value} (h : w.ownsRow base e size v n xs) (hb : base' ≤ base) : w.ownsRow base' e size v n xs := by
  obtain ⟨h1, h2⟩ := h
  refine ⟨h1, ?_⟩
  rcases h2 with h2 | ⟨g, cap, cur, hv, hg, r⟩
  · exact .inl h2
  · exact .inr ⟨g, cap, cur, hv, Nat.le_trans hb hg, r⟩

theorem owns_form {w : World} {base : Nat} {e : TypeId} {size : Nat} {v : Value} {n : Nat} {xs : List Value} (h : w.ownsRow base e size v n xs) : ∃ ad c, v = .slice ad n c := by
  rcases h.2 with ⟨rfl, rfl⟩ | ⟨g, cap, cur, hv, _⟩
  · exact ⟨_, _, rfl⟩
  · exact ⟨_, _, hv⟩

theorem owns_len {w : World} {base : Nat} {e : TypeId} {size : Nat} {v : Value} {n : Nat} {xs : List Value} (h : w.ownsRow base e size v n xs) : xs.length = n * size := h.1

/-- Where the cells of a slice that is owned lie. -/
theorem owns_cell {w : World} {base : Nat} {e : TypeId} {size : Nat} {ad : Option Addr} {c n : Nat} {xs : List Value} (h : w.ownsRow base e size (.slice ad n c) n xs) (hn : 0 < n) :
    ∃ g, ad = some ⟨g, 0, none⟩ ∧ base ≤ g ∧ g < w.heap.size ∧ n ≤ c ∧ c ≤ maxLen ∧ ∀ j u, xs[j]? = some u → w.cell? ⟨g, j, none⟩ = some u := by
  have hc := fun g hg => h.cells (g := g) hg
  have hl := h.lt
  rcases h.2 with ⟨_, h0⟩ | ⟨g, cap, cur, hv, hb, hg, hn2, hm, _⟩
  · omega
  · simp only [Value.slice.injEq] at hv
    obtain ⟨rfl, _, rfl⟩ := hv
    refine ⟨g, rfl, hb, (hl g rfl).2, hn2, hm, fun j u hj => ?_⟩
    have := hc g rfl j u hj
    have hadd : (⟨g, 0, none⟩ : Addr).add j = ⟨g, j, none⟩ := by unfold Addr.add; split <;> simp_all
    rw [hadd] at this
    exact this

/-! ### Rows of structs -/

/-- A list's cells, one behind the other. -/
def Rws {α : Type} (R : α → List Value → Prop) : List α → List Value → Prop
  | [], xs => xs = []
  | a :: l, xs => ∃ h t, xs = h ++ t ∧ R a h ∧ Rws R l t

theorem Rws.snoc {α : Type} {R : α → List Value → Prop} : ∀ {l : List α} {xs : List Value} {a : α} {h : List Value}, Rws R l xs → R a h → Rws R (l ++ [a]) (xs ++ h)
  | [], xs, a, h, hx, hr => by
    have : xs = [] := hx
    subst this
    exact ⟨h, [], by simp, hr, rfl⟩
  | b :: l, xs, a, h, hx, hr => by
    obtain ⟨h1, t, rfl, hb, ht⟩ := hx
    exact ⟨h1, t ++ h, by simp, hb, Rws.snoc ht hr⟩

theorem Rws.imp {α : Type} {R R' : α → List Value → Prop} (hi : ∀ a h, R a h → R' a h) : ∀ {l : List α} {xs : List Value}, Rws R l xs → Rws R' l xs
  | [], _, hx => hx
  | _ :: _, _, hx => by
    obtain ⟨h1, t, he, hb, ht⟩ := hx
    exact ⟨h1, t, he, hi _ _ hb, Rws.imp hi ht⟩

theorem Rws.take {α : Type} {R : α → List Value → Prop} {z : Nat} (hz : ∀ a h, R a h → h.length = z) : ∀ {l : List α} {xs : List Value} (k : Nat), Rws R l xs → Rws R (l.take k) (xs.take (k * z))
  | [], xs, k, hx => by
    have : xs = [] := hx
    subst this
    simp [Rws]
  | a :: l, xs, 0, hx => by simp [Rws]
  | a :: l, xs, k + 1, hx => by
    obtain ⟨h1, t, rfl, hb, ht⟩ := hx
    refine ⟨h1, t.take (k * z), ?_, hb, Rws.take hz k ht⟩
    have := hz _ _ hb
    rw [List.take_append, List.take_of_length_le (by rw [this]; simp [Nat.add_mul]), this]
    congr 2
    simp [Nat.add_mul]

/-- One element of the list. -/
theorem Rws.at {α : Type} {R : α → List Value → Prop} {z : Nat} (hz : ∀ a h, R a h → h.length = z) : ∀ {l : List α} {xs : List Value} (k : Nat) (hk : k < l.length), Rws R l xs → ∃ h, R l[k] h ∧ ∀ j, j < z → xs[k * z + j]? = h[j]?
  | [], _, k, hk, _ => by simp at hk
  | a :: l, xs, 0, _, hx => by
    obtain ⟨h1, t, rfl, hb, ht⟩ := hx
    refine ⟨h1, hb, fun j hj => ?_⟩
    have := hz _ _ hb
    rw [List.getElem?_append_left (by omega)]
    simp
  | a :: l, xs, k + 1, hk, hx => by
    obtain ⟨h1, t, rfl, hb, ht⟩ := hx
    obtain ⟨h, hr, hj⟩ := Rws.at hz k (by simpa using hk) ht
    refine ⟨h, hr, fun j hj' => ?_⟩
    have := hz _ _ hb
    rw [List.getElem?_append_right (by rw [this, Nat.add_mul]; omega), this, ← hj j hj']
    congr 1
    rw [Nat.add_mul]
    omega

def fcells (f : List UInt8 × Int) : List Value := [.string ⟨f.1.toArray⟩, .int .i64 f.2]
def frows (l : List (List UInt8 × Int)) : List Value := l.flatMap fcells
def ints (l : List Int) : List Value := l.map (.int .i64)
def tcells (t : M.Tk) : List Value := [.int .i64 t.kind, .string ⟨t.text.toArray⟩, .int .i64 (t.at' : Int)]
def rows (L : List M.Tk) : List Value := L.flatMap tcells
theorem rows_snoc (L : List M.Tk) (t : M.Tk) : rows (L ++ [t]) = rows L ++ tcells t := by simp [rows]
theorem frows_snoc (L : List (List UInt8 × Int)) (t : List UInt8 × Int) : frows (L ++ [t]) = frows L ++ fcells t := by simp [frows]
theorem ints_snoc (L : List Int) (t : Int) : ints (L ++ [t]) = ints L ++ [.int .i64 t] := by simp [ints]

/-- The cells of a type; what it leads to lies in blocks that are ok. -/
def TyV (w : World) (ok : Nat → Prop) (t : M.Ty) (xs : List Value) : Prop :=
  ∃ fv lv, xs = [.int .i64 t.kind, fv, lv, .int .i64 t.of'] ∧ w.ownsRow 0 55 2 fv t.fields.length (frows t.fields) ∧ w.ownsRow 0 3 1 lv t.list.length (ints t.list) ∧
    (∀ g, fv.ownBlock = some g → ok g) ∧ (∀ g, lv.ownBlock = some g → ok g)
def NdV (w : World) (ok : Nat → Prop) (n : M.Nd) (xs : List Value) : Prop :=
  ∃ lv, xs = [.int .i64 n.kind, .int .i64 n.a, .int .i64 n.b, .int .i64 n.c, lv, .string ⟨n.text.toArray⟩, .int .i64 n.n, .int .i64 n.ty, .int .i64 n.at'] ∧ w.ownsRow 0 3 1 lv n.list.length (ints n.list) ∧
    (∀ g, lv.ownBlock = some g → ok g)

theorem TyV.len {w : World} {ok : Nat → Prop} {t : M.Ty} {xs : List Value} (h : TyV w ok t xs) : xs.length = 4 := by obtain ⟨_, _, rfl, _⟩ := h; rfl
theorem NdV.len {w : World} {ok : Nat → Prop} {t : M.Nd} {xs : List Value} (h : NdV w ok t xs) : xs.length = 9 := by obtain ⟨_, rfl, _⟩ := h; rfl

/-- A block whose type is not one of the parser's own three. -/
def tag (w : World) (k : Nat) : Prop := ∃ cs e fz, w.heap[k]? = some (.cells cs e fz) ∧ (e = 96 ∨ e = 186 ∨ e = 52)

/-- What a method of a parser may change: of what was there, the parser's own blocks alone. -/
def Kept (B : Nat) (ok : Nat → Prop) (w w' : World) : Prop := Chg (fun k => B ≤ k ∧ tag w k ∧ ok k) w w'

theorem Kept.refl (B : Nat) (ok : Nat → Prop) (w : World) : Kept B ok w w := Chg.refl _ _
theorem Kept.mono {B : Nat} {ok ok' : Nat → Prop} {w w' : World} (h : Kept B ok w w') (ho : ∀ g, ok g → ok' g) : Kept B ok' w w' := Chg.mono h fun _ _ x => ⟨x.1, x.2.1, ho _ x.2.2⟩
theorem Kept.trans {B : Nat} {ok : Nat → Prop} {a b c : World} (h : Kept B ok a b) (k : Kept B ok b c) : Kept B ok a c := by
  refine ⟨k.os.trans h.os, k.tape.trans h.tape, k.output.trans h.output, Nat.le_trans h.size k.size, fun i hi hn => ?_⟩
  have h1 := h.block i hi hn
  refine (k.block i (Nat.lt_of_lt_of_le hi h.size) (fun x => hn ⟨x.1, ?_, x.2.2⟩)).trans h1
  obtain ⟨cs, e, fz, hh, r⟩ := x.2.1
  exact ⟨cs, e, fz, by rw [← h1]; exact hh, r⟩
theorem Kept.trans' {B : Nat} {ok : Nat → Prop} {S : Nat → Prop} {a b c : World} (h : Kept B ok a b) (k : Chg S b c) (hs : ∀ i, i < a.heap.size → ¬ S i) : Kept B ok a c := Chg.trans h k fun i hi x => (hs i hi x).elim
theorem Kept.alloc {B : Nat} {ok : Nat → Prop} {a b : World} (h : Kept B ok a b) (o : Obj) : Kept B ok a (b.alloc o) := h.trans (Chg.alloc _ _ _)
theorem Kept.drewN {B : Nat} {ok : Nat → Prop} {a b : World} (h : Kept B ok a b) (n : Nat) : Kept B ok a (b.drewN n) := h.trans (Chg.drewN _ _ _)
theorem Kept.below {B : Nat} {ok : Nat → Prop} {w w' : World} (h : Kept B ok w w') (hB : B ≤ w.heap.size) : Below B w w' := Chg.toBelow h (fun _ _ x => x.1) hB

theorem owns_kept {B : Nat} {ok : Nat → Prop} {w w' : World} {base : Nat} {e : TypeId} {size : Nat} {v : Value} {n : Nat} {xs : List Value} (h : w.ownsRow base e size v n xs) (hc : Kept B ok w w')
    (he : e ≠ 96 ∧ e ≠ 186 ∧ e ≠ 52) : w'.ownsRow base e size v n xs := by
  refine owns_chg h hc fun g hg hx => ?_
  obtain ⟨_, cur, hh⟩ := owns_tag h g hg
  obtain ⟨cs, e', fz, hh', r⟩ := hx.2.1
  rw [hh] at hh'
  simp only [Option.some.injEq, Obj.cells.injEq] at hh'
  obtain ⟨_, rfl, _⟩ := hh'
  rcases r with r | r | r
  · exact he.1 r
  · exact he.2.1 r
  · exact he.2.2 r

theorem TyV.chg {S : Nat → Prop} {w w' : World} {ok ok' : Nat → Prop} (hc : Chg S w w') (hs : ∀ g, ok g → g < w.heap.size → S g → (∃ cur e, w.heap[g]? = some (.cells cur e (0, 0)) ∧ (e = 55 ∨ e = 3)) → False) (ho : ∀ g, ok g → g < w.heap.size → ok' g) (t : M.Ty) (xs : List Value) (h : TyV w ok t xs) : TyV w' ok' t xs := by
  obtain ⟨fv, lv, rfl, h1, h2, h3, h4⟩ := h
  refine ⟨fv, lv, rfl, owns_chg h1 hc fun g hg x => ?_, owns_chg h2 hc fun g hg x => ?_, fun g hg => ho g (h3 g hg) (h1.lt g hg).2, fun g hg => ho g (h4 g hg) (h2.lt g hg).2⟩
  · obtain ⟨_, cur, hh⟩ := owns_tag h1 g hg
    exact hs g (h3 g hg) (h1.lt g hg).2 x ⟨cur, _, hh, .inl rfl⟩
  · obtain ⟨_, cur, hh⟩ := owns_tag h2 g hg
    exact hs g (h4 g hg) (h2.lt g hg).2 x ⟨cur, _, hh, .inr rfl⟩

theorem NdV.chg {S : Nat → Prop} {w w' : World} {ok ok' : Nat → Prop} (hc : Chg S w w') (hs : ∀ g, ok g → g < w.heap.size → S g → (∃ cur e, w.heap[g]? = some (.cells cur e (0, 0)) ∧ (e = 55 ∨ e = 3)) → False) (ho : ∀ g, ok g → g < w.heap.size → ok' g) (t : M.Nd) (xs : List Value) (h : NdV w ok t xs) : NdV w' ok' t xs := by
  obtain ⟨lv, rfl, h2, h4⟩ := h
  refine ⟨lv, rfl, owns_chg h2 hc fun g hg x => ?_, fun g hg => ho g (h4 g hg) (h2.lt g hg).2⟩
  obtain ⟨_, cur, hh⟩ := owns_tag h2 g hg
  exact hs g (h4 g hg) (h2.lt g hg).2 x ⟨cur, _, hh, .inr rfl⟩

/-- Tokens end with the end, and have it nowhere else. -/
structure LOk (L : List M.Tk) : Prop where
  short : L.length ≤ 1001
  last : ∀ i, i < L.length → ((M.tk L i).kind = 6 ↔ i + 1 = L.length)

/-- What a parser holds. -/
structure Pst (w : World) (B pb : Nat) (tv : Value) (L : List M.Tk) (ok : Nat → Prop) (d : Nat) (s : M.St) : Prop where
  low : B ≤ pb
  at' : s.i < L.length
  few : s.N.length ≤ s.i ∧ s.T.length ≤ s.i
  toks : w.ownsRow 0 80 3 tv L.length (rows L)
  oks : ok pb ∧ (∀ v g, w.cell? ⟨pb, 3, none⟩ = some v → v.ownBlock = some g → ok g) ∧ ∀ v g, w.cell? ⟨pb, 4, none⟩ = some v → v.ownBlock = some g → ok g
  blk : ∃ nv yv nx yx, w.heap[pb]? = some (.cells #[tv, .int .i64 (s.i : Int), .int .i64 (d : Int), nv, yv] 96 (0, 0)) ∧ w.ownsRow B 186 9 nv s.N.length nx ∧ w.ownsRow B 52 4 yv s.T.length yx ∧
    Rws (NdV w ok) s.N nx ∧ Rws (TyV w ok) s.T yx

/-- Nothing that a parser holds has changed, though some blocks have. -/
theorem Pst.chg {S : Nat → Prop} {w w' : World} {B pb : Nat} {tv : Value} {L : List M.Tk} {ok ok' : Nat → Prop} {d : Nat} {s : M.St} (h : Pst w B pb tv L ok d s) (hc : Chg S w w')
    (hs : ∀ k cur e, w.heap[k]? = some (.cells cur e (0, 0)) → S k → e ≠ 96 ∧ e ≠ 186 ∧ e ≠ 52 ∧ tv.ownBlock ≠ some k ∧ ((e = 55 ∨ e = 3) → ¬ ok k))
    (ho : ∀ g, ok g → g < w.heap.size → ok' g) : Pst w' B pb tv L ok' d s := by
  obtain ⟨h1, h2, h3, h4, h5, nv, yv, nx, yx, hb, hn, hy, hrn, hry⟩ := h
  have hlt := (Array.getElem?_eq_some_iff.1 hb).1
  have key : ∀ g, ok g → g < w.heap.size → S g → (∃ cur e, w.heap[g]? = some (.cells cur e (0, 0)) ∧ (e = 55 ∨ e = 3)) → False := by
    rintro g hg _ hx ⟨cur, e, hh, he⟩
    exact (hs g cur e hh hx).2.2.2.2 he hg
  have hbw : w'.heap[pb]? = w.heap[pb]? := hc.block pb hlt (fun x => (hs pb _ _ hb x).1 rfl)
  have hok5 : ok' pb ∧ (∀ v g, w'.cell? ⟨pb, 3, none⟩ = some v → v.ownBlock = some g → ok' g) ∧ ∀ v g, w'.cell? ⟨pb, 4, none⟩ = some v → v.ownBlock = some g → ok' g := by
    have c3 : w.cell? ⟨pb, 3, none⟩ = some nv := by rw [cell_of_row w pb 3 _ _ _ hb]; rfl
    have c4 : w.cell? ⟨pb, 4, none⟩ = some yv := by rw [cell_of_row w pb 4 _ _ _ hb]; rfl
    refine ⟨ho _ h5.1 hlt, fun v g hv hg => ?_, fun v g hv hg => ?_⟩
    · rw [World.cell?_of_block (a := ⟨pb, 3, none⟩) hbw, c3] at hv
      cases hv
      exact ho g (h5.2.1 _ g c3 hg) (hn.lt g hg).2
    · rw [World.cell?_of_block (a := ⟨pb, 4, none⟩) hbw, c4] at hv
      cases hv
      exact ho g (h5.2.2 _ g c4 hg) (hy.lt g hg).2
  refine ⟨h1, h2, h3, owns_chg h4 hc fun g hg x => ?_, hok5, nv, yv, nx, yx, ?_, owns_chg hn hc fun g hg x => ?_, owns_chg hy hc fun g hg x => ?_, hrn.imp (NdV.chg hc key ho), hry.imp (TyV.chg hc key ho)⟩
  · obtain ⟨_, cur, hh⟩ := owns_tag h4 g hg
    exact (hs g cur _ hh x).2.2.2.1 hg
  · rw [hc.block pb hlt (fun x => (hs pb _ _ hb x).1 rfl)]
    exact hb
  · obtain ⟨_, cur, hh⟩ := owns_tag hn g hg
    exact (hs g cur _ hh x).2.1 rfl
  · obtain ⟨_, cur, hh⟩ := owns_tag hy g hg
    exact (hs g cur _ hh x).2.2.1 rfl

theorem Pst.still {w w' : World} {B pb : Nat} {tv : Value} {L : List M.Tk} {ok : Nat → Prop} {d : Nat} {s : M.St} (h : Pst w B pb tv L ok d s) (hc : Chg (fun _ => False) w w') : Pst w' B pb tv L ok d s :=
  h.chg hc (fun _ _ _ _ x => x.elim) (fun _ x _ => x)
theorem Pst.alloc {w : World} {B pb : Nat} {tv : Value} {L : List M.Tk} {ok : Nat → Prop} {d : Nat} {s : M.St} (h : Pst w B pb tv L ok d s) (o : Obj) : Pst (w.alloc o) B pb tv L ok d s := h.still (Chg.alloc _ _ _)
theorem Pst.mono {w : World} {B pb : Nat} {tv : Value} {L : List M.Tk} {ok ok' : Nat → Prop} {d : Nat} {s : M.St} (h : Pst w B pb tv L ok d s) (ho : ∀ g, ok g → g < w.heap.size → ok' g) : Pst w B pb tv L ok' d s :=
  h.chg (Chg.refl (fun _ => False) _) (fun _ _ _ _ x => x.elim) ho
theorem still_kept {B : Nat} {ok : Nat → Prop} {w w' : World} (h : Chg (fun _ => False) w w') : Kept B ok w w' := h.mono fun _ _ x => x.elim

/-- A store into the parser's own block: its token's number, or how deep it is. -/
theorem Pst.store {w : World} {B pb : Nat} {tv : Value} {L : List M.Tk} {ok : Nat → Prop} {d : Nat} {s : M.St} (h : Pst w B pb tv L ok d s) (o : Nat) (v : Value) (i' d' : Nat) (hi : i' < L.length) (hf : s.i ≤ i')
    (hv : ∀ nv yv, (#[tv, .int .i64 (s.i : Int), .int .i64 (d : Int), nv, yv] : Array Value).setIfInBounds o v = #[tv, .int .i64 (i' : Int), .int .i64 (d' : Int), nv, yv]) :
    Pst (w.setCell ⟨pb, o, none⟩ v) B pb tv L ok d' ⟨i', s.N, s.T⟩ := by
  obtain ⟨h1, h2, h3, h4, h5, nv, yv, nx, yx, hb, hn, hy, hrn, hry⟩ := h
  have hc := Chg.set w ⟨pb, o, none⟩ v
  have hno : ∀ {base : Nat} {e : TypeId} {size : Nat} {v : Value} {n : Nat} {xs : List Value}, w.ownsRow base e size v n xs → e ≠ 96 → ∀ g, v.ownBlock = some g → ¬ g = pb := by
    intro base e size v n xs ho he g hg hx
    subst hx
    obtain ⟨_, cur, hh⟩ := owns_tag ho g hg
    rw [hb] at hh
    simp only [Option.some.injEq, Obj.cells.injEq] at hh
    exact he hh.2.1.symm
  have key : ∀ g, ok g → g < w.heap.size → g = pb → (∃ cur e, w.heap[g]? = some (.cells cur e (0, 0)) ∧ (e = 55 ∨ e = 3)) → False := by
    rintro g _ _ rfl ⟨cur, e, hh, he⟩
    rw [hb] at hh
    simp only [Option.some.injEq, Obj.cells.injEq] at hh
    rcases he with rfl | rfl
    · exact absurd hh.2.1 (by decide)
    · exact absurd hh.2.1 (by decide)
  have hb2 : (w.setCell ⟨pb, o, none⟩ v).heap[pb]? = some (.cells #[tv, .int .i64 (i' : Int), .int .i64 (d' : Int), nv, yv] 96 (0, 0)) := by rw [heap_setCell_same w pb o _ _ v hb, hv]
  refine ⟨h1, hi, ⟨by show s.N.length ≤ i'; omega, by show s.T.length ≤ i'; omega⟩, owns_chg h4 hc (hno h4 (by decide)), ?_, nv, yv, nx, yx, hb2, owns_chg hn hc (hno hn (by decide)), owns_chg hy hc (hno hy (by decide)), hrn.imp (NdV.chg hc key (fun _ x _ => x)), hry.imp (TyV.chg hc key (fun _ x _ => x))⟩
  have c3 : w.cell? ⟨pb, 3, none⟩ = some nv := by rw [cell_of_row w pb 3 _ _ _ hb]; rfl
  have c4 : w.cell? ⟨pb, 4, none⟩ = some yv := by rw [cell_of_row w pb 4 _ _ _ hb]; rfl
  refine ⟨h5.1, fun u g hu hg => ?_, fun u g hu hg => ?_⟩
  · rw [cell_of_row _ pb 3 _ _ _ hb2] at hu
    cases hu
    exact h5.2.1 _ g c3 hg
  · rw [cell_of_row _ pb 4 _ _ _ hb2] at hu
    cases hu
    exact h5.2.2 _ g c4 hg

theorem Pst.next {w : World} {B pb : Nat} {tv : Value} {L : List M.Tk} {ok : Nat → Prop} {d : Nat} {s : M.St} (h : Pst w B pb tv L ok d s) (hi : s.i + 1 < L.length) : Pst (w.setCell ⟨pb, 1, none⟩ (.int .i64 ((s.i : Int) + 1))) B pb tv L ok d s.nx :=
  h.store 1 _ (s.i + 1) d hi (by omega) (fun _ _ => by simp)
theorem Pst.deeper {w : World} {B pb : Nat} {tv : Value} {L : List M.Tk} {ok : Nat → Prop} {d : Nat} {s : M.St} (h : Pst w B pb tv L ok d s) (d' : Nat) : Pst (w.setCell ⟨pb, 2, none⟩ (.int .i64 (d' : Int))) B pb tv L ok d' s :=
  h.store 2 _ s.i d' h.at' (by omega) (fun _ _ => by simp)

theorem Pst.tokLt {w : World} {B pb : Nat} {tv : Value} {L : List M.Tk} {ok : Nat → Prop} {d : Nat} {s : M.St} (h : Pst w B pb tv L ok d s) {k : Nat} (hk : w.heap.size ≤ k) : tv.ownBlock ≠ some k := by
  intro hx
  have := (h.toks.lt k hx).2
  omega
/-- A store into a block of the call's own. -/
theorem Pst.setOwn {w : World} {B pb : Nat} {tv : Value} {L : List M.Tk} {ok : Nat → Prop} {d : Nat} {s : M.St} (h : Pst w B pb tv L ok d s) {q o : Nat} {cs : Array Value} {e : TypeId} {fz : Nat × Nat} (v : Value) (hq : w.heap[q]? = some (.cells cs e fz)) (ht : tv.ownBlock ≠ some q)
    (he : e ≠ 96 ∧ e ≠ 186 ∧ e ≠ 52 ∧ e ≠ 55 ∧ e ≠ 3) : Pst (w.setCell ⟨q, o, none⟩ v) B pb tv L ok d s := by
  refine h.chg (Chg.set w ⟨q, o, none⟩ v) (fun k cur e' hk hs => ?_) (fun _ x _ => x)
  have hs' : k = q := hs
  subst hs'
  rw [hq] at hk
  simp only [Option.some.injEq, Obj.cells.injEq] at hk
  obtain ⟨_, rfl, _⟩ := hk
  exact ⟨he.1, he.2.1, he.2.2.1, ht, fun x => by rcases x with x | x; exact absurd x he.2.2.2.1; exact absurd x he.2.2.2.2⟩
theorem Kept.setOwn {B : Nat} {ok : Nat → Prop} {a b : World} (h : Kept B ok a b) {q o : Nat} (v : Value) (hq : a.heap.size ≤ q) : Kept B ok a (b.setCell ⟨q, o, none⟩ v) :=
  h.trans' (Chg.set b ⟨q, o, none⟩ v) (fun k hk hx => by have hx' : k = q := hx; omega)

theorem Pst.tagged {w : World} {B pb : Nat} {tv : Value} {L : List M.Tk} {ok : Nat → Prop} {d : Nat} {s : M.St} (h : Pst w B pb tv L ok d s) : B ≤ pb ∧ tag w pb ∧ ok pb := by
  obtain ⟨nv, yv, nx, yx, hb, _⟩ := h.blk
  exact ⟨h.low, ⟨_, _, _, hb, .inl rfl⟩, h.oks.1⟩
theorem Pst.keptSet {w : World} {B pb : Nat} {tv : Value} {L : List M.Tk} {ok : Nat → Prop} {d : Nat} {s : M.St} (h : Pst w B pb tv L ok d s) (o : Nat) (v : Value) : Kept B ok w (w.setCell ⟨pb, o, none⟩ v) :=
  (Chg.set w ⟨pb, o, none⟩ v).mono fun k _ hk => by have hk' : k = pb := hk; subst hk'; exact h.tagged

end Go.Proofs.YtkilicjjaljghaaGreat
