/-
  Plain functions: types as trees; how they are written; what fits what; which tags they have.
  Plain: a reader of tokens without limits, and that it reads back what is written.
  Plain: what the parser numbers, as trees; the reader without limits reads the same.
  Plain: the tokens of what is written.
  Plain: a type that is read is the last one; types that are moved behind others.
  Plain: what is the same fits; each of a union fits it; the tags of what fits.
  Plain: how much the parser's types hold.
-/
import Derived.Test.YtkilicjjaljghaaGreatPlainA
import Derived.Lib.Bytealg
/- Plain functions: types as trees; how they are written; what fits what; which tags they have. -/
namespace Go.Proofs.YtkilicjjaljghaaGreat.M

/-- A type: its kind, the names of its fields, its parts (of a function the result first). -/
inductive Tr where
  | nd (k : Int) (ns : List (List UInt8)) (ks : List Tr)

def Tr.k : Tr → Int
  | .nd k _ _ => k
def Tr.ns : Tr → List (List UInt8)
  | .nd _ ns _ => ns
def Tr.ks : Tr → List Tr
  | .nd _ _ ks => ks

theorem Tr.ind {P : Tr → Prop} (h : ∀ k ns ks, (∀ x ∈ ks, P x) → P (.nd k ns ks)) : ∀ t, P t
  | .nd k ns ks => h k ns ks (fun x _ => Tr.ind h x)

def word (k : Int) : List UInt8 :=
  if k = 1 then [110, 117, 109] else if k = 2 then [98, 111, 111, 108] else if k = 3 then [116, 101, 120, 116] else if k = 4 then [110, 117, 108, 108] else if k = 6 then [117, 110, 107, 110, 111, 119, 110] else [97, 110, 121]

mutual
/-- How a type is written. -/
def txt' : Tr → List UInt8
  | .nd k ns ks =>
    if k = 7 then [123] ++ txtF ns ks ++ (if ns.length = 0 then [] else [32]) ++ [125]
    else if k = 8 then [91] ++ txtH ks ++ [93]
    else if k = 9 then txtB ks
    else if k = 10 then txtU true ks
    else word k
def txtH : List Tr → List UInt8
  | [] => []
  | t :: _ => txt' t
def txtB : List Tr → List UInt8
  | [] => []
  | t :: r => [40] ++ txtC true r ++ [41, 32, 61, 62, 32] ++ txt' t
def txtC : Bool → List Tr → List UInt8
  | _, [] => []
  | fst, t :: r => (if fst then [] else [44, 32]) ++ txt' t ++ txtC false r
def txtU : Bool → List Tr → List UInt8
  | _, [] => []
  | fst, t :: r => (if fst then [] else [32, 124, 32]) ++ (if t.k = 10 ∨ t.k = 9 ∧ r.length ≠ 0 then [40] ++ txt' t ++ [41] else txt' t) ++ txtU false r
def txtF : List (List UInt8) → List Tr → List UInt8
  | _, [] => []
  | ns, t :: r => [32] ++ ns.headD [] ++ [58, 32] ++ txt' t ++ [59] ++ txtF ns.tail r
end

/-- A token without its place. -/
abbrev TT := Int × List UInt8
def sg (x : List UInt8) : TT := (5, x)

mutual
/-- The tokens of what is written. -/
def tks : Tr → List TT
  | .nd k ns ks =>
    if k = 7 then sg [123] :: (tksF ns ks ++ [sg [125]])
    else if k = 8 then sg [91] :: (tksH ks ++ [sg [93]])
    else if k = 9 then tksB ks
    else if k = 10 then tksU true ks
    else [(2, word k)]
def tksH : List Tr → List TT
  | [] => []
  | t :: _ => tks t
def tksB : List Tr → List TT
  | [] => []
  | t :: r => sg [40] :: (tksC true r ++ sg [41] :: sg [61, 62] :: tks t)
def tksC : Bool → List Tr → List TT
  | _, [] => []
  | fst, t :: r => (if fst then [] else [sg [44]]) ++ tks t ++ tksC false r
def tksU : Bool → List Tr → List TT
  | _, [] => []
  | fst, t :: r => (if fst then [] else [sg [124]]) ++ (if t.k = 10 ∨ t.k = 9 ∧ r.length ≠ 0 then sg [40] :: (tks t ++ [sg [41]]) else tks t) ++ tksU false r
def tksF : List (List UInt8) → List Tr → List TT
  | _, [] => []
  | ns, t :: r => (1, ns.headD []) :: sg [58] :: (tks t ++ sg [59] :: tksF ns.tail r)
end

/-- A name, as a token. -/
def NmOk (nm : List UInt8) : Prop := nm ≠ [] ∧ nm.length ≤ 20 ∧ isWord nm = false ∧ (∀ c ∈ nm, nam c.toNat = true) ∧ (∀ c, nm.head? = some c → let' c.toNat = true)

/-- A type as it may be. -/
inductive Wf : Tr → Prop
  | plain (k : Int) : 1 ≤ k → k ≤ 6 → Wf (.nd k [] [])
  | obj (ns : List (List UInt8)) (ks : List Tr) : ns.length = ks.length → ns.Nodup → (∀ n ∈ ns, NmOk n) → (∀ x ∈ ks, Wf x) → Wf (.nd 7 ns ks)
  | arr (t : Tr) : Wf t → Wf (.nd 8 [] [t])
  | fn (t : Tr) (ps : List Tr) : Wf t → (∀ x ∈ ps, Wf x) → Wf (.nd 9 [] (t :: ps))
  | uni (ks : List Tr) : 2 ≤ ks.length → (∀ x ∈ ks, Wf x) → Wf (.nd 10 [] ks)

/-! ### Tags -/

def tagOf (k : Int) : Nat :=
  if k = 1 then 1 else if k = 2 then 2 else if k = 3 then 4 else if k = 4 then 8 else if k = 7 then 16 else if k = 8 then 32 else if k = 9 then 64 else 127

mutual
def tags : Tr → Nat
  | .nd k _ ks => if k = 10 then tagsL ks else tagOf k
def tagsL : List Tr → Nat
  | [] => 0
  | t :: r => tags t ||| tagsL r
end

/-! ### What fits -/

def fieldOf (nm : List UInt8) : List (List UInt8) → List Tr → Option Tr
  | n :: ns, t :: ks => if n = nm then some t else fieldOf nm ns ks
  | _, _ => none

def fitsF : Nat → Tr → Tr → Bool
  | 0, _, _ => false
  | f + 1, a, b =>
    if a.k = 5 ∨ b.k = 5 ∨ b.k = 6 then true
    else if a.k = 10 then a.ks.all fun x => fitsF f x b
    else if b.k = 10 then b.ks.any fun y => fitsF f a y
    else if a.k ≠ b.k then false
    else if a.k = 7 then (b.ns.zip b.ks).all fun p => match fieldOf p.1 a.ns a.ks with
      | none => false
      | some x => fitsF f x p.2
    else if a.k = 8 then match a.ks, b.ks with
      | x :: _, y :: _ => fitsF f x y
      | _, _ => false
    else if a.k = 9 then match a.ks, b.ks with
      | x :: xs, y :: ys => decide (xs.length ≤ ys.length) && ((xs.zip ys).all fun p => fitsF f p.1 p.2 || fitsF f p.2 p.1) && fitsF f x y
      | _, _ => false
    else true

mutual
def sz : Tr → Nat
  | .nd _ _ ks => szL ks + 1
def szL : List Tr → Nat
  | [] => 0
  | t :: r => sz t + szL r
end

theorem sz_mem : ∀ {ks : List Tr} {x : Tr}, x ∈ ks → sz x ≤ szL ks
  | t :: r, x, h => by
    rcases List.mem_cons.1 h with rfl | h
    · simp [szL]
    · have := sz_mem h
      simp only [szL]; omega

theorem sz_kid {t x : Tr} (h : x ∈ t.ks) : sz x < sz t := by
  obtain ⟨k, ns, ks⟩ := t
  have := sz_mem h
  simp only [sz, Tr.ks] at *
  omega
theorem sz_pos (t : Tr) : 0 < sz t := by obtain ⟨k, ns, ks⟩ := t; simp [sz]

theorem fieldOf_mem {nm : List UInt8} : ∀ {ns : List (List UInt8)} {ks : List Tr} {t : Tr}, fieldOf nm ns ks = some t → t ∈ ks
  | [], _, _, h => by simp [fieldOf] at h
  | _ :: _, [], _, h => by simp [fieldOf] at h
  | n :: ns, x :: ks, t, h => by
    simp only [fieldOf] at h
    split at h
    · simp only [Option.some.injEq] at h; simp [h]
    · exact List.mem_cons_of_mem _ (fieldOf_mem h)

/-- More steps change nothing. -/
theorem fitsF_more : ∀ (f g : Nat) (a b : Tr), sz a + sz b < f → sz a + sz b < g → fitsF f a b = fitsF g a b
  | 0, _, _, _, h, _ => by omega
  | _, 0, _, _, _, h => by omega
  | f + 1, g + 1, a, b, hf, hg => by
    have ha := sz_pos a
    have hb := sz_pos b
    simp only [fitsF]
    have e1 : a.ks.all (fun x => fitsF f x b) = a.ks.all (fun x => fitsF g x b) := by
      rw [Bool.eq_iff_iff, List.all_eq_true, List.all_eq_true]
      exact forall_congr' fun x => forall_congr' fun hx => by have := sz_kid hx; rw [fitsF_more f g x b (by omega) (by omega)]
    have e2 : b.ks.any (fun y => fitsF f a y) = b.ks.any (fun y => fitsF g a y) := by
      rw [Bool.eq_iff_iff, List.any_eq_true, List.any_eq_true]
      refine exists_congr fun y => ?_
      constructor
      · rintro ⟨hy, h⟩
        have := sz_kid hy
        exact ⟨hy, by rw [← fitsF_more f g a y (by omega) (by omega)]; exact h⟩
      · rintro ⟨hy, h⟩
        have := sz_kid hy
        exact ⟨hy, by rw [fitsF_more f g a y (by omega) (by omega)]; exact h⟩
    have e3 : ((b.ns.zip b.ks).all fun p => match fieldOf p.1 a.ns a.ks with | none => false | some x => fitsF f x p.2) = ((b.ns.zip b.ks).all fun p => match fieldOf p.1 a.ns a.ks with | none => false | some x => fitsF g x p.2) := by
      rw [Bool.eq_iff_iff, List.all_eq_true, List.all_eq_true]
      refine forall_congr' fun p => forall_congr' fun hp => ?_
      have hy := sz_kid (List.of_mem_zip hp).2
      cases h : fieldOf p.1 a.ns a.ks with
      | none => simp
      | some x =>
        have hx := sz_kid (fieldOf_mem h)
        simp only
        rw [fitsF_more f g x p.2 (by omega) (by omega)]
    rw [e1, e2, e3]
    obtain ⟨ak, an, as'⟩ := a
    obtain ⟨bk, bn, bs⟩ := b
    simp only [Tr.k, Tr.ns, Tr.ks] at *
    have e4 : ∀ (xs ys : List Tr), (∀ x ∈ xs, x ∈ as') → (∀ y ∈ ys, y ∈ bs) → ((xs.zip ys).all fun p => fitsF f p.1 p.2 || fitsF f p.2 p.1) = ((xs.zip ys).all fun p => fitsF g p.1 p.2 || fitsF g p.2 p.1) := by
      intro xs ys hxs hys
      rw [Bool.eq_iff_iff, List.all_eq_true, List.all_eq_true]
      refine forall_congr' fun p => forall_congr' fun hp => ?_
      have h1 := List.of_mem_zip hp
      have h2 := sz_kid (t := .nd ak an as') (hxs _ h1.1)
      have h3 := sz_kid (t := .nd bk bn bs) (hys _ h1.2)
      rw [fitsF_more f g p.1 p.2 (by omega) (by omega), fitsF_more f g p.2 p.1 (by omega) (by omega)]
    cases as' with
    | nil => rfl
    | cons x xs =>
      cases bs with
      | nil => rfl
      | cons y ys =>
        have h2 := sz_kid (t := .nd ak an (x :: xs)) (x := x) (by simp [Tr.ks])
        have h3 := sz_kid (t := .nd bk bn (y :: ys)) (x := y) (by simp [Tr.ks])
        simp only
        rw [fitsF_more f g x y (by omega) (by omega), e4 xs ys (fun z hz => by simp [hz]) (fun z hz => by simp [hz])]
termination_by f => f

def fits (a b : Tr) : Bool := fitsF (sz a + sz b + 1) a b

theorem fits_step (f : Nat) (a b : Tr) (h : sz a + sz b < f) : fitsF f a b = fits a b := fitsF_more _ _ _ _ h (by omega)

/-- What fits, by its parts. -/
theorem fits_eq (a b : Tr) : fits a b =
    if a.k = 5 ∨ b.k = 5 ∨ b.k = 6 then true
    else if a.k = 10 then a.ks.all fun x => fits x b
    else if b.k = 10 then b.ks.any fun y => fits a y
    else if a.k ≠ b.k then false
    else if a.k = 7 then (b.ns.zip b.ks).all fun p => match fieldOf p.1 a.ns a.ks with
      | none => false
      | some x => fits x p.2
    else if a.k = 8 then match a.ks, b.ks with
      | x :: _, y :: _ => fits x y
      | _, _ => false
    else if a.k = 9 then match a.ks, b.ks with
      | x :: xs, y :: ys => decide (xs.length ≤ ys.length) && ((xs.zip ys).all fun p => fits p.1 p.2 || fits p.2 p.1) && fits x y
      | _, _ => false
    else true := by
  have hb := sz_pos b
  have ha := sz_pos a
  rw [show fits a b = fitsF (sz a + sz b + 1) a b from rfl, fitsF]
  have e1 : a.ks.all (fun x => fitsF (sz a + sz b) x b) = a.ks.all (fun x => fits x b) := by
    rw [Bool.eq_iff_iff, List.all_eq_true, List.all_eq_true]
    exact forall_congr' fun x => forall_congr' fun hx => by have := sz_kid hx; rw [fits_step _ x b (by omega)]
  have e2 : b.ks.any (fun y => fitsF (sz a + sz b) a y) = b.ks.any (fun y => fits a y) := by
    rw [Bool.eq_iff_iff, List.any_eq_true, List.any_eq_true]
    refine exists_congr fun y => ?_
    constructor
    · rintro ⟨hy, h⟩
      have := sz_kid hy
      exact ⟨hy, by rw [← fits_step (sz a + sz b) a y (by omega)]; exact h⟩
    · rintro ⟨hy, h⟩
      have := sz_kid hy
      exact ⟨hy, by rw [fits_step (sz a + sz b) a y (by omega)]; exact h⟩
  have e3 : ((b.ns.zip b.ks).all fun p => match fieldOf p.1 a.ns a.ks with | none => false | some x => fitsF (sz a + sz b) x p.2) = ((b.ns.zip b.ks).all fun p => match fieldOf p.1 a.ns a.ks with | none => false | some x => fits x p.2) := by
    rw [Bool.eq_iff_iff, List.all_eq_true, List.all_eq_true]
    refine forall_congr' fun p => forall_congr' fun hp => ?_
    have hy := sz_kid (List.of_mem_zip hp).2
    cases h : fieldOf p.1 a.ns a.ks with
    | none => simp
    | some x =>
      have hx := sz_kid (fieldOf_mem h)
      simp only
      rw [fits_step _ x p.2 (by omega)]
  rw [e1, e2, e3]
  obtain ⟨ak, an, as'⟩ := a
  obtain ⟨bk, bn, bs⟩ := b
  simp only [Tr.k, Tr.ns, Tr.ks] at *
  have e4 : ∀ (xs ys : List Tr), (∀ x ∈ xs, x ∈ as') → (∀ y ∈ ys, y ∈ bs) → ((xs.zip ys).all fun p => fitsF (sz (.nd ak an as') + sz (.nd bk bn bs)) p.1 p.2 || fitsF (sz (.nd ak an as') + sz (.nd bk bn bs)) p.2 p.1) = ((xs.zip ys).all fun p => fits p.1 p.2 || fits p.2 p.1) := by
    intro xs ys hxs hys
    rw [Bool.eq_iff_iff, List.all_eq_true, List.all_eq_true]
    refine forall_congr' fun p => forall_congr' fun hp => ?_
    have h1 := List.of_mem_zip hp
    have h2 := sz_kid (t := .nd ak an as') (hxs _ h1.1)
    have h3 := sz_kid (t := .nd bk bn bs) (hys _ h1.2)
    rw [fits_step _ p.1 p.2 (by omega), fits_step _ p.2 p.1 (by omega)]
  cases as' with
  | nil => rfl
  | cons x xs =>
    cases bs with
    | nil => rfl
    | cons y ys =>
      have h2 := sz_kid (t := .nd ak an (x :: xs)) (x := x) (by simp [Tr.ks])
      have h3 := sz_kid (t := .nd bk bn (y :: ys)) (x := y) (by simp [Tr.ks])
      simp only
      rw [fits_step _ x y (by omega), e4 xs ys (fun z hz => by simp [hz]) (fun z hz => by simp [hz])]

end Go.Proofs.YtkilicjjaljghaaGreat.M

/- Plain: a reader of tokens without limits, and that it reads back what is written. -/
namespace Go.Proofs.YtkilicjjaljghaaGreat.M

/-- Does a sign, or word, stand first? -/
def isS (l : List TT) (m : List UInt8) : Bool := match l with
  | [] => false
  | (k, x) :: _ => (k == 5 || k == 2) && has [m] x

def hdK (l : List TT) : Int := match l with
  | [] => 6
  | (k, _) :: _ => k
def hdX (l : List TT) : List UInt8 := match l with
  | [] => []
  | (_, x) :: _ => x

mutual
def rdT : Nat → List TT → Option (Tr × List TT)
  | 0, _ => none
  | f + 1, l => rdN f l
def rdN : Nat → List TT → Option (Tr × List TT)
  | 0, _ => none
  | f + 1, l => (rdM f l).bind fun p => if isS p.2 [124] then (rdU f p.2 [p.1]).bind fun q => some (.nd 10 [] q.1, q.2) else some p
def rdU : Nat → List TT → List Tr → Option (List Tr × List TT)
  | 0, _, _ => none
  | f + 1, l, acc => if isS l [124] then (rdM f l.tail).bind fun p => rdU f p.2 (acc ++ [p.1]) else some (acc, l)
def rdM : Nat → List TT → Option (Tr × List TT)
  | 0, _ => none
  | f + 1, l =>
    if isS l [123] then rdO f l.tail [] []
    else if isS l [91] then (rdT f l.tail).bind fun p => if isS p.2 [93] then some (.nd 8 [] [p.1], p.2.tail) else none
    else if isS l [40] then rdB f l.tail
    else if hdK l = 2 ∧ plainKind (hdX l) ≠ 0 then some (.nd (plainKind (hdX l)) [] [], l.tail) else none
def rdO : Nat → List TT → List (List UInt8) → List Tr → Option (Tr × List TT)
  | 0, _, _, _ => none
  | f + 1, l, ns, ks =>
    if isS l [125] then some (.nd 7 ns ks, l.tail)
    else if hdK l = 1 then if isS l.tail [58] then (rdT f l.tail.tail).bind fun p => if isS p.2 [59] then rdO f p.2.tail (ns ++ [hdX l]) (ks ++ [p.1]) else none else none else none
def rdB : Nat → List TT → Option (Tr × List TT)
  | 0, _ => none
  | f + 1, l => (rdL f l []).bind fun p =>
    if isS p.2 [61, 62] then (rdT f p.2.tail).bind fun q => some (.nd 9 [] (q.1 :: p.1), q.2)
    else match p.1 with
      | [t] => some (t, p.2)
      | _ => none
def rdL : Nat → List TT → List Tr → Option (List Tr × List TT)
  | 0, _, _ => none
  | f + 1, l, acc =>
    if isS l [41] then some (acc, l.tail)
    else if acc.length = 0 then (rdT f l).bind fun p => rdL f p.2 (acc ++ [p.1])
    else if isS l [44] then (rdT f l.tail).bind fun p => rdL f p.2 (acc ++ [p.1]) else none
end

/-- From some number of steps on. -/
def Evn {α : Type} (φ : Nat → Option α) (o : α) : Prop := ∃ f0, ∀ f, f0 ≤ f → φ f = some o
theorem Evn.one {α : Type} {φ : Nat → Option α} {o o' : α} (h : Evn φ o) (h' : Evn φ o') : o = o' := by
  obtain ⟨a, ha⟩ := h
  obtain ⟨b, hb⟩ := h'
  exact Option.some.inj ((ha (a + b) (by omega)).symm.trans (hb (a + b) (by omega)))
theorem Evn.succ {α : Type} {φ ψ : Nat → Option α} {o : α} (h : Evn φ o) (e : ∀ f, ψ (f + 1) = φ f) : Evn ψ o := by
  obtain ⟨a, ha⟩ := h
  refine ⟨a + 1, fun f hf => ?_⟩
  obtain ⟨g, rfl⟩ : ∃ g, f = g + 1 := ⟨f - 1, by omega⟩
  rw [e]
  exact ha g (by omega)
theorem Evn.bind {α β : Type} {φ : Nat → Option α} {k : Nat → α → Option β} {x : α} {o : β} (h : Evn φ x) (h2 : Evn (fun f => k f x) o) : Evn (fun f => (φ f).bind (k f)) o := by
  obtain ⟨a, ha⟩ := h
  obtain ⟨b, hb⟩ := h2
  refine ⟨a + b, fun f hf => ?_⟩
  show (φ f).bind (k f) = some o
  rw [ha f (by omega)]
  exact hb f (by omega)
theorem Evn.pure {α : Type} {o : α} : Evn (fun _ => some o) o := ⟨0, fun _ _ => rfl⟩
theorem Evn.eq {α : Type} {φ ψ : Nat → Option α} {o : α} (h : Evn φ o) (e : ∀ f, ψ f = φ f) : Evn ψ o := by
  obtain ⟨a, ha⟩ := h
  exact ⟨a, fun f hf => (e f).trans (ha f hf)⟩

/-- What may stand behind a type. -/
def Fol (r : List TT) : Prop := isS r [124] = false ∧ isS r [61, 62] = false

def Rt (t : Tr) : Prop := ∀ r, Fol r → Evn (fun f => rdT f (tks t ++ r)) (t, r)
/-- As one of a union. -/
def Rm (t : Tr) (bare : Bool) : Prop := ∀ r, isS r [61, 62] = false → (bare = false → isS r [124] = false) → Evn (fun f => rdM f (tks t ++ r)) (t, r)

theorem word_kind (k : Int) (h1 : 1 ≤ k) (h2 : k ≤ 6) : plainKind (word k) = k := by
  have : k = 1 ∨ k = 2 ∨ k = 3 ∨ k = 4 ∨ k = 5 ∨ k = 6 := by omega
  rcases this with rfl | rfl | rfl | rfl | rfl | rfl <;> decide

theorem rt_of_rm {t : Tr} {b : Bool} (h : Rm t b) : Rt t := by
  intro r hr
  refine Evn.succ (φ := fun f => rdN f (tks t ++ r)) ?_ (fun f => by rw [rdT])
  refine Evn.succ (φ := fun f => (rdM f (tks t ++ r)).bind fun p => if isS p.2 [124] then (rdU f p.2 [p.1]).bind fun q => some (.nd 10 [] q.1, q.2) else some p) ?_ (fun f => by rw [rdN])
  exact Evn.bind (h r hr.2 fun _ => hr.1) (Evn.pure.eq fun f => by simp [hr.1])

theorem rm_plain (k : Int) (h1 : 1 ≤ k) (h2 : k ≤ 6) : Rm (.nd k [] []) true := by
  intro r _ _
  have hk : k = 1 ∨ k = 2 ∨ k = 3 ∨ k = 4 ∨ k = 5 ∨ k = 6 := by omega
  have e : tks (.nd k [] []) = [(2, word k)] := by
    rw [tks, if_neg (by omega), if_neg (by omega), if_neg (by omega), if_neg (by omega)]
  refine Evn.succ (φ := fun _ => some (.nd k [] [], r)) Evn.pure (fun f => ?_)
  rw [e, rdM]
  have hw := word_kind k h1 h2
  have n1 : isS ([(2, word k)] ++ r) [123] = false := by rcases hk with rfl | rfl | rfl | rfl | rfl | rfl <;> rfl
  have n2 : isS ([(2, word k)] ++ r) [91] = false := by rcases hk with rfl | rfl | rfl | rfl | rfl | rfl <;> rfl
  have n3 : isS ([(2, word k)] ++ r) [40] = false := by rcases hk with rfl | rfl | rfl | rfl | rfl | rfl <;> rfl
  rw [n1, n2, n3]
  simp only [Bool.false_eq_true, if_false, List.singleton_append, hdK, hdX, List.tail_cons]
  rw [hw, if_pos ⟨trivial, by omega⟩]

theorem rdO_more (fs : List (List UInt8)) : ∀ (ks : List Tr) (ns : List (List UInt8)) (ns0 : List (List UInt8)) (ks0 : List Tr) (r : List TT), ns.length = ks.length → (∀ x ∈ ks, Rt x) →
    Evn (fun f => rdO f (tksF ns ks ++ sg [125] :: r) ns0 ks0) (.nd 7 (ns0 ++ ns) (ks0 ++ ks), r)
  | [], ns, ns0, ks0, r, hl, _ => by
    have : ns = [] := List.eq_nil_of_length_eq_zero (by simpa using hl)
    subst this
    refine Evn.succ (φ := fun _ => some (.nd 7 ns0 ks0, r)) (by simpa using Evn.pure) (fun f => ?_)
    simp only [tksF, List.nil_append]
    rw [rdO]
    simp [isS, sg, has]
  | t :: ks, [], _, _, _, hl, _ => by simp at hl
  | t :: ks, n :: ns, ns0, ks0, r, hl, ht => by
    have h1 := rdO_more fs ks ns (ns0 ++ [n]) (ks0 ++ [t]) r (by simpa using hl) (fun x hx => ht x (by simp [hx]))
    have h2 := ht t (by simp) (sg [59] :: (tksF ns ks ++ sg [125] :: r)) ⟨by simp [isS, sg, has], by simp [isS, sg, has]⟩
    refine Evn.succ (φ := fun f => (rdT f (tks t ++ sg [59] :: (tksF ns ks ++ sg [125] :: r))).bind fun p => if isS p.2 [59] then rdO f p.2.tail (ns0 ++ [n]) (ks0 ++ [p.1]) else none) ?_ (fun f => ?_)
    · refine Evn.bind h2 ?_
      have := h1
      simp only [List.append_assoc, List.singleton_append] at this
      exact this.eq fun f => by simp [isS, sg, has]
    · rw [rdO]
      simp [tksF, isS, sg, has, hdK, hdX]

theorem rm_obj (ns : List (List UInt8)) (ks : List Tr) (hl : ns.length = ks.length) (ht : ∀ x ∈ ks, Rt x) : Rm (.nd 7 ns ks) true := by
  intro r _ _
  refine Evn.succ (φ := fun f => rdO f (tksF ns ks ++ sg [125] :: r) [] []) (by simpa using rdO_more [] ks ns [] [] r hl ht) (fun f => ?_)
  rw [rdM]
  simp [tks, isS, sg, has]

theorem rm_arr (t : Tr) (ht : Rt t) : Rm (.nd 8 [] [t]) true := by
  intro r _ _
  refine Evn.succ (φ := fun f => (rdT f (tks t ++ sg [93] :: r)).bind fun p => if isS p.2 [93] then some (.nd 8 [] [p.1], p.2.tail) else none) ?_ (fun f => ?_)
  · exact Evn.bind (ht _ ⟨by simp [isS, sg, has], by simp [isS, sg, has]⟩) (Evn.pure.eq fun f => by simp [isS, sg, has])
  · rw [rdM]
    simp [tks, tksH, isS, sg, has]

theorem isS_not (l : List TT) (m m' : List UInt8) (h : isS l m = true) (hm : m ≠ m') : isS l m' = false := by
  cases l with
  | nil => rfl
  | cons p r =>
    obtain ⟨k, x⟩ := p
    simp only [isS, has, Bool.and_eq_true, List.contains_iff_mem, List.mem_singleton] at h
    simp only [isS, has]
    rw [h.2]
    simp [hm]

/-- No type begins with these. -/
theorem tks_begin (t : Tr) (h : Wf t) : ∀ r, isS (tks t ++ r) [41] = false := by
  induction h with
  | plain k h1 h2 =>
    intro r
    have e : tks (.nd k [] []) = [(2, word k)] := by
      rw [tks, if_neg (by omega), if_neg (by omega), if_neg (by omega), if_neg (by omega)]
    rw [e]
    have hk : k = 1 ∨ k = 2 ∨ k = 3 ∨ k = 4 ∨ k = 5 ∨ k = 6 := by omega
    rcases hk with rfl | rfl | rfl | rfl | rfl | rfl <;> rfl
  | obj ns ks _ _ _ _ _ => intro r; simp [tks, isS, sg, has]
  | arr t _ _ => intro r; simp [tks, isS, sg, has]
  | fn t ps _ _ _ _ => intro r; simp [tks, tksB, isS, sg, has]
  | uni ks h2 _ ih =>
    intro r
    cases ks with
    | nil => simp at h2
    | cons t ks =>
      simp only [tks, tksU]
      simp only [show ¬((10 : Int) = 7) from by decide, show ¬((10 : Int) = 8) from by decide, show ¬((10 : Int) = 9) from by decide, if_false, if_true, List.nil_append]
      split
      · simp [isS, sg, has]
      · rw [List.append_assoc]
        exact ih t (by simp) _

theorem rdL_more : ∀ (ks ks0 : List Tr) (r : List TT), (∀ x ∈ ks, Rt x ∧ Wf x) →
    Evn (fun f => rdL f (tksC (decide (ks0.length = 0)) ks ++ sg [41] :: r) ks0) (ks0 ++ ks, r)
  | [], ks0, r, _ => by
    refine Evn.succ (φ := fun _ => some (ks0, r)) (by simpa using Evn.pure) (fun f => ?_)
    rw [rdL]
    simp [tksC, isS, sg, has]
  | t :: ks, ks0, r, ht => by
    have h1 := rdL_more ks (ks0 ++ [t]) r (fun x hx => ht x (by simp [hx]))
    have hf : decide ((ks0 ++ [t]).length = 0) = false := by simp
    rw [hf] at h1
    have hfol : Fol (tksC false ks ++ sg [41] :: r) := by
      cases ks with
      | nil => exact ⟨by simp [tksC, isS, sg, has], by simp [tksC, isS, sg, has]⟩
      | cons u us => exact ⟨by simp [tksC, isS, sg, has], by simp [tksC, isS, sg, has]⟩
    have h2 := (ht t (by simp)).1 _ hfol
    have h3 := tks_begin t (ht t (by simp)).2
    refine Evn.succ (φ := fun f => (rdT f (tks t ++ (tksC false ks ++ sg [41] :: r))).bind fun p => rdL f p.2 (ks0 ++ [p.1])) ?_ (fun f => ?_)
    · refine Evn.bind h2 ?_
      simpa using h1
    · rw [rdL]
      by_cases h0 : ks0.length = 0
      · simp [h0, tksC, h3]
      · simp [h0, tksC, isS, sg, has]

theorem rm_fn (t : Tr) (ps : List Tr) (ht : Rt t) (hp : ∀ x ∈ ps, Rt x ∧ Wf x) : Rm (.nd 9 [] (t :: ps)) false := by
  intro r h1 h2
  have h3 := rdL_more ps [] (sg [61, 62] :: (tks t ++ r)) hp
  have h4 := ht r ⟨h2 rfl, h1⟩
  refine Evn.succ (φ := fun f => rdB f (tksC true ps ++ sg [41] :: sg [61, 62] :: (tks t ++ r))) ?_ (fun f => ?_)
  · refine Evn.succ (φ := fun f => (rdL f (tksC true ps ++ sg [41] :: sg [61, 62] :: (tks t ++ r)) []).bind fun p =>
      if isS p.2 [61, 62] then (rdT f p.2.tail).bind fun q => some (.nd 9 [] (q.1 :: p.1), q.2)
      else match p.1 with
        | [t] => some (t, p.2)
        | _ => none) ?_ (fun f => by rw [rdB])
    refine Evn.bind (by simpa using h3) ?_
    refine Evn.eq (φ := fun f => (rdT f (tks t ++ r)).bind fun q => some (.nd 9 [] (q.1 :: ps), q.2)) ?_ (fun f => by simp [isS, sg, has])
    exact Evn.bind h4 Evn.pure
  · rw [rdM]
    simp [tks, tksB, isS, sg, has]

/-- In brackets. -/
theorem rm_brackets (t : Tr) (ht : Rt t) (hw : Wf t) (r : List TT) (hr : isS r [61, 62] = false) : Evn (fun f => rdM f (sg [40] :: (tks t ++ sg [41] :: r))) (t, r) := by
  have h3 := rdL_more [t] [] r (fun x hx => by simp at hx; subst hx; exact ⟨ht, hw⟩)
  refine Evn.succ (φ := fun f => rdB f (tks t ++ sg [41] :: r)) ?_ (fun f => ?_)
  · refine Evn.succ (φ := fun f => (rdL f (tks t ++ sg [41] :: r) []).bind fun p =>
      if isS p.2 [61, 62] then (rdT f p.2.tail).bind fun q => some (.nd 9 [] (q.1 :: p.1), q.2)
      else match p.1 with
        | [t] => some (t, p.2)
        | _ => none) ?_ (fun f => by rw [rdB])
    refine Evn.bind (x := ([t], r)) (by simpa [tksC] using h3) ?_
    exact Evn.pure.eq fun f => by simp [hr]
  · rw [rdM]
    simp [isS, sg, has]

/-- How one of a union is written. -/
def one (t : Tr) (last : Bool) : List TT := if t.k = 10 ∨ t.k = 9 ∧ last = false then sg [40] :: (tks t ++ [sg [41]]) else tks t

theorem rm_one (t : Tr) (hw : Wf t) (ht : Rt t) (hm : t.k ≠ 10 → Rm t (decide (t.k ≠ 9))) (last : Bool) (r : List TT) (h1 : isS r [61, 62] = false) (h2 : last = true → isS r [124] = false) : Evn (fun f => rdM f (one t last ++ r)) (t, r) := by
  unfold one
  split
  · simpa using rm_brackets t ht hw r h1
  · rename_i h
    rw [not_or] at h
    refine hm h.1 r h1 (fun hb => ?_)
    have h9 : t.k = 9 := by simpa using hb
    cases last
    · exact absurd ⟨h9, rfl⟩ h.2
    · exact h2 rfl

theorem rdU_more : ∀ (ks ks0 : List Tr) (r : List TT), Fol r → (∀ x ∈ ks, Wf x ∧ Rt x ∧ (x.k ≠ 10 → Rm x (decide (x.k ≠ 9)))) →
    Evn (fun f => rdU f (tksU false ks ++ r) ks0) (ks0 ++ ks, r)
  | [], ks0, r, hr, _ => by
    refine Evn.succ (φ := fun _ => some (ks0, r)) (by simpa using Evn.pure) (fun f => ?_)
    rw [rdU]
    simp [tksU, hr.1]
  | t :: ks, ks0, r, hr, ht => by
    have h1 := rdU_more ks (ks0 ++ [t]) r hr (fun x hx => ht x (by simp [hx]))
    have ha : isS (tksU false ks ++ r) [61, 62] = false := by
      cases ks with
      | nil => simpa [tksU] using hr.2
      | cons u us => simp [tksU, isS, sg, has]
    have h2 := rm_one t (ht t (by simp)).1 (ht t (by simp)).2.1 (ht t (by simp)).2.2 (decide (ks.length = 0)) (tksU false ks ++ r) ha (fun hl => by
      have : ks = [] := List.eq_nil_of_length_eq_zero (by simpa using hl)
      subst this
      simpa [tksU] using hr.1)
    have e : tksU false (t :: ks) ++ r = sg [124] :: (one t (decide (ks.length = 0)) ++ (tksU false ks ++ r)) := by
      simp [tksU, one]
    rw [e]
    refine Evn.succ (φ := fun f => (rdM f (one t (decide (ks.length = 0)) ++ (tksU false ks ++ r))).bind fun p => rdU f p.2 (ks0 ++ [p.1])) ?_ (fun f => ?_)
    · refine Evn.bind h2 ?_
      simpa using h1
    · rw [rdU]
      simp [isS, sg, has]

theorem rt_uni (ks : List Tr) (h2 : 2 ≤ ks.length) (ht : ∀ x ∈ ks, Wf x ∧ Rt x ∧ (x.k ≠ 10 → Rm x (decide (x.k ≠ 9)))) : Rt (.nd 10 [] ks) := by
  intro r hr
  match ks, h2, ht with
  | t :: u :: us, _, ht =>
    have h3 := rdU_more (u :: us) [t] r hr (fun x hx => ht x (by simp at hx ⊢; exact .inr hx))
    have h4 := rm_one t (ht t (by simp)).1 (ht t (by simp)).2.1 (ht t (by simp)).2.2 false (tksU false (u :: us) ++ r) (by simp [tksU, isS, sg, has]) (by simp)
    have e : tks (.nd 10 [] (t :: u :: us)) ++ r = one t false ++ (tksU false (u :: us) ++ r) := by
      simp [tks, tksU, one]
    rw [e]
    refine Evn.succ (φ := fun f => rdN f (one t false ++ (tksU false (u :: us) ++ r))) ?_ (fun f => by rw [rdT])
    refine Evn.succ (φ := fun f => (rdM f (one t false ++ (tksU false (u :: us) ++ r))).bind fun p => if isS p.2 [124] then (rdU f p.2 [p.1]).bind fun q => some (.nd 10 [] q.1, q.2) else some p) ?_ (fun f => by rw [rdN])
    refine Evn.bind h4 ?_
    refine Evn.eq (φ := fun f => (rdU f (tksU false (u :: us) ++ r) [t]).bind fun q => some (Tr.nd 10 [] q.1, q.2)) ?_ (fun f => by simp [tksU, isS, sg, has])
    exact Evn.bind h3 Evn.pure

/-- What is written is read back. -/
theorem rt (t : Tr) (h : Wf t) : Rt t ∧ (t.k ≠ 10 → Rm t (decide (t.k ≠ 9))) := by
  induction h with
  | plain k h1 h2 =>
    have h := rm_plain k h1 h2
    have e : decide ((Tr.nd k [] []).k ≠ 9) = true := decide_eq_true (by show k ≠ 9; omega)
    rw [e]
    exact ⟨rt_of_rm h, fun _ => h⟩
  | obj ns ks hl _ _ _ ih =>
    have h := rm_obj ns ks hl (fun x hx => (ih x hx).1)
    exact ⟨rt_of_rm h, fun _ => h⟩
  | arr t _ ih =>
    have h := rm_arr t ih.1
    exact ⟨rt_of_rm h, fun _ => h⟩
  | fn t ps _ hp iht ihp =>
    have h := rm_fn t ps iht.1 (fun x hx => ⟨(ihp x hx).1, hp x hx⟩)
    exact ⟨rt_of_rm h, fun _ => h⟩
  | uni ks h2 hw ih =>
    exact ⟨rt_uni ks h2 (fun x hx => ⟨hw x hx, ih x hx⟩), fun h => absurd rfl h⟩

/-- Types that are written alike are the same. -/
theorem tks_inj {a b : Tr} (ha : Wf a) (hb : Wf b) (h : tks a = tks b) : a = b := by
  have h1 := (rt a ha).1 [] ⟨rfl, rfl⟩
  have h2 := (rt b hb).1 [] ⟨rfl, rfl⟩
  rw [h] at h1
  exact (Prod.mk.inj (Evn.one h1 h2)).1

end Go.Proofs.YtkilicjjaljghaaGreat.M

/- Plain: what the parser numbers, as trees; the reader without limits reads the same. -/
namespace Go.Proofs.YtkilicjjaljghaaGreat.M

/-- A type as the parser numbers it: its parts are ahead of it. -/
def TyOk (t : Ty) (i : Nat) : Prop :=
  (1 ≤ t.kind ∧ t.kind ≤ 6 ∧ t.fields = [] ∧ t.list = []) ∨
  (t.kind = 7 ∧ t.list = [] ∧ (t.fields.map (·.1)).Nodup ∧ ∀ p ∈ t.fields, NmOk p.1 ∧ 0 ≤ p.2 ∧ p.2 < i) ∨
  (t.kind = 8 ∧ t.fields = [] ∧ t.list = [] ∧ 0 ≤ t.of' ∧ t.of' < i) ∨
  (t.kind = 9 ∧ t.fields = [] ∧ 0 ≤ t.of' ∧ t.of' < i ∧ ∀ x ∈ t.list, 0 ≤ x ∧ x < i) ∨
  (t.kind = 10 ∧ t.fields = [] ∧ 2 ≤ t.list.length ∧ ∀ x ∈ t.list, 0 ≤ x ∧ x < i)
def TsOk (T : List Ty) : Prop := ∀ i (h : i < T.length), TyOk T[i] i

theorem TyOk.fld {t : Ty} {i : Nat} (h : TyOk t i) : ∀ p ∈ t.fields, 0 ≤ p.2 ∧ p.2 < i := by
  intro p hp
  rcases h with ⟨_, _, h, _⟩ | ⟨_, _, _, h⟩ | ⟨_, h, _⟩ | ⟨_, h, _⟩ | ⟨_, h, _⟩
  · simp [h] at hp
  · exact (h p hp).2
  · simp [h] at hp
  · simp [h] at hp
  · simp [h] at hp
theorem TyOk.lst {t : Ty} {i : Nat} (h : TyOk t i) : ∀ x ∈ t.list, 0 ≤ x ∧ x < i := by
  intro p hp
  rcases h with ⟨_, _, _, h⟩ | ⟨_, h, _⟩ | ⟨_, _, h, _⟩ | ⟨_, _, _, _, h⟩ | ⟨_, _, _, h⟩
  · simp [h] at hp
  · simp [h] at hp
  · simp [h] at hp
  · exact h p hp
  · exact h p hp
theorem TyOk.of {t : Ty} {i : Nat} (h : TyOk t i) (hk : t.kind = 8 ∨ t.kind = 9) : 0 ≤ t.of' ∧ t.of' < i := by
  rcases h with h | h | h | h | h
  · omega
  · omega
  · exact h.2.2.2
  · exact ⟨h.2.2.1, h.2.2.2.1⟩
  · omega

def ty0 : Ty := ⟨0, [], [], 0⟩
def trF (T : List Ty) : Nat → Nat → Tr
  | 0, _ => .nd 0 [] []
  | f + 1, i => .nd (T.getD i ty0).kind ((T.getD i ty0).fields.map (·.1))
      ((if (T.getD i ty0).kind = 8 ∨ (T.getD i ty0).kind = 9 then [trF T f (T.getD i ty0).of'.toNat] else []) ++ ((T.getD i ty0).fields.map fun p => trF T f p.2.toNat) ++ (T.getD i ty0).list.map fun x => trF T f x.toNat)
def tr (T : List Ty) (i : Nat) : Tr := trF T (i + 1) i

theorem getD_at {T : List Ty} {i : Nat} (h : i < T.length) : T.getD i ty0 = T[i] := by simp [h]

theorem kids_congr {t : Ty} {i : Nat} (ht : TyOk t i) (g h : Nat → Tr) (e : ∀ j, j < i → g j = h j) :
    (if t.kind = 8 ∨ t.kind = 9 then [g t.of'.toNat] else []) ++ (t.fields.map fun p => g p.2.toNat) ++ (t.list.map fun x => g x.toNat) = (if t.kind = 8 ∨ t.kind = 9 then [h t.of'.toNat] else []) ++ (t.fields.map fun p => h p.2.toNat) ++ (t.list.map fun x => h x.toNat) := by
  have e1 : t.fields.map (fun p => g p.2.toNat) = t.fields.map (fun p => h p.2.toNat) := List.map_congr_left fun p hp => e _ (by have := ht.fld p hp; omega)
  have e2 : t.list.map (fun x => g x.toNat) = t.list.map (fun x => h x.toNat) := List.map_congr_left fun p hp => e _ (by have := ht.lst p hp; omega)
  rw [e1, e2]
  by_cases hk : t.kind = 8 ∨ t.kind = 9
  · rw [if_pos hk, if_pos hk, e _ (by have := ht.of hk; omega)]
  · rw [if_neg hk, if_neg hk]

theorem trF_more {T : List Ty} (hT : TsOk T) : ∀ (f g i : Nat), i < T.length → i < f → i < g → trF T f i = trF T g i
  | 0, _, _, _, h, _ => by omega
  | _, 0, _, _, _, h => by omega
  | f + 1, g + 1, i, hi, hf, hg => by
    simp only [trF, getD_at hi]
    rw [kids_congr (hT i hi) (trF T f) (trF T g) (fun j hj => trF_more hT f g j (by omega) (by omega) (by omega))]

theorem trF_app {T X : List Ty} (hT : TsOk T) : ∀ (f i : Nat), i < T.length → trF (T ++ X) f i = trF T f i
  | 0, _, _ => rfl
  | f + 1, i, hi => by
    have e : (T ++ X).getD i ty0 = T[i] := by rw [getD_at (by simp; omega)]; exact List.getElem_append_left hi
    simp only [trF, getD_at hi, e]
    rw [kids_congr (hT i hi) (trF (T ++ X) f) (trF T f) (fun j hj => trF_app hT f j (by omega))]

theorem tr_app {T : List Ty} (X : List Ty) {i : Nat} (hT : TsOk T) (hi : i < T.length) : tr (T ++ X) i = tr T i := trF_app hT _ _ hi

theorem tr_eq {T : List Ty} {i : Nat} (hT : TsOk T) (hi : i < T.length) : tr T i = .nd T[i].kind (T[i].fields.map (·.1))
    ((if T[i].kind = 8 ∨ T[i].kind = 9 then [tr T T[i].of'.toNat] else []) ++ (T[i].fields.map fun p => tr T p.2.toNat) ++ T[i].list.map fun x => tr T x.toNat) := by
  rw [tr, trF, getD_at hi]
  rw [kids_congr (hT i hi) (trF T i) (tr T) (fun j hj => trF_more hT _ _ _ (by omega) (by omega) (by omega))]

theorem wf_tr {T : List Ty} (hT : TsOk T) (i : Nat) : i < T.length → Wf (tr T i) := by
  induction i using Nat.strongRecOn with
  | ind i ih =>
    intro hi
    have h := hT i hi
    rw [tr_eq hT hi]
    have h' := h
    rcases h' with ⟨h1, h2, h3, h4⟩ | ⟨h1, h2, h3, h4⟩ | ⟨h1, h2, h3, h4⟩ | ⟨h1, h2, h3, h4, h5⟩ | ⟨h1, h2, h3, h4⟩
    · rw [if_neg (by omega), h3, h4]
      exact Wf.plain _ h1 h2
    · rw [if_neg (by omega), h1, h2]
      simp only [List.map_nil, List.nil_append, List.append_nil]
      refine Wf.obj _ _ (by simp) h3 (fun n hn => ?_) (fun x hx => ?_)
      · obtain ⟨p, hp, rfl⟩ := List.mem_map.1 hn
        exact (h4 p hp).1
      · obtain ⟨p, hp, rfl⟩ := List.mem_map.1 hx
        have := (h4 p hp).2
        exact ih _ (by omega) (by omega)
    · rw [if_pos (.inl h1), h1, h2, h3]
      exact Wf.arr _ (ih _ (by omega) (by omega))
    · rw [if_pos (.inr h1), h1, h2]
      refine Wf.fn _ _ (ih _ (by omega) (by omega)) (fun x hx => ?_)
      obtain ⟨p, hp, rfl⟩ := List.mem_map.1 hx
      have := h5 p hp
      exact ih _ (by omega) (by omega)
    · rw [if_neg (by omega), h1, h2]
      simp only [List.map_nil, List.nil_append]
      refine Wf.uni _ (by simpa using h3) (fun x hx => ?_)
      obtain ⟨p, hp, rfl⟩ := List.mem_map.1 hx
      have := h4 p hp
      exact ih _ (by omega) (by omega)

theorem TsOk.snoc {T : List Ty} {t : Ty} (hT : TsOk T) (ht : TyOk t T.length) : TsOk (T ++ [t]) := by
  intro i hi
  by_cases h : i < T.length
  · rw [List.getElem_append_left h]
    exact hT i h
  · have : i = T.length := by simp at hi; omega
    subst this
    simpa using ht

/-- The new type's tree, by those of its parts. -/
theorem tr_new {T : List Ty} {t : Ty} (hT : TsOk T) (ht : TyOk t T.length) : tr (T ++ [t]) T.length = .nd t.kind (t.fields.map (·.1))
    ((if t.kind = 8 ∨ t.kind = 9 then [tr T t.of'.toNat] else []) ++ (t.fields.map fun p => tr T p.2.toNat) ++ t.list.map fun x => tr T x.toNat) := by
  rw [tr_eq (hT.snoc ht) (by simp)]
  simp only [List.getElem_concat_length]
  rw [kids_congr ht (tr (T ++ [t])) (tr T) (fun j hj => tr_app _ hT hj)]

/-! ### The reader reads the same -/

def tt (L : List Tk) (i : Nat) : List TT := (L.drop i).map fun t => (t.kind, t.text)

theorem tt_cons {L : List Tk} {i : Nat} (h : i < L.length) : tt L i = ((tk L i).kind, (tk L i).text) :: tt L (i + 1) := by
  have e : tk L i = L[i] := by simp [tk, List.getD, h]
  rw [tt, List.drop_eq_getElem_cons h, List.map_cons, e]; rfl
theorem tt_nil {L : List Tk} {i : Nat} (h : ¬ i < L.length) : tt L i = [] := by rw [tt, List.drop_of_length_le (by omega)]; rfl
theorem tk_nil {L : List Tk} {i : Nat} (h : ¬ i < L.length) : tk L i = ⟨6, [], 0⟩ := by
  simp only [tk, List.getD]
  rw [List.getElem?_eq_none (by omega)]; rfl
theorem tt_tail (L : List Tk) (i : Nat) : (tt L i).tail = tt L (i + 1) := by
  by_cases h : i < L.length
  · rw [tt_cons h]; rfl
  · rw [tt_nil h, tt_nil (by omega)]; rfl
theorem isM_isS (L : List Tk) (i : Nat) (m : List UInt8) : isS (tt L i) m = isM L i [m] := by
  by_cases h : i < L.length
  · rw [tt_cons h]; rfl
  · rw [tt_nil h]
    unfold isM
    rw [tk_nil h]; rfl
theorem hdK_tt (L : List Tk) (i : Nat) : hdK (tt L i) = (tk L i).kind := by
  by_cases h : i < L.length
  · rw [tt_cons h]; rfl
  · rw [tt_nil h, tk_nil h]; rfl
theorem hdX_tt (L : List Tk) (i : Nat) : hdX (tt L i) = (tk L i).text := by
  by_cases h : i < L.length
  · rw [tt_cons h]; rfl
  · rw [tt_nil h, tk_nil h]; rfl

theorem obind_ok {α β : Type} {x : Option (Out α)} {k : St → α → Option (Out β)} {s : St} {b : β} (h : obind x k = some (.ok s b)) : ∃ s1 a, x = some (.ok s1 a) ∧ k s1 a = some (.ok s b) := by
  unfold obind at h
  split at h
  · simp at h
  · simp at h
  · exact ⟨_, _, rfl, h⟩
theorem need_ok {L : List Tk} {s s' : St} {m : List UInt8} {u : Unit} (h : need L s m = some (.ok s' u)) : isM L s.i [m] = true ∧ s' = s.nx := by
  unfold need at h
  split at h
  · rename_i hm
    simp only [Option.some.injEq, Out.ok.injEq] at h
    exact ⟨hm, h.1.symm⟩
  · simp [flt] at h
theorem addT_ok {s s' : St} {t : Ty} {x : Int} (h : addT s t = some (.ok s' x)) : s' = ⟨s.i, s.N, s.T ++ [t]⟩ ∧ x = s.T.length := by
  simp only [addT, Option.some.injEq, Out.ok.injEq] at h
  exact ⟨h.1.symm, h.2.symm⟩

/-- Types came behind those that were there. -/
structure Ex (s s' : St) : Prop where
  nodes : s'.N = s.N
  more : ∃ X, s'.T = s.T ++ X
  ok : TsOk s'.T

theorem Ex.trans {a b c : St} (h : Ex a b) (k : Ex b c) : Ex a c := by
  obtain ⟨X, hX⟩ := h.more
  obtain ⟨Y, hY⟩ := k.more
  exact ⟨k.nodes.trans h.nodes, ⟨X ++ Y, by rw [hY, hX, List.append_assoc]⟩, k.ok⟩
theorem Ex.nx {a : St} (h : TsOk a.T) : Ex a a.nx := ⟨rfl, ⟨[], by simp [St.nx]⟩, h⟩
theorem Ex.len {a b : St} (h : Ex a b) : a.T.length ≤ b.T.length := by
  obtain ⟨X, hX⟩ := h.more
  rw [hX]; simp
theorem Ex.tr {a b : St} (h : Ex a b) (ha : TsOk a.T) {i : Nat} (hi : i < a.T.length) : M.tr b.T i = M.tr a.T i := by
  obtain ⟨X, hX⟩ := h.more
  rw [hX]; exact tr_app X ha hi
theorem Ex.add {a : St} {t : Ty} (h : TsOk a.T) (ht : TyOk t a.T.length) : Ex a ⟨a.i, a.N, a.T ++ [t]⟩ := ⟨rfl, ⟨[t], rfl⟩, h.snoc ht⟩

/-- Numbers of types that are there. -/
def In (s : St) (l : List Int) : Prop := ∀ x ∈ l, 0 ≤ x ∧ x < s.T.length
theorem In.mono {a b : St} {l : List Int} (h : In a l) (e : Ex a b) : In b l := fun x hx => by have := h x hx; have := e.len; omega
theorem In.snoc {a : St} {l : List Int} {x : Int} (h : In a l) (h1 : 0 ≤ x) (h2 : x < a.T.length) : In a (l ++ [x]) := by
  intro y hy
  rcases List.mem_append.1 hy with hy | hy
  · exact h y hy
  · simp at hy; subst hy; exact ⟨h1, h2⟩
def trs (s : St) (l : List Int) : List Tr := l.map fun x => tr s.T x.toNat
theorem trs_ex {a b : St} {l : List Int} (ha : TsOk a.T) (h : In a l) (e : Ex a b) : trs b l = trs a l :=
  List.map_congr_left fun x hx => e.tr ha (by have := h x hx; omega)

def Fs (s : St) (fs : List (List UInt8 × Int)) : Prop := (fs.map (·.1)).Nodup ∧ ∀ p ∈ fs, NmOk p.1 ∧ 0 ≤ p.2 ∧ p.2 < s.T.length
def ftrs (s : St) (fs : List (List UInt8 × Int)) : List Tr := fs.map fun p => tr s.T p.2.toNat

/-- All names are names. -/
def NmL (L : List Tk) : Prop := ∀ i, (tk L i).kind = 1 → NmOk (tk L i).text

structure SimF (L : List Tk) (f : Nat) : Prop where
  typ : ∀ d s s' x, TsOk s.T → (sp' L f).typ d s = some (.ok s' x) → Ex s s' ∧ 0 ≤ x ∧ x < s'.T.length ∧ rdT f (tt L s.i) = some (tr s'.T x.toNat, tt L s'.i)
  union : ∀ d s s' x, TsOk s.T → (sp' L f).union d s = some (.ok s' x) → Ex s s' ∧ 0 ≤ x ∧ x < s'.T.length ∧ rdN f (tt L s.i) = some (tr s'.T x.toNat, tt L s'.i)
  unionL : ∀ d s acc s' l, TsOk s.T → In s acc → (sp' L f).unionL d s acc = some (.ok s' l) → Ex s s' ∧ In s' l ∧ acc.length ≤ l.length ∧ (isM L s.i [[124]] = true → acc.length < l.length) ∧
    rdU f (tt L s.i) (trs s acc) = some (trs s' l, tt L s'.i)
  member : ∀ d s s' x, TsOk s.T → (sp' L f).member d s = some (.ok s' x) → Ex s s' ∧ 0 ≤ x ∧ x < s'.T.length ∧ rdM f (tt L s.i) = some (tr s'.T x.toNat, tt L s'.i)
  objL : ∀ d s fs s' x, TsOk s.T → Fs s fs → (sp' L f).objL d s fs = some (.ok s' x) → Ex s s' ∧ 0 ≤ x ∧ x < s'.T.length ∧ rdO f (tt L s.i) (fs.map (·.1)) (ftrs s fs) = some (tr s'.T x.toNat, tt L s'.i)
  fob : ∀ d s s' x, TsOk s.T → (sp' L f).fob d s = some (.ok s' x) → Ex s s' ∧ 0 ≤ x ∧ x < s'.T.length ∧ rdB f (tt L s.i) = some (tr s'.T x.toNat, tt L s'.i)
  list : ∀ d s nm acc s' l, TsOk s.T → In s acc → (sp' L f).list .typ [41] d s nm acc = some (.ok s' l) → Ex s s' ∧ In s' l ∧ rdL f (tt L s.i) (trs s acc) = some (trs s' l, tt L s'.i)

theorem plainKind_range (x : List UInt8) (h : plainKind x ≠ 0) : 1 ≤ plainKind x ∧ plainKind x ≤ 6 := by
  unfold plainKind at *
  split <;> simp_all
  split <;> simp_all
  split <;> simp_all
  split <;> simp_all
  split <;> simp_all

section
variable {L : List Tk} {f : Nat}

theorem sim_typ (ih : SimF L f) : ∀ d s s' x, TsOk s.T → (sp' L (f + 1)).typ d s = some (.ok s' x) → Ex s s' ∧ 0 ≤ x ∧ x < s'.T.length ∧ rdT (f + 1) (tt L s.i) = some (tr s'.T x.toNat, tt L s'.i) := by
  intro d s s' x hs h
  have h : inside L (isM L s.i typeBegins) d s (sp' L f).union = some (.ok s' x) := h
  unfold inside at h
  split at h
  · split at h
    · simp [flt] at h
    · rw [rdT]
      exact ih.union _ _ _ _ hs h
  · simp [flt] at h

theorem sim_union (ih : SimF L f) : ∀ d s s' x, TsOk s.T → (sp' L (f + 1)).union d s = some (.ok s' x) → Ex s s' ∧ 0 ≤ x ∧ x < s'.T.length ∧ rdN (f + 1) (tt L s.i) = some (tr s'.T x.toNat, tt L s'.i) := by
  intro d s s' x hs h
  obtain ⟨s1, y, h1, h2⟩ := obind_ok h
  obtain ⟨e1, lo, hi, r1⟩ := ih.member _ _ _ _ hs h1
  rw [rdN, r1]
  simp only [Option.bind_some, isM_isS]
  split at h2
  · rename_i hm
    obtain ⟨s2, l, h3, h4⟩ := obind_ok h2
    obtain ⟨rfl, rfl⟩ := addT_ok h4
    obtain ⟨e2, hin, _, hlt, r2⟩ := ih.unionL _ _ [y] _ _ e1.ok (fun z hz => by simp at hz; subst hz; exact ⟨lo, hi⟩) h3
    have ht : TyOk ⟨10, [], l, 0⟩ s2.T.length := .inr (.inr (.inr (.inr ⟨rfl, rfl, by have := hlt hm; show 2 ≤ l.length; simp at this; omega, hin⟩)))
    refine ⟨(e1.trans e2).trans (Ex.add e2.ok ht), by omega, by simp; omega, ?_⟩
    rw [hm]
    have r2' : rdU f (tt L s1.i) [tr s1.T y.toNat] = _ := r2
    rw [r2']
    simp only [Option.bind_some, if_true]
    show some (Tr.nd 10 [] (trs s2 l), tt L s2.i) = _
    rw [show ((s2.T.length : Int)).toNat = s2.T.length from by simp, tr_new e2.ok ht]
    simp [trs]
  · rename_i hm
    simp only [Option.some.injEq, Out.ok.injEq] at h2
    obtain ⟨rfl, rfl⟩ := h2
    refine ⟨e1, lo, hi, ?_⟩
    rw [if_neg hm]

theorem sim_unionL (ih : SimF L f) : ∀ d s acc s' l, TsOk s.T → In s acc → (sp' L (f + 1)).unionL d s acc = some (.ok s' l) → Ex s s' ∧ In s' l ∧ acc.length ≤ l.length ∧ (isM L s.i [[124]] = true → acc.length < l.length) ∧
    rdU (f + 1) (tt L s.i) (trs s acc) = some (trs s' l, tt L s'.i) := by
  intro d s acc s' l hs hin h
  have h : (if isM L s.i [[124]] then obind ((sp' L f).member d s.nx) fun s x => (sp' L f).unionL d s (acc ++ [x]) else some (.ok s acc)) = some (.ok s' l) := h
  rw [rdU, isM_isS]
  split at h
  · rename_i hm
    obtain ⟨s1, y, h1, h2⟩ := obind_ok h
    obtain ⟨e1, lo, hi, r1⟩ := ih.member _ _ _ _ (show TsOk s.nx.T from hs) h1
    have e0 := (Ex.nx hs).trans e1
    obtain ⟨e2, hin2, hle, _, r2⟩ := ih.unionL _ _ _ _ _ e1.ok ((hin.mono e0).snoc lo hi) h2
    simp only [List.length_append, List.length_cons, List.length_nil] at hle
    refine ⟨e0.trans e2, hin2, by omega, fun _ => by omega, ?_⟩
    have r1' : rdM f (tt L (s.i + 1)) = _ := r1
    rw [if_pos hm, tt_tail, r1']
    simp only [Option.bind_some]
    rw [← r2]
    congr 1
    rw [← trs_ex hs hin e0]
    simp [trs]
  · rename_i hm
    simp only [Option.some.injEq, Out.ok.injEq] at h
    obtain ⟨rfl, rfl⟩ := h
    exact ⟨⟨rfl, ⟨[], by simp⟩, hs⟩, hin, Nat.le_refl _, fun hc => absurd hc hm, by rw [if_neg hm]⟩

theorem sim_member (ih : SimF L f) : ∀ d s s' x, TsOk s.T → (sp' L (f + 1)).member d s = some (.ok s' x) → Ex s s' ∧ 0 ≤ x ∧ x < s'.T.length ∧ rdM (f + 1) (tt L s.i) = some (tr s'.T x.toNat, tt L s'.i) := by
  intro d s s' x hs h
  have h : (if isM L s.i [[123]] then (sp' L f).objL d s.nx []
    else if isM L s.i [[91]] then obind ((sp' L f).typ d s.nx) fun s x => obind (need L s [93]) fun s _ => addT s ⟨8, [], [], x⟩
    else if isM L s.i [[40]] then (sp' L f).fob d s.nx
    else if (tk L s.i).kind = 2 ∧ plainKind (tk L s.i).text ≠ 0 then addT s.nx ⟨plainKind (tk L s.i).text, [], [], 0⟩ else flt L s.i 1) = some (.ok s' x) := h
  rw [rdM]
  simp only [isM_isS, tt_tail, hdK_tt, hdX_tt]
  split at h
  · rename_i hm
    rw [if_pos hm]
    obtain ⟨e1, lo, hi, r1⟩ := ih.objL _ _ _ _ _ (show TsOk s.nx.T from hs) ⟨by simp, by simp⟩ h
    exact ⟨(Ex.nx hs).trans e1, lo, hi, r1⟩
  rename_i hm0
  rw [if_neg hm0]
  split at h
  · rename_i hm
    rw [if_pos hm]
    obtain ⟨s1, y, h1, h2⟩ := obind_ok h
    obtain ⟨s2, u, h3, h4⟩ := obind_ok h2
    obtain ⟨hn, rfl⟩ := need_ok h3
    obtain ⟨rfl, rfl⟩ := addT_ok h4
    obtain ⟨e1, lo, hi, r1⟩ := ih.typ _ _ _ _ (show TsOk s.nx.T from hs) h1
    have ht : TyOk ⟨8, [], [], y⟩ s1.nx.T.length := .inr (.inr (.inl ⟨rfl, rfl, rfl, lo, hi⟩))
    have e2 := (Ex.nx hs).trans (e1.trans (Ex.nx e1.ok))
    refine ⟨e2.trans (Ex.add (a := s1.nx) e1.ok ht), by omega, by simp; omega, ?_⟩
    have r1' : rdT f (tt L (s.i + 1)) = _ := r1
    rw [r1']
    simp only [Option.bind_some, isM_isS, tt_tail]
    rw [if_pos hn, show ((s1.nx.T.length : Int)).toNat = s1.nx.T.length from by simp, tr_new (T := s1.nx.T) e1.ok ht]
    simp [St.nx]
  rename_i hm1
  rw [if_neg hm1]
  split at h
  · rename_i hm
    rw [if_pos hm]
    obtain ⟨e1, lo, hi, r1⟩ := ih.fob _ _ _ _ (show TsOk s.nx.T from hs) h
    exact ⟨(Ex.nx hs).trans e1, lo, hi, r1⟩
  rename_i hm2
  rw [if_neg hm2]
  split at h
  · rename_i hm
    rw [if_pos hm]
    obtain ⟨rfl, rfl⟩ := addT_ok h
    have hk := plainKind_range _ hm.2
    have ht : TyOk ⟨plainKind (tk L s.i).text, [], [], 0⟩ s.nx.T.length := .inl ⟨hk.1, hk.2, rfl, rfl⟩
    refine ⟨(Ex.nx hs).trans (Ex.add (a := s.nx) hs ht), by omega, by simp; omega, ?_⟩
    rw [show ((s.nx.T.length : Int)).toNat = s.nx.T.length from by simp, tr_new (T := s.nx.T) hs ht, if_neg (by show ¬ (plainKind _ = 8 ∨ plainKind _ = 9); omega)]
    simp [St.nx]
  · simp [flt] at h

theorem sim_objL (hL : NmL L) (ih : SimF L f) : ∀ d s fs s' x, TsOk s.T → Fs s fs → (sp' L (f + 1)).objL d s fs = some (.ok s' x) → Ex s s' ∧ 0 ≤ x ∧ x < s'.T.length ∧ rdO (f + 1) (tt L s.i) (fs.map (·.1)) (ftrs s fs) = some (tr s'.T x.toNat, tt L s'.i) := by
  intro d s fs s' x hs hf h
  have h : (if isM L s.i [[125]] then addT s.nx ⟨7, fs, [], 0⟩
    else obind (newName L s (fs.map (·.1))) fun s nm => obind (need L s [58]) fun s _ => obind ((sp' L f).typ d s) fun s x => obind (need L s [59]) fun s _ => (sp' L f).objL d s (fs ++ [(nm, x)])) = some (.ok s' x) := h
  rw [rdO]
  simp only [isM_isS, tt_tail, hdK_tt, hdX_tt]
  split at h
  · rename_i hm
    rw [if_pos hm]
    obtain ⟨rfl, rfl⟩ := addT_ok h
    have ht : TyOk ⟨7, fs, [], 0⟩ s.nx.T.length := .inr (.inl ⟨rfl, rfl, hf.1, hf.2⟩)
    refine ⟨(Ex.nx hs).trans (Ex.add (a := s.nx) hs ht), by omega, by simp; omega, ?_⟩
    rw [show ((s.nx.T.length : Int)).toNat = s.nx.T.length from by simp, tr_new (T := s.nx.T) hs ht]
    simp [St.nx, ftrs]
  · rename_i hm
    rw [if_neg hm]
    obtain ⟨s1, nm, h1, h2⟩ := obind_ok h
    obtain ⟨s2, u, h3, h4⟩ := obind_ok h2
    obtain ⟨s3, y, h5, h6⟩ := obind_ok h4
    obtain ⟨s4, u', h7, h8⟩ := obind_ok h6
    unfold newName at h1
    by_cases hk : (tk L s.i).kind = 1
    case neg => rw [if_neg hk] at h1; exact absurd h1 (by simp [flt])
    rw [if_pos hk] at h1
    by_cases hn : has (fs.map (·.1)) (tk L s.i).text = true
    case pos => rw [if_pos hn] at h1; exact absurd h1 (by simp [flt])
    rw [if_neg hn] at h1
    simp only [Option.some.injEq, Out.ok.injEq] at h1
    obtain ⟨rfl, rfl⟩ := h1
    obtain ⟨n1, rfl⟩ := need_ok h3
    obtain ⟨n2, rfl⟩ := need_ok h7
    obtain ⟨e1, lo, hi, r1⟩ := ih.typ _ _ _ _ (show TsOk s.nx.nx.T from hs) h5
    have e0 : Ex s s3.nx := (Ex.nx hs).trans ((Ex.nx (a := s.nx) hs).trans (e1.trans (Ex.nx e1.ok)))
    have hf2 : Fs s3.nx (fs ++ [((tk L s.i).text, y)]) := by
      refine ⟨?_, fun p hp => ?_⟩
      · rw [List.map_append, List.nodup_append]
        refine ⟨hf.1, by simp, fun a ha b hb => ?_⟩
        simp only [List.map_cons, List.map_nil, List.mem_singleton] at hb
        subst hb
        rintro rfl
        simp [has] at hn
        obtain ⟨p, hp, he⟩ := List.mem_map.1 ha
        exact hn p.2 (by rw [← he]; exact hp)
      · rcases List.mem_append.1 hp with hp | hp
        · have := hf.2 p hp
          have := e0.len
          exact ⟨(hf.2 p hp).1, by omega, by omega⟩
        · simp only [List.mem_singleton] at hp
          subst hp
          exact ⟨hL _ hk, lo, hi⟩
    obtain ⟨e2, lo2, hi2, r2⟩ := ih.objL _ _ _ _ _ e0.ok hf2 h8
    refine ⟨e0.trans e2, lo2, hi2, ?_⟩
    have n1' : isM L (s.i + 1) [[58]] = true := n1
    have r1' : rdT f (tt L (s.i + 1 + 1)) = _ := r1
    rw [if_pos hk, if_pos n1', r1']
    simp only [Option.bind_some, isM_isS, tt_tail]
    rw [if_pos n2, ← r2]
    have ef : ftrs s3.nx fs = ftrs s fs := List.map_congr_left fun p hp => e0.tr hs (by have := hf.2 p hp; omega)
    congr 1
    · simp
    · rw [← ef]
      simp [ftrs, St.nx]

theorem sim_fob (ih : SimF L f) : ∀ d s s' x, TsOk s.T → (sp' L (f + 1)).fob d s = some (.ok s' x) → Ex s s' ∧ 0 ≤ x ∧ x < s'.T.length ∧ rdB (f + 1) (tt L s.i) = some (tr s'.T x.toNat, tt L s'.i) := by
  intro d s s' x hs h
  obtain ⟨s1, l, h1, h2⟩ := obind_ok h
  obtain ⟨e1, hin, r1⟩ := ih.list _ _ _ _ _ _ hs (fun z hz => by simp at hz) h1
  rw [rdB]
  have r1' : rdL f (tt L s.i) [] = _ := r1
  rw [r1']
  simp only [Option.bind_some, isM_isS, tt_tail]
  split at h2
  · rename_i hm
    rw [if_pos hm]
    obtain ⟨s2, y, h3, h4⟩ := obind_ok h2
    obtain ⟨rfl, rfl⟩ := addT_ok h4
    obtain ⟨e2, lo, hi, r2⟩ := ih.typ _ _ _ _ (show TsOk s1.nx.T from e1.ok) h3
    have e0 := (Ex.nx e1.ok).trans e2
    have ht : TyOk ⟨9, [], l, y⟩ s2.T.length := .inr (.inr (.inr (.inl ⟨rfl, rfl, lo, hi, hin.mono e0⟩)))
    refine ⟨(e1.trans e0).trans (Ex.add e2.ok ht), by omega, by simp; omega, ?_⟩
    have r2' : rdT f (tt L (s1.i + 1)) = _ := r2
    rw [r2']
    simp only [Option.bind_some]
    rw [show ((s2.T.length : Int)).toNat = s2.T.length from by simp, tr_new e2.ok ht, ← trs_ex e1.ok hin e0]
    simp [trs]
  · rename_i hm
    rw [if_neg hm]
    match l, hin, h2, r1 with
    | [y], hin, h2, _ =>
      simp only [Option.some.injEq, Out.ok.injEq] at h2
      obtain ⟨rfl, rfl⟩ := h2
      exact ⟨e1, (hin y (by simp)).1, (hin y (by simp)).2, by simp [trs]⟩
    | [], _, h2, _ => simp [flt] at h2
    | _ :: _ :: _, _, h2, _ => simp [flt] at h2

theorem sim_list (ih : SimF L f) : ∀ d s nm acc s' l, TsOk s.T → In s acc → (sp' L (f + 1)).list .typ [41] d s nm acc = some (.ok s' l) → Ex s s' ∧ In s' l ∧ rdL (f + 1) (tt L s.i) (trs s acc) = some (trs s' l, tt L s'.i) := by
  intro d s nm acc s' l hs hin h
  have h : (if isM L s.i [[41]] then some (.ok s.nx acc)
    else obind (if acc.length = 0 then some (.ok s ()) else need L s [44]) fun s _ => obind (part L (sp' L f) d s nm .typ) fun s x => (sp' L f).list .typ [41] d s x.2 (acc ++ [x.1])) = some (.ok s' l) := h
  rw [rdL]
  simp only [isM_isS, tt_tail]
  split at h
  · rename_i hm
    rw [if_pos hm]
    simp only [Option.some.injEq, Out.ok.injEq] at h
    obtain ⟨rfl, rfl⟩ := h
    exact ⟨Ex.nx hs, hin, rfl⟩
  · rename_i hm
    rw [if_neg hm]
    obtain ⟨s1, u, h1, h2⟩ := obind_ok h
    obtain ⟨s2, ⟨y, nm'⟩, h3, h4⟩ := obind_ok h2
    obtain ⟨s3, z, h5, h6⟩ := obind_ok h3
    simp only [Option.some.injEq, Out.ok.injEq, Prod.mk.injEq] at h6
    obtain ⟨rfl, rfl, rfl⟩ := h6
    have key : ∀ (hs1 : TsOk s1.T) (e1 : Ex s s1), Ex s s' ∧ In s' l ∧ ((rdT f (tt L s1.i)).bind fun p => rdL f p.2 (trs s acc ++ [p.1])) = some (trs s' l, tt L s'.i) := by
      intro hs1 e1
      obtain ⟨e2, lo, hi, r1⟩ := ih.typ _ _ _ _ hs1 h5
      have e0 := e1.trans e2
      obtain ⟨e3, hin3, r2⟩ := ih.list _ _ _ _ _ _ e2.ok ((hin.mono e0).snoc lo hi) h4
      refine ⟨e0.trans e3, hin3, ?_⟩
      rw [r1]
      simp only [Option.bind_some]
      rw [← r2]
      congr 1
      rw [← trs_ex hs hin e0]
      simp [trs]
    have hl : (trs s acc).length = acc.length := by simp [trs]
    rw [hl]
    by_cases h0 : acc.length = 0
    · rw [if_pos h0] at h1 ⊢
      simp only [Option.some.injEq, Out.ok.injEq] at h1
      obtain ⟨rfl, _⟩ := h1
      exact key hs ⟨rfl, ⟨[], by simp⟩, hs⟩
    · rw [if_neg h0] at h1 ⊢
      obtain ⟨n1, rfl⟩ := need_ok h1
      rw [if_pos n1]
      exact key hs (Ex.nx hs)
end

theorem simF (L : List Tk) (hL : NmL L) : ∀ f, SimF L f
  | 0 => ⟨fun _ _ _ _ _ h => by simp [sp', bot] at h, fun _ _ _ _ _ h => by simp [sp', bot] at h, fun _ _ _ _ _ _ _ h => by simp [sp', bot] at h, fun _ _ _ _ _ h => by simp [sp', bot] at h,
      fun _ _ _ _ _ _ _ h => by simp [sp', bot] at h, fun _ _ _ _ _ h => by simp [sp', bot] at h, fun _ _ _ _ _ _ _ _ h => by simp [sp', bot] at h⟩
  | f + 1 => have ih := simF L hL f
    ⟨sim_typ ih, sim_union ih, sim_unionL ih, sim_member ih, sim_objL hL ih, sim_fob ih, sim_list ih⟩

/-- What the parser answers of a type, as a tree. -/
theorem sim {L : List Tk} (hL : NmL L) {d : Nat} {s s' : St} {x : Int} (hs : TsOk s.T) (h : Ev L (fun r => r.typ d s) (.ok s' x)) :
    Ex s s' ∧ 0 ≤ x ∧ x < s'.T.length ∧ Evn (fun f => rdT f (tt L s.i)) (tr s'.T x.toNat, tt L s'.i) := by
  obtain ⟨f0, h0⟩ := h
  obtain ⟨a, b, c, _⟩ := (simF L hL f0).typ _ _ _ _ hs (h0 f0 (Nat.le_refl _))
  exact ⟨a, b, c, f0, fun f hf => ((simF L hL f).typ _ _ _ _ hs (h0 f hf)).2.2.2⟩

end Go.Proofs.YtkilicjjaljghaaGreat.M

/- Plain: the tokens of what is written. -/
namespace Go.Proofs.YtkilicjjaljghaaGreat.M

/-- These bytes have these tokens. -/
inductive Lex : List UInt8 → List TT → Prop
  | nil : Lex [] []
  | blank (l : List UInt8) (ts : List TT) : Lex l ts → Lex (32 :: l) ts
  | tok (t l : List UInt8) (ts : List TT) (k : Int) (x : List UInt8) : first (t ++ l) = (k, x, t.length) → t ≠ [] → Lex l ts → Lex (t ++ l) ((k, x) :: ts)

theorem first_blank (c : UInt8) (r : List UInt8) (h : blank c.toNat = true) : (first (c :: r)).2.2 = 0 := by
  have hc : c = 32 ∨ c = 10 := by
    simp only [blank, Bool.or_eq_true, decide_eq_true_eq] at h
    rcases h with h | h
    · left; exact UInt8.toNat_inj.1 h
    · right; exact UInt8.toNat_inj.1 h
  rcases hc with rfl | rfl <;> rfl

theorem sp_tok {t l : List UInt8} {k : Int} {x : List UInt8} (h : first (t ++ l) = (k, x, t.length)) (ht : t ≠ []) : sp blank (t ++ l) = 0 := by
  cases t with
  | nil => exact absurd rfl ht
  | cons c r =>
    cases hb : blank c.toNat
    · simp [sp, hb]
    · have := first_blank c (r ++ l) hb
      rw [List.cons_append] at h
      rw [h] at this
      simp at this

theorem lex_scanF {l : List UInt8} {ts : List TT} (h : Lex l ts) : ∀ (f : Nat) (L : List UInt8) (a : Nat) (acc : List Tk), L.drop a = l → L.length - a < f → (scanF f L a acc).2.1 = 0 →
    (scanF f L a acc).1.map (fun t => (t.kind, t.text)) = acc.map (fun t => (t.kind, t.text)) ++ ts ++ [(6, [])] := by
  induction h with
  | nil =>
    intro f L a acc hd hf he
    obtain ⟨f, rfl⟩ : ∃ g, f = g + 1 := ⟨f - 1, by omega⟩
    have hlen : L.length ≤ a := by
      have := congrArg List.length hd
      simp at this
      omega
    simp only [scanF, hd, sp, Nat.add_zero, if_pos hlen]
    simp
  | blank l ts _ ih =>
    intro f L a acc hd hf he
    obtain ⟨f, rfl⟩ : ∃ g, f = g + 1 := ⟨f - 1, by omega⟩
    have hd1 : L.drop (a + 1) = l := by
      rw [← List.drop_drop, hd]; rfl
    have e : scanF (f + 1) L a acc = scanF (f + 1) L (a + 1) acc := by
      rw [scanF_skip f L a acc, scanF_skip f L (a + 1) acc, hd, hd1]
      have : sp blank (32 :: l) = sp blank l + 1 := by
        show (if blank (32 : UInt8).toNat then sp blank l + 1 else 0) = _
        rw [if_pos (by decide)]
      rw [this]
      congr 1
      omega
    rw [e] at he ⊢
    exact ih (f + 1) L (a + 1) acc hd1 (by omega) he
  | tok t l ts k x hf1 ht _ ih =>
    intro f L a acc hd hf he
    obtain ⟨f, rfl⟩ : ∃ g, f = g + 1 := ⟨f - 1, by omega⟩
    have hlen : t.length + l.length = L.length - a := by
      have := congrArg List.length hd
      simp at this
      omega
    have hpos : 0 < t.length := List.length_pos_iff.2 ht
    have hb : sp blank (L.drop a) = 0 := by rw [hd]; exact sp_tok hf1 ht
    rw [scanF_at f L a acc hb] at he ⊢
    rw [hd, hf1] at he ⊢
    simp only at he ⊢
    rw [if_neg (by omega), if_neg (by omega)] at he ⊢
    by_cases h1000 : acc.length = 1000
    · rw [if_pos h1000] at he; simp at he
    · rw [if_neg h1000] at he ⊢
      have hd2 : L.drop (a + t.length) = l := by rw [← List.drop_drop, hd, List.drop_left]
      rw [ih f L (a + t.length) _ hd2 (by omega) he]
      simp

theorem lex_scan {l : List UInt8} {ts : List TT} (h : Lex l ts) (he : (scan l).2.1 = 0) : tt (scan l).1 0 = ts ++ [(6, [])] := by
  unfold scan at he ⊢
  split at he
  · simp at he
  · rename_i hn
    rw [if_neg hn]
    have := lex_scanF h (l.length + 1) l 0 [] rfl (by omega) he
    simpa [tt] using this

theorem lex_one {l : List UInt8} {ts : List TT} (h : Lex l ts) : ∀ {l' : List UInt8} {ts' : List TT}, Lex l' ts' → l = l' → ts = ts' := by
  induction h with
  | nil =>
    intro l' ts' h' e
    cases h' with
    | nil => rfl
    | blank _ _ _ => simp at e
    | tok t l ts k x hf ht _ => cases t with
      | nil => exact absurd rfl ht
      | cons _ _ => simp at e
  | blank l ts _ ih =>
    intro l' ts' h' e
    cases h' with
    | nil => simp at e
    | blank l2 ts2 h2 => exact ih h2 (by simpa using e)
    | tok t l2 ts2 k x hf ht _ =>
      have := first_blank 32 l (by decide)
      rw [e, hf] at this
      simp at this
      exact absurd this ht
  | tok t l ts k x hf ht _ ih =>
    intro l' ts' h' e
    cases h' with
    | nil => cases t with
      | nil => exact absurd rfl ht
      | cons _ _ => simp at e
    | blank l2 ts2 h2 =>
      have := first_blank 32 l2 (by decide)
      rw [← e, hf] at this
      simp at this
      exact absurd this ht
    | tok t2 l2 ts2 k2 x2 hf2 ht2 h2 =>
      rw [e, hf2] at hf
      simp only [Prod.mk.injEq] at hf
      obtain ⟨rfl, rfl, hlen⟩ := hf
      obtain ⟨rfl, rfl⟩ := List.append_inj e hlen.symm
      rw [ih h2 rfl]

/-- No letter and no digit stands first. -/
def Del (r : List UInt8) : Prop := ∀ c, r.head? = some c → nam c.toNat = false

theorem sp_app (p : Nat → Bool) : ∀ (w r : List UInt8), (∀ c ∈ w, p c.toNat = true) → (∀ c, r.head? = some c → p c.toNat = false) → sp p (w ++ r) = w.length
  | [], [], _, _ => rfl
  | [], c :: r, _, h => by simp [sp, h c rfl]
  | c :: w, r, h, hr => by
    have := sp_app p w r (fun d hd => h d (by simp [hd])) hr
    simp [sp, h c (by simp), this]

theorem let_not_dig (n : Nat) (h : let' n = true) : dig n = false := by
  simp only [let', dig, Bool.or_eq_true, Bool.and_eq_true, decide_eq_true_eq] at *
  rw [Bool.and_eq_false_iff]
  simp only [decide_eq_false_iff_not]
  omega

theorem first_name (w r : List UInt8) (hne : w ≠ []) (hl : w.length ≤ 20) (ha : ∀ c ∈ w, nam c.toNat = true) (hh : ∀ c, w.head? = some c → let' c.toNat = true) (hr : Del r) :
    first (w ++ r) = (if isWord w then 2 else 1, w, w.length) := by
  cases w with
  | nil => exact absurd rfl hne
  | cons c w =>
    have h1 := hh c rfl
    have h2 := let_not_dig _ h1
    have h3 := sp_app nam (c :: w) r ha hr
    rw [List.cons_append] at h3
    simp only [first, List.cons_append, List.head?_cons, h2, h1, Bool.false_eq_true, if_false, if_true]
    unfold name
    rw [h3, if_neg (by omega)]
    simp

theorem lex_name (nm r : List UInt8) (ts : List TT) (hn : NmOk nm) (hr : Del r) (h : Lex r ts) : Lex (nm ++ r) ((1, nm) :: ts) := by
  refine Lex.tok nm r ts 1 nm ?_ hn.1 h
  rw [first_name nm r hn.1 hn.2.1 hn.2.2.2.1 hn.2.2.2.2 hr, hn.2.2.1]
  simp

theorem lex_word (k : Int) (r : List UInt8) (ts : List TT) (h1 : 1 ≤ k) (h2 : k ≤ 6) (hr : Del r) (h : Lex r ts) : Lex (word k ++ r) ((2, word k) :: ts) := by
  have hk : k = 1 ∨ k = 2 ∨ k = 3 ∨ k = 4 ∨ k = 5 ∨ k = 6 := by omega
  have hw : word k ≠ [] ∧ (word k).length ≤ 20 ∧ (∀ c ∈ word k, nam c.toNat = true) ∧ (∀ c, (word k).head? = some c → let' c.toNat = true) ∧ isWord (word k) = true := by
    rcases hk with rfl | rfl | rfl | rfl | rfl | rfl <;> exact ⟨by decide, by decide, by decide, by intro c hc; simp [word] at hc; subst hc; decide, by decide⟩
  refine Lex.tok (word k) r ts 2 (word k) ?_ hw.1 h
  rw [first_name (word k) r hw.1 hw.2.1 hw.2.2.1 hw.2.2.2.1 hr, hw.2.2.2.2]
  simp

def tsigns : List (List UInt8) := [[123], [125], [91], [93], [40], [41], [44], [59], [58], [124], [61, 62]]
theorem lex_sg (m r : List UInt8) (ts : List TT) (hm : m ∈ tsigns) (h : Lex r ts) : Lex (m ++ r) (sg m :: ts) := by
  refine Lex.tok m r ts 5 m ?_ ?_ h
  · simp only [tsigns, List.mem_cons, List.not_mem_nil, or_false] at hm
    rcases hm with rfl | rfl | rfl | rfl | rfl | rfl | rfl | rfl | rfl | rfl | rfl <;> simp [first, sign, longest, signs, dig, let']
  · rintro rfl
    exact absurd hm (by decide)

theorem del_sg {m r : List UInt8} (hm : m ∈ tsigns) : Del (m ++ r) := by
  intro c hc
  simp only [tsigns, List.mem_cons, List.not_mem_nil, or_false] at hm
  rcases hm with rfl | rfl | rfl | rfl | rfl | rfl | rfl | rfl | rfl | rfl | rfl <;> (simp at hc; subst hc; decide)
theorem del_blank {r : List UInt8} : Del (32 :: r) := by
  intro c hc
  simp at hc; subst hc; decide

/-- What is written of a type has these tokens. -/
def Lx (t : Tr) : Prop := ∀ r ts, Del r → Lex r ts → Lex (txt' t ++ r) (tks t ++ ts)

theorem lex_flds : ∀ (ks : List Tr) (ns : List (List UInt8)) (r : List UInt8) (ts : List TT), ns.length = ks.length → (∀ n ∈ ns, NmOk n) → (∀ x ∈ ks, Lx x) → Lex r ts → Lex (txtF ns ks ++ r) (tksF ns ks ++ ts)
  | [], _, r, ts, _, _, _, h => by simpa [txtF, tksF] using h
  | t :: ks, [], _, _, hl, _, _, _ => by simp at hl
  | t :: ks, n :: ns, r, ts, hl, hn, hx, h => by
    have h1 := lex_flds ks ns r ts (by simpa using hl) (fun m hm => hn m (by simp [hm])) (fun x hx' => hx x (by simp [hx'])) h
    have h2 := hx t (by simp) _ _ (del_sg (by decide)) (lex_sg [59] _ _ (by decide) h1)
    have h3 := lex_sg [58] _ _ (by decide) (Lex.blank _ _ h2)
    have h4 := Lex.blank _ _ (lex_name n _ _ (hn n (by simp)) (del_sg (by decide)) h3)
    simpa [txtF, tksF] using h4

theorem lex_params : ∀ (ks : List Tr) (fst : Bool) (r : List UInt8) (ts : List TT), (∀ x ∈ ks, Lx x) → Del r → Lex r ts → Lex (txtC fst ks ++ r) (tksC fst ks ++ ts)
  | [], _, r, ts, _, _, h => by simpa [txtC, tksC] using h
  | t :: ks, fst, r, ts, hx, hr, h => by
    have h1 := lex_params ks false r ts (fun x hx' => hx x (by simp [hx'])) hr h
    have hd : Del (txtC false ks ++ r) := by
      cases ks with
      | nil => simpa [txtC] using hr
      | cons u us =>
        have : Del ([44] ++ ([32] ++ txt' u ++ txtC false us ++ r)) := del_sg (by decide)
        simpa [txtC] using this
    have h2 := hx t (by simp) _ _ hd h1
    cases fst
    · have h3 := lex_sg [44] _ _ (by decide) (Lex.blank _ _ h2)
      simpa [txtC, tksC] using h3
    · simpa [txtC, tksC] using h2

theorem lex_union : ∀ (ks : List Tr) (fst : Bool) (r : List UInt8) (ts : List TT), (∀ x ∈ ks, Lx x) → Del r → Lex r ts → Lex (txtU fst ks ++ r) (tksU fst ks ++ ts)
  | [], _, r, ts, _, _, h => by simpa [txtU, tksU] using h
  | t :: ks, fst, r, ts, hx, hr, h => by
    have h1 := lex_union ks false r ts (fun x hx' => hx x (by simp [hx'])) hr h
    have hd : Del (txtU false ks ++ r) := by
      cases ks with
      | nil => simpa [txtU] using hr
      | cons u us =>
        simp only [txtU, Bool.false_eq_true, if_false, List.append_assoc, List.cons_append]
        exact del_blank
    have h2 : Lex ((if t.k = 10 ∨ t.k = 9 ∧ ks.length ≠ 0 then [40] ++ txt' t ++ [41] else txt' t) ++ (txtU false ks ++ r)) ((if t.k = 10 ∨ t.k = 9 ∧ ks.length ≠ 0 then sg [40] :: (tks t ++ [sg [41]]) else tks t) ++ (tksU false ks ++ ts)) := by
      split
      · have := lex_sg [40] _ _ (by decide) (hx t (by simp) _ _ (del_sg (by decide)) (lex_sg [41] _ _ (by decide) h1))
        simpa using this
      · exact hx t (by simp) _ _ hd h1
    cases fst
    · have h3 := Lex.blank _ _ (lex_sg [124] _ _ (by decide) (Lex.blank _ _ h2))
      simpa [txtU, tksU] using h3
    · simpa [txtU, tksU] using h2

theorem lex_txt (t : Tr) (h : Wf t) : Lx t := by
  induction h with
  | plain k h1 h2 =>
    intro r ts hr h
    have e : tks (.nd k [] []) = [(2, word k)] := by
      rw [tks, if_neg (by omega), if_neg (by omega), if_neg (by omega), if_neg (by omega)]
    have e2 : txt' (.nd k [] []) = word k := by
      rw [txt', if_neg (by omega), if_neg (by omega), if_neg (by omega), if_neg (by omega)]
    rw [e, e2]
    exact lex_word k r ts h1 h2 hr h
  | obj ns ks hl hn hm _ ih =>
    intro r ts hr h
    have h1 := lex_sg [125] _ _ (by decide) h
    have h2 : Lex ((if ns.length = 0 then [] else [32]) ++ ([125] ++ r)) (sg [125] :: ts) := by
      split
      · exact h1
      · exact Lex.blank _ _ h1
    have h3 := lex_sg [123] _ _ (by decide) (lex_flds ks ns _ _ hl hm ih h2)
    simpa [txt', tks] using h3
  | arr t _ ih =>
    intro r ts hr h
    have h1 := lex_sg [91] _ _ (by decide) (ih _ _ (del_sg (by decide)) (lex_sg [93] _ _ (by decide) h))
    simpa [txt', tks, txtH, tksH] using h1
  | fn t ps _ _ iht ihp =>
    intro r ts hr h
    have h1 := iht r ts hr h
    have h2 := lex_sg [41] _ _ (by decide) (Lex.blank _ _ (lex_sg [61, 62] _ _ (by decide) (Lex.blank _ _ h1)))
    have h3 := lex_sg [40] _ _ (by decide) (lex_params ps true _ _ ihp (del_sg (by decide)) h2)
    simpa [txt', tks, txtB, tksB] using h3
  | uni ks _ _ ih =>
    intro r ts hr h
    have := lex_union ks true r ts ih hr h
    simpa [txt', tks] using this

/-- Types that are written alike are the same. -/
theorem txt_inj {a b : Tr} (ha : Wf a) (hb : Wf b) (h : txt' a = txt' b) : a = b := by
  have h1 := lex_txt a ha [] [] (by intro c hc; simp at hc) Lex.nil
  have h2 := lex_txt b hb [] [] (by intro c hc; simp at hc) Lex.nil
  simp only [List.append_nil] at h1 h2
  exact tks_inj ha hb (lex_one h1 h2 h)

theorem first_nm (l : List UInt8) (h : (first l).1 = 1) : NmOk (first l).2.1 := by
  unfold first at h ⊢
  cases hh : l.head? with
  | none => rw [hh] at h; simp at h
  | some c =>
    rw [hh] at h
    simp only at h ⊢
    cases hd : dig c.toNat
    · rw [hd] at h
      cases hl : let' c.toNat
      · rw [hl] at h
        simp only [Bool.false_eq_true, if_false] at h
        split at h
        · unfold text at h; split at h <;> simp at h
        · unfold sign at h; split at h <;> simp at h
      · rw [hl] at h
        simp only [Bool.false_eq_true, if_false, if_true] at h ⊢
        unfold name at h ⊢
        split at h
        · simp at h
        · rename_i hn
          rw [if_neg hn]
          cases hw : isWord (l.take (sp nam l))
          · cases l with
            | nil => simp at hh
            | cons c' r =>
              simp only [List.head?_cons, Option.some.injEq] at hh
              subst hh
              have hnam : nam c'.toNat = true := by simp [nam, hl]
              have hs : sp nam (c' :: r) = sp nam r + 1 := by simp [sp, hnam]
              refine ⟨by simp [hs], ?_, hw, fun d hd' => ?_, fun d hd' => ?_⟩
              · have := List.length_take_le (sp nam (c' :: r)) (c' :: r)
                simp only
                omega
              · simp only at hd'
                obtain ⟨j, hj, rfl⟩ := List.mem_iff_getElem.1 hd'
                rw [List.getElem_take]
                simp only [List.length_take] at hj
                exact sp_all nam _ _ _ (by omega)
              · simp only [hs, List.take_succ_cons, List.head?_cons, Option.some.injEq] at hd'
                subst hd'
                exact hl
          · simp [hw] at h
    · rw [hd] at h
      simp only [if_true] at h
      unfold number at h
      split at h <;> simp at h

theorem scanF_nm : ∀ (f : Nat) (l : List UInt8) (a : Nat) (acc : List Tk), (∀ t ∈ acc, t.kind = 1 → NmOk t.text) → ∀ t ∈ (scanF f l a acc).1, t.kind = 1 → NmOk t.text
  | 0, l, a, acc, _ => by simp [scanF]
  | f + 1, l, a, acc, h => by
    simp only [scanF]
    split
    · intro t ht hk
      simp only [List.mem_append, List.mem_singleton] at ht
      rcases ht with ht | rfl
      · exact h t ht hk
      · simp at hk
    split
    · simp
    split
    · simp
    refine scanF_nm f l _ _ fun t ht hk => ?_
    simp only [List.mem_append, List.mem_singleton] at ht
    rcases ht with ht | rfl
    · exact h t ht hk
    · exact first_nm _ hk

theorem nmL_scan (l : List UInt8) : NmL (scan l).1 := by
  intro i hk
  by_cases hi : i < (scan l).1.length
  · have e : tk (scan l).1 i = (scan l).1[i] := by simp [tk, List.getD, hi]
    rw [e] at hk ⊢
    have hm := List.getElem_mem hi
    revert hk hm
    generalize (scan l).1[i] = t
    intro hk hm
    unfold scan at hm
    split at hm
    · simp at hm
    · exact scanF_nm _ _ _ _ (by simp) t hm hk
  · rw [tk_nil hi] at hk
    simp at hk

end Go.Proofs.YtkilicjjaljghaaGreat.M

/- Plain: a type that is read is the last one; types that are moved behind others. -/
namespace Go.Proofs.YtkilicjjaljghaaGreat.M

structure LasF (L : List Tk) (f : Nat) : Prop where
  typ : ∀ d s s' x, (sp' L f).typ d s = some (.ok s' x) → x + 1 = s'.T.length
  union : ∀ d s s' x, (sp' L f).union d s = some (.ok s' x) → x + 1 = s'.T.length
  member : ∀ d s s' x, (sp' L f).member d s = some (.ok s' x) → x + 1 = s'.T.length
  objL : ∀ d s fs s' x, (sp' L f).objL d s fs = some (.ok s' x) → x + 1 = s'.T.length
  fob : ∀ d s s' x, (sp' L f).fob d s = some (.ok s' x) → x + 1 = s'.T.length
  list : ∀ d s nm acc s' l, (sp' L f).list .typ [41] d s nm acc = some (.ok s' l) → acc.length ≤ l.length ∧ ((acc = [] ∨ ∃ y, acc = [y] ∧ y + 1 = s.T.length) → ∀ y, l = [y] → y + 1 = s'.T.length)

theorem addT_last {s s' : St} {t : Ty} {x : Int} (h : addT s t = some (.ok s' x)) : x + 1 = s'.T.length := by
  obtain ⟨rfl, rfl⟩ := addT_ok h
  simp

theorem lasF (L : List Tk) : ∀ f, LasF L f
  | 0 => ⟨fun _ _ _ _ h => by simp [sp', bot] at h, fun _ _ _ _ h => by simp [sp', bot] at h, fun _ _ _ _ h => by simp [sp', bot] at h, fun _ _ _ _ _ h => by simp [sp', bot] at h, fun _ _ _ _ h => by simp [sp', bot] at h, fun _ _ _ _ _ _ h => by simp [sp', bot] at h⟩
  | f + 1 => by
    have ih := lasF L f
    refine ⟨fun d s s' x h => ?_, fun d s s' x h => ?_, fun d s s' x h => ?_, fun d s fs s' x h => ?_, fun d s s' x h => ?_, fun d s nm acc s' l h => ?_⟩
    · have h : inside L (isM L s.i typeBegins) d s (sp' L f).union = some (.ok s' x) := h
      unfold inside at h
      split at h
      · split at h
        · simp [flt] at h
        · exact ih.union _ _ _ _ h
      · simp [flt] at h
    · obtain ⟨s1, y, h1, h2⟩ := obind_ok h
      split at h2
      · obtain ⟨s2, l, h3, h4⟩ := obind_ok h2
        exact addT_last h4
      · simp only [Option.some.injEq, Out.ok.injEq] at h2
        obtain ⟨rfl, rfl⟩ := h2
        exact ih.member _ _ _ _ h1
    · have h : (if isM L s.i [[123]] then (sp' L f).objL d s.nx []
        else if isM L s.i [[91]] then obind ((sp' L f).typ d s.nx) fun s x => obind (need L s [93]) fun s _ => addT s ⟨8, [], [], x⟩
        else if isM L s.i [[40]] then (sp' L f).fob d s.nx
        else if (tk L s.i).kind = 2 ∧ plainKind (tk L s.i).text ≠ 0 then addT s.nx ⟨plainKind (tk L s.i).text, [], [], 0⟩ else flt L s.i 1) = some (.ok s' x) := h
      split at h
      · exact ih.objL _ _ _ _ _ h
      split at h
      · obtain ⟨s1, y, h1, h2⟩ := obind_ok h
        obtain ⟨s2, u, h3, h4⟩ := obind_ok h2
        exact addT_last h4
      split at h
      · exact ih.fob _ _ _ _ h
      split at h
      · exact addT_last h
      · simp [flt] at h
    · have h : (if isM L s.i [[125]] then addT s.nx ⟨7, fs, [], 0⟩
        else obind (newName L s (fs.map (·.1))) fun s nm => obind (need L s [58]) fun s _ => obind ((sp' L f).typ d s) fun s x => obind (need L s [59]) fun s _ => (sp' L f).objL d s (fs ++ [(nm, x)])) = some (.ok s' x) := h
      split at h
      · exact addT_last h
      · obtain ⟨s1, nm, h1, h2⟩ := obind_ok h
        obtain ⟨s2, u, h3, h4⟩ := obind_ok h2
        obtain ⟨s3, y, h5, h6⟩ := obind_ok h4
        obtain ⟨s4, u', h7, h8⟩ := obind_ok h6
        exact ih.objL _ _ _ _ _ h8
    · obtain ⟨s1, l, h1, h2⟩ := obind_ok h
      split at h2
      · obtain ⟨s2, y, h3, h4⟩ := obind_ok h2
        exact addT_last h4
      · match l, h2, h1 with
        | [y], h2, h1 =>
          simp only [Option.some.injEq, Out.ok.injEq] at h2
          obtain ⟨rfl, rfl⟩ := h2
          exact (ih.list _ _ _ _ _ _ h1).2 (.inl rfl) _ rfl
        | [], h2, _ => simp [flt] at h2
        | _ :: _ :: _, h2, _ => simp [flt] at h2
    · have h : (if isM L s.i [[41]] then some (.ok s.nx acc)
        else obind (if acc.length = 0 then some (.ok s ()) else need L s [44]) fun s _ => obind (part L (sp' L f) d s nm .typ) fun s x => (sp' L f).list .typ [41] d s x.2 (acc ++ [x.1])) = some (.ok s' l) := h
      split at h
      · simp only [Option.some.injEq, Out.ok.injEq] at h
        obtain ⟨rfl, rfl⟩ := h
        refine ⟨Nat.le_refl _, fun ha y hy => ?_⟩
        rcases ha with ha | ⟨z, ha, hz⟩
        · simp [ha] at hy
        · rw [ha] at hy
          simp at hy
          subst hy
          exact hz
      · obtain ⟨s1, u, h1, h2⟩ := obind_ok h
        obtain ⟨s2, ⟨y, nm'⟩, h3, h4⟩ := obind_ok h2
        obtain ⟨s3, z, h5, h6⟩ := obind_ok h3
        simp only [Option.some.injEq, Out.ok.injEq, Prod.mk.injEq] at h6
        obtain ⟨rfl, rfl, rfl⟩ := h6
        have e1 := ih.typ _ _ _ _ h5
        have e2 := ih.list _ _ _ _ _ _ h4
        have e3 := e2.1
        simp only [List.length_append, List.length_cons, List.length_nil] at e3
        refine ⟨by omega, fun ha y hy => ?_⟩
        refine e2.2 ?_ y hy
        rcases ha with ha | ⟨q, ha, hq⟩
        · subst ha
          exact .inr ⟨z, rfl, e1⟩
        · subst ha
          subst hy
          simp at e3

theorem typ_last {L : List Tk} {d : Nat} {s s' : St} {x : Int} (h : Ev L (fun r => r.typ d s) (.ok s' x)) : x + 1 = s'.T.length := by
  obtain ⟨f0, h0⟩ := h
  exact (lasF L f0).typ _ _ _ _ (h0 f0 (Nat.le_refl _))

/-! ### Behind others -/

def mvT (b : Int) (t : Ty) : Ty := ⟨t.kind, t.fields.map fun p => (p.1, p.2 + b), t.list.map fun x => x + b, t.of' + b⟩

theorem TyOk.mv {t : Ty} {i : Nat} (h : TyOk t i) (b : Nat) : TyOk (mvT b t) (b + i) := by
  have hl : ∀ x ∈ t.list, 0 ≤ x ∧ x < i := h.lst
  rcases h with ⟨h1, h2, h3, h4⟩ | ⟨h1, h2, h3, h4⟩ | ⟨h1, h2, h3, h4, h5⟩ | ⟨h1, h2, h3, h4, h5⟩ | ⟨h1, h2, h3, h4⟩
  · exact .inl ⟨h1, h2, by simp [mvT, h3], by simp [mvT, h4]⟩
  · refine .inr (.inl ⟨h1, by simp [mvT, h2], ?_, fun p hp => ?_⟩)
    · have : (mvT b t).fields.map (·.1) = t.fields.map (·.1) := by simp [mvT]
      rw [this]; exact h3
    · obtain ⟨q, hq, rfl⟩ := List.mem_map.1 hp
      have := h4 q hq
      exact ⟨this.1, by show 0 ≤ q.2 + b; omega, by show q.2 + (b : Int) < ((b + i : Nat) : Int); omega⟩
  · exact .inr (.inr (.inl ⟨h1, by simp [mvT, h2], by simp [mvT, h3], by show 0 ≤ t.of' + b; omega, by show t.of' + (b : Int) < ((b + i : Nat) : Int); omega⟩))
  · refine .inr (.inr (.inr (.inl ⟨h1, by simp [mvT, h2], by show 0 ≤ t.of' + b; omega, by show t.of' + (b : Int) < ((b + i : Nat) : Int); omega, fun x hx => ?_⟩)))
    obtain ⟨q, hq, rfl⟩ := List.mem_map.1 hx
    have := hl q hq
    exact ⟨by omega, by omega⟩
  · refine .inr (.inr (.inr (.inr ⟨h1, by simp [mvT, h2], by simpa [mvT] using h3, fun x hx => ?_⟩)))
    obtain ⟨q, hq, rfl⟩ := List.mem_map.1 hx
    have := hl q hq
    exact ⟨by omega, by omega⟩

def behind (T X : List Ty) : List Ty := T ++ X.map (mvT T.length)

theorem TsOk.behind {T X : List Ty} (hT : TsOk T) (hX : TsOk X) : TsOk (behind T X) := by
  intro i hi
  unfold M.behind at *
  by_cases h : i < T.length
  · rw [List.getElem_append_left h]
    exact hT i h
  · have hl : i - T.length < X.length := by simp at hi; omega
    rw [List.getElem_append_right (by omega), List.getElem_map]
    have := (hX _ hl).mv T.length
    rwa [show T.length + (i - T.length) = i by omega] at this

theorem tr_old {T X : List Ty} (hT : TsOk T) {i : Nat} (hi : i < T.length) : tr (behind T X) i = tr T i := tr_app _ hT hi

theorem tr_mv {T X : List Ty} (hT : TsOk T) (hX : TsOk X) (i : Nat) : i < X.length → tr (behind T X) (T.length + i) = tr X i := by
  induction i using Nat.strongRecOn with
  | ind i ih =>
    intro hi
    have hl : T.length + i < (behind T X).length := by simp [behind]; omega
    have e : (behind T X)[T.length + i] = mvT T.length X[i] := by
      simp only [behind]
      rw [List.getElem_append_right (by omega), List.getElem_map]
      simp
    have ht := hX i hi
    rw [tr_eq (hT.behind hX) hl, tr_eq hX hi, e]
    have e0 : ∀ x : Int, 0 ≤ x → x < i → tr (behind T X) (x + (T.length : Int)).toNat = tr X x.toNat := by
      intro x h0 h1
      rw [show (x + (T.length : Int)).toNat = T.length + x.toNat by omega]
      exact ih _ (by omega) (by omega)
    have e1 : (mvT T.length X[i]).fields.map (·.1) = X[i].fields.map (·.1) := by simp [mvT]
    have e2 : ((mvT T.length X[i]).fields.map fun p => tr (behind T X) p.2.toNat) = X[i].fields.map fun p => tr X p.2.toNat := by
      simp only [mvT, List.map_map]
      exact List.map_congr_left fun p hp => e0 _ (ht.fld p hp).1 (ht.fld p hp).2
    have e3 : ((mvT T.length X[i]).list.map fun x => tr (behind T X) x.toNat) = X[i].list.map fun x => tr X x.toNat := by
      simp only [mvT, List.map_map]
      exact List.map_congr_left fun p hp => e0 _ (ht.lst p hp).1 (ht.lst p hp).2
    rw [e1, e2, e3]
    by_cases hk : X[i].kind = 8 ∨ X[i].kind = 9
    · have hk' : (mvT T.length X[i]).kind = 8 ∨ (mvT T.length X[i]).kind = 9 := hk
      rw [if_pos hk, if_pos hk', show (mvT T.length X[i]).of' = X[i].of' + T.length from rfl, e0 _ (ht.of hk).1 (ht.of hk).2]
      rfl
    · have hk' : ¬ ((mvT T.length X[i]).kind = 8 ∨ (mvT T.length X[i]).kind = 9) := hk
      rw [if_neg hk, if_neg hk']
      rfl

end Go.Proofs.YtkilicjjaljghaaGreat.M

/- Plain: what is the same fits; each of a union fits it; the tags of what fits. -/
namespace Go.Proofs.YtkilicjjaljghaaGreat.M

/-- Which of two names is ahead. -/
def ltN (a b : List UInt8) : Bool := decide (Lib.compareBytes a b < 0)

theorem cmpB_self : ∀ a : List UInt8, Lib.compareBytes a a = 0
  | [] => rfl
  | a :: as => by
    unfold Lib.compareBytes
    rw [if_neg (UInt8.lt_irrefl a), if_neg (UInt8.lt_irrefl a)]
    exact cmpB_self as
theorem cmpB_eq : ∀ a b : List UInt8, Lib.compareBytes a b = 0 → a = b
  | [], [], _ => rfl
  | [], _ :: _, h => by simp [Lib.compareBytes] at h
  | _ :: _, [], h => by simp [Lib.compareBytes] at h
  | a :: as, b :: bs, h => by
    unfold Lib.compareBytes at h
    split at h
    · simp at h
    split at h
    · simp at h
    rename_i h1 h2
    have : a = b := UInt8.le_antisymm (UInt8.not_lt.1 h2) (UInt8.not_lt.1 h1)
    rw [this, cmpB_eq as bs h]
theorem cmpB_swap : ∀ a b : List UInt8, Lib.compareBytes b a = - Lib.compareBytes a b
  | [], [] => rfl
  | [], _ :: _ => rfl
  | _ :: _, [] => rfl
  | a :: as, b :: bs => by
    unfold Lib.compareBytes
    by_cases h1 : a < b
    · have h2 := UInt8.lt_asymm h1
      simp [h1, h2]
    · by_cases h2 : b < a
      · simp [h1, h2]
      · simp only [h1, h2, if_false]
        exact cmpB_swap as bs
theorem cmpB_trans : ∀ a b c : List UInt8, Lib.compareBytes a b ≤ 0 → Lib.compareBytes b c ≤ 0 → Lib.compareBytes a c ≤ 0 ∧ (Lib.compareBytes a b < 0 ∨ Lib.compareBytes b c < 0 → Lib.compareBytes a c < 0)
  | [], [], c, _, h => by
    refine ⟨h, fun h' => ?_⟩
    rcases h' with h' | h'
    · simp [Lib.compareBytes] at h'
    · exact h'
  | [], _ :: _, [], _, h => by simp [Lib.compareBytes] at h
  | [], _ :: _, _ :: _, _, _ => by simp [Lib.compareBytes]
  | _ :: _, [], _, h, _ => by simp [Lib.compareBytes] at h
  | _ :: _, _ :: _, [], _, h => by simp [Lib.compareBytes] at h
  | a :: as, b :: bs, c :: cs, h1, h2 => by
    have ih := cmpB_trans as bs cs
    unfold Lib.compareBytes at h1 h2 ⊢
    by_cases hab : a < b
    · by_cases hbc : b < c
      · rw [if_pos (UInt8.lt_trans hab hbc)]; simp
      · by_cases hcb : c < b
        · rw [if_neg hbc, if_pos hcb] at h2; simp at h2
        · have : b = c := UInt8.le_antisymm (UInt8.not_lt.1 hcb) (UInt8.not_lt.1 hbc)
          subst this
          rw [if_pos hab]; simp
    · by_cases hba : b < a
      · rw [if_neg hab, if_pos hba] at h1; simp at h1
      · have : a = b := UInt8.le_antisymm (UInt8.not_lt.1 hba) (UInt8.not_lt.1 hab)
        subst this
        rw [if_neg (UInt8.lt_irrefl a), if_neg (UInt8.lt_irrefl a)] at h1 ⊢
        by_cases hbc : a < c
        · rw [if_pos hbc]; simp
        · by_cases hcb : c < a
          · rw [if_neg hbc, if_pos hcb] at h2; simp at h2
          · simp only [hbc, hcb, if_false] at h2 ⊢
            exact ih h1 h2

theorem k_nd (k : Int) (ns : List (List UInt8)) (ks : List Tr) : (Tr.nd k ns ks).k = k := rfl
theorem fits_obj (ns ns' : List (List UInt8)) (ks ks' : List Tr) : fits (.nd 7 ns ks) (.nd 7 ns' ks') = (ns'.zip ks').all fun p => match fieldOf p.1 ns ks with
      | none => false
      | some x => fits x p.2 := by rw [fits_eq]; rfl
theorem fits_arr (n n' : List (List UInt8)) (x y : Tr) (r r' : List Tr) : fits (.nd 8 n (x :: r)) (.nd 8 n' (y :: r')) = fits x y := by rw [fits_eq]; rfl
theorem fits_fn (n n' : List (List UInt8)) (x y : Tr) (xs ys : List Tr) : fits (.nd 9 n (x :: xs)) (.nd 9 n' (y :: ys)) = (decide (xs.length ≤ ys.length) && ((xs.zip ys).all fun p => fits p.1 p.2 || fits p.2 p.1) && fits x y) := by rw [fits_eq]; rfl
theorem fits_uni (n : List (List UInt8)) (ks : List Tr) (b : Tr) (h : ¬ (b.k = 5 ∨ b.k = 6)) : fits (.nd 10 n ks) b = ks.all fun x => fits x b := by
  rw [fits_eq, if_neg (by rw [k_nd]; omega), if_pos (k_nd _ _ _)]; rfl

def leN {α : Type} (a b : List UInt8 × α) : Bool := !ltN b.1 a.1
def srtL {α : Type} (l : List (List UInt8 × α)) : List (List UInt8 × α) := l.mergeSort leN

theorem leN_trans {α : Type} (a b c : List UInt8 × α) (h1 : leN a b = true) (h2 : leN b c = true) : leN a c = true := by
  simp only [leN, ltN, Bool.not_eq_true', decide_eq_false_iff_not, Int.not_lt] at *
  have e1 := cmpB_swap a.1 b.1
  have e2 := cmpB_swap b.1 c.1
  have e3 := cmpB_swap a.1 c.1
  have := (cmpB_trans a.1 b.1 c.1 (by omega) (by omega)).1
  omega
theorem leN_total {α : Type} (a b : List UInt8 × α) : (leN a b || leN b a) = true := by
  simp only [leN, ltN, Bool.or_eq_true, Bool.not_eq_true', decide_eq_false_iff_not, Int.not_lt]
  have e1 := cmpB_swap a.1 b.1
  omega
theorem srtL_perm {α : Type} (l : List (List UInt8 × α)) : (srtL l).Perm l := List.mergeSort_perm l leN
theorem srtL_sorted {α : Type} (l : List (List UInt8 × α)) : (srtL l).Pairwise (fun a b => leN a b = true) := List.pairwise_mergeSort leN_trans leN_total l

/-- There is one order. -/
theorem sorted_one {α : Type} : ∀ (l l' : List (List UInt8 × α)), l.Perm l' → (l.map (·.1)).Nodup → l.Pairwise (fun a b => leN a b = true) → l'.Pairwise (fun a b => leN a b = true) → l = l'
  | [], l', hp, _, _, _ => (List.nil_perm.1 hp).symm
  | x :: l, [], hp, _, _, _ => by simp at hp
  | x :: l, y :: l', hp, hn, h1, h2 => by
    have hx : x ∈ y :: l' := hp.subset (by simp)
    have hy : y ∈ x :: l := hp.symm.subset (by simp)
    have hxy : x = y := by
      rcases List.mem_cons.1 hx with h | h
      · exact h
      · rcases List.mem_cons.1 hy with h' | h'
        · exact h'.symm
        · have a1 := (List.pairwise_cons.1 h1).1 y h'
          have a2 := (List.pairwise_cons.1 h2).1 x h
          simp only [leN, ltN, Bool.not_eq_true', decide_eq_false_iff_not, Int.not_lt] at a1 a2
          have e1 := cmpB_swap x.1 y.1
          have e2 := cmpB_eq x.1 y.1 (by omega)
          rw [List.map_cons, List.nodup_cons] at hn
          exact absurd (List.mem_map.2 ⟨y, h', e2.symm⟩) hn.1
    subst hxy
    rw [sorted_one l l' (List.perm_cons x |>.1 hp) (by rw [List.map_cons, List.nodup_cons] at hn; exact hn.2) (List.pairwise_cons.1 h1).2 (List.pairwise_cons.1 h2).2]

mutual
/-- With fields in the order of their names. -/
def srt : Tr → Tr
  | .nd k ns ks => if k = 7 then .nd 7 ((srtL (ns.zip (srtK ks))).map (·.1)) ((srtL (ns.zip (srtK ks))).map (·.2)) else .nd k ns (srtK ks)
def srtK : List Tr → List Tr
  | [] => []
  | t :: r => srt t :: srtK r
end
theorem srtK_eq : ∀ ks : List Tr, srtK ks = ks.map srt
  | [] => rfl
  | t :: r => by rw [srtK, srtK_eq r]; rfl

def key (t : Tr) : List UInt8 := txt' (srt t)

theorem srt_k (t : Tr) : (srt t).k = t.k := by
  obtain ⟨k, ns, ks⟩ := t
  rw [srt]
  split
  · rename_i h; rw [h]; rfl
  · rfl

theorem srt_ne {k : Int} {ns : List (List UInt8)} {ks : List Tr} (h : k ≠ 7) : srt (.nd k ns ks) = .nd k ns (ks.map srt) := by rw [srt, if_neg h, srtK_eq]

theorem wf_srt (t : Tr) (h : Wf t) : Wf (srt t) := by
  induction h with
  | plain k h1 h2 =>
    rw [srt_ne (by omega)]
    exact Wf.plain k h1 h2
  | obj ns ks hl hn hm _ ih =>
    rw [srt, if_pos rfl, srtK_eq]
    have hp := srtL_perm (ns.zip (ks.map srt))
    have e1 : (ns.zip (ks.map srt)).map (·.1) = ns := by
      rw [List.map_fst_zip]; simp [hl]
    refine Wf.obj _ _ (by simp) ?_ (fun n hn' => ?_) (fun x hx => ?_)
    · have := hp.map (·.1)
      rw [e1] at this
      exact this.nodup_iff.2 hn
    · have := (hp.map (·.1)).subset hn'
      rw [e1] at this
      exact hm n this
    · have := (hp.map (·.2)).subset hx
      obtain ⟨p, hp', rfl⟩ := List.mem_map.1 this
      obtain ⟨y, hy, e⟩ := List.mem_map.1 (List.of_mem_zip hp').2
      rw [← e]
      exact ih y hy
  | arr t _ ih =>
    rw [srt_ne (by decide)]
    exact Wf.arr _ ih
  | fn t ps _ _ iht ihp =>
    rw [srt_ne (by decide)]
    refine Wf.fn _ _ iht (fun x hx => ?_)
    obtain ⟨y, hy, rfl⟩ := List.mem_map.1 hx
    exact ihp y hy
  | uni ks h2 _ ih =>
    rw [srt_ne (by decide)]
    refine Wf.uni _ (by simpa using h2) (fun x hx => ?_)
    obtain ⟨y, hy, rfl⟩ := List.mem_map.1 hx
    exact ih y hy

theorem key_srt {a b : Tr} (ha : Wf a) (hb : Wf b) (h : key a = key b) : srt a = srt b := txt_inj (wf_srt a ha) (wf_srt b hb) h

/-- What fits one of a union fits the union. -/
theorem fits_into (x : Tr) : ∀ (y : Tr) (ns : List (List UInt8)) (ks : List Tr), fits x y = true → y ∈ ks → fits x (.nd 10 ns ks) = true := by
  induction x using Tr.ind with
  | h k xn xs ih =>
    intro y ns ks h hy
    rw [fits_eq]
    by_cases h5 : k = 5
    · rw [if_pos (.inl h5)]
    · rw [if_neg (by simp [Tr.k, h5])]
      by_cases h10 : k = 10
      · rw [if_pos (by simpa [Tr.k] using h10), List.all_eq_true]
        intro z hz
        refine ih z hz y ns ks ?_ hy
        rw [fits_eq] at h
        by_cases hy5 : y.k = 5 ∨ y.k = 6
        · rw [fits_eq, if_pos (.inr hy5)]
        · rw [if_neg (by rw [k_nd]; omega), if_pos (by simpa [Tr.k] using h10), List.all_eq_true] at h
          exact h z hz
      · rw [if_neg (by simpa [Tr.k] using h10), if_pos (by simp [Tr.k]), List.any_eq_true]
        exact ⟨y, hy, h⟩

theorem fieldOf_some {n : List UInt8} {t : Tr} : ∀ {ns : List (List UInt8)} {ks : List Tr}, ns.Nodup → (n, t) ∈ ns.zip ks → fieldOf n ns ks = some t
  | [], _, _, h => by simp at h
  | _ :: _, [], _, h => by simp at h
  | m :: ns, u :: ks, hn, h => by
    rw [List.nodup_cons] at hn
    simp only [List.zip_cons_cons, List.mem_cons, Prod.mk.injEq] at h
    rw [fieldOf]
    rcases h with ⟨rfl, rfl⟩ | h
    · rw [if_pos rfl]
    · rw [if_neg (fun e => hn.1 (by rw [e]; exact (List.of_mem_zip h).1))]
      exact fieldOf_some hn.2 h

theorem zip_map_mem {n : List UInt8} {z : Tr} {g : Tr → Tr} : ∀ {ns : List (List UInt8)} {ks : List Tr}, (n, z) ∈ ns.zip (ks.map g) → ∃ x, (n, x) ∈ ns.zip ks ∧ g x = z
  | [], _, h => by simp at h
  | _ :: _, [], h => by simp at h
  | m :: ns, u :: ks, h => by
    simp only [List.map_cons, List.zip_cons_cons, List.mem_cons, Prod.mk.injEq] at h
    rcases h with ⟨rfl, rfl⟩ | h
    · exact ⟨u, by simp, rfl⟩
    · obtain ⟨x, hx, e⟩ := zip_map_mem h
      exact ⟨x, by simp [hx], e⟩
theorem zip_map_in {n : List UInt8} {x : Tr} {g : Tr → Tr} : ∀ {ns : List (List UInt8)} {ks : List Tr}, (n, x) ∈ ns.zip ks → (n, g x) ∈ ns.zip (ks.map g)
  | [], _, h => by simp at h
  | _ :: _, [], h => by simp at h
  | m :: ns, u :: ks, h => by
    simp only [List.map_cons, List.zip_cons_cons, List.mem_cons, Prod.mk.injEq] at h ⊢
    rcases h with ⟨rfl, rfl⟩ | h
    · exact .inl ⟨rfl, rfl⟩
    · exact .inr (zip_map_in h)
theorem pairs_ext {α β : Type} : ∀ (l l' : List (α × β)), l.map (·.1) = l'.map (·.1) → l.map (·.2) = l'.map (·.2) → l = l'
  | [], [], _, _ => rfl
  | [], _ :: _, h, _ => by simp at h
  | _ :: _, [], h, _ => by simp at h
  | (a, b) :: l, (c, d) :: l', h1, h2 => by
    simp only [List.map_cons, List.cons.injEq] at h1 h2
    rw [h1.1, h2.1, pairs_ext l l' h1.2 h2.2]

theorem map_at {g : Tr → Tr} : ∀ {l l' : List Tr}, l.map g = l'.map g → l.length = l'.length ∧ ∀ p ∈ l.zip l', g p.1 = g p.2
  | [], [], _ => ⟨rfl, by simp⟩
  | [], _ :: _, h => by simp at h
  | _ :: _, [], h => by simp at h
  | a :: l, b :: l', h => by
    simp only [List.map_cons, List.cons.injEq] at h
    obtain ⟨h1, h2⟩ := map_at h.2
    refine ⟨by simp [h1], fun p hp => ?_⟩
    simp only [List.zip_cons_cons, List.mem_cons] at hp
    rcases hp with rfl | hp
    · exact h.1
    · exact h2 p hp

theorem zip_find {l : List Tr} : ∀ {l' : List Tr} {x : Tr}, l.length = l'.length → x ∈ l → ∃ y, (x, y) ∈ l.zip l' := by
  induction l with
  | nil => intro l' x _ h; simp at h
  | cons a l ih =>
    intro l' x hl h
    cases l' with
    | nil => simp at hl
    | cons b l' =>
      rcases List.mem_cons.1 h with rfl | h
      · exact ⟨b, by simp⟩
      · obtain ⟨y, hy⟩ := ih (by simpa using hl) h
        exact ⟨y, by simp [hy]⟩

/-- What is the same fits. -/
theorem fits_same (a : Tr) (ha : Wf a) : ∀ b, Wf b → srt a = srt b → fits a b = true := by
  induction ha with
  | plain k h1 h2 =>
    intro b hb h
    have hk : b.k = k := by have := congrArg Tr.k h; rw [srt_k, srt_k] at this; exact this.symm
    rw [fits_eq]
    by_cases h56 : k = 5 ∨ k = 6
    · rw [if_pos (by rw [k_nd, hk]; omega)]
    · rw [if_neg (by rw [k_nd, hk]; omega), if_neg (by rw [k_nd]; omega), if_neg (by omega), if_neg (by rw [k_nd, hk]; omega), if_neg (by rw [k_nd]; omega), if_neg (by rw [k_nd]; omega), if_neg (by rw [k_nd]; omega)]
  | obj ns ks hl hn hm _ ih =>
    intro b hb h
    have hk : b.k = 7 := by have := congrArg Tr.k h; rw [srt_k, srt_k] at this; exact this.symm
    cases hb with
    | plain k h1 h2 => simp only [Tr.k] at hk; omega
    | arr t _ => simp [Tr.k] at hk
    | fn t ps _ _ => simp [Tr.k] at hk
    | uni ks _ _ => simp [Tr.k] at hk
    | obj ns' ks' hl' hn' hm' hx' =>
      rw [srt, srt, if_pos rfl, if_pos rfl, srtK_eq, srtK_eq] at h
      simp only [Tr.nd.injEq, true_and] at h
      have he := pairs_ext _ _ h.1 h.2
      have hp : (ns'.zip (ks'.map srt)).Perm (ns.zip (ks.map srt)) := (srtL_perm _).symm.trans (he ▸ srtL_perm (ns.zip (ks.map srt)))
      rw [fits_obj, List.all_eq_true]
      rintro ⟨n, y⟩ hy
      obtain ⟨x, hx, e⟩ := zip_map_mem (hp.subset (zip_map_in (g := srt) hy))
      simp only
      rw [fieldOf_some hn hx]
      exact ih x (List.of_mem_zip hx).2 y (hx' y (List.of_mem_zip hy).2) e
  | arr t _ ih =>
    intro b hb h
    have hk : b.k = 8 := by have := congrArg Tr.k h; rw [srt_k, srt_k] at this; exact this.symm
    cases hb with
    | plain k h1 h2 => simp only [Tr.k] at hk; omega
    | obj _ _ _ _ _ _ => simp [Tr.k] at hk
    | fn t ps _ _ => simp [Tr.k] at hk
    | uni ks _ _ => simp [Tr.k] at hk
    | arr u hu =>
      rw [srt_ne (by decide), srt_ne (by decide)] at h
      simp only [List.map_cons, List.map_nil, Tr.nd.injEq, List.cons.injEq, true_and, and_true] at h
      rw [fits_arr]
      exact ih u hu h
  | fn t ps _ _ iht ihp =>
    intro b hb h
    have hk : b.k = 9 := by have := congrArg Tr.k h; rw [srt_k, srt_k] at this; exact this.symm
    cases hb with
    | plain k h1 h2 => simp only [Tr.k] at hk; omega
    | obj _ _ _ _ _ _ => simp [Tr.k] at hk
    | arr _ _ => simp [Tr.k] at hk
    | uni ks _ _ => simp [Tr.k] at hk
    | fn u qs hu hqs =>
      rw [srt_ne (by decide), srt_ne (by decide)] at h
      simp only [List.map_cons, Tr.nd.injEq, List.cons.injEq, true_and] at h
      obtain ⟨hlen, hz⟩ := map_at h.2
      rw [fits_fn]
      simp only [Bool.and_eq_true, decide_eq_true_eq, List.all_eq_true, Bool.or_eq_true]
      refine ⟨⟨by omega, fun p hp => .inl ?_⟩, iht u hu h.1⟩
      exact ihp p.1 (List.of_mem_zip hp).1 p.2 (hqs _ (List.of_mem_zip hp).2) (hz p hp)
  | uni ks h2 _ ih =>
    intro b hb h
    have hk : b.k = 10 := by have := congrArg Tr.k h; rw [srt_k, srt_k] at this; exact this.symm
    cases hb with
    | plain k h1 h2 => simp only [Tr.k] at hk; omega
    | obj _ _ _ _ _ _ => simp [Tr.k] at hk
    | arr _ _ => simp [Tr.k] at hk
    | fn t ps _ _ => simp [Tr.k] at hk
    | uni ks' h2' hw' =>
      rw [srt_ne (by decide), srt_ne (by decide)] at h
      simp only [Tr.nd.injEq, true_and] at h
      obtain ⟨hlen, hz⟩ := map_at h
      rw [fits_uni _ _ _ (by rw [k_nd]; decide), List.all_eq_true]
      intro x hx
      obtain ⟨y, hy⟩ := zip_find hlen hx
      exact fits_into x y _ _ (ih x hx y (hw' _ (List.of_mem_zip hy).2) (hz _ hy)) (List.of_mem_zip hy).2

/-! ### Unions -/

mutual
/-- Unions taken apart. -/
def flat : Tr → List Tr
  | .nd k ns ks => if k = 10 then flatL ks else [.nd k ns ks]
def flatL : List Tr → List Tr
  | [] => []
  | t :: r => flat t ++ flatL r
end

/-- Without those that are the same as one ahead. -/
def dd : List Tr → List Tr → List Tr
  | acc, [] => acc
  | acc, t :: r => if acc.any (fun u => key u == key t) then dd acc r else dd (acc ++ [t]) r

def unite (l : List Tr) : Tr :=
  if (flatL l).any (fun t => t.k == 5) then .nd 5 [] []
  else match dd [] (flatL l) with
    | [] => .nd 5 [] []
    | [t] => t
    | t :: u :: r => .nd 10 [] (t :: u :: r)

theorem dd_acc : ∀ (l acc : List Tr) (x : Tr), x ∈ acc → x ∈ dd acc l
  | [], acc, x, h => h
  | t :: r, acc, x, h => by
    rw [dd]
    split
    · exact dd_acc r acc x h
    · exact dd_acc r _ x (by simp [h])
theorem dd_has : ∀ (l acc : List Tr) (x : Tr), x ∈ l → ∃ u ∈ dd acc l, key u = key x
  | t :: r, acc, x, h => by
    rw [dd]
    rcases List.mem_cons.1 h with rfl | h
    · split
      · rename_i hc
        rw [List.any_eq_true] at hc
        obtain ⟨u, hu, e⟩ := hc
        exact ⟨u, dd_acc r acc u hu, by simpa using e⟩
      · exact ⟨x, dd_acc r _ x (by simp), rfl⟩
    · split
      · exact dd_has r acc x h
      · exact dd_has r _ x h
theorem dd_sub : ∀ (l acc : List Tr) (x : Tr), x ∈ dd acc l → x ∈ acc ∨ x ∈ l
  | [], acc, x, h => .inl h
  | t :: r, acc, x, h => by
    rw [dd] at h
    split at h
    · rcases dd_sub r acc x h with h | h
      · exact .inl h
      · exact .inr (by simp [h])
    · rcases dd_sub r _ x h with h | h
      · rcases List.mem_append.1 h with h | h
        · exact .inl h
        · simp at h; exact .inr (by simp [h])
      · exact .inr (by simp [h])

theorem flatL_mem : ∀ {l : List Tr} {x : Tr}, x ∈ flatL l → ∃ t ∈ l, x ∈ flat t
  | t :: r, x, h => by
    rw [flatL, List.mem_append] at h
    rcases h with h | h
    · exact ⟨t, by simp, h⟩
    · obtain ⟨u, hu, hx⟩ := flatL_mem h
      exact ⟨u, by simp [hu], hx⟩
theorem flatL_of : ∀ {l : List Tr} {t x : Tr}, t ∈ l → x ∈ flat t → x ∈ flatL l
  | u :: r, t, x, h, hx => by
    rw [flatL, List.mem_append]
    rcases List.mem_cons.1 h with rfl | h
    · exact .inl hx
    · exact .inr (flatL_of h hx)

theorem flat_wf (t : Tr) (h : Wf t) : ∀ x ∈ flat t, Wf x ∧ x.k ≠ 10 := by
  induction h with
  | plain k h1 h2 =>
    intro x hx
    rw [flat, if_neg (by omega)] at hx
    simp at hx; subst hx
    exact ⟨Wf.plain k h1 h2, by simp only [Tr.k]; omega⟩
  | obj ns ks a b c d _ =>
    intro x hx
    rw [flat, if_neg (by decide)] at hx
    simp at hx; subst hx
    exact ⟨Wf.obj ns ks a b c d, by simp [Tr.k]⟩
  | arr t a _ =>
    intro x hx
    rw [flat, if_neg (by decide)] at hx
    simp at hx; subst hx
    exact ⟨Wf.arr t a, by simp [Tr.k]⟩
  | fn t ps a b _ _ =>
    intro x hx
    rw [flat, if_neg (by decide)] at hx
    simp at hx; subst hx
    exact ⟨Wf.fn t ps a b, by simp [Tr.k]⟩
  | uni ks _ _ ih =>
    intro x hx
    rw [flat, if_pos rfl] at hx
    obtain ⟨t, ht, hx⟩ := flatL_mem hx
    exact ih t ht x hx

theorem wf_any : Wf (.nd 5 [] []) := Wf.plain 5 (by decide) (by decide)

theorem unite_wf (l : List Tr) (h : ∀ t ∈ l, Wf t) : Wf (unite l) := by
  have hd : ∀ x ∈ dd [] (flatL l), Wf x := by
    intro x hx
    rcases dd_sub _ _ x hx with hx | hx
    · simp at hx
    · obtain ⟨t, ht, hx⟩ := flatL_mem hx
      exact (flat_wf t (h t ht) x hx).1
  unfold unite
  split
  · exact wf_any
  · split
    · exact wf_any
    · rename_i t e
      exact hd t (by rw [e]; simp)
    · rename_i t u r e
      exact Wf.uni _ (by simp) (fun x hx => hd x (by rw [e]; exact hx))

/-- Each of a union fits it. -/
theorem fits_unite (l : List Tr) (h : ∀ t ∈ l, Wf t) : ∀ a ∈ l, fits a (unite l) = true := by
  have hdw : ∀ x ∈ dd [] (flatL l), Wf x := by
    intro x hx
    rcases dd_sub _ _ x hx with hx | hx
    · simp at hx
    · obtain ⟨t, ht, hx⟩ := flatL_mem hx
      exact (flat_wf t (h t ht) x hx).1
  have hfw : ∀ x ∈ flatL l, Wf x := by
    intro x hx
    obtain ⟨t, ht, hx⟩ := flatL_mem hx
    exact (flat_wf t (h t ht) x hx).1
  have leaf : ∀ x ∈ flatL l, fits x (unite l) = true := by
    intro x hx
    unfold unite
    split
    · rw [fits_eq, if_pos (.inr (.inl rfl))]
    · obtain ⟨u, hu, e⟩ := dd_has (flatL l) [] x hx
      have hf := fits_same x (hfw x hx) u (hdw u hu) (key_srt (hfw x hx) (hdw u hu) e.symm)
      split
      · rename_i e2; rw [e2] at hu; simp at hu
      · rename_i t e2
        rw [e2] at hu
        simp at hu
        rw [← hu]
        exact hf
      · rename_i t t' r e2
        rw [e2] at hu
        exact fits_into x u _ _ hf hu
  have all : ∀ a, Wf a → (∀ x ∈ flat a, x ∈ flatL l) → fits a (unite l) = true := by
    intro a ha
    induction ha with
    | plain k h1 h2 => intro hs; exact leaf _ (hs _ (by rw [flat, if_neg (by omega)]; simp))
    | obj ns ks _ _ _ _ _ => intro hs; exact leaf _ (hs _ (by rw [flat, if_neg (by decide)]; simp))
    | arr t _ _ => intro hs; exact leaf _ (hs _ (by rw [flat, if_neg (by decide)]; simp))
    | fn t ps _ _ _ _ => intro hs; exact leaf _ (hs _ (by rw [flat, if_neg (by decide)]; simp))
    | uni ks _ _ ih =>
      intro hs
      rw [fits_eq]
      by_cases h56 : (unite l).k = 5 ∨ (unite l).k = 6
      · rw [if_pos (.inr h56)]
      · rw [← fits_eq, fits_uni _ _ _ h56, List.all_eq_true]
        intro x hx
        refine ih x hx (fun z hz => hs z ?_)
        rw [flat, if_pos rfl]
        exact flatL_of hx hz
  intro a ha
  exact all a (h a ha) (fun x hx => flatL_of ha hx)

/-! ### Tags -/

mutual
def noW : Tr → Bool
  | .nd k _ ks => k != 5 && k != 6 && noWL ks
def noWL : List Tr → Bool
  | [] => true
  | t :: r => noW t && noWL r
end
theorem noWL_mem : ∀ {l : List Tr} {x : Tr}, noWL l = true → x ∈ l → noW x = true
  | t :: r, x, h, hx => by
    simp only [noWL, Bool.and_eq_true] at h
    rcases List.mem_cons.1 hx with rfl | hx
    · exact h.1
    · exact noWL_mem h.2 hx

theorem tagsL_sub : ∀ {l : List Tr} {x : Tr}, x ∈ l → tags x ||| tagsL l = tagsL l
  | t :: r, x, hx => by
    rw [tagsL]
    rcases List.mem_cons.1 hx with rfl | hx
    · rw [← Nat.or_assoc, Nat.or_self]
    · rw [← Nat.or_assoc, Nat.or_comm (tags x), Nat.or_assoc, tagsL_sub hx]
theorem tagsL_all {n : Nat} : ∀ {l : List Tr}, (∀ x ∈ l, tags x ||| n = n) → tagsL l ||| n = n
  | [], _ => by simp [tagsL]
  | t :: r, h => by
    rw [tagsL, Nat.or_assoc, tagsL_all (fun x hx => h x (by simp [hx])), h t (by simp)]

theorem tags_fit (a : Tr) : ∀ b, noW a = true → noW b = true → fits a b = true → tags a ||| tags b = tags b := by
  induction a using Tr.ind with
  | h k xn xs iha =>
    intro b
    induction b using Tr.ind with
    | h k' yn ys ihb =>
      intro ha hb h
      have ha' := ha
      have hb' := hb
      rw [noW] at ha' hb'
      simp only [Bool.and_eq_true, bne_iff_ne, ne_eq] at ha' hb'
      by_cases h10 : k = 10
      · subst h10
        rw [fits_uni _ _ _ (by rw [k_nd]; omega), List.all_eq_true] at h
        rw [tags, if_pos rfl]
        exact tagsL_all fun x hx => iha x hx _ (noWL_mem ha'.2 hx) hb (h x hx)
      · rw [fits_eq, if_neg (by rw [k_nd, k_nd]; omega), if_neg (by rw [k_nd]; exact h10)] at h
        by_cases h10' : k' = 10
        · rw [if_pos (by rw [k_nd]; exact h10'), List.any_eq_true] at h
          obtain ⟨y, hy, hf⟩ := h
          have hy : y ∈ ys := hy
          have := ihb y hy ha (noWL_mem hb'.2 hy) hf
          rw [show tags (.nd k' yn ys) = tagsL ys by rw [tags, if_pos h10']]
          rw [← tagsL_sub hy, ← Nat.or_assoc, this]
        · rw [if_neg (by rw [k_nd]; exact h10')] at h
          by_cases hk : k = k'
          · subst hk
            rw [tags, tags, if_neg h10, if_neg h10, Nat.or_self]
          · rw [if_pos (by rw [k_nd, k_nd]; exact hk)] at h
            simp at h

mutual
theorem tags_lt : ∀ t : Tr, tags t < 128
  | .nd k ns ks => by
    rw [tags]
    split
    · exact tagsL_lt ks
    · unfold tagOf
      repeat' split
      all_goals decide
theorem tagsL_lt : ∀ l : List Tr, tagsL l < 128
  | [] => by simp [tagsL]
  | t :: r => by
    rw [tagsL]
    exact Nat.or_lt_two_pow (n := 7) (tags_lt t) (tagsL_lt r)
end

end Go.Proofs.YtkilicjjaljghaaGreat.M

/- Plain: how much the parser's types hold. -/
namespace Go.Proofs.YtkilicjjaljghaaGreat.M

def Q (L : List Tk) (t : Ty) : Prop := t.fields.length ≤ L.length ∧ t.list.length ≤ L.length ∧ (t.kind = 8 ∨ t.kind = 9 ∨ t.of' = 0)
def Qs (L : List Tk) (s : St) : Prop := s.i ≤ L.length ∧ ∀ t ∈ s.T, Q L t

theorem isM_lt {L : List Tk} {i : Nat} {ms : List (List UInt8)} (h : isM L i ms = true) : i < L.length := by
  apply Classical.byContradiction
  intro hn
  unfold isM at h
  rw [tk_nil hn] at h
  simp at h
theorem kind_lt {L : List Tk} {i : Nat} (h : (tk L i).kind ≠ 6) : i < L.length := by
  apply Classical.byContradiction
  intro hn
  rw [tk_nil hn] at h
  simp at h
theorem Qs.nx {L : List Tk} {s : St} (h : Qs L s) (hi : s.i < L.length) : Qs L s.nx := ⟨by show s.i + 1 ≤ _; omega, h.2⟩
theorem Qs.add {L : List Tk} {s : St} {t : Ty} (h : Qs L s) (ht : Q L t) : Qs L ⟨s.i, s.N, s.T ++ [t]⟩ := by
  refine ⟨h.1, fun u hu => ?_⟩
  rcases List.mem_append.1 hu with hu | hu
  · exact h.2 u hu
  · simp at hu; subst hu; exact ht

structure QF (L : List Tk) (f : Nat) : Prop where
  typ : ∀ d s s' x, Qs L s → (sp' L f).typ d s = some (.ok s' x) → Qs L s' ∧ s.i < s'.i
  union : ∀ d s s' x, Qs L s → (sp' L f).union d s = some (.ok s' x) → Qs L s' ∧ s.i < s'.i
  unionL : ∀ d s acc s' l, Qs L s → acc.length ≤ s.i → (sp' L f).unionL d s acc = some (.ok s' l) → Qs L s' ∧ s.i ≤ s'.i ∧ l.length ≤ s'.i
  member : ∀ d s s' x, Qs L s → (sp' L f).member d s = some (.ok s' x) → Qs L s' ∧ s.i < s'.i
  objL : ∀ d s fs s' x, Qs L s → fs.length ≤ s.i → (sp' L f).objL d s fs = some (.ok s' x) → Qs L s' ∧ s.i < s'.i
  fob : ∀ d s s' x, Qs L s → (sp' L f).fob d s = some (.ok s' x) → Qs L s' ∧ s.i < s'.i
  list : ∀ d s nm acc s' l, Qs L s → acc.length ≤ s.i → (sp' L f).list .typ [41] d s nm acc = some (.ok s' l) → Qs L s' ∧ s.i < s'.i ∧ l.length ≤ s'.i

theorem qF (L : List Tk) : ∀ f, QF L f
  | 0 => ⟨fun _ _ _ _ _ h => by simp [sp', bot] at h, fun _ _ _ _ _ h => by simp [sp', bot] at h, fun _ _ _ _ _ _ _ h => by simp [sp', bot] at h, fun _ _ _ _ _ h => by simp [sp', bot] at h, fun _ _ _ _ _ _ _ h => by simp [sp', bot] at h, fun _ _ _ _ _ h => by simp [sp', bot] at h, fun _ _ _ _ _ _ _ _ h => by simp [sp', bot] at h⟩
  | f + 1 => by
    have ih := qF L f
    refine ⟨fun d s s' x hs h => ?_, fun d s s' x hs h => ?_, fun d s acc s' l hs ha h => ?_, fun d s s' x hs h => ?_, fun d s fs s' x hs ha h => ?_, fun d s s' x hs h => ?_, fun d s nm acc s' l hs ha h => ?_⟩
    · have h : inside L (isM L s.i typeBegins) d s (sp' L f).union = some (.ok s' x) := h
      unfold inside at h
      split at h
      · split at h
        · simp [flt] at h
        · exact ih.union _ _ _ _ hs h
      · simp [flt] at h
    · obtain ⟨s1, y, h1, h2⟩ := obind_ok h
      obtain ⟨q1, l1⟩ := ih.member _ _ _ _ hs h1
      split at h2
      · obtain ⟨s2, l, h3, h4⟩ := obind_ok h2
        obtain ⟨rfl, rfl⟩ := addT_ok h4
        obtain ⟨q2, l2, l3⟩ := ih.unionL _ _ _ _ _ q1 (by simp; omega) h3
        exact ⟨q2.add ⟨by simp, by have := q2.1; show l.length ≤ _; omega, .inr (.inr rfl)⟩, by show s.i < s2.i; omega⟩
      · simp only [Option.some.injEq, Out.ok.injEq] at h2
        obtain ⟨rfl, rfl⟩ := h2
        exact ⟨q1, l1⟩
    · have h : (if isM L s.i [[124]] then obind ((sp' L f).member d s.nx) fun s x => (sp' L f).unionL d s (acc ++ [x]) else some (.ok s acc)) = some (.ok s' l) := h
      split at h
      · rename_i hm
        obtain ⟨s1, y, h1, h2⟩ := obind_ok h
        obtain ⟨q1, l1⟩ := ih.member _ _ _ _ (hs.nx (isM_lt hm)) h1
        have l1' : s.i + 1 < s1.i := l1
        obtain ⟨q2, l2, l3⟩ := ih.unionL _ _ _ _ _ q1 (by simp; omega) h2
        exact ⟨q2, by omega, l3⟩
      · simp only [Option.some.injEq, Out.ok.injEq] at h
        obtain ⟨rfl, rfl⟩ := h
        exact ⟨hs, Nat.le_refl _, ha⟩
    · have h : (if isM L s.i [[123]] then (sp' L f).objL d s.nx []
        else if isM L s.i [[91]] then obind ((sp' L f).typ d s.nx) fun s x => obind (need L s [93]) fun s _ => addT s ⟨8, [], [], x⟩
        else if isM L s.i [[40]] then (sp' L f).fob d s.nx
        else if (tk L s.i).kind = 2 ∧ plainKind (tk L s.i).text ≠ 0 then addT s.nx ⟨plainKind (tk L s.i).text, [], [], 0⟩ else flt L s.i 1) = some (.ok s' x) := h
      split at h
      · rename_i hm
        obtain ⟨q1, l1⟩ := ih.objL _ _ _ _ _ (hs.nx (isM_lt hm)) (by simp) h
        have l1' : s.i + 1 < s'.i := l1
        exact ⟨q1, by omega⟩
      split at h
      · rename_i hm
        obtain ⟨s1, y, h1, h2⟩ := obind_ok h
        obtain ⟨s2, u, h3, h4⟩ := obind_ok h2
        obtain ⟨hn, rfl⟩ := need_ok h3
        obtain ⟨rfl, rfl⟩ := addT_ok h4
        obtain ⟨q1, l1⟩ := ih.typ _ _ _ _ (hs.nx (isM_lt hm)) h1
        have l1' : s.i + 1 < s1.i := l1
        exact ⟨(q1.nx (isM_lt hn)).add ⟨by simp, by simp, .inl rfl⟩, by show s.i < s1.i + 1; omega⟩
      split at h
      · rename_i hm
        obtain ⟨q1, l1⟩ := ih.fob _ _ _ _ (hs.nx (isM_lt hm)) h
        have l1' : s.i + 1 < s'.i := l1
        exact ⟨q1, by omega⟩
      split at h
      · rename_i hm
        obtain ⟨rfl, rfl⟩ := addT_ok h
        have hlt : s.i < L.length := kind_lt (by rw [hm.1]; decide)
        exact ⟨(hs.nx hlt).add ⟨by simp, by simp, .inr (.inr rfl)⟩, by show s.i < s.i + 1; omega⟩
      · simp [flt] at h
    · have h : (if isM L s.i [[125]] then addT s.nx ⟨7, fs, [], 0⟩
        else obind (newName L s (fs.map (·.1))) fun s nm => obind (need L s [58]) fun s _ => obind ((sp' L f).typ d s) fun s x => obind (need L s [59]) fun s _ => (sp' L f).objL d s (fs ++ [(nm, x)])) = some (.ok s' x) := h
      split at h
      · rename_i hm
        obtain ⟨rfl, rfl⟩ := addT_ok h
        have := isM_lt hm
        exact ⟨(hs.nx this).add ⟨by show fs.length ≤ _; omega, by simp, .inr (.inr rfl)⟩, by show s.i < s.i + 1; omega⟩
      · obtain ⟨s1, nm, h1, h2⟩ := obind_ok h
        obtain ⟨s2, u, h3, h4⟩ := obind_ok h2
        obtain ⟨s3, y, h5, h6⟩ := obind_ok h4
        obtain ⟨s4, u', h7, h8⟩ := obind_ok h6
        unfold newName at h1
        by_cases hk : (tk L s.i).kind = 1
        case neg => rw [if_neg hk] at h1; exact absurd h1 (by simp [flt])
        rw [if_pos hk] at h1
        by_cases hn : has (fs.map (·.1)) (tk L s.i).text = true
        case pos => rw [if_pos hn] at h1; exact absurd h1 (by simp [flt])
        rw [if_neg hn] at h1
        simp only [Option.some.injEq, Out.ok.injEq] at h1
        obtain ⟨rfl, rfl⟩ := h1
        obtain ⟨n1, rfl⟩ := need_ok h3
        obtain ⟨n2, rfl⟩ := need_ok h7
        have hlt : s.i < L.length := kind_lt (by rw [hk]; decide)
        obtain ⟨q1, l1⟩ := ih.typ _ _ _ _ ((hs.nx hlt).nx (isM_lt n1)) h5
        have l1' : s.i + 1 + 1 < s3.i := l1
        obtain ⟨q2, l2⟩ := ih.objL _ _ _ _ _ (q1.nx (isM_lt n2)) (by simp [St.nx]; omega) h8
        have l2' : s3.i + 1 < s'.i := l2
        exact ⟨q2, by omega⟩
    · obtain ⟨s1, l, h1, h2⟩ := obind_ok h
      obtain ⟨q1, l1, l2⟩ := ih.list _ _ _ _ _ _ hs (by simp) h1
      split at h2
      · rename_i hm
        obtain ⟨s2, y, h3, h4⟩ := obind_ok h2
        obtain ⟨rfl, rfl⟩ := addT_ok h4
        obtain ⟨q2, l3⟩ := ih.typ _ _ _ _ (q1.nx (isM_lt hm)) h3
        have l3' : s1.i + 1 < s2.i := l3
        exact ⟨q2.add ⟨by simp, by have := q1.1; show l.length ≤ _; omega, .inr (.inl rfl)⟩, by show s.i < s2.i; omega⟩
      · match l, h2 with
        | [y], h2 =>
          simp only [Option.some.injEq, Out.ok.injEq] at h2
          obtain ⟨rfl, rfl⟩ := h2
          exact ⟨q1, l1⟩
        | [], h2 => simp [flt] at h2
        | _ :: _ :: _, h2 => simp [flt] at h2
    · have h : (if isM L s.i [[41]] then some (.ok s.nx acc)
        else obind (if acc.length = 0 then some (.ok s ()) else need L s [44]) fun s _ => obind (part L (sp' L f) d s nm .typ) fun s x => (sp' L f).list .typ [41] d s x.2 (acc ++ [x.1])) = some (.ok s' l) := h
      split at h
      · rename_i hm
        simp only [Option.some.injEq, Out.ok.injEq] at h
        obtain ⟨rfl, rfl⟩ := h
        exact ⟨hs.nx (isM_lt hm), by show s.i < s.i + 1; omega, by show acc.length ≤ s.i + 1; omega⟩
      · obtain ⟨s1, u, h1, h2⟩ := obind_ok h
        obtain ⟨s2, ⟨y, nm'⟩, h3, h4⟩ := obind_ok h2
        obtain ⟨s3, z, h5, h6⟩ := obind_ok h3
        simp only [Option.some.injEq, Out.ok.injEq, Prod.mk.injEq] at h6
        obtain ⟨rfl, rfl, rfl⟩ := h6
        have key : ∀ (_ : Qs L s1) (_ : s.i ≤ s1.i), Qs L s' ∧ s.i < s'.i ∧ l.length ≤ s'.i := by
          intro q0 l0
          obtain ⟨q1, l1⟩ := ih.typ _ _ _ _ q0 h5
          obtain ⟨q2, l2, l3⟩ := ih.list _ _ _ _ _ _ q1 (by simp; omega) h4
          exact ⟨q2, by omega, l3⟩
        by_cases h0 : acc.length = 0
        · rw [if_pos h0] at h1
          simp only [Option.some.injEq, Out.ok.injEq] at h1
          obtain ⟨rfl, _⟩ := h1
          exact key hs (Nat.le_refl _)
        · rw [if_neg h0] at h1
          obtain ⟨n1, rfl⟩ := need_ok h1
          exact key (hs.nx (isM_lt n1)) (by show s.i ≤ s.i + 1; omega)

/-- What Type answers holds little. -/
theorem typ_little {L : List Tk} {s' : St} {x : Int} (h : Ev L (fun r => r.typ 0 ⟨0, [], []⟩) (.ok s' x)) : ∀ t ∈ s'.T, Q L t := by
  obtain ⟨f0, h0⟩ := h
  exact ((qF L f0).typ _ _ _ _ ⟨Nat.zero_le _, by simp⟩ (h0 f0 (Nat.le_refl _))).1.2

/-- What Type answers, in short. -/
theorem tres_ok {l : List UInt8} {T : List Ty} (h : TRes l (.inr T)) : TsOk T ∧ 0 < T.length ∧ T.length ≤ 300 ∧ (∀ t ∈ T, t.fields.length ≤ 1001 ∧ t.list.length ≤ 1001 ∧ (t.kind = 8 ∨ t.kind = 9 ∨ t.of' = 0)) ∧
    (scan l).2.1 = 0 ∧ ∃ r, Evn (fun f => rdT f (tt (scan l).1 0)) (tr T (T.length - 1), r) := by
  obtain ⟨h1, s', x, h2, h3, h4, h5, rfl⟩ := h
  obtain ⟨e1, lo, hi, r1⟩ := sim (nmL_scan l) (s := ⟨0, [], []⟩) (by intro i hi; simp at hi) h2
  have hl := typ_last h2
  have hlen := (scan_last l h1).1
  refine ⟨e1.ok, by omega, h5, fun t ht => ?_, h1, ?_⟩
  · have := typ_little h2 t ht
    exact ⟨by have := this.1; omega, by have := this.2.1; omega, this.2.2⟩
  · have hx : x.toNat = s'.T.length - 1 := by omega
    rw [hx] at r1
    exact ⟨_, r1⟩

/-- What is written of a type, and can be read, is that type. -/
theorem tres_txt {l : List UInt8} {T : List Ty} {t : Tr} (hw : Wf t) (hl : l = txt' t) (h : TRes l (.inr T)) : tr T (T.length - 1) = t := by
  obtain ⟨_, _, _, _, h1, r, h2⟩ := tres_ok h
  have h3 := lex_txt t hw [] [] (by intro c hc; simp at hc) Lex.nil
  simp only [List.append_nil] at h3
  rw [← hl] at h3
  rw [lex_scan h3 h1] at h2
  have h4 := (rt t hw).1 [(6, [])] ⟨rfl, rfl⟩
  exact (Prod.mk.inj (Evn.one h2 h4)).1

end Go.Proofs.YtkilicjjaljghaaGreat.M
