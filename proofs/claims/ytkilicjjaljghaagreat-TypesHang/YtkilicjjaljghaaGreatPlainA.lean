/-
  Plain functions on bytes and lists of bytes that say what the token scanner answers; nothing of the program is named here.
  Plain functions on lists of bytes, further: words, signs, the first token.
  Plain functions: what the parser answers, on tokens; nothing of the program is named here.
  Plain functions: all tokens of a text, or the first fault.
  Plain facts on the signs, and on which kind of token a byte begins.
  Plain facts: the tokens of a text stand apart.
  Plain facts: the tokens of a text end with the end, and have it nowhere else.
-/
/- Plain functions on bytes and lists of bytes that say what the token scanner answers; nothing of the program is named here. -/
namespace Go.Proofs.YtkilicjjaljghaaGreat.M

def dig (n : Nat) : Bool := decide (48 ≤ n) && decide (n ≤ 57)
def let' (n : Nat) : Bool := (decide (97 ≤ n) && decide (n ≤ 122)) || (decide (65 ≤ n) && decide (n ≤ 90)) || decide (n = 95)
def blank (n : Nat) : Bool := decide (n = 32) || decide (n = 10)
def nam (n : Nat) : Bool := let' n || dig n
def txt (n : Nat) : Bool := decide (32 ≤ n) && decide (n ≤ 126) && decide (n ≠ 34)

/-- How many bytes at the front go on. -/
def sp (p : Nat → Bool) : List UInt8 → Nat
  | [] => 0
  | c :: r => if p c.toNat then sp p r + 1 else 0

theorem sp_le (p : Nat → Bool) (l : List UInt8) : sp p l ≤ l.length := by
  induction l with
  | nil => simp [sp]
  | cons c r ih => simp only [sp]; split <;> simp <;> omega

theorem sp_yes (p : Nat → Bool) : ∀ (l : List UInt8) (k : Nat) (h : k < l.length), k ≤ sp p l → p l[k].toNat = true → k + 1 ≤ sp p l
  | [], _, h, _, _ => by simp at h
  | c :: r, 0, _, _, hp => by simp only [List.getElem_cons_zero] at hp; simp [sp, hp]
  | c :: r, k + 1, h, hk, hp => by
    simp only [sp] at hk ⊢
    split at hk
    · rename_i hc
      rw [if_pos hc]
      have := sp_yes p r k (by simpa using h) (by omega) (by simpa using hp)
      omega
    · omega

theorem sp_no (p : Nat → Bool) : ∀ (l : List UInt8) (k : Nat) (h : k < l.length), k ≤ sp p l → p l[k].toNat = false → sp p l = k
  | [], _, h, _, _ => by simp at h
  | c :: r, 0, _, _, hp => by simp only [List.getElem_cons_zero] at hp; simp [sp, hp]
  | c :: r, k + 1, h, hk, hp => by
    simp only [sp] at hk ⊢
    split at hk
    · rename_i hc
      rw [if_pos hc]
      have := sp_no p r k (by simpa using h) (by omega) (by simpa using hp)
      omega
    · omega

end Go.Proofs.YtkilicjjaljghaaGreat.M

/- Plain functions on lists of bytes, further: words, signs, the first token. -/
namespace Go.Proofs.YtkilicjjaljghaaGreat.M

/-- The words of the language. -/
def words : List (List UInt8) := [[108, 101, 116], [102, 110], [105, 102], [101, 108, 115, 101], [119, 104, 105, 108, 101], [114, 101, 116, 117, 114, 110], [112, 114, 105, 110, 116], [116, 114, 117, 101], [102, 97, 108, 115, 101], [110, 117, 108, 108], [97, 115], [116, 121, 112, 101, 111, 102], [110, 117, 109], [98, 111, 111, 108], [116, 101, 120, 116], [97, 110, 121], [117, 110, 107, 110, 111, 119, 110]]
def has (gs : List (List UInt8)) (l : List UInt8) : Bool := gs.contains l
def isWord (l : List UInt8) : Bool := has words l

/-- The signs. -/
def signs : List (List UInt8) := [[61, 61], [61, 62], [40], [41], [123], [125], [91], [93], [44], [59], [58], [46], [61], [60], [43], [45], [42], [33], [124]]
/-- The size of the longest of some signs that a text begins with. -/
def longest (l : List UInt8) (gs : List (List UInt8)) : Nat := gs.foldl (fun m g => if g.isPrefixOf l then max m g.length else m) 0

theorem has_snoc (l : List UInt8) (gs : List (List UInt8)) (k : Nat) (h : k < gs.length) : has (gs.take (k + 1)) l = (has (gs.take k) l || l == gs[k]) := by
  rw [List.take_succ_eq_append_getElem h]
  generalize gs.take k = a
  generalize gs[k] = b
  rw [Bool.eq_iff_iff]
  simp [has]

theorem has_mem {l : List UInt8} {gs : List (List UInt8)} (h : l ∈ gs) : has gs l = true := by simp [has, h]

/-- A token: its kind, its text, where it stands. -/
structure Tk where
  kind : Int
  text : List UInt8
  at' : Nat

def number (l : List UInt8) : Int × List UInt8 × Nat :=
  if 9 < sp dig l ∨ l.head? = some 48 ∧ 1 < sp dig l then (0, [], 0) else (3, l.take (sp dig l), sp dig l)
def name (l : List UInt8) : Int × List UInt8 × Nat :=
  if 20 < sp nam l then (0, [], 0) else (if isWord (l.take (sp nam l)) then 2 else 1, l.take (sp nam l), sp nam l)
def text (l : List UInt8) : Int × List UInt8 × Nat :=
  if 30 < sp txt l.tail ∨ (l.tail.drop (sp txt l.tail)).head? ≠ some 34 then (0, [], 0) else (4, l.tail.take (sp txt l.tail), sp txt l.tail + 2)
def sign (l : List UInt8) : Int × List UInt8 × Nat :=
  if longest l signs = 0 then (0, [], 0) else (5, l.take (longest l signs), longest l signs)

/-- The first token of a text that is not empty: its kind, its text, its size; size 0: there is none. -/
def first (l : List UInt8) : Int × List UInt8 × Nat :=
  match l.head? with
  | none => (0, [], 0)
  | some c => if dig c.toNat then number l else if let' c.toNat then name l else if c.toNat = 34 then text l else sign l

end Go.Proofs.YtkilicjjaljghaaGreat.M

/- Plain functions: what the parser answers, on tokens; nothing of the program is named here. -/
namespace Go.Proofs.YtkilicjjaljghaaGreat.M

/-- A type, a node, as the parser numbers them. -/
structure Ty where
  kind : Int
  fields : List (List UInt8 × Int)
  list : List Int
  of' : Int
structure Nd where
  kind : Int
  a : Int
  b : Int
  c : Int
  list : List Int
  text : List UInt8
  n : Int
  ty : Int
  at' : Int

/-- What a parser holds: the token that is looked at, nodes, types. -/
structure St where
  i : Nat
  N : List Nd
  T : List Ty

inductive Out (α : Type) where
  | ok (s : St) (x : α)
  | fail (e : Int) (p : Int)

def tk (L : List Tk) (i : Nat) : Tk := L.getD i ⟨6, [], 0⟩
def isM (L : List Tk) (i : Nat) (ms : List (List UInt8)) : Bool := ((tk L i).kind == 5 || (tk L i).kind == 2) && has ms (tk L i).text
def flt {α : Type} (L : List Tk) (i : Nat) (e : Int) : Option (Out α) := some (.fail e ((tk L i).at' : Int))
def St.nx (s : St) : St := ⟨s.i + 1, s.N, s.T⟩
def need (L : List Tk) (s : St) (m : List UInt8) : Option (Out Unit) := if isM L s.i [m] then some (.ok s.nx ()) else flt L s.i 1
def addT (s : St) (t : Ty) : Option (Out Int) := some (.ok ⟨s.i, s.N, s.T ++ [t]⟩ s.T.length)
def addN (s : St) (n : Nd) : Option (Out Int) := some (.ok ⟨s.i, s.N ++ [n], s.T⟩ s.N.length)
def nd0 : Nd := ⟨0, 0, 0, 0, [], [], 0, -1, 0⟩
def atN (s : St) (n : Int) : Int := (s.N.getD n.toNat nd0).at'

def obind {α β : Type} (x : Option (Out α)) (k : St → α → Option (Out β)) : Option (Out β) :=
  match x with
  | none => none
  | some (.fail e p) => some (.fail e p)
  | some (.ok s a) => k s a

def typeBegins : List (List UInt8) := [[110, 117, 109], [98, 111, 111, 108], [116, 101, 120, 116], [110, 117, 108, 108], [97, 110, 121], [117, 110, 107, 110, 111, 119, 110], [123], [91], [40]]
def exprBegins : List (List UInt8) := [[116, 114, 117, 101], [102, 97, 108, 115, 101], [110, 117, 108, 108], [102, 110], [40], [91], [123], [33], [45], [116, 121, 112, 101, 111, 102]]
def stmtBegins : List (List UInt8) := [[108, 101, 116], [112, 114, 105, 110, 116], [114, 101, 116, 117, 114, 110], [105, 102], [119, 104, 105, 108, 101]]
def begE (L : List Tk) (i : Nat) : Bool := (tk L i).kind == 1 || (tk L i).kind == 3 || (tk L i).kind == 4 || isM L i exprBegins
def begS (L : List Tk) (i : Nat) : Bool := isM L i stmtBegins || begE L i

def plainKind (t : List UInt8) : Int :=
  if t = [110, 117, 109] then 1 else if t = [98, 111, 111, 108] then 2 else if t = [116, 101, 120, 116] then 3 else if t = [110, 117, 108, 108] then 4 else if t = [97, 110, 121] then 5 else if t = [117, 110, 107, 110, 111, 119, 110] then 6 else 0

/-- What is read, part by part, in a list. -/
inductive Part where
  | typ | expr | obj | par

structure Sp where
  typ : Nat → St → Option (Out Int)
  union : Nat → St → Option (Out Int)
  unionL : Nat → St → List Int → Option (Out (List Int))
  member : Nat → St → Option (Out Int)
  objL : Nat → St → List (List UInt8 × Int) → Option (Out Int)
  fob : Nat → St → Option (Out Int)
  list : Part → List UInt8 → Nat → St → List (List UInt8) → List Int → Option (Out (List Int))
  expr : Nat → St → Option (Out Int)
  comp : Nat → St → Option (Out Int)
  sum : Nat → St → Option (Out Int)
  prod : Nat → St → Option (Out Int)
  row : Bool → Nat → St → Int → Option (Out Int)
  oper : Nat → St → Option (Out Int)
  tail : Nat → St → Int → Option (Out Int)
  simple : Nat → St → Option (Out Int)
  block : Nat → St → Option (Out Int)
  blockL : Nat → St → List Int → Option (Out (List Int))
  stmt : Nat → St → Option (Out Int)
  any : Nat → St → Option (Out Int)
  progL : Nat → St → List Int → Option (Out (List Int))

def inside (L : List Tk) (begins : Bool) (d : Nat) (s : St) (part : Nat → St → Option (Out Int)) : Option (Out Int) :=
  if begins then if 20 ≤ d then flt L s.i 8 else part (d + 1) s else flt L s.i 1

def rowSigns : Bool → List (List UInt8)
  | true => [[43], [45]]
  | false => [[42]]

def two (L : List Tk) (s : St) (left : Int) (part : St → Option (Out Int)) : Option (Out Int) :=
  obind (part s.nx) fun s' x => addN s' ⟨12, left, x, 0, [], (tk L s.i).text, 0, -1, atN s' left⟩

def typeIf (L : List Tk) (r : Sp) (d : Nat) (s : St) : Option (Out Int) := if isM L s.i [[58]] then r.typ d s.nx else some (.ok s (-1))

def newName (L : List Tk) (s : St) (names : List (List UInt8)) : Option (Out (List UInt8)) :=
  if (tk L s.i).kind = 1 then if has names (tk L s.i).text then flt L s.i 6 else some (.ok s.nx (tk L s.i).text) else flt L s.i 1

/-- One part of a list: what it is numbered, and the names that are there. -/
def part (L : List Tk) (r : Sp) (d : Nat) (s : St) (names : List (List UInt8)) : Part → Option (Out (Int × List (List UInt8)))
  | .typ => obind (r.typ d s) fun s x => some (.ok s (x, names))
  | .expr => obind (r.expr d s) fun s x => some (.ok s (x, names))
  | .obj => obind (newName L s names) fun s1 nm => obind (need L s1 [58]) fun s2 _ => obind (r.expr d s2) fun s3 x =>
      obind (addN s3 ⟨15, x, 0, 0, [], nm, 0, -1, (tk L s.i).at'⟩) fun s4 y => some (.ok s4 (y, names ++ [nm]))
  | .par => obind (newName L s names) fun s1 nm => obind (typeIf L r d s1) fun s2 t =>
      obind (addN s2 ⟨16, 0, 0, 0, [], nm, 0, t, (tk L s.i).at'⟩) fun s3 y => some (.ok s3 (y, names ++ [nm]))

def setK (k : Int) : Int := if k = 5 then 18 else if k = 8 then 19 else if k = 9 then 20 else 0

def setN (n : Nd) (v : Int) : Nd :=
  if n.kind = 5 then ⟨18, v, n.b, n.c, n.list, n.text, n.n, -1, n.at'⟩
  else if n.kind = 8 then ⟨19, n.a, v, n.c, n.list, n.text, n.n, -1, n.at'⟩
  else ⟨20, n.a, n.b, v, n.list, n.text, n.n, -1, n.at'⟩

/-- The number that digits are. -/
def value (l : List UInt8) : Int := l.foldl (fun n c => 10 * n + (c.toNat : Int) - 48) 0

def step (L : List Tk) (r : Sp) : Sp where
  typ d s := inside L (isM L s.i typeBegins) d s r.union
  union d s := obind (r.member d s) fun s x => if isM L s.i [[124]] then obind (r.unionL d s [x]) fun s l => addT s ⟨10, [], l, 0⟩ else some (.ok s x)
  unionL d s acc := if isM L s.i [[124]] then obind (r.member d s.nx) fun s x => r.unionL d s (acc ++ [x]) else some (.ok s acc)
  member d s :=
    if isM L s.i [[123]] then r.objL d s.nx []
    else if isM L s.i [[91]] then obind (r.typ d s.nx) fun s x => obind (need L s [93]) fun s _ => addT s ⟨8, [], [], x⟩
    else if isM L s.i [[40]] then r.fob d s.nx
    else if (tk L s.i).kind = 2 ∧ plainKind (tk L s.i).text ≠ 0 then addT s.nx ⟨plainKind (tk L s.i).text, [], [], 0⟩ else flt L s.i 1
  objL d s fields :=
    if isM L s.i [[125]] then addT s.nx ⟨7, fields, [], 0⟩
    else obind (newName L s (fields.map (·.1))) fun s nm => obind (need L s [58]) fun s _ => obind (r.typ d s) fun s x => obind (need L s [59]) fun s _ => r.objL d s (fields ++ [(nm, x)])
  fob d s := obind (r.list .typ [41] d s [] []) fun s l =>
    if isM L s.i [[61, 62]] then obind (r.typ d s.nx) fun s x => addT s ⟨9, [], l, x⟩
    else match l with
      | [x] => some (.ok s x)
      | _ => flt L s.i 1
  list p e d s names acc :=
    if isM L s.i [e] then some (.ok s.nx acc)
    else obind (if acc.length = 0 then some (.ok s ()) else need L s [44]) fun s _ => obind (part L r d s names p) fun s x => r.list p e d s x.2 (acc ++ [x.1])
  expr d s := inside L (begE L s.i) d s r.comp
  comp d s := obind (r.sum d s) fun s x => if isM L s.i [[61, 61], [60]] then two L s x (r.sum d) else some (.ok s x)
  sum d s := obind (r.prod d s) fun s x => r.row true d s x
  prod d s := obind (r.oper d s) fun s x => r.row false d s x
  row b d s x := if isM L s.i (rowSigns b) then obind (two L s x (if b then r.prod d else r.oper d)) fun s y => r.row b d s y else some (.ok s x)
  oper d s :=
    if isM L s.i [[33], [45], [116, 121, 112, 101, 111, 102]] then obind (inside L (begE L (s.i + 1)) d s.nx r.oper) fun s' x => addN s' ⟨13, x, 0, 0, [], (tk L s.i).text, 0, -1, (tk L s.i).at'⟩
    else obind (r.simple d s) fun s x => r.tail d s x
  tail d s h :=
    if isM L s.i [[40]] then obind (r.list .expr [41] d s.nx [] []) fun s' l => obind (addN s' ⟨7, h, 0, 0, l, [], 0, -1, atN s h⟩) fun s x => r.tail d s x
    else if isM L s.i [[46]] then
      if (tk L (s.i + 1)).kind = 1 then obind (addN s.nx.nx ⟨8, h, 0, 0, [], (tk L (s.i + 1)).text, 0, -1, atN s h⟩) fun s x => r.tail d s x else flt L (s.i + 1) 1
    else if isM L s.i [[91]] then obind (r.expr d s.nx) fun s' x => obind (need L s' [93]) fun s' _ => obind (addN s' ⟨9, h, x, 0, [], [], 0, -1, atN s h⟩) fun s x => r.tail d s x
    else if isM L s.i [[97, 115]] then obind (r.typ d s.nx) fun s' t => obind (addN s' ⟨14, h, 0, 0, [], [], 0, t, atN s h⟩) fun s x => r.tail d s x
    else some (.ok s h)
  simple d s :=
    if (tk L s.i).kind = 3 then addN s.nx ⟨1, 0, 0, 0, [], [], value (tk L s.i).text, -1, (tk L s.i).at'⟩
    else if (tk L s.i).kind = 4 then addN s.nx ⟨2, 0, 0, 0, [], (tk L s.i).text, 0, -1, (tk L s.i).at'⟩
    else if (tk L s.i).kind = 1 then addN s.nx ⟨5, 0, 0, 0, [], (tk L s.i).text, 0, -1, (tk L s.i).at'⟩
    else if isM L s.i [[116, 114, 117, 101]] then addN s.nx ⟨3, 0, 0, 0, [], [], 1, -1, (tk L s.i).at'⟩
    else if isM L s.i [[102, 97, 108, 115, 101]] then addN s.nx ⟨3, 0, 0, 0, [], [], 0, -1, (tk L s.i).at'⟩
    else if isM L s.i [[110, 117, 108, 108]] then addN s.nx ⟨4, 0, 0, 0, [], [], 0, -1, (tk L s.i).at'⟩
    else if isM L s.i [[102, 110]] then obind (need L s.nx [40]) fun s1 _ => obind (r.list .par [41] d s1 [] []) fun s2 l => obind (typeIf L r d s2) fun s3 t => obind (r.block d s3) fun s4 x =>
      addN s4 ⟨6, x, 0, 0, l, [], 0, t, (tk L s.i).at'⟩
    else if isM L s.i [[91]] then obind (r.list .expr [93] d s.nx [] []) fun s' l => addN s' ⟨11, 0, 0, 0, l, [], 0, -1, (tk L s.i).at'⟩
    else if isM L s.i [[123]] then obind (r.list .obj [125] d s.nx [] []) fun s' l => addN s' ⟨10, 0, 0, 0, l, [], 0, -1, (tk L s.i).at'⟩
    else obind (need L s [40]) fun s _ => obind (r.expr d s) fun s x => obind (need L s [41]) fun s _ => some (.ok s x)
  block d s := obind (need L s [123]) fun s1 _ => obind (r.blockL d s1 []) fun s2 l => addN s2 ⟨26, 0, 0, 0, l, [], 0, -1, (tk L s.i).at'⟩
  blockL d s acc := if isM L s.i [[125]] then some (.ok s.nx acc) else obind (r.stmt d s) fun s x => r.blockL d s (acc ++ [x])
  stmt d s := inside L (begS L s.i) d s r.any
  any d s :=
    if isM L s.i [[108, 101, 116]] then
      if (tk L (s.i + 1)).kind = 1 then obind (typeIf L r d s.nx.nx) fun s1 t => obind (need L s1 [61]) fun s2 _ => obind (r.expr d s2) fun s3 x => obind (need L s3 [59]) fun s4 _ =>
        addN s4 ⟨17, x, 0, 0, [], (tk L (s.i + 1)).text, 0, t, (tk L s.i).at'⟩
      else flt L (s.i + 1) 1
    else if isM L s.i [[112, 114, 105, 110, 116]] then obind (r.expr d s.nx) fun s1 x => obind (need L s1 [59]) fun s2 _ => addN s2 ⟨21, x, 0, 0, [], [], 0, -1, (tk L s.i).at'⟩
    else if isM L s.i [[114, 101, 116, 117, 114, 110]] then obind (r.expr d s.nx) fun s1 x => obind (need L s1 [59]) fun s2 _ => addN s2 ⟨24, x, 0, 0, [], [], 0, -1, (tk L s.i).at'⟩
    else if isM L s.i [[105, 102]] then obind (need L s.nx [40]) fun s1 _ => obind (r.expr d s1) fun s2 x => obind (need L s2 [41]) fun s3 _ => obind (r.block d s3) fun s4 y =>
      obind (if isM L s4.i [[101, 108, 115, 101]] then r.block d s4.nx else some (.ok s4 (-1))) fun s5 z => addN s5 ⟨22, x, y, z, [], [], 0, -1, (tk L s.i).at'⟩
    else if isM L s.i [[119, 104, 105, 108, 101]] then obind (need L s.nx [40]) fun s1 _ => obind (r.expr d s1) fun s2 x => obind (need L s2 [41]) fun s3 _ => obind (r.block d s3) fun s4 y =>
      addN s4 ⟨23, x, y, 0, [], [], 0, -1, (tk L s.i).at'⟩
    else obind (r.expr d s) fun s1 x =>
      if isM L s1.i [[61]] then
        if setK (s1.N.getD x.toNat nd0).kind = 0 then flt L s1.i 1
        else obind (r.expr d ⟨s1.i + 1, s1.N.take x.toNat, s1.T⟩) fun s2 v => obind (need L s2 [59]) fun s3 _ => addN s3 (setN (s1.N.getD x.toNat nd0) v)
      else obind (need L s1 [59]) fun s2 _ => addN s2 ⟨25, x, 0, 0, [], [], 0, -1, atN s1 x⟩
  progL d s acc := if (tk L s.i).kind = 6 then some (.ok s acc) else obind (r.stmt d s) fun s x => r.progL d s (acc ++ [x])

def bot : Sp := ⟨fun _ _ => none, fun _ _ => none, fun _ _ _ => none, fun _ _ => none, fun _ _ _ => none, fun _ _ => none, fun _ _ _ _ _ _ => none, fun _ _ => none, fun _ _ => none, fun _ _ => none, fun _ _ => none,
  fun _ _ _ _ => none, fun _ _ => none, fun _ _ _ => none, fun _ _ => none, fun _ _ => none, fun _ _ _ => none, fun _ _ => none, fun _ _ => none, fun _ _ _ => none⟩

def sp' (L : List Tk) : Nat → Sp
  | 0 => bot
  | f + 1 => step L (sp' L f)

/-- The parser's answer: from some number of steps on. -/
def Ev {α : Type} (L : List Tk) (φ : Sp → Option (Out α)) (o : Out α) : Prop := ∃ f0, ∀ f, f0 ≤ f → φ (sp' L f) = some o

theorem Ev.one {α : Type} {L : List Tk} {φ : Sp → Option (Out α)} {o o' : Out α} (h : Ev L φ o) (h' : Ev L φ o') : o = o' := by
  obtain ⟨a, ha⟩ := h
  obtain ⟨b, hb⟩ := h'
  have := (ha (a + b) (by omega)).symm.trans (hb (a + b) (by omega))
  exact Option.some.inj this

theorem Ev.pure {α : Type} {L : List Tk} {o : Out α} : Ev L (fun _ => some o) o := ⟨0, fun _ _ => rfl⟩
theorem Ev.eq {α : Type} {L : List Tk} {φ ψ : Sp → Option (Out α)} {o : Out α} (h : Ev L φ o) (e : ∀ r, ψ r = φ r) : Ev L ψ o := by
  obtain ⟨a, ha⟩ := h
  exact ⟨a, fun f hf => (e _).trans (ha f hf)⟩

theorem Ev.bind {α β : Type} {L : List Tk} {φ : Sp → Option (Out α)} {k : Sp → St → α → Option (Out β)} {s : St} {x : α} {o : Out β} (h : Ev L φ (.ok s x)) (h2 : Ev L (fun r => k r s x) o) : Ev L (fun r => obind (φ r) (k r)) o := by
  obtain ⟨a, ha⟩ := h
  obtain ⟨b, hb⟩ := h2
  refine ⟨a + b, fun f hf => ?_⟩
  show obind (φ (sp' L f)) (k (sp' L f)) = some o
  rw [ha f (by omega)]
  exact hb f (by omega)

theorem Ev.bad {α β : Type} {L : List Tk} {φ : Sp → Option (Out α)} {k : Sp → St → α → Option (Out β)} {e p : Int} (h : Ev L φ (.fail e p)) : Ev L (fun r => obind (φ r) (k r)) (.fail e p) := by
  obtain ⟨a, ha⟩ := h
  refine ⟨a, fun f hf => ?_⟩
  show obind (φ (sp' L f)) (k (sp' L f)) = some _
  rw [ha f (by omega)]
  rfl

/-- One step more. -/
theorem Ev.step {α : Type} {L : List Tk} {φ : Sp → Option (Out α)} {o : Out α} (h : Ev L (fun r => φ (step L r)) o) : Ev L φ o := by
  obtain ⟨a, ha⟩ := h
  refine ⟨a + 1, fun f hf => ?_⟩
  obtain ⟨g, rfl⟩ : ∃ g, f = g + 1 := ⟨f - 1, by omega⟩
  exact ha g (by omega)

end Go.Proofs.YtkilicjjaljghaaGreat.M

/- Plain functions: all tokens of a text, or the first fault. -/
namespace Go.Proofs.YtkilicjjaljghaaGreat.M

/-- The tokens from a place on, behind some, or the first fault and where it is. -/
def scanF : Nat → List UInt8 → Nat → List Tk → List Tk × Int × Nat
  | 0, _, _, _ => ([], 0, 0)
  | f + 1, l, a, acc =>
    if l.length ≤ a + sp blank (l.drop a) then (acc ++ [⟨6, [], l.length⟩], 0, 0)
    else if (first (l.drop (a + sp blank (l.drop a)))).2.2 = 0 then ([], 1, a + sp blank (l.drop a))
    else if acc.length = 1000 then ([], 2, a + sp blank (l.drop a))
    else scanF f l (a + sp blank (l.drop a) + (first (l.drop (a + sp blank (l.drop a)))).2.2)
      (acc ++ [⟨(first (l.drop (a + sp blank (l.drop a)))).1, (first (l.drop (a + sp blank (l.drop a)))).2.1, a + sp blank (l.drop a)⟩])

def scan (l : List UInt8) : List Tk × Int × Nat := if 4000 < l.length then ([], 2, 0) else scanF (l.length + 1) l 0 []

theorem longest_len (l : List UInt8) : ∀ (gs : List (List UInt8)) (m : Nat), m ≤ l.length → gs.foldl (fun m g => if g.isPrefixOf l then max m g.length else m) m ≤ l.length
  | [], m, hm => hm
  | g :: r, m, hm => by
    simp only [List.foldl_cons]
    refine longest_len l r _ ?_
    split
    · rename_i h
      exact Nat.max_le.2 ⟨hm, (List.isPrefixOf_iff_prefix.1 h).length_le⟩
    · exact hm

theorem first_le (l : List UInt8) : (first l).2.2 ≤ l.length := by
  unfold first
  cases h : l.head? with
  | none => simp
  | some c =>
    simp only
    split
    · unfold number
      split
      · simp
      · exact sp_le _ _
    split
    · unfold name
      split
      · simp
      · exact sp_le _ _
    split
    · unfold text
      split
      · simp
      · rename_i h1
        rw [not_or] at h1
        have h2 : (l.tail.drop (sp txt l.tail)).head? = some 34 := Classical.not_not.1 h1.2
        have h3 : sp txt l.tail < l.tail.length := by
          apply Classical.byContradiction
          intro h4
          rw [List.drop_of_length_le (by omega)] at h2
          simp at h2
        rw [List.length_tail] at h3
        show sp txt l.tail + 2 ≤ l.length
        omega
    · unfold sign
      split
      · simp
      · exact longest_len l signs 0 (by omega)

/-- From a place that is not blank. -/
theorem scanF_at (f : Nat) (l : List UInt8) (a : Nat) (acc : List Tk) (hb : sp blank (l.drop a) = 0) : scanF (f + 1) l a acc =
    if l.length ≤ a then (acc ++ [⟨6, [], l.length⟩], 0, 0)
    else if (first (l.drop a)).2.2 = 0 then ([], 1, a)
    else if acc.length = 1000 then ([], 2, a)
    else scanF f l (a + (first (l.drop a)).2.2) (acc ++ [⟨(first (l.drop a)).1, (first (l.drop a)).2.1, a⟩]) := by
  simp only [scanF, hb, Nat.add_zero]

theorem sp_drop (p : Nat → Bool) : ∀ (l : List UInt8), sp p (l.drop (sp p l)) = 0
  | [] => by simp [sp]
  | c :: r => by
    simp only [sp]
    split
    · rw [List.drop_succ_cons]; exact sp_drop p r
    · rename_i h; simp [sp, h]

/-- Blanks ahead may be passed over. -/
theorem scanF_skip (f : Nat) (l : List UInt8) (a : Nat) (acc : List Tk) : scanF (f + 1) l a acc = scanF (f + 1) l (a + sp blank (l.drop a)) acc := by
  have h := sp_drop blank (l.drop a)
  rw [List.drop_drop] at h
  rw [scanF_at f l (a + sp blank (l.drop a)) acc h]
  simp only [scanF]

end Go.Proofs.YtkilicjjaljghaaGreat.M

/- Plain facts on the signs, and on which kind of token a byte begins. -/
namespace Go.Proofs.YtkilicjjaljghaaGreat.M

/-- The signs of one byte. -/
def chars : List UInt8 := [40, 41, 123, 125, 91, 93, 44, 59, 58, 46, 61, 60, 43, 45, 42, 33, 124]
def isSign (c : Nat) : Bool := chars.any (fun x => x.toNat == c)

theorem longest_one (c : UInt8) (r : List UInt8) : ∀ (xs : List UInt8) (m : Nat), (xs.map fun x => [x]).foldl (fun m g => if g.isPrefixOf (c :: r) then max m g.length else m) m = if xs.contains c then max m 1 else m
  | [], m => by simp
  | x :: xs, m => by
    simp only [List.map_cons, List.foldl_cons]
    rw [longest_one c r xs]
    have h : ([x].isPrefixOf (c :: r)) = (x == c) := by simp [List.isPrefixOf]
    rw [h, List.contains_cons]
    by_cases hx : x = c
    · subst hx; simp
    · have h1 : (x == c) = false := by simp [hx]
      have h2 : (c == x) = false := by simp [Ne.symm hx]
      simp [h1, h2]

theorem isSign_iff (c : UInt8) : chars.contains c = isSign c.toNat := by
  rw [Bool.eq_iff_iff]
  simp only [isSign, List.any_eq_true, List.contains_iff_mem, beq_iff_eq]
  constructor
  · intro h; exact ⟨c, h, rfl⟩
  · rintro ⟨x, hx, he⟩; rw [← UInt8.toNat_inj.1 he]; exact hx

theorem longest_signs (c : UInt8) (r : List UInt8) : longest (c :: r) signs = if c = 61 ∧ (r.head? = some 61 ∨ r.head? = some 62) then 2 else if isSign c.toNat then 1 else 0 := by
  have hs : signs = [[61, 61], [61, 62]] ++ chars.map (fun x => [x]) := rfl
  rw [hs, longest, List.foldl_append, longest_one, isSign_iff]
  cases r with
  | nil => simp
  | cons d q =>
    simp only [List.foldl_cons, List.foldl_nil, List.isPrefixOf, List.head?_cons, Option.some.injEq, List.length_cons, List.length_nil, Bool.and_true, beq_iff_eq, Bool.and_eq_true]
    by_cases hc : c = 61
    · subst hc
      by_cases h1 : d = 61
      · subst h1; simp
      · by_cases h2 : d = 62
        · subst h2; simp
        · simp [h1, h2, Ne.symm h1, Ne.symm h2]
    · simp [hc, Ne.symm hc]

end Go.Proofs.YtkilicjjaljghaaGreat.M

/- Plain facts: the tokens of a text stand apart. -/
namespace Go.Proofs.YtkilicjjaljghaaGreat.M

def plain (k : Int) : Bool := k == 1 || k == 2 || k == 3

/-- Where a token ends. -/
def tend (t : Tk) : Nat := t.at' + t.text.length + if t.kind = 4 then 2 else 0

/-- The tokens stand one behind the other from a place on, behind one of kind pk, with blanks alone between, to the end. -/
def chk (l : List UInt8) : Nat → Int → List Tk → Prop
  | a, _, [] => a = l.length
  | a, pk, t :: r => a ≤ t.at' ∧ t.at' ≤ l.length ∧ (∀ k (h : k < l.length), a ≤ k → k < t.at' → blank l[k].toNat = true) ∧
      (plain t.kind = true → t.at' = a → plain pk = true → pk = 3 ∧ t.kind ≠ 3) ∧ chk l (tend t) t.kind r

/-- Behind a name no letter or digit stands, behind a number no digit. -/
def munch (l : List UInt8) (a : Nat) (pk : Int) : Prop :=
  (pk = 1 ∨ pk = 2 → ∀ h : a < l.length, nam l[a].toNat = false) ∧ (pk = 3 → ∀ h : a < l.length, dig l[a].toNat = false)

theorem sp_end (p : Nat → Bool) : ∀ (l : List UInt8) (h : sp p l < l.length), p l[sp p l].toNat = false
  | [], h => by simp [sp] at h
  | c :: r, h => by
    cases hc : p c.toNat
    · simp [sp, hc]
    · have h2 : sp p (c :: r) = sp p r + 1 := by simp [sp, hc]
      simp only [h2, List.getElem_cons_succ]
      rw [h2] at h
      exact sp_end p r (by simpa using h)

theorem sp_all (p : Nat → Bool) : ∀ (l : List UInt8) (k : Nat) (h : k < l.length), k < sp p l → p l[k].toNat = true
  | [], k, h, _ => by simp at h
  | c :: r, 0, _, hk => by
    cases hc : p c.toNat
    · simp [sp, hc] at hk
    · simpa using hc
  | c :: r, k + 1, h, hk => by
    cases hc : p c.toNat
    · simp [sp, hc] at hk
    · simp only [sp, hc, if_true] at hk
      simpa using sp_all p r k (by simpa using h) (by omega)

/-- What the first token of a text is like. -/
structure FirstOk (l : List UInt8) (r : Int × List UInt8 × Nat) : Prop where
  le : r.2.2 ≤ l.length
  size : r.2.2 = r.2.1.length + if r.1 = 4 then 2 else 0
  kind : r.1 ≠ 6
  name : r.1 = 1 ∨ r.1 = 2 → (∀ h : 0 < l.length, let' l[0].toNat = true) ∧ (∀ h : r.2.2 < l.length, nam l[r.2.2].toNat = false)
  num : r.1 = 3 → (∀ h : 0 < l.length, dig l[0].toNat = true) ∧ (∀ h : r.2.2 < l.length, dig l[r.2.2].toNat = false)

theorem first_ok (l : List UInt8) (hr : (first l).2.2 ≠ 0) : FirstOk l (first l) := by
  have hle := first_le l
  unfold first at hr hle ⊢
  cases hh : l.head? with
  | none => rw [hh] at hr; simp at hr
  | some c =>
    rw [hh] at hr hle
    simp only at hr hle ⊢
    have h0 : ∀ h : 0 < l.length, l[0] = c := by
      intro h
      rw [List.head?_eq_getElem?, List.getElem?_eq_getElem h] at hh
      exact Option.some.inj hh
    cases hd : dig c.toNat
    · rw [hd] at hr hle
      cases hl : let' c.toNat
      · rw [hl] at hr hle
        by_cases h34 : c.toNat = 34
        · rw [if_pos h34] at hr hle ⊢
          simp only [Bool.false_eq_true, if_false] at hr hle ⊢
          unfold text at hr hle ⊢
          split at hr
          · simp at hr
          · rename_i hn
            rw [if_neg hn] at hle ⊢
            have h2 : sp txt l.tail + 2 ≤ l.length := hle
            refine ⟨hle, ?_, by simp, by simp, by simp⟩
            simp; omega
        · rw [if_neg h34] at hr hle ⊢
          simp only [Bool.false_eq_true, if_false] at hr hle ⊢
          unfold sign at hr hle ⊢
          split at hr
          · simp at hr
          · rename_i hn
            rw [if_neg hn] at hle ⊢
            have h2 : longest l signs ≤ l.length := hle
            refine ⟨hle, ?_, by simp, by simp, by simp⟩
            simp; omega
      · rw [hl] at hr hle
        simp only [Bool.false_eq_true, if_false, if_true] at hr hle ⊢
        unfold name at hr hle ⊢
        split at hr
        · simp at hr
        · rename_i hn
          rw [if_neg hn] at hle ⊢
          have h2 : sp nam l ≤ l.length := hle
          refine ⟨hle, ?_, ?_, ?_, ?_⟩
          · cases isWord (l.take (sp nam l)) <;> simp <;> omega
          · cases isWord (l.take (sp nam l)) <;> simp
          · intro _
            exact ⟨fun h => by rw [h0 h]; exact hl, fun h => sp_end nam l h⟩
          · cases isWord (l.take (sp nam l)) <;> simp
    · rw [hd] at hr hle
      simp only [if_true] at hr hle ⊢
      unfold number at hr hle ⊢
      split at hr
      · simp at hr
      · rename_i hn
        rw [if_neg hn] at hle ⊢
        have h2 : sp dig l ≤ l.length := hle
        refine ⟨hle, ?_, by simp, by simp, ?_⟩
        · simp; omega
        · intro _
          exact ⟨fun h => by rw [h0 h]; exact hd, fun h => sp_end dig l h⟩

theorem scanF_apart : ∀ (f : Nat) (l : List UInt8) (a : Nat) (acc : List Tk) (pk : Int), l.length - a < f → a ≤ l.length → munch l a pk → (scanF f l a acc).2.1 = 0 →
    ∃ suf last, (scanF f l a acc).1 = acc ++ suf ∧ chk l a pk suf ∧ suf.getLast? = some last ∧ last.kind = 6
  | 0, l, a, acc, pk, hf, _, _, _ => by omega
  | f + 1, l, a, acc, pk, hf, ha, hm, he => by
    have hsl := sp_le blank (l.drop a)
    rw [List.length_drop] at hsl
    have hbl : ∀ k (h : k < l.length), a ≤ k → k < a + sp blank (l.drop a) → blank l[k].toNat = true := by
      intro k h h1 h2
      have := sp_all blank (l.drop a) (k - a) (by rw [List.length_drop]; omega) (by omega)
      rw [List.getElem_drop] at this
      simpa [show a + (k - a) = k by omega] using this
    simp only [scanF] at he ⊢
    by_cases h1 : l.length ≤ a + sp blank (l.drop a)
    · rw [if_pos h1]
      refine ⟨[⟨6, [], l.length⟩], ⟨6, [], l.length⟩, rfl, ?_, rfl, rfl⟩
      refine ⟨ha, Nat.le_refl _, fun k h h2 h3 => hbl k h h2 (by omega), by simp [plain], ?_⟩
      simp [chk, tend]
    · rw [if_neg h1] at he ⊢
      by_cases h2 : (first (l.drop (a + sp blank (l.drop a)))).2.2 = 0
      · rw [if_pos h2] at he; simp at he
      · rw [if_neg h2] at he ⊢
        by_cases h3 : acc.length = 1000
        · rw [if_pos h3] at he; simp at he
        · rw [if_neg h3] at he ⊢
          have ho := first_ok (l.drop (a + sp blank (l.drop a))) h2
          generalize hb : a + sp blank (l.drop a) = b at *
          generalize first (l.drop b) = r at *
          obtain ⟨k, t, n⟩ := r
          have hle := ho.le
          have hsz := ho.size
          simp only [List.length_drop] at h2 he hle hsz ⊢
          have hget : ∀ j (h : b + j < l.length), (l.drop b)[j]'(by rw [List.length_drop]; omega) = l[b + j] := fun j h => by rw [List.getElem_drop]
          have hm2 : munch l (b + n) k := by
            refine ⟨fun hk h => ?_, fun hk h => ?_⟩
            · have := (ho.name hk).2 (by rw [List.length_drop]; show n < _; omega)
              simp only at this
              rw [hget n h] at this
              exact this
            · have := (ho.num hk).2 (by rw [List.length_drop]; show n < _; omega)
              simp only at this
              rw [hget n h] at this
              exact this
          obtain ⟨suf, last, hs1, hs2, hs3, hs4⟩ := scanF_apart f l (b + n) (acc ++ [⟨k, t, b⟩]) k (by omega) (by omega) hm2 he
          refine ⟨⟨k, t, b⟩ :: suf, last, by rw [hs1]; simp, ?_, ?_, hs4⟩
          · refine ⟨by show a ≤ b; omega, by show b ≤ _; omega, hbl, ?_, ?_⟩
            · intro hp hab hpk
              have hab' : b = a := hab
              subst hab'
              have hlt : b < l.length := by omega
              have g0 := hget 0 (by omega)
              simp only [Nat.add_zero] at g0
              simp only [plain, Bool.or_eq_true, beq_iff_eq] at hp hpk
              have e1 : k = 1 ∨ k = 2 → let' l[b].toNat = true := fun hk => by
                have := (ho.name hk).1 (by rw [List.length_drop]; omega)
                rw [g0] at this
                exact this
              have e2 : k = 3 → dig l[b].toNat = true := fun hk => by
                have := (ho.num hk).1 (by rw [List.length_drop]; omega)
                rw [g0] at this
                exact this
              have m1 : pk = 1 ∨ pk = 2 → False := fun h => by
                have := hm.1 h hlt
                simp only [nam, Bool.or_eq_false_iff] at this
                rcases hp with hp | hp
                · rw [e1 hp] at this; simp at this
                · rw [e2 hp] at this; simp at this
              have m2 : pk = 3 → k ≠ 3 := fun h hk => by
                have := hm.2 h hlt
                rw [e2 hk] at this; simp at this
              rcases hpk with h | h
              · exact (m1 h).elim
              · exact ⟨h, m2 h⟩
            · have : tend ⟨k, t, b⟩ = b + n := by simp only [tend]; omega
              rw [this]
              exact hs2
          · cases suf with
            | nil => simp at hs3
            | cons x xs => rw [List.getLast?_cons_cons]; exact hs3

/-- The tokens of a text stand apart, if there is no fault. -/
theorem scan_apart (l : List UInt8) (h : (scan l).2.1 = 0) : chk l 0 0 (scan l).1 ∧ ∃ last, (scan l).1.getLast? = some last ∧ last.kind = 6 := by
  unfold scan at h ⊢
  split at h
  · simp at h
  · rename_i hn
    rw [if_neg hn]
    obtain ⟨suf, last, h1, h2, h3, h4⟩ := scanF_apart (l.length + 1) l 0 [] 0 (by omega) (by omega) ⟨by simp, by simp⟩ h
    rw [h1]
    exact ⟨h2, last, h3, h4⟩

/-- With a fault there are no tokens. -/
theorem scan_none (l : List UInt8) (h : (scan l).2.1 ≠ 0) : (scan l).1 = [] := by
  have key : ∀ (f : Nat) (l : List UInt8) (a : Nat) (acc : List Tk), (scanF f l a acc).2.1 ≠ 0 → (scanF f l a acc).1 = [] := by
    intro f
    induction f with
    | zero => intro l a acc h; simp [scanF]
    | succ f ih =>
      intro l a acc h
      simp only [scanF] at h ⊢
      split at h
      · simp at h
      rename_i h1
      rw [if_neg h1]
      split at h
      · rename_i h2; rw [if_pos h2]
      rename_i h2
      rw [if_neg h2]
      split at h
      · rename_i h3; rw [if_pos h3]
      rename_i h3
      rw [if_neg h3]
      exact ih _ _ _ h
  unfold scan at h ⊢
  split at h
  · rename_i h1; rw [if_pos h1]
  · rename_i h1; rw [if_neg h1]; exact key _ _ _ _ h

end Go.Proofs.YtkilicjjaljghaaGreat.M

/- Plain facts: the tokens of a text end with the end, and have it nowhere else. -/
namespace Go.Proofs.YtkilicjjaljghaaGreat.M

theorem scanF_shape : ∀ (f : Nat) (l : List UInt8) (a : Nat) (acc : List Tk), l.length - a < f → a ≤ l.length → (∀ t ∈ acc, t.kind ≠ 6) → acc.length ≤ 1000 → (scanF f l a acc).2.1 = 0 →
    ∃ pre, (scanF f l a acc).1 = pre ++ [⟨6, [], l.length⟩] ∧ (∀ t ∈ pre, t.kind ≠ 6) ∧ pre.length ≤ 1000
  | 0, l, a, acc, hf, _, _, _, _ => by omega
  | f + 1, l, a, acc, hf, ha, hm, hn, he => by
    simp only [scanF] at he ⊢
    by_cases h1 : l.length ≤ a + sp blank (l.drop a)
    · rw [if_pos h1]
      exact ⟨acc, rfl, hm, hn⟩
    · rw [if_neg h1] at he ⊢
      by_cases h2 : (first (l.drop (a + sp blank (l.drop a)))).2.2 = 0
      · rw [if_pos h2] at he; simp at he
      · rw [if_neg h2] at he ⊢
        by_cases h3 : acc.length = 1000
        · rw [if_pos h3] at he; simp at he
        · rw [if_neg h3] at he ⊢
          have ho := first_ok (l.drop (a + sp blank (l.drop a))) h2
          have hle := ho.le
          rw [List.length_drop] at hle
          refine scanF_shape f l _ _ (by omega) (by omega) ?_ (by simp; omega) he
          intro t ht
          rw [List.mem_append] at ht
          rcases ht with ht | ht
          · exact hm t ht
          · simp only [List.mem_singleton] at ht
            subst ht
            exact ho.kind

theorem scan_shape (l : List UInt8) (h : (scan l).2.1 = 0) : ∃ pre, (scan l).1 = pre ++ [⟨6, [], l.length⟩] ∧ (∀ t ∈ pre, t.kind ≠ 6) ∧ pre.length ≤ 1000 := by
  unfold scan at h ⊢
  split at h
  · simp at h
  · rename_i hn
    rw [if_neg hn]
    exact scanF_shape (l.length + 1) l 0 [] (by omega) (by omega) (by simp) (by simp) h

theorem scan_last (l : List UInt8) (h : (scan l).2.1 = 0) : (scan l).1.length ≤ 1001 ∧ 0 < (scan l).1.length ∧ ∀ i, i < (scan l).1.length → ((tk (scan l).1 i).kind = 6 ↔ i + 1 = (scan l).1.length) := by
  obtain ⟨pre, h1, h2, h3⟩ := scan_shape l h
  rw [h1]
  refine ⟨by simp; omega, by simp, fun i hi => ?_⟩
  simp only [List.length_append, List.length_cons, List.length_nil] at hi ⊢
  by_cases hp : i < pre.length
  · have e : tk (pre ++ [⟨6, [], l.length⟩]) i = pre[i] := by
      unfold tk List.getD
      rw [List.getElem?_append_left hp, List.getElem?_eq_getElem hp]
      rfl
    rw [e]
    have := h2 pre[i] (List.getElem_mem _)
    constructor
    · intro h; exact absurd h this
    · omega
  · have hi2 : i = pre.length := by omega
    subst hi2
    simp [tk, List.getD]

/-- What Type answers of a text: its types, or a fault. -/
def TRes (l : List UInt8) : (Int × Int) ⊕ List Ty → Prop
  | .inl (er, p) => er ≠ 0 ∧ ((scan l).2.1 = er ∧ ((scan l).2.2 : Int) = p ∨ (scan l).2.1 = 0 ∧ (Ev (scan l).1 (fun r => r.typ 0 ⟨0, [], []⟩) (.fail er p) ∨
      ∃ s' x, Ev (scan l).1 (fun r => r.typ 0 ⟨0, [], []⟩) (.ok s' x) ∧ (if (tk (scan l).1 s'.i).kind = 6 then (1200 < s'.N.length ∨ 300 < s'.T.length) ∧ er = 2 ∧ p = 0 else er = 1 ∧ p = ((tk (scan l).1 s'.i).at' : Int))))
  | .inr T => (scan l).2.1 = 0 ∧ ∃ s' x, Ev (scan l).1 (fun r => r.typ 0 ⟨0, [], []⟩) (.ok s' x) ∧ (tk (scan l).1 s'.i).kind = 6 ∧ s'.N.length ≤ 1200 ∧ s'.T.length ≤ 300 ∧ T = s'.T
end Go.Proofs.YtkilicjjaljghaaGreat.M
