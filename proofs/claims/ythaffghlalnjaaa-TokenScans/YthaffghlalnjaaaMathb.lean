/-
  Plain functions on lists of bytes, further: words, signs, the first token.
-/
import Derived.Test.YthaffghlalnjaaaMath
namespace Go.Proofs.Ythaffghlalnjaaa.M

/-- The words of the language. -/
def words : List (List UInt8) := [[108, 101, 116], [102, 110], [105, 102], [101, 108, 115, 101], [119, 104, 105, 108, 101], [114, 101, 116, 117, 114, 110], [112, 114, 105, 110, 116], [116, 114, 117, 101], [102, 97, 108, 115, 101], [110, 117, 108, 108], [97, 115], [116, 121, 112, 101, 111, 102], [110, 117, 109], [98, 111, 111, 108], [116, 101, 120, 116], [97, 110, 121], [117, 110, 107, 110, 111, 119, 110]]
def has (gs : List (List UInt8)) (l : List UInt8) : Bool := gs.contains l
def isWord (l : List UInt8) : Bool := has words l

/-- The signs. -/
def signs : List (List UInt8) := [[61, 61], [61, 62], [40], [41], [123], [125], [91], [93], [44], [59], [58], [46], [61], [60], [43], [45], [42], [33], [124]]
/-- The size of the longest of some signs that a text begins with. -/
def longest (l : List UInt8) (gs : List (List UInt8)) : Nat := gs.foldl (fun m g => if g.isPrefixOf l then max m g.length else m) 0

theorem has_snoc (l : List UInt8) (gs : List (List UInt8)) (k : Nat) (h : k < gs.length) : has (gs.take (k + 1)) l = (has (gs.take k) l || l == gs[k]) := by
  rw [List.take_succ_eq_append_getElem h]
  generalize gs.take k = a
  generalize gs[k] = b
  rw [Bool.eq_iff_iff]
  simp [has]

theorem has_mem {l : List UInt8} {gs : List (List UInt8)} (h : l ∈ gs) : has gs l = true := by simp [has, h]

/-- A token: its kind, its text, where it stands. -/
structure Tk where
  kind : Int
  text : List UInt8
  at' : Nat

def number (l : List UInt8) : Int × List UInt8 × Nat :=
  if 9 < sp dig l ∨ l.head? = some 48 ∧ 1 < sp dig l then (0, [], 0) else (3, l.take (sp dig l), sp dig l)
def name (l : List UInt8) : Int × List UInt8 × Nat :=
  if 20 < sp nam l then (0, [], 0) else (if isWord (l.take (sp nam l)) then 2 else 1, l.take (sp nam l), sp nam l)
def text (l : List UInt8) : Int × List UInt8 × Nat :=
  if 30 < sp txt l.tail ∨ (l.tail.drop (sp txt l.tail)).head? ≠ some 34 then (0, [], 0) else (4, l.tail.take (sp txt l.tail), sp txt l.tail + 2)
def sign (l : List UInt8) : Int × List UInt8 × Nat :=
  if longest l signs = 0 then (0, [], 0) else (5, l.take (longest l signs), longest l signs)

/-- The first token of a text that is not empty: its kind, its text, its size; size 0: there is none. -/
def first (l : List UInt8) : Int × List UInt8 × Nat :=
  match l.head? with
  | none => (0, [], 0)
  | some c => if dig c.toNat then number l else if let' c.toNat then name l else if c.toNat = 34 then text l else sign l

end Go.Proofs.Ythaffghlalnjaaa.M
