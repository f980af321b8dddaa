/-
  No cell of these rows narrows 'for every input' (looked for: loops, veiled, ifaces, maps, wideKeys, modest, calm, conditions, laid).
  DERIVED. THE GIVEN ROWS OF THIS SEAT. 3 by the template 'for every input the law returns true; each argument reads behind the call as it read before'; 0 by the template 'total and deterministic' (their statements: YtkilicjjaljghaaGreatTotals.lean).
  GIVEN WITH THE SEED: the statements are not yours to turn. If you find one false, say at which input.
  Laid BY PROGRAM, IN A SANDBOX (cutbox-rows.mjs): the forced cells as the released guide's own fill.sh prints them over the translation 39389326d58abb75… (all of the seat's roots in one cut). By AI agents, Wed Nov 11 2026. No macro, syntax, notation, axiom, sorry.
-/
import Derived.Test.YtkilicjjaljghaaGreatChecked
import GoSem.Claim
import GoSem.ClaimJoined
import GoSem.ClaimMapViews
import Derived.JoinedTies
import Derived.KernelRfl
namespace Go.Proofs.YtkilicjjaljghaaGreat
/- THE CELL 'sum', in the pinned program and in every row, IS THE sha256 OF THE DUMP (.gsa) THAT YtkilicjjaljghaaGreatProg.lean LOADS. Nothing in Lean hashes anything: it is a label: what it is worth is what the hold of that sum in a sandbox is worth. -/
noncomputable def Tryz.pinned : Pinned := { name := "ytkilicjjaljghaagreat", sum := "39389326d58abb7590fae775f7276ab4e0f3671881647dcaa7420df6356a8ecc", checked := Tryz.checked }
namespace Rows
def none {H : Type} : Left H := { results := [], args := [] }

/-- 'guardraillaw.TypesFit': WHATEVER THE INPUT: true; the input reads as it did. -/
def typesFitSpec : ChangeSpec := { name := "typesFit", fn := fun _ => fun
  | [d1, d2] => { results := [.lit (.bool true)], args := [d1, d2] }
  | _ => none }
def typesFitRow : OpenClaim := { program := "ytkilicjjaljghaagreat", sum := "39389326d58abb7590fae775f7276ab4e0f3671881647dcaa7420df6356a8ecc", func := "guardrail/guardraillaw.TypesFit", spec := "typesFit", inPlace := ["internal/bytealg.abigen_runtime_cmpstring", "internal/abi.NoEscape"], unfollowed := true, recurses := true, plainKeys := false, apart := false }
def TypesFitSaid : Prop := typesFitRow.holds Tryz.pinned (OpenSpec.ofChange typesFitSpec)

/-- ITS FALSE NEIGHBOUR: 'it returns false'. Refute it at one input. -/
def typesFitWrong : ChangeSpec := { name := "typesFit", fn := fun _ => fun
  | [d1, d2] => { results := [.lit (.bool false)], args := [d1, d2] }
  | _ => none }
def TypesFitWrongFalsely : Prop := typesFitRow.holds Tryz.pinned (OpenSpec.ofChange typesFitWrong)

/-- 'guardraillaw.TypesUnion': WHATEVER THE INPUT: true; the input reads as it did. -/
def typesUnionSpec : ChangeSpec := { name := "typesUnion", fn := fun _ => fun
  | [d] => { results := [.lit (.bool true)], args := [d] }
  | _ => none }
def typesUnionRow : OpenClaim := { program := "ytkilicjjaljghaagreat", sum := "39389326d58abb7590fae775f7276ab4e0f3671881647dcaa7420df6356a8ecc", func := "guardrail/guardraillaw.TypesUnion", spec := "typesUnion", inPlace := ["internal/bytealg.abigen_runtime_cmpstring", "internal/abi.NoEscape"], unfollowed := true, recurses := true, plainKeys := false, apart := false }
def TypesUnionSaid : Prop := typesUnionRow.holds Tryz.pinned (OpenSpec.ofChange typesUnionSpec)

/-- ITS FALSE NEIGHBOUR: 'it returns false'. Refute it at one input. -/
def typesUnionWrong : ChangeSpec := { name := "typesUnion", fn := fun _ => fun
  | [d] => { results := [.lit (.bool false)], args := [d] }
  | _ => none }
def TypesUnionWrongFalsely : Prop := typesUnionRow.holds Tryz.pinned (OpenSpec.ofChange typesUnionWrong)

/-- 'guardraillaw.TypesHang': WHATEVER THE INPUT: true; the input reads as it did. -/
def typesHangSpec : ChangeSpec := { name := "typesHang", fn := fun _ => fun
  | [d1, d2] => { results := [.lit (.bool true)], args := [d1, d2] }
  | _ => none }
def typesHangRow : OpenClaim := { program := "ytkilicjjaljghaagreat", sum := "39389326d58abb7590fae775f7276ab4e0f3671881647dcaa7420df6356a8ecc", func := "guardrail/guardraillaw.TypesHang", spec := "typesHang", inPlace := ["internal/bytealg.abigen_runtime_cmpstring", "internal/abi.NoEscape"], unfollowed := true, recurses := true, plainKeys := false, apart := false }
def TypesHangSaid : Prop := typesHangRow.holds Tryz.pinned (OpenSpec.ofChange typesHangSpec)

/-- ITS FALSE NEIGHBOUR: 'it returns false'. Refute it at one input. -/
def typesHangWrong : ChangeSpec := { name := "typesHang", fn := fun _ => fun
  | [d1, d2] => { results := [.lit (.bool false)], args := [d1, d2] }
  | _ => none }
def TypesHangWrongFalsely : Prop := typesHangRow.holds Tryz.pinned (OpenSpec.ofChange typesHangWrong)

/- THE SECOND FORM. 'bulk': how many values and letters a reading holds, each counted each time it is reached (what is shared counts as often as it is met; a slice's spare places count too). A statement '..UptoSaid' is the law's where the arguments, and the package variables that the reading takes, are together of bulk at most 1048576: NARROWER than '..Said'. Prove '..Said' where nothing that the law and all that it calls make is longer than what came in: it says more and counts as full. Else prove '..UptoSaid'. A law counts once. -/
mutual
def uptoBulk {H : Type} : DataW H → Nat
  | .lit (.string bytes) => bytes.length + 1
  | .lit _ => 1
  | .nil => 1
  | .ptr d => uptoBulk d + 1
  | .slice elems spare => uptoBulkAll elems + uptoBulkAll spare + 1
  | .agg parts => uptoBulkAll parts + 1
  | .iface _ d => uptoBulk d + 1
  | .map entries => uptoBulkEntries entries + 1
  | .held _ => 1
def uptoBulkAll {H : Type} : List (DataW H) → Nat
  | [] => 0
  | d :: r => uptoBulk d + uptoBulkAll r
def uptoBulkEntries {H : Type} : List (Lit × DataW H) → Nat
  | [] => 0
  | x :: r => uptoBulkEntry x + uptoBulkEntries r
def uptoBulkEntry {H : Type} : Lit × DataW H → Nat
  | (.string bytes, d) => bytes.length + uptoBulk d + 1
  | (_, d) => uptoBulk d + 1
 end
def uptoSmall : (H : Type) → List (DataW H) → Bool := fun _ ds => decide (uptoBulkAll ds ≤ 1048576)
def OpenSpec.upto (s : _root_.Go.ChangeSpec) : _root_.Go.OpenSpec := { _root_.Go.OpenSpec.ofChange s with cond := some uptoSmall }

/-- 'guardraillaw.TypesFit', WHERE WHAT IT READS IS OF BULK AT MOST 1048576: true; the input reads as it did. -/
def typesFitUptoRow : OpenClaim := { program := "ytkilicjjaljghaagreat", sum := "39389326d58abb7590fae775f7276ab4e0f3671881647dcaa7420df6356a8ecc", func := "guardrail/guardraillaw.TypesFit", spec := "typesFit", inPlace := ["internal/bytealg.abigen_runtime_cmpstring", "internal/abi.NoEscape"], unfollowed := true, recurses := true, plainKeys := false, apart := false, narrowed := true }
def TypesFitUptoSaid : Prop := typesFitUptoRow.holds Tryz.pinned (OpenSpec.upto typesFitSpec)

/-- 'guardraillaw.TypesUnion', WHERE WHAT IT READS IS OF BULK AT MOST 1048576: true; the input reads as it did. -/
def typesUnionUptoRow : OpenClaim := { program := "ytkilicjjaljghaagreat", sum := "39389326d58abb7590fae775f7276ab4e0f3671881647dcaa7420df6356a8ecc", func := "guardrail/guardraillaw.TypesUnion", spec := "typesUnion", inPlace := ["internal/bytealg.abigen_runtime_cmpstring", "internal/abi.NoEscape"], unfollowed := true, recurses := true, plainKeys := false, apart := false, narrowed := true }
def TypesUnionUptoSaid : Prop := typesUnionUptoRow.holds Tryz.pinned (OpenSpec.upto typesUnionSpec)

/-- 'guardraillaw.TypesHang', WHERE WHAT IT READS IS OF BULK AT MOST 1048576: true; the input reads as it did. -/
def typesHangUptoRow : OpenClaim := { program := "ytkilicjjaljghaagreat", sum := "39389326d58abb7590fae775f7276ab4e0f3671881647dcaa7420df6356a8ecc", func := "guardrail/guardraillaw.TypesHang", spec := "typesHang", inPlace := ["internal/bytealg.abigen_runtime_cmpstring", "internal/abi.NoEscape"], unfollowed := true, recurses := true, plainKeys := false, apart := false, narrowed := true }
def TypesHangUptoSaid : Prop := typesHangUptoRow.holds Tryz.pinned (OpenSpec.upto typesHangSpec)

end Rows
end Go.Proofs.YtkilicjjaljghaaGreat
