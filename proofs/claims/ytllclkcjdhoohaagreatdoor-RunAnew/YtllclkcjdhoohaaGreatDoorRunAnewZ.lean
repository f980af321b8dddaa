/-
  A part of the proof.
-/
import Derived.Test.YtllclkcjdhoohaaGreatDoorRows
import Derived.Test.YtllclkcjdhoohaaGreatDoorRunA
import Derived.ProofKit
import Derived.JoinedOf
set_option maxHeartbeats 16000000
set_option maxRecDepth 100000
set_option linter.unusedVariables false
namespace Go.Proofs.YtllclkcjdhoohaaGreatDoor.runAnew
set_option maxHeartbeats 40000000 in
theorem facts:joinedFacts Tryz.prog 3 Tryz.f3 Rows.runAnewSpec Rows.runAnewRow=true:=by
 unfold joinedFacts;simp only [Bool.and_eq_true];repeat' apply And.intro
 all_goals (as_aux_lemma=>kernel_rfl)
end Go.Proofs.YtllclkcjdhoohaaGreatDoor.runAnew
