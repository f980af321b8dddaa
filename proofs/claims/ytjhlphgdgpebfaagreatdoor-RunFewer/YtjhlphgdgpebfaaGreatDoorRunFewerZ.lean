/-
  A part of the proof.
-/
import Derived.Test.YtjhlphgdgpebfaaGreatDoorRows
import Derived.ProofKit
import Derived.JoinedOf
set_option maxHeartbeats 16000000
set_option maxRecDepth 100000
namespace Go.Proofs.YtjhlphgdgpebfaaGreatDoor.runFewer
theorem facts:joinedFacts Tryz.prog 3 Tryz.f3 Rows.runFewerSpec Rows.runFewerRow=true:=by
 unfold joinedFacts
 simp only[Bool.and_eq_true]
 repeat' apply And.intro
 all_goals (as_aux_lemma=>kernel_rfl)
end Go.Proofs.YtjhlphgdgpebfaaGreatDoor.runFewer
