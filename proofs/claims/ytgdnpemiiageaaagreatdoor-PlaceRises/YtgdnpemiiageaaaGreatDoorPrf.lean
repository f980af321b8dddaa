/-
  A part of the proof.
-/
import Derived.Test.YtgdnpemiiageaaaGreatDoorRows
import Derived.ProofKit
import Derived.JoinedOf
set_option maxHeartbeats 16000000
set_option maxRecDepth 100000
namespace Go.Proofs.YtgdnpemiiageaaaGreatDoor.placeRises
theorem facts:joinedFacts Tryz.prog 3 Tryz.f3 Rows.placeRisesSpec Rows.placeRisesRow=true:=by
 unfold joinedFacts
 simp only[Bool.and_eq_true]
 repeat' apply And.intro
 all_goals (as_aux_lemma=>kernel_rfl)
end Go.Proofs.YtgdnpemiiageaaaGreatDoor.placeRises
