/-
  A part of the proof.
-/
import Derived.Test.YtllclkcjdhoohaaGreatDoorRows
import Derived.Test.YtllclkcjdhoohaaGreatDoorRunA
import Derived.ProofKit
import Derived.LaidMore
import Derived.OpenShut
import Derived.Stop.Joined
import Derived.Lib.LaidTab
set_option maxHeartbeats 16000000
set_option maxRecDepth 100000
set_option linter.unusedVariables false
namespace Go.Proofs.YtllclkcjdhoohaaGreatDoor.runAnew
open Go.ChangeShapes Go.WideShapes Go.ChangeAt Go.RowKit
theorem own:ownKnob Tryz.prog.godebug=none:=by kernel_rfl
theorem gPow:Tryz.prog.globalNamed "internal/strconv.uint64pow10"=some 1:=by kernel_rfl
theorem tPow:(Tryz.prog.globals[1]?).map (·.type)=some 296:=by kernel_rfl
theorem plainLaid:(Rows.runAnewRow.laid.all fun x=>x.2.handleName?.isNone)=true:=by kernel_rfl
theorem cPow:Tryz.prog.cellsOf 296=20:=by kernel_rfl
theorem cU64:Tryz.prog.cellsOf 227=1:=by kernel_rfl
theorem laidPow:(Rows.laid_internal_strconv_uint64pow10:DataW Unit)=Lib.tabData .u64 Lib.pow10Tab:=by kernel_rfl
theorem tab_of {W:World} (h:laidMetH Tryz.prog Rows.runAnewRow.laid W):Lib.TabIs Tryz.prog W "internal/strconv.uint64pow10" .u64 Lib.pow10Tab:=by
 rw [MakeChecks.laidMetH_plain _ _ _ plainLaid] at h;obtain ⟨ps,⟨g0,t0,cs0,f0,p0,q0,hg0,ht0,hv0,hd0,⟨g1,t1,cs1,f1,p1,q1,hg1,ht1,hv1,hd1,⟨g2,t2,cs2,f2,p2,q2,hg2,ht2,hv2,hd2,_,_⟩,_⟩,_⟩,_,_⟩:=h;obtain rfl:=Option.some.inj (gPow.symm.trans hg2);obtain rfl:=Option.some.inj (tPow.symm.trans ht2);rw [laidPow] at hd2;unfold Lib.TabIs;rw [hv2,←Lib.cells_of_tab Tryz.underlying296 Tryz.underlying227 cU64 cPow hd2]
theorem door_met (os:Os) (args:Array Value):laidMetH Tryz.prog Rows.runAnewRow.laid ((World.doorLaid Tryz.prog 4000 os).forCall (fun _ _=>0) ⟨#[],args,[]⟩).memory:=
 laidMetH_of_parts3 (fuel:=8) (laidMet_of_run' 8 (by kernel_rfl) (by kernel_rfl)) (by kernel_rfl) (by kernel_rfl)
end Go.Proofs.YtllclkcjdhoohaaGreatDoor.runAnew
