/-
  A part of the proof.
-/
import Derived.Shelf.SlMaps.Clone
import Derived.Ground.SlmcProg
import Derived.Test.YtllclkcjdhoohaaGreatDoorProg
namespace Go.Proofs
open Go.Shelf
def Tryz.mapsClone_ren : Go.Shelf.Ren := ⟨fun | 5 => 221 | 7 => 265 | n => n, fun | 23 => 64 | 25 => 3 | 3 => 3 | 4 => 4 | 20 => 20 | n => n, fun | n => n⟩
theorem Tryz.mapsClone : Go.Proofs.SlLaysW.n5 Tryz.prog Tryz.mapsClone_ren:=by constructor<;>intros<;>first|kernel_rfl|exact⟨Tryz.f221.name,by decide,Tryz.func221.trans (congrArg some (by kernel_rfl))⟩
end Go.Proofs
