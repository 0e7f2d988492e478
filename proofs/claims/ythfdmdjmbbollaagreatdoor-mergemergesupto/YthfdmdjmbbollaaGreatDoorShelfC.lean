/- The clone of a map: laid at this dump by the tools of the kit in plain words. -/
import Derived.Shelf.SlMaps.Clone
import Derived.Test.YthfdmdjmbbollaaGreatDoorProg
namespace Go.Proofs
open Go.Shelf
def Tryz.cloneK_ren : Go.Shelf.Ren := ⟨fun | 5 => 81 | 7 => 101 | n => n, fun | 23 => 39 | 25 => 9 | 3 => 74 | 4 => 4 | 20 => 20 | n => n, fun | n => n⟩
theorem Tryz.cloneK : Go.Proofs.SlLaysW.n5 Tryz.prog Tryz.cloneK_ren := {
  mixed := by kernel_rfl
  f5 := ⟨Tryz.f81.name, by decide, Tryz.func81.trans (congrArg some (by kernel_rfl))⟩
  f7 := Tryz.func101.trans (congrArg some (by kernel_rfl))
  t4 := Tryz.underlying4
  a4 := Tryz.isAgg4
  z4 := Tryz.sizeOf4
  v4 := Tryz.zeroValue4
  t20 := Tryz.underlying20
  a20 := Tryz.isAgg20
  z20 := Tryz.sizeOf20
  v20 := Tryz.zeroValue20
  t23 := Tryz.underlying39
  a23 := Tryz.isAgg39
  z23 := Tryz.sizeOf39
  v23 := Tryz.zeroValue39 }
end Go.Proofs
