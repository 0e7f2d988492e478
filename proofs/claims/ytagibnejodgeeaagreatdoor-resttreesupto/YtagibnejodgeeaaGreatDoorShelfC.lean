/- The clone of a map: laid at this dump by the tools of the kit in plain words. -/
import Derived.Shelf.SlMaps.Clone
import Derived.Test.YtagibnejodgeeaaGreatDoorProg
namespace Go.Proofs
open Go.Shelf
def Tryz.cloneK_ren : Go.Shelf.Ren := ⟨fun | 5 => 99 | 7 => 116 | n => n, fun | 23 => 52 | 25 => 9 | 3 => 89 | 4 => 4 | 20 => 20 | n => n, fun | n => n⟩
theorem Tryz.cloneK : Go.Proofs.SlLaysW.n5 Tryz.prog Tryz.cloneK_ren := {
  mixed := by kernel_rfl
  f5 := ⟨Tryz.f99.name, by decide, Tryz.func99.trans (congrArg some (by kernel_rfl))⟩
  f7 := Tryz.func116.trans (congrArg some (by kernel_rfl))
  t4 := Tryz.underlying4
  a4 := Tryz.isAgg4
  z4 := Tryz.sizeOf4
  v4 := Tryz.zeroValue4
  t20 := Tryz.underlying20
  a20 := Tryz.isAgg20
  z20 := Tryz.sizeOf20
  v20 := Tryz.zeroValue20
  t23 := Tryz.underlying52
  a23 := Tryz.isAgg52
  z23 := Tryz.sizeOf52
  v23 := Tryz.zeroValue52 }
end Go.Proofs
