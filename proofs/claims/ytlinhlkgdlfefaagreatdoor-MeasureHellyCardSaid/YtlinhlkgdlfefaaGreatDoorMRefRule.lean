/- What rounding keeps: whole multiples, the distance, the order. -/
import Derived.Test.YtlinhlkgdlfefaaGreatDoorMRounded
import Derived.Test.YtlinhlkgdlfefaaGreatDoorMKeeps
set_option linter.all false
namespace Go.Proofs.YtlinhlkgdlfefaaGreatDoor
open Go.RowKit
end Go.Proofs.YtlinhlkgdlfefaaGreatDoor
namespace Go.Proofs.YtlinhlkgdlfefaaGreatDoor
open Go.RowKit
theorem qyp{w:World}(hg:GW w)(k s:ByteArray):Inv (qoa w k s):=⟨fun _ _ h hb=>h.later hb,fun _ h=>hg.later h.1⟩
theorem qd3{w W:World}{k s:ByteArray}(h:qoa w k s W):W.cell? ⟨w.heap.size,0,none⟩=some (.string k)∧W.cell? ⟨w.heap.size,1,none⟩=some (.string s):=⟨(h.2.2 0 (by omega)).1,(h.2.2 1 (by omega)).1⟩
end Go.Proofs.YtlinhlkgdlfefaaGreatDoor
