/- What rounding keeps: whole multiples, the distance, the order. -/
import Derived.Test.YtlkaldjmgamamaaGreatDoorMRounded
import Derived.Test.YtlkaldjmgamamaaGreatDoorMKeeps
set_option linter.all false
namespace Go.Proofs.YtlkaldjmgamamaaGreatDoor
open Go.RowKit
end Go.Proofs.YtlkaldjmgamamaaGreatDoor
namespace Go.Proofs.YtlkaldjmgamamaaGreatDoor
open Go.RowKit
theorem qyd{w:World}(hg:GW w)(k s:ByteArray):Inv (qn3 w k s):=⟨fun _ _ h hb=>h.later hb,fun _ h=>hg.later h.1⟩
theorem qdw{w W:World}{k s:ByteArray}(h:qn3 w k s W):W.cell? ⟨w.heap.size,0,none⟩=some (.string k)∧W.cell? ⟨w.heap.size,1,none⟩=some (.string s):=⟨(h.2.2 0 (by omega)).1,(h.2.2 1 (by omega)).1⟩
end Go.Proofs.YtlkaldjmgamamaaGreatDoor
