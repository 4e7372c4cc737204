/- What rounding keeps: whole multiples, the distance, the order. -/
import Derived.Test.YthjagoogkkgelaaGreatDoorMRounded
import Derived.Test.YthjagoogkkgelaaGreatDoorMKeeps
set_option linter.all false
namespace Go.Proofs.YthjagoogkkgelaaGreatDoor
open Go.RowKit
end Go.Proofs.YthjagoogkkgelaaGreatDoor
namespace Go.Proofs.YthjagoogkkgelaaGreatDoor
open Go.RowKit
theorem qym{w:World}(hg:GW w)(k s:ByteArray):Inv (qph w k s):=⟨fun _ _ h hb=>h.later hb,fun _ h=>hg.later h.1⟩
theorem qdf{w W:World}{k s:ByteArray}(h:qph w k s W):W.cell? ⟨w.heap.size,0,none⟩=some (.string k)∧W.cell? ⟨w.heap.size,1,none⟩=some (.string s):=⟨(h.2.2 0 (by omega)).1,(h.2.2 1 (by omega)).1⟩
end Go.Proofs.YthjagoogkkgelaaGreatDoor
