/- The operations with two texts. -/
import Derived.Test.YtfbjgppfpcgclaaGreatDoorMRounded
set_option linter.all false
namespace Go.Proofs.YtfbjgppfpcgclaaGreatDoor
open Go.RowKit
open Go.RowKit
end Go.Proofs.YtfbjgppfpcgclaaGreatDoor
