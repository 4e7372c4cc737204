/-
  The document's example, computed.
-/
import Derived.Test.YtncnpodanlhdkaaWExam
import Derived.Test.YtncnpodanlhdkaaWDrift2
namespace Go.Proofs.Ytncnpodanlhdkaa
set_option linter.all false
open Go.RowKit

theorem ev_net : netRg (14000, 14020) (4980, 5000) = (9000, 9040) ∧ netErr (14000, 14020) (4980, 5000) = 0 := by decide
theorem ev_drift : driftL [1000, 1000] (0, 0) (3, 6) 2 = [(998, 999), (996, 998)] := by kernel_rfl
theorem ev_shown : shownErr [1000, 1000] = 0 := by kernel_rfl
theorem ev_each : eachErr rangeErr [(0, 0), (3, 6)] = 0 := by kernel_rfl
theorem ev_near : (List.range 2).all (fun k => !farR (dRg [1000, 1000] (0, 0) (3, 6) k)) = true := by kernel_rfl
theorem ev_book1 : bookErr exS (exT 50 100) = 0 := by kernel_rfl
theorem ev_book2 : bookErr exS (exT 120 130) = 0 := by kernel_rfl
theorem ev_holds : holdsF exS (exT 50 100) [500, 480, 980, 50] = true := by kernel_rfl
theorem ev_tight : (settleF (newF exS (exT 50 100) [])).map (fun R => (R.2, (tightF R.1 4).map (·.2))) = some (true, some [(500, 510), (480, 500), (980, 1010), (50, 100)]) := by kernel_rfl
theorem ev_no : (settleF (newF exS (exT 120 130) [])).map (·.2) = some false := by kernel_rfl
theorem ev_min : (minF exS (exT 120 130) 4).map (·.2) = some [0, 1, 3] := by kernel_rfl
theorem ev_conf : confErr exS (exT 120 130) [0, 1] = 0 := by kernel_rfl
theorem ev_nums : numsErr [1, 0] 2 = 0 := by kernel_rfl
theorem ev_change : (settleF (newF exS (exT 50 100) [1, 0])).map (fun R => (R.2, R.1.arcs.length, (extF R.1 (R.1.arcs.length - 1)).map (·.2))) = some (true, 7, some (900, 950)) := by kernel_rfl
end Go.Proofs.Ytncnpodanlhdkaa
