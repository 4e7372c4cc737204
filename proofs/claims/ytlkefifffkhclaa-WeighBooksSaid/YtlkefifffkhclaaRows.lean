/-
  No cell of these rows narrows 'for every input' (looked for: loops, veiled, ifaces, maps, wideKeys, modest, calm, conditions, laid).
  DERIVED. THE GIVEN ROWS OF THIS SEAT. 4 by the template 'for every input the law returns true; each argument reads behind the call as it read before'; 0 by the template 'total and deterministic' (their statements: YtlkefifffkhclaaTotals.lean).
  GIVEN WITH THE SEED: the statements are not yours to turn. If you find one false, say at which input.
  Laid BY PROGRAM, IN A SANDBOX (cutbox-rows.mjs): the forced cells as the released guide's own fill.sh prints them over the translation a2b95dce575e5a64… (all of the seat's roots in one cut). By AI agents, Wed Nov 11 2026. No macro, syntax, notation, axiom, sorry.
-/
import Derived.Test.YtlkefifffkhclaaChecked
import GoSem.Claim
import GoSem.ClaimJoined
import GoSem.ClaimMapViews
import Derived.JoinedTies
import Derived.KernelRfl
namespace Go.Proofs.Ytlkefifffkhclaa
/- THE CELL 'sum', in the pinned program and in every row, IS THE sha256 OF THE DUMP (.gsa) THAT YtlkefifffkhclaaProg.lean LOADS. Nothing in Lean hashes anything: it is a label: what it is worth is what the hold of that sum in a sandbox is worth. -/
noncomputable def Try.pinned : Pinned := { name := "ytlkefifffkhclaa", sum := "a2b95dce575e5a64fd4b495365a232d9ad55d481456106e0a8ab43b2e34c13de", checked := Try.checked }
namespace Rows
def none {H : Type} : Left H := { results := [], args := [] }

/-- 'bushellaw03.WeighNets': WHATEVER THE INPUT: true; the input reads as it did. -/
def weighNetsSpec : ChangeSpec := { name := "weighNets", fn := fun _ => fun
  | [d1, d2, d3] => { results := [.lit (.bool true)], args := [d1, d2, d3] }
  | _ => none }
def weighNetsRow : OpenClaim := { program := "ytlkefifffkhclaa", sum := "a2b95dce575e5a64fd4b495365a232d9ad55d481456106e0a8ab43b2e34c13de", func := "bushel/bushellaw03.WeighNets", spec := "weighNets", unfollowed := true, recurses := true, apart := false }
def WeighNetsSaid : Prop := weighNetsRow.holds Try.pinned (OpenSpec.ofChange weighNetsSpec)

/-- ITS FALSE NEIGHBOUR: 'it returns false'. Refute it at one input. -/
def weighNetsWrong : ChangeSpec := { name := "weighNets", fn := fun _ => fun
  | [d1, d2, d3] => { results := [.lit (.bool false)], args := [d1, d2, d3] }
  | _ => none }
def WeighNetsWrongFalsely : Prop := weighNetsRow.holds Try.pinned (OpenSpec.ofChange weighNetsWrong)

/-- 'bushellaw03.WeighDrifts': WHATEVER THE INPUT: true; the input reads as it did. -/
def weighDriftsSpec : ChangeSpec := { name := "weighDrifts", fn := fun _ => fun
  | [d1, d2, d3] => { results := [.lit (.bool true)], args := [d1, d2, d3] }
  | _ => none }
def weighDriftsRow : OpenClaim := { program := "ytlkefifffkhclaa", sum := "a2b95dce575e5a64fd4b495365a232d9ad55d481456106e0a8ab43b2e34c13de", func := "bushel/bushellaw03.WeighDrifts", spec := "weighDrifts", unfollowed := true, recurses := true, apart := false }
def WeighDriftsSaid : Prop := weighDriftsRow.holds Try.pinned (OpenSpec.ofChange weighDriftsSpec)

/-- ITS FALSE NEIGHBOUR: 'it returns false'. Refute it at one input. -/
def weighDriftsWrong : ChangeSpec := { name := "weighDrifts", fn := fun _ => fun
  | [d1, d2, d3] => { results := [.lit (.bool false)], args := [d1, d2, d3] }
  | _ => none }
def WeighDriftsWrongFalsely : Prop := weighDriftsRow.holds Try.pinned (OpenSpec.ofChange weighDriftsWrong)

/-- 'bushellaw03.WeighBooks': WHATEVER THE INPUT: true; the input reads as it did. -/
def weighBooksSpec : ChangeSpec := { name := "weighBooks", fn := fun _ => fun
  | [d1, d2] => { results := [.lit (.bool true)], args := [d1, d2] }
  | _ => none }
def weighBooksRow : OpenClaim := { program := "ytlkefifffkhclaa", sum := "a2b95dce575e5a64fd4b495365a232d9ad55d481456106e0a8ab43b2e34c13de", func := "bushel/bushellaw03.WeighBooks", spec := "weighBooks", unfollowed := true, recurses := true, apart := false }
def WeighBooksSaid : Prop := weighBooksRow.holds Try.pinned (OpenSpec.ofChange weighBooksSpec)

/-- ITS FALSE NEIGHBOUR: 'it returns false'. Refute it at one input. -/
def weighBooksWrong : ChangeSpec := { name := "weighBooks", fn := fun _ => fun
  | [d1, d2] => { results := [.lit (.bool false)], args := [d1, d2] }
  | _ => none }
def WeighBooksWrongFalsely : Prop := weighBooksRow.holds Try.pinned (OpenSpec.ofChange weighBooksWrong)

/-- 'bushellaw03.WeighTrue': WHATEVER THE INPUT: true; the input reads as it did. -/
def weighTrueSpec : ChangeSpec := { name := "weighTrue", fn := fun _ => fun
  | [d1, d2, d3] => { results := [.lit (.bool true)], args := [d1, d2, d3] }
  | _ => none }
def weighTrueRow : OpenClaim := { program := "ytlkefifffkhclaa", sum := "a2b95dce575e5a64fd4b495365a232d9ad55d481456106e0a8ab43b2e34c13de", func := "bushel/bushellaw03.WeighTrue", spec := "weighTrue", unfollowed := true, recurses := true, apart := false }
def WeighTrueSaid : Prop := weighTrueRow.holds Try.pinned (OpenSpec.ofChange weighTrueSpec)

/-- ITS FALSE NEIGHBOUR: 'it returns false'. Refute it at one input. -/
def weighTrueWrong : ChangeSpec := { name := "weighTrue", fn := fun _ => fun
  | [d1, d2, d3] => { results := [.lit (.bool false)], args := [d1, d2, d3] }
  | _ => none }
def WeighTrueWrongFalsely : Prop := weighTrueRow.holds Try.pinned (OpenSpec.ofChange weighTrueWrong)

/- THE SECOND FORM. 'bulk': how many values and letters a reading holds, each counted each time it is reached (what is shared counts as often as it is met; a slice's spare places count too). A statement '..UptoSaid' is the law's where the arguments, and the package variables that the reading takes, are together of bulk at most 1048576: NARROWER than '..Said'. Prove '..Said' where nothing that the law and all that it calls make is longer than what came in: it says more and counts as full. Else prove '..UptoSaid'. A law counts once. -/
mutual
def uptoBulk {H : Type} : DataW H → Nat
  | .lit (.string bytes) => bytes.length + 1
  | .lit _ => 1
  | .nil => 1
  | .ptr d => uptoBulk d + 1
  | .slice elems spare => uptoBulkAll elems + uptoBulkAll spare + 1
  | .agg parts => uptoBulkAll parts + 1
  | .iface _ d => uptoBulk d + 1
  | .map entries => uptoBulkEntries entries + 1
  | .held _ => 1
def uptoBulkAll {H : Type} : List (DataW H) → Nat
  | [] => 0
  | d :: r => uptoBulk d + uptoBulkAll r
def uptoBulkEntries {H : Type} : List (Lit × DataW H) → Nat
  | [] => 0
  | x :: r => uptoBulkEntry x + uptoBulkEntries r
def uptoBulkEntry {H : Type} : Lit × DataW H → Nat
  | (.string bytes, d) => bytes.length + uptoBulk d + 1
  | (_, d) => uptoBulk d + 1
 end
def uptoSmall : (H : Type) → List (DataW H) → Bool := fun _ ds => decide (uptoBulkAll ds ≤ 1048576)
def OpenSpec.upto (s : _root_.Go.ChangeSpec) : _root_.Go.OpenSpec := { _root_.Go.OpenSpec.ofChange s with cond := some uptoSmall }

/-- 'bushellaw03.WeighNets', WHERE WHAT IT READS IS OF BULK AT MOST 1048576: true; the input reads as it did. -/
def weighNetsUptoRow : OpenClaim := { program := "ytlkefifffkhclaa", sum := "a2b95dce575e5a64fd4b495365a232d9ad55d481456106e0a8ab43b2e34c13de", func := "bushel/bushellaw03.WeighNets", spec := "weighNets", unfollowed := true, recurses := true, apart := false, narrowed := true }
def WeighNetsUptoSaid : Prop := weighNetsUptoRow.holds Try.pinned (OpenSpec.upto weighNetsSpec)

/-- 'bushellaw03.WeighDrifts', WHERE WHAT IT READS IS OF BULK AT MOST 1048576: true; the input reads as it did. -/
def weighDriftsUptoRow : OpenClaim := { program := "ytlkefifffkhclaa", sum := "a2b95dce575e5a64fd4b495365a232d9ad55d481456106e0a8ab43b2e34c13de", func := "bushel/bushellaw03.WeighDrifts", spec := "weighDrifts", unfollowed := true, recurses := true, apart := false, narrowed := true }
def WeighDriftsUptoSaid : Prop := weighDriftsUptoRow.holds Try.pinned (OpenSpec.upto weighDriftsSpec)

/-- 'bushellaw03.WeighBooks', WHERE WHAT IT READS IS OF BULK AT MOST 1048576: true; the input reads as it did. -/
def weighBooksUptoRow : OpenClaim := { program := "ytlkefifffkhclaa", sum := "a2b95dce575e5a64fd4b495365a232d9ad55d481456106e0a8ab43b2e34c13de", func := "bushel/bushellaw03.WeighBooks", spec := "weighBooks", unfollowed := true, recurses := true, apart := false, narrowed := true }
def WeighBooksUptoSaid : Prop := weighBooksUptoRow.holds Try.pinned (OpenSpec.upto weighBooksSpec)

/-- 'bushellaw03.WeighTrue', WHERE WHAT IT READS IS OF BULK AT MOST 1048576: true; the input reads as it did. -/
def weighTrueUptoRow : OpenClaim := { program := "ytlkefifffkhclaa", sum := "a2b95dce575e5a64fd4b495365a232d9ad55d481456106e0a8ab43b2e34c13de", func := "bushel/bushellaw03.WeighTrue", spec := "weighTrue", unfollowed := true, recurses := true, apart := false, narrowed := true }
def WeighTrueUptoSaid : Prop := weighTrueUptoRow.holds Try.pinned (OpenSpec.upto weighTrueSpec)

end Rows
end Go.Proofs.Ytlkefifffkhclaa
