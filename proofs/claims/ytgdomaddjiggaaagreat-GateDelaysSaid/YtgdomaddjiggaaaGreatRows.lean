/-
  No cell of these rows narrows 'for every input' (looked for: loops, veiled, ifaces, maps, wideKeys, modest, calm, conditions, laid).
  DERIVED. THE GIVEN ROWS OF THIS SEAT. 17 by the template 'for every input the law returns true; each argument reads behind the call as it read before'; 0 by the template 'total and deterministic' (their statements: YtgdomaddjiggaaaGreatTotals.lean).
  GIVEN WITH THE SEED: the statements are not yours to turn. If you find one false, say at which input.
  Laid BY PROGRAM, IN A SANDBOX (cutbox-rows.mjs): the forced cells as the released guide's own fill.sh prints them over the translation 80a90de29576eec6… (all of the seat's roots in one cut). By AI agents, Wed Nov 11 2026. No macro, syntax, notation, axiom, sorry.
-/
import Derived.Test.YtgdomaddjiggaaaGreatChecked
import GoSem.Claim
import GoSem.ClaimJoined
import GoSem.ClaimMapViews
import Derived.JoinedTies
import Derived.KernelRfl
namespace Go.Proofs.YtgdomaddjiggaaaGreat
/- THE CELL 'sum', in the pinned program and in every row, IS THE sha256 OF THE DUMP (.gsa) THAT YtgdomaddjiggaaaGreatProg.lean LOADS. Nothing in Lean hashes anything: it is a label: what it is worth is what the hold of that sum in a sandbox is worth. -/
noncomputable def Tryz.pinned : Pinned := { name := "ytgdomaddjiggaaagreat", sum := "80a90de29576eec66b55eb2396f60c360784b9d8d202c2d9790fc17a56a74ab6", checked := Tryz.checked }
namespace Rows
def none {H : Type} : Left H := { results := [], args := [] }

/-- 'barragelaw03.GateChecks': WHATEVER THE INPUT: true; the input reads as it did. -/
def gateChecksSpec : ChangeSpec := { name := "gateChecks", fn := fun _ => fun
  | [d] => { results := [.lit (.bool true)], args := [d] }
  | _ => none }
def gateChecksRow : OpenClaim := { program := "ytgdomaddjiggaaagreat", sum := "80a90de29576eec66b55eb2396f60c360784b9d8d202c2d9790fc17a56a74ab6", func := "barrage/barragelaw03.GateChecks", spec := "gateChecks", unfollowed := true, recurses := true, apart := false }
def GateChecksSaid : Prop := gateChecksRow.holds Tryz.pinned (OpenSpec.ofChange gateChecksSpec)

/-- ITS FALSE NEIGHBOUR: 'it returns false'. Refute it at one input. -/
def gateChecksWrong : ChangeSpec := { name := "gateChecks", fn := fun _ => fun
  | [d] => { results := [.lit (.bool false)], args := [d] }
  | _ => none }
def GateChecksWrongFalsely : Prop := gateChecksRow.holds Tryz.pinned (OpenSpec.ofChange gateChecksWrong)

/-- 'barragelaw03.GateForces': WHATEVER THE INPUT: true; the input reads as it did. -/
def gateForcesSpec : ChangeSpec := { name := "gateForces", fn := fun _ => fun
  | [d1, d2] => { results := [.lit (.bool true)], args := [d1, d2] }
  | _ => none }
def gateForcesRow : OpenClaim := { program := "ytgdomaddjiggaaagreat", sum := "80a90de29576eec66b55eb2396f60c360784b9d8d202c2d9790fc17a56a74ab6", func := "barrage/barragelaw03.GateForces", spec := "gateForces", unfollowed := true, recurses := true, apart := false }
def GateForcesSaid : Prop := gateForcesRow.holds Tryz.pinned (OpenSpec.ofChange gateForcesSpec)

/-- ITS FALSE NEIGHBOUR: 'it returns false'. Refute it at one input. -/
def gateForcesWrong : ChangeSpec := { name := "gateForces", fn := fun _ => fun
  | [d1, d2] => { results := [.lit (.bool false)], args := [d1, d2] }
  | _ => none }
def GateForcesWrongFalsely : Prop := gateForcesRow.holds Tryz.pinned (OpenSpec.ofChange gateForcesWrong)

/-- 'barragelaw03.GateSteps': WHATEVER THE INPUT: true; the input reads as it did. -/
def gateStepsSpec : ChangeSpec := { name := "gateSteps", fn := fun _ => fun
  | [d1, d2, d3] => { results := [.lit (.bool true)], args := [d1, d2, d3] }
  | _ => none }
def gateStepsRow : OpenClaim := { program := "ytgdomaddjiggaaagreat", sum := "80a90de29576eec66b55eb2396f60c360784b9d8d202c2d9790fc17a56a74ab6", func := "barrage/barragelaw03.GateSteps", spec := "gateSteps", unfollowed := true, recurses := true, apart := false }
def GateStepsSaid : Prop := gateStepsRow.holds Tryz.pinned (OpenSpec.ofChange gateStepsSpec)

/-- ITS FALSE NEIGHBOUR: 'it returns false'. Refute it at one input. -/
def gateStepsWrong : ChangeSpec := { name := "gateSteps", fn := fun _ => fun
  | [d1, d2, d3] => { results := [.lit (.bool false)], args := [d1, d2, d3] }
  | _ => none }
def GateStepsWrongFalsely : Prop := gateStepsRow.holds Tryz.pinned (OpenSpec.ofChange gateStepsWrong)

/-- 'barragelaw03.GateTimes': WHATEVER THE INPUT: true; the input reads as it did. -/
def gateTimesSpec : ChangeSpec := { name := "gateTimes", fn := fun _ => fun
  | [d1, d2, d3] => { results := [.lit (.bool true)], args := [d1, d2, d3] }
  | _ => none }
def gateTimesRow : OpenClaim := { program := "ytgdomaddjiggaaagreat", sum := "80a90de29576eec66b55eb2396f60c360784b9d8d202c2d9790fc17a56a74ab6", func := "barrage/barragelaw03.GateTimes", spec := "gateTimes", unfollowed := true, recurses := true, apart := false }
def GateTimesSaid : Prop := gateTimesRow.holds Tryz.pinned (OpenSpec.ofChange gateTimesSpec)

/-- ITS FALSE NEIGHBOUR: 'it returns false'. Refute it at one input. -/
def gateTimesWrong : ChangeSpec := { name := "gateTimes", fn := fun _ => fun
  | [d1, d2, d3] => { results := [.lit (.bool false)], args := [d1, d2, d3] }
  | _ => none }
def GateTimesWrongFalsely : Prop := gateTimesRow.holds Tryz.pinned (OpenSpec.ofChange gateTimesWrong)

/-- 'barragelaw03.GateSensors': WHATEVER THE INPUT: true; the input reads as it did. -/
def gateSensorsSpec : ChangeSpec := { name := "gateSensors", fn := fun _ => fun
  | [d1, d2, d3] => { results := [.lit (.bool true)], args := [d1, d2, d3] }
  | _ => none }
def gateSensorsRow : OpenClaim := { program := "ytgdomaddjiggaaagreat", sum := "80a90de29576eec66b55eb2396f60c360784b9d8d202c2d9790fc17a56a74ab6", func := "barrage/barragelaw03.GateSensors", spec := "gateSensors", unfollowed := true, recurses := true, apart := false }
def GateSensorsSaid : Prop := gateSensorsRow.holds Tryz.pinned (OpenSpec.ofChange gateSensorsSpec)

/-- ITS FALSE NEIGHBOUR: 'it returns false'. Refute it at one input. -/
def gateSensorsWrong : ChangeSpec := { name := "gateSensors", fn := fun _ => fun
  | [d1, d2, d3] => { results := [.lit (.bool false)], args := [d1, d2, d3] }
  | _ => none }
def GateSensorsWrongFalsely : Prop := gateSensorsRow.holds Tryz.pinned (OpenSpec.ofChange gateSensorsWrong)

/-- 'barragelaw03.GateMoves': WHATEVER THE INPUT: true; the input reads as it did. -/
def gateMovesSpec : ChangeSpec := { name := "gateMoves", fn := fun _ => fun
  | [d1, d2] => { results := [.lit (.bool true)], args := [d1, d2] }
  | _ => none }
def gateMovesRow : OpenClaim := { program := "ytgdomaddjiggaaagreat", sum := "80a90de29576eec66b55eb2396f60c360784b9d8d202c2d9790fc17a56a74ab6", func := "barrage/barragelaw03.GateMoves", spec := "gateMoves", unfollowed := true, recurses := true, apart := false }
def GateMovesSaid : Prop := gateMovesRow.holds Tryz.pinned (OpenSpec.ofChange gateMovesSpec)

/-- ITS FALSE NEIGHBOUR: 'it returns false'. Refute it at one input. -/
def gateMovesWrong : ChangeSpec := { name := "gateMoves", fn := fun _ => fun
  | [d1, d2] => { results := [.lit (.bool false)], args := [d1, d2] }
  | _ => none }
def GateMovesWrongFalsely : Prop := gateMovesRow.holds Tryz.pinned (OpenSpec.ofChange gateMovesWrong)

/-- 'barragelaw03.GateDelays': WHATEVER THE INPUT: true; the input reads as it did. -/
def gateDelaysSpec : ChangeSpec := { name := "gateDelays", fn := fun _ => fun
  | [d1, d2, d3] => { results := [.lit (.bool true)], args := [d1, d2, d3] }
  | _ => none }
def gateDelaysRow : OpenClaim := { program := "ytgdomaddjiggaaagreat", sum := "80a90de29576eec66b55eb2396f60c360784b9d8d202c2d9790fc17a56a74ab6", func := "barrage/barragelaw03.GateDelays", spec := "gateDelays", unfollowed := true, recurses := true, apart := false }
def GateDelaysSaid : Prop := gateDelaysRow.holds Tryz.pinned (OpenSpec.ofChange gateDelaysSpec)

/-- ITS FALSE NEIGHBOUR: 'it returns false'. Refute it at one input. -/
def gateDelaysWrong : ChangeSpec := { name := "gateDelays", fn := fun _ => fun
  | [d1, d2, d3] => { results := [.lit (.bool false)], args := [d1, d2, d3] }
  | _ => none }
def GateDelaysWrongFalsely : Prop := gateDelaysRow.holds Tryz.pinned (OpenSpec.ofChange gateDelaysWrong)

/-- 'barragelaw03.GateKnown': WHATEVER THE INPUT: true; the input reads as it did. -/
def gateKnownSpec : ChangeSpec := { name := "gateKnown", fn := fun _ => fun
  | [] => { results := [.lit (.bool true)], args := [] }
  | _ => none }
def gateKnownRow : OpenClaim := { program := "ytgdomaddjiggaaagreat", sum := "80a90de29576eec66b55eb2396f60c360784b9d8d202c2d9790fc17a56a74ab6", func := "barrage/barragelaw03.GateKnown", spec := "gateKnown", unfollowed := true, recurses := true, apart := false }
def GateKnownSaid : Prop := gateKnownRow.holds Tryz.pinned (OpenSpec.ofChange gateKnownSpec)

/-- ITS FALSE NEIGHBOUR: 'it returns false'. Refute it at one input. -/
def gateKnownWrong : ChangeSpec := { name := "gateKnown", fn := fun _ => fun
  | [] => { results := [.lit (.bool false)], args := [] }
  | _ => none }
def GateKnownWrongFalsely : Prop := gateKnownRow.holds Tryz.pinned (OpenSpec.ofChange gateKnownWrong)

/-- 'barragelaw03.GateLimits': WHATEVER THE INPUT: true; the input reads as it did. -/
def gateLimitsSpec : ChangeSpec := { name := "gateLimits", fn := fun _ => fun
  | [d1, d2, d3] => { results := [.lit (.bool true)], args := [d1, d2, d3] }
  | _ => none }
def gateLimitsRow : OpenClaim := { program := "ytgdomaddjiggaaagreat", sum := "80a90de29576eec66b55eb2396f60c360784b9d8d202c2d9790fc17a56a74ab6", func := "barrage/barragelaw03.GateLimits", spec := "gateLimits", unfollowed := true, recurses := true, apart := false }
def GateLimitsSaid : Prop := gateLimitsRow.holds Tryz.pinned (OpenSpec.ofChange gateLimitsSpec)

/-- ITS FALSE NEIGHBOUR: 'it returns false'. Refute it at one input. -/
def gateLimitsWrong : ChangeSpec := { name := "gateLimits", fn := fun _ => fun
  | [d1, d2, d3] => { results := [.lit (.bool false)], args := [d1, d2, d3] }
  | _ => none }
def GateLimitsWrongFalsely : Prop := gateLimitsRow.holds Tryz.pinned (OpenSpec.ofChange gateLimitsWrong)

/-- 'barragelaw03.GateFalls': WHATEVER THE INPUT: true; the input reads as it did. -/
def gateFallsSpec : ChangeSpec := { name := "gateFalls", fn := fun _ => fun
  | [d1, d2, d3] => { results := [.lit (.bool true)], args := [d1, d2, d3] }
  | _ => none }
def gateFallsRow : OpenClaim := { program := "ytgdomaddjiggaaagreat", sum := "80a90de29576eec66b55eb2396f60c360784b9d8d202c2d9790fc17a56a74ab6", func := "barrage/barragelaw03.GateFalls", spec := "gateFalls", unfollowed := true, recurses := true, apart := false }
def GateFallsSaid : Prop := gateFallsRow.holds Tryz.pinned (OpenSpec.ofChange gateFallsSpec)

/-- ITS FALSE NEIGHBOUR: 'it returns false'. Refute it at one input. -/
def gateFallsWrong : ChangeSpec := { name := "gateFalls", fn := fun _ => fun
  | [d1, d2, d3] => { results := [.lit (.bool false)], args := [d1, d2, d3] }
  | _ => none }
def GateFallsWrongFalsely : Prop := gateFallsRow.holds Tryz.pinned (OpenSpec.ofChange gateFallsWrong)

/-- 'barragelaw03.GateHeld': WHATEVER THE INPUT: true; the input reads as it did. -/
def gateHeldSpec : ChangeSpec := { name := "gateHeld", fn := fun _ => fun
  | [d1, d2, d3] => { results := [.lit (.bool true)], args := [d1, d2, d3] }
  | _ => none }
def gateHeldRow : OpenClaim := { program := "ytgdomaddjiggaaagreat", sum := "80a90de29576eec66b55eb2396f60c360784b9d8d202c2d9790fc17a56a74ab6", func := "barrage/barragelaw03.GateHeld", spec := "gateHeld", unfollowed := true, recurses := true, apart := false }
def GateHeldSaid : Prop := gateHeldRow.holds Tryz.pinned (OpenSpec.ofChange gateHeldSpec)

/-- ITS FALSE NEIGHBOUR: 'it returns false'. Refute it at one input. -/
def gateHeldWrong : ChangeSpec := { name := "gateHeld", fn := fun _ => fun
  | [d1, d2, d3] => { results := [.lit (.bool false)], args := [d1, d2, d3] }
  | _ => none }
def GateHeldWrongFalsely : Prop := gateHeldRow.holds Tryz.pinned (OpenSpec.ofChange gateHeldWrong)

/-- 'barragelaw03.GateWhere': WHATEVER THE INPUT: true; the input reads as it did. -/
def gateWhereSpec : ChangeSpec := { name := "gateWhere", fn := fun _ => fun
  | [d1, d2, d3] => { results := [.lit (.bool true)], args := [d1, d2, d3] }
  | _ => none }
def gateWhereRow : OpenClaim := { program := "ytgdomaddjiggaaagreat", sum := "80a90de29576eec66b55eb2396f60c360784b9d8d202c2d9790fc17a56a74ab6", func := "barrage/barragelaw03.GateWhere", spec := "gateWhere", unfollowed := true, recurses := true, apart := false }
def GateWhereSaid : Prop := gateWhereRow.holds Tryz.pinned (OpenSpec.ofChange gateWhereSpec)

/-- ITS FALSE NEIGHBOUR: 'it returns false'. Refute it at one input. -/
def gateWhereWrong : ChangeSpec := { name := "gateWhere", fn := fun _ => fun
  | [d1, d2, d3] => { results := [.lit (.bool false)], args := [d1, d2, d3] }
  | _ => none }
def GateWhereWrongFalsely : Prop := gateWhereRow.holds Tryz.pinned (OpenSpec.ofChange gateWhereWrong)

/-- 'barragelaw03.GateBolts': WHATEVER THE INPUT: true; the input reads as it did. -/
def gateBoltsSpec : ChangeSpec := { name := "gateBolts", fn := fun _ => fun
  | [d1, d2, d3] => { results := [.lit (.bool true)], args := [d1, d2, d3] }
  | _ => none }
def gateBoltsRow : OpenClaim := { program := "ytgdomaddjiggaaagreat", sum := "80a90de29576eec66b55eb2396f60c360784b9d8d202c2d9790fc17a56a74ab6", func := "barrage/barragelaw03.GateBolts", spec := "gateBolts", unfollowed := true, recurses := true, apart := false }
def GateBoltsSaid : Prop := gateBoltsRow.holds Tryz.pinned (OpenSpec.ofChange gateBoltsSpec)

/-- ITS FALSE NEIGHBOUR: 'it returns false'. Refute it at one input. -/
def gateBoltsWrong : ChangeSpec := { name := "gateBolts", fn := fun _ => fun
  | [d1, d2, d3] => { results := [.lit (.bool false)], args := [d1, d2, d3] }
  | _ => none }
def GateBoltsWrongFalsely : Prop := gateBoltsRow.holds Tryz.pinned (OpenSpec.ofChange gateBoltsWrong)

/-- 'barragelaw03.GateShips': WHATEVER THE INPUT: true; the input reads as it did. -/
def gateShipsSpec : ChangeSpec := { name := "gateShips", fn := fun _ => fun
  | [d1, d2] => { results := [.lit (.bool true)], args := [d1, d2] }
  | _ => none }
def gateShipsRow : OpenClaim := { program := "ytgdomaddjiggaaagreat", sum := "80a90de29576eec66b55eb2396f60c360784b9d8d202c2d9790fc17a56a74ab6", func := "barrage/barragelaw03.GateShips", spec := "gateShips", unfollowed := true, recurses := true, apart := false }
def GateShipsSaid : Prop := gateShipsRow.holds Tryz.pinned (OpenSpec.ofChange gateShipsSpec)

/-- ITS FALSE NEIGHBOUR: 'it returns false'. Refute it at one input. -/
def gateShipsWrong : ChangeSpec := { name := "gateShips", fn := fun _ => fun
  | [d1, d2] => { results := [.lit (.bool false)], args := [d1, d2] }
  | _ => none }
def GateShipsWrongFalsely : Prop := gateShipsRow.holds Tryz.pinned (OpenSpec.ofChange gateShipsWrong)

/-- 'barragelaw03.GateInTime': WHATEVER THE INPUT: true; the input reads as it did. -/
def gateInTimeSpec : ChangeSpec := { name := "gateInTime", fn := fun _ => fun
  | [d1, d2, d3] => { results := [.lit (.bool true)], args := [d1, d2, d3] }
  | _ => none }
def gateInTimeRow : OpenClaim := { program := "ytgdomaddjiggaaagreat", sum := "80a90de29576eec66b55eb2396f60c360784b9d8d202c2d9790fc17a56a74ab6", func := "barrage/barragelaw03.GateInTime", spec := "gateInTime", unfollowed := true, recurses := true, apart := false }
def GateInTimeSaid : Prop := gateInTimeRow.holds Tryz.pinned (OpenSpec.ofChange gateInTimeSpec)

/-- ITS FALSE NEIGHBOUR: 'it returns false'. Refute it at one input. -/
def gateInTimeWrong : ChangeSpec := { name := "gateInTime", fn := fun _ => fun
  | [d1, d2, d3] => { results := [.lit (.bool false)], args := [d1, d2, d3] }
  | _ => none }
def GateInTimeWrongFalsely : Prop := gateInTimeRow.holds Tryz.pinned (OpenSpec.ofChange gateInTimeWrong)

/-- 'barragelaw03.GateLatest': WHATEVER THE INPUT: true; the input reads as it did. -/
def gateLatestSpec : ChangeSpec := { name := "gateLatest", fn := fun _ => fun
  | [d1, d2, d3] => { results := [.lit (.bool true)], args := [d1, d2, d3] }
  | _ => none }
def gateLatestRow : OpenClaim := { program := "ytgdomaddjiggaaagreat", sum := "80a90de29576eec66b55eb2396f60c360784b9d8d202c2d9790fc17a56a74ab6", func := "barrage/barragelaw03.GateLatest", spec := "gateLatest", unfollowed := true, recurses := true, apart := false }
def GateLatestSaid : Prop := gateLatestRow.holds Tryz.pinned (OpenSpec.ofChange gateLatestSpec)

/-- ITS FALSE NEIGHBOUR: 'it returns false'. Refute it at one input. -/
def gateLatestWrong : ChangeSpec := { name := "gateLatest", fn := fun _ => fun
  | [d1, d2, d3] => { results := [.lit (.bool false)], args := [d1, d2, d3] }
  | _ => none }
def GateLatestWrongFalsely : Prop := gateLatestRow.holds Tryz.pinned (OpenSpec.ofChange gateLatestWrong)

/-- 'barragelaw03.GateAgain': WHATEVER THE INPUT: true; the input reads as it did. -/
def gateAgainSpec : ChangeSpec := { name := "gateAgain", fn := fun _ => fun
  | [d1, d2, d3] => { results := [.lit (.bool true)], args := [d1, d2, d3] }
  | _ => none }
def gateAgainRow : OpenClaim := { program := "ytgdomaddjiggaaagreat", sum := "80a90de29576eec66b55eb2396f60c360784b9d8d202c2d9790fc17a56a74ab6", func := "barrage/barragelaw03.GateAgain", spec := "gateAgain", unfollowed := true, recurses := true, apart := false }
def GateAgainSaid : Prop := gateAgainRow.holds Tryz.pinned (OpenSpec.ofChange gateAgainSpec)

/-- ITS FALSE NEIGHBOUR: 'it returns false'. Refute it at one input. -/
def gateAgainWrong : ChangeSpec := { name := "gateAgain", fn := fun _ => fun
  | [d1, d2, d3] => { results := [.lit (.bool false)], args := [d1, d2, d3] }
  | _ => none }
def GateAgainWrongFalsely : Prop := gateAgainRow.holds Tryz.pinned (OpenSpec.ofChange gateAgainWrong)

/- THE SECOND FORM. 'bulk': how many values and letters a reading holds, each counted each time it is reached (what is shared counts as often as it is met; a slice's spare places count too). A statement '..UptoSaid' is the law's where the arguments, and the package variables that the reading takes, are together of bulk at most 1048576: NARROWER than '..Said'. Prove '..Said' where nothing that the law and all that it calls make is longer than what came in: it says more and counts as full. Else prove '..UptoSaid'. A law counts once. -/
mutual
def uptoBulk {H : Type} : DataW H → Nat
  | .lit (.string bytes) => bytes.length + 1
  | .lit _ => 1
  | .nil => 1
  | .ptr d => uptoBulk d + 1
  | .slice elems spare => uptoBulkAll elems + uptoBulkAll spare + 1
  | .agg parts => uptoBulkAll parts + 1
  | .iface _ d => uptoBulk d + 1
  | .map entries => uptoBulkEntries entries + 1
  | .held _ => 1
def uptoBulkAll {H : Type} : List (DataW H) → Nat
  | [] => 0
  | d :: r => uptoBulk d + uptoBulkAll r
def uptoBulkEntries {H : Type} : List (Lit × DataW H) → Nat
  | [] => 0
  | x :: r => uptoBulkEntry x + uptoBulkEntries r
def uptoBulkEntry {H : Type} : Lit × DataW H → Nat
  | (.string bytes, d) => bytes.length + uptoBulk d + 1
  | (_, d) => uptoBulk d + 1
 end
def uptoSmall : (H : Type) → List (DataW H) → Bool := fun _ ds => decide (uptoBulkAll ds ≤ 1048576)
def OpenSpec.upto (s : _root_.Go.ChangeSpec) : _root_.Go.OpenSpec := { _root_.Go.OpenSpec.ofChange s with cond := some uptoSmall }

/-- 'barragelaw03.GateChecks', WHERE WHAT IT READS IS OF BULK AT MOST 1048576: true; the input reads as it did. -/
def gateChecksUptoRow : OpenClaim := { program := "ytgdomaddjiggaaagreat", sum := "80a90de29576eec66b55eb2396f60c360784b9d8d202c2d9790fc17a56a74ab6", func := "barrage/barragelaw03.GateChecks", spec := "gateChecks", unfollowed := true, recurses := true, apart := false, narrowed := true }
def GateChecksUptoSaid : Prop := gateChecksUptoRow.holds Tryz.pinned (OpenSpec.upto gateChecksSpec)

/-- 'barragelaw03.GateForces', WHERE WHAT IT READS IS OF BULK AT MOST 1048576: true; the input reads as it did. -/
def gateForcesUptoRow : OpenClaim := { program := "ytgdomaddjiggaaagreat", sum := "80a90de29576eec66b55eb2396f60c360784b9d8d202c2d9790fc17a56a74ab6", func := "barrage/barragelaw03.GateForces", spec := "gateForces", unfollowed := true, recurses := true, apart := false, narrowed := true }
def GateForcesUptoSaid : Prop := gateForcesUptoRow.holds Tryz.pinned (OpenSpec.upto gateForcesSpec)

/-- 'barragelaw03.GateSteps', WHERE WHAT IT READS IS OF BULK AT MOST 1048576: true; the input reads as it did. -/
def gateStepsUptoRow : OpenClaim := { program := "ytgdomaddjiggaaagreat", sum := "80a90de29576eec66b55eb2396f60c360784b9d8d202c2d9790fc17a56a74ab6", func := "barrage/barragelaw03.GateSteps", spec := "gateSteps", unfollowed := true, recurses := true, apart := false, narrowed := true }
def GateStepsUptoSaid : Prop := gateStepsUptoRow.holds Tryz.pinned (OpenSpec.upto gateStepsSpec)

/-- 'barragelaw03.GateTimes', WHERE WHAT IT READS IS OF BULK AT MOST 1048576: true; the input reads as it did. -/
def gateTimesUptoRow : OpenClaim := { program := "ytgdomaddjiggaaagreat", sum := "80a90de29576eec66b55eb2396f60c360784b9d8d202c2d9790fc17a56a74ab6", func := "barrage/barragelaw03.GateTimes", spec := "gateTimes", unfollowed := true, recurses := true, apart := false, narrowed := true }
def GateTimesUptoSaid : Prop := gateTimesUptoRow.holds Tryz.pinned (OpenSpec.upto gateTimesSpec)

/-- 'barragelaw03.GateSensors', WHERE WHAT IT READS IS OF BULK AT MOST 1048576: true; the input reads as it did. -/
def gateSensorsUptoRow : OpenClaim := { program := "ytgdomaddjiggaaagreat", sum := "80a90de29576eec66b55eb2396f60c360784b9d8d202c2d9790fc17a56a74ab6", func := "barrage/barragelaw03.GateSensors", spec := "gateSensors", unfollowed := true, recurses := true, apart := false, narrowed := true }
def GateSensorsUptoSaid : Prop := gateSensorsUptoRow.holds Tryz.pinned (OpenSpec.upto gateSensorsSpec)

/-- 'barragelaw03.GateMoves', WHERE WHAT IT READS IS OF BULK AT MOST 1048576: true; the input reads as it did. -/
def gateMovesUptoRow : OpenClaim := { program := "ytgdomaddjiggaaagreat", sum := "80a90de29576eec66b55eb2396f60c360784b9d8d202c2d9790fc17a56a74ab6", func := "barrage/barragelaw03.GateMoves", spec := "gateMoves", unfollowed := true, recurses := true, apart := false, narrowed := true }
def GateMovesUptoSaid : Prop := gateMovesUptoRow.holds Tryz.pinned (OpenSpec.upto gateMovesSpec)

/-- 'barragelaw03.GateDelays', WHERE WHAT IT READS IS OF BULK AT MOST 1048576: true; the input reads as it did. -/
def gateDelaysUptoRow : OpenClaim := { program := "ytgdomaddjiggaaagreat", sum := "80a90de29576eec66b55eb2396f60c360784b9d8d202c2d9790fc17a56a74ab6", func := "barrage/barragelaw03.GateDelays", spec := "gateDelays", unfollowed := true, recurses := true, apart := false, narrowed := true }
def GateDelaysUptoSaid : Prop := gateDelaysUptoRow.holds Tryz.pinned (OpenSpec.upto gateDelaysSpec)

/-- 'barragelaw03.GateKnown', WHERE WHAT IT READS IS OF BULK AT MOST 1048576: true; the input reads as it did. -/
def gateKnownUptoRow : OpenClaim := { program := "ytgdomaddjiggaaagreat", sum := "80a90de29576eec66b55eb2396f60c360784b9d8d202c2d9790fc17a56a74ab6", func := "barrage/barragelaw03.GateKnown", spec := "gateKnown", unfollowed := true, recurses := true, apart := false, narrowed := true }
def GateKnownUptoSaid : Prop := gateKnownUptoRow.holds Tryz.pinned (OpenSpec.upto gateKnownSpec)

/-- 'barragelaw03.GateLimits', WHERE WHAT IT READS IS OF BULK AT MOST 1048576: true; the input reads as it did. -/
def gateLimitsUptoRow : OpenClaim := { program := "ytgdomaddjiggaaagreat", sum := "80a90de29576eec66b55eb2396f60c360784b9d8d202c2d9790fc17a56a74ab6", func := "barrage/barragelaw03.GateLimits", spec := "gateLimits", unfollowed := true, recurses := true, apart := false, narrowed := true }
def GateLimitsUptoSaid : Prop := gateLimitsUptoRow.holds Tryz.pinned (OpenSpec.upto gateLimitsSpec)

/-- 'barragelaw03.GateFalls', WHERE WHAT IT READS IS OF BULK AT MOST 1048576: true; the input reads as it did. -/
def gateFallsUptoRow : OpenClaim := { program := "ytgdomaddjiggaaagreat", sum := "80a90de29576eec66b55eb2396f60c360784b9d8d202c2d9790fc17a56a74ab6", func := "barrage/barragelaw03.GateFalls", spec := "gateFalls", unfollowed := true, recurses := true, apart := false, narrowed := true }
def GateFallsUptoSaid : Prop := gateFallsUptoRow.holds Tryz.pinned (OpenSpec.upto gateFallsSpec)

/-- 'barragelaw03.GateHeld', WHERE WHAT IT READS IS OF BULK AT MOST 1048576: true; the input reads as it did. -/
def gateHeldUptoRow : OpenClaim := { program := "ytgdomaddjiggaaagreat", sum := "80a90de29576eec66b55eb2396f60c360784b9d8d202c2d9790fc17a56a74ab6", func := "barrage/barragelaw03.GateHeld", spec := "gateHeld", unfollowed := true, recurses := true, apart := false, narrowed := true }
def GateHeldUptoSaid : Prop := gateHeldUptoRow.holds Tryz.pinned (OpenSpec.upto gateHeldSpec)

/-- 'barragelaw03.GateWhere', WHERE WHAT IT READS IS OF BULK AT MOST 1048576: true; the input reads as it did. -/
def gateWhereUptoRow : OpenClaim := { program := "ytgdomaddjiggaaagreat", sum := "80a90de29576eec66b55eb2396f60c360784b9d8d202c2d9790fc17a56a74ab6", func := "barrage/barragelaw03.GateWhere", spec := "gateWhere", unfollowed := true, recurses := true, apart := false, narrowed := true }
def GateWhereUptoSaid : Prop := gateWhereUptoRow.holds Tryz.pinned (OpenSpec.upto gateWhereSpec)

/-- 'barragelaw03.GateBolts', WHERE WHAT IT READS IS OF BULK AT MOST 1048576: true; the input reads as it did. -/
def gateBoltsUptoRow : OpenClaim := { program := "ytgdomaddjiggaaagreat", sum := "80a90de29576eec66b55eb2396f60c360784b9d8d202c2d9790fc17a56a74ab6", func := "barrage/barragelaw03.GateBolts", spec := "gateBolts", unfollowed := true, recurses := true, apart := false, narrowed := true }
def GateBoltsUptoSaid : Prop := gateBoltsUptoRow.holds Tryz.pinned (OpenSpec.upto gateBoltsSpec)

/-- 'barragelaw03.GateShips', WHERE WHAT IT READS IS OF BULK AT MOST 1048576: true; the input reads as it did. -/
def gateShipsUptoRow : OpenClaim := { program := "ytgdomaddjiggaaagreat", sum := "80a90de29576eec66b55eb2396f60c360784b9d8d202c2d9790fc17a56a74ab6", func := "barrage/barragelaw03.GateShips", spec := "gateShips", unfollowed := true, recurses := true, apart := false, narrowed := true }
def GateShipsUptoSaid : Prop := gateShipsUptoRow.holds Tryz.pinned (OpenSpec.upto gateShipsSpec)

/-- 'barragelaw03.GateInTime', WHERE WHAT IT READS IS OF BULK AT MOST 1048576: true; the input reads as it did. -/
def gateInTimeUptoRow : OpenClaim := { program := "ytgdomaddjiggaaagreat", sum := "80a90de29576eec66b55eb2396f60c360784b9d8d202c2d9790fc17a56a74ab6", func := "barrage/barragelaw03.GateInTime", spec := "gateInTime", unfollowed := true, recurses := true, apart := false, narrowed := true }
def GateInTimeUptoSaid : Prop := gateInTimeUptoRow.holds Tryz.pinned (OpenSpec.upto gateInTimeSpec)

/-- 'barragelaw03.GateLatest', WHERE WHAT IT READS IS OF BULK AT MOST 1048576: true; the input reads as it did. -/
def gateLatestUptoRow : OpenClaim := { program := "ytgdomaddjiggaaagreat", sum := "80a90de29576eec66b55eb2396f60c360784b9d8d202c2d9790fc17a56a74ab6", func := "barrage/barragelaw03.GateLatest", spec := "gateLatest", unfollowed := true, recurses := true, apart := false, narrowed := true }
def GateLatestUptoSaid : Prop := gateLatestUptoRow.holds Tryz.pinned (OpenSpec.upto gateLatestSpec)

/-- 'barragelaw03.GateAgain', WHERE WHAT IT READS IS OF BULK AT MOST 1048576: true; the input reads as it did. -/
def gateAgainUptoRow : OpenClaim := { program := "ytgdomaddjiggaaagreat", sum := "80a90de29576eec66b55eb2396f60c360784b9d8d202c2d9790fc17a56a74ab6", func := "barrage/barragelaw03.GateAgain", spec := "gateAgain", unfollowed := true, recurses := true, apart := false, narrowed := true }
def GateAgainUptoSaid : Prop := gateAgainUptoRow.holds Tryz.pinned (OpenSpec.upto gateAgainSpec)

end Rows
end Go.Proofs.YtgdomaddjiggaaaGreat
