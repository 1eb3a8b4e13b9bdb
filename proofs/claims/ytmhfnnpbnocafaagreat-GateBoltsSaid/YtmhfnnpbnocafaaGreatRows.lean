/-
  No cell of these rows narrows 'for every input' (looked for: loops, veiled, ifaces, maps, wideKeys, modest, calm, conditions, laid).
  DERIVED. THE GIVEN ROWS OF THIS SEAT. 5 by the template 'for every input the law returns true; each argument reads behind the call as it read before'; 0 by the template 'total and deterministic' (their statements: YtmhfnnpbnocafaaGreatTotals.lean).
  GIVEN WITH THE SEED: the statements are not yours to turn. If you find one false, say at which input.
  Laid BY PROGRAM, IN A SANDBOX (cutbox-rows.mjs): the forced cells as the released guide's own fill.sh prints them over the translation b366bc102a7bb39b… (all of the seat's roots in one cut). By AI agents, Wed Nov 11 2026. No macro, syntax, notation, axiom, sorry.
-/
import Derived.Test.YtmhfnnpbnocafaaGreatChecked
import GoSem.Claim
import GoSem.ClaimJoined
import GoSem.ClaimMapViews
import Derived.JoinedTies
import Derived.KernelRfl
namespace Go.Proofs.YtmhfnnpbnocafaaGreat
/- THE CELL 'sum', in the pinned program and in every row, IS THE sha256 OF THE DUMP (.gsa) THAT YtmhfnnpbnocafaaGreatProg.lean LOADS. Nothing in Lean hashes anything: it is a label: what it is worth is what the hold of that sum in a sandbox is worth. -/
noncomputable def Tryz.pinned : Pinned := { name := "ytmhfnnpbnocafaagreat", sum := "b366bc102a7bb39ba99f2c94472c22c14716b1550a724e5bfc23ec05df61f0f8", checked := Tryz.checked }
namespace Rows
def none {H : Type} : Left H := { results := [], args := [] }

/-- 'barragelaw03.GateSensors': WHATEVER THE INPUT: true; the input reads as it did. -/
def gateSensorsSpec : ChangeSpec := { name := "gateSensors", fn := fun _ => fun
  | [d1, d2, d3] => { results := [.lit (.bool true)], args := [d1, d2, d3] }
  | _ => none }
def gateSensorsRow : OpenClaim := { program := "ytmhfnnpbnocafaagreat", sum := "b366bc102a7bb39ba99f2c94472c22c14716b1550a724e5bfc23ec05df61f0f8", func := "barrage/barragelaw03.GateSensors", spec := "gateSensors", unfollowed := true, recurses := true, apart := false }
def GateSensorsSaid : Prop := gateSensorsRow.holds Tryz.pinned (OpenSpec.ofChange gateSensorsSpec)

/-- ITS FALSE NEIGHBOUR: 'it returns false'. Refute it at one input. -/
def gateSensorsWrong : ChangeSpec := { name := "gateSensors", fn := fun _ => fun
  | [d1, d2, d3] => { results := [.lit (.bool false)], args := [d1, d2, d3] }
  | _ => none }
def GateSensorsWrongFalsely : Prop := gateSensorsRow.holds Tryz.pinned (OpenSpec.ofChange gateSensorsWrong)

/-- 'barragelaw03.GateKnown': WHATEVER THE INPUT: true; the input reads as it did. -/
def gateKnownSpec : ChangeSpec := { name := "gateKnown", fn := fun _ => fun
  | [] => { results := [.lit (.bool true)], args := [] }
  | _ => none }
def gateKnownRow : OpenClaim := { program := "ytmhfnnpbnocafaagreat", sum := "b366bc102a7bb39ba99f2c94472c22c14716b1550a724e5bfc23ec05df61f0f8", func := "barrage/barragelaw03.GateKnown", spec := "gateKnown", unfollowed := true, recurses := true, apart := false }
def GateKnownSaid : Prop := gateKnownRow.holds Tryz.pinned (OpenSpec.ofChange gateKnownSpec)

/-- ITS FALSE NEIGHBOUR: 'it returns false'. Refute it at one input. -/
def gateKnownWrong : ChangeSpec := { name := "gateKnown", fn := fun _ => fun
  | [] => { results := [.lit (.bool false)], args := [] }
  | _ => none }
def GateKnownWrongFalsely : Prop := gateKnownRow.holds Tryz.pinned (OpenSpec.ofChange gateKnownWrong)

/-- 'barragelaw03.GateWhere': WHATEVER THE INPUT: true; the input reads as it did. -/
def gateWhereSpec : ChangeSpec := { name := "gateWhere", fn := fun _ => fun
  | [d1, d2, d3] => { results := [.lit (.bool true)], args := [d1, d2, d3] }
  | _ => none }
def gateWhereRow : OpenClaim := { program := "ytmhfnnpbnocafaagreat", sum := "b366bc102a7bb39ba99f2c94472c22c14716b1550a724e5bfc23ec05df61f0f8", func := "barrage/barragelaw03.GateWhere", spec := "gateWhere", unfollowed := true, recurses := true, apart := false }
def GateWhereSaid : Prop := gateWhereRow.holds Tryz.pinned (OpenSpec.ofChange gateWhereSpec)

/-- ITS FALSE NEIGHBOUR: 'it returns false'. Refute it at one input. -/
def gateWhereWrong : ChangeSpec := { name := "gateWhere", fn := fun _ => fun
  | [d1, d2, d3] => { results := [.lit (.bool false)], args := [d1, d2, d3] }
  | _ => none }
def GateWhereWrongFalsely : Prop := gateWhereRow.holds Tryz.pinned (OpenSpec.ofChange gateWhereWrong)

/-- 'barragelaw03.GateBolts': WHATEVER THE INPUT: true; the input reads as it did. -/
def gateBoltsSpec : ChangeSpec := { name := "gateBolts", fn := fun _ => fun
  | [d1, d2, d3] => { results := [.lit (.bool true)], args := [d1, d2, d3] }
  | _ => none }
def gateBoltsRow : OpenClaim := { program := "ytmhfnnpbnocafaagreat", sum := "b366bc102a7bb39ba99f2c94472c22c14716b1550a724e5bfc23ec05df61f0f8", func := "barrage/barragelaw03.GateBolts", spec := "gateBolts", unfollowed := true, recurses := true, apart := false }
def GateBoltsSaid : Prop := gateBoltsRow.holds Tryz.pinned (OpenSpec.ofChange gateBoltsSpec)

/-- ITS FALSE NEIGHBOUR: 'it returns false'. Refute it at one input. -/
def gateBoltsWrong : ChangeSpec := { name := "gateBolts", fn := fun _ => fun
  | [d1, d2, d3] => { results := [.lit (.bool false)], args := [d1, d2, d3] }
  | _ => none }
def GateBoltsWrongFalsely : Prop := gateBoltsRow.holds Tryz.pinned (OpenSpec.ofChange gateBoltsWrong)

/-- 'barragelaw03.GateShips': WHATEVER THE INPUT: true; the input reads as it did. -/
def gateShipsSpec : ChangeSpec := { name := "gateShips", fn := fun _ => fun
  | [d1, d2] => { results := [.lit (.bool true)], args := [d1, d2] }
  | _ => none }
def gateShipsRow : OpenClaim := { program := "ytmhfnnpbnocafaagreat", sum := "b366bc102a7bb39ba99f2c94472c22c14716b1550a724e5bfc23ec05df61f0f8", func := "barrage/barragelaw03.GateShips", spec := "gateShips", unfollowed := true, recurses := true, apart := false }
def GateShipsSaid : Prop := gateShipsRow.holds Tryz.pinned (OpenSpec.ofChange gateShipsSpec)

/-- ITS FALSE NEIGHBOUR: 'it returns false'. Refute it at one input. -/
def gateShipsWrong : ChangeSpec := { name := "gateShips", fn := fun _ => fun
  | [d1, d2] => { results := [.lit (.bool false)], args := [d1, d2] }
  | _ => none }
def GateShipsWrongFalsely : Prop := gateShipsRow.holds Tryz.pinned (OpenSpec.ofChange gateShipsWrong)

/- THE SECOND FORM. 'bulk': how many values and letters a reading holds, each counted each time it is reached (what is shared counts as often as it is met; a slice's spare places count too). A statement '..UptoSaid' is the law's where the arguments, and the package variables that the reading takes, are together of bulk at most 1048576: NARROWER than '..Said'. Prove '..Said' where nothing that the law and all that it calls make is longer than what came in: it says more and counts as full. Else prove '..UptoSaid'. A law counts once. -/
mutual
def uptoBulk {H : Type} : DataW H → Nat
  | .lit (.string bytes) => bytes.length + 1
  | .lit _ => 1
  | .nil => 1
  | .ptr d => uptoBulk d + 1
  | .slice elems spare => uptoBulkAll elems + uptoBulkAll spare + 1
  | .agg parts => uptoBulkAll parts + 1
  | .iface _ d => uptoBulk d + 1
  | .map entries => uptoBulkEntries entries + 1
  | .held _ => 1
def uptoBulkAll {H : Type} : List (DataW H) → Nat
  | [] => 0
  | d :: r => uptoBulk d + uptoBulkAll r
def uptoBulkEntries {H : Type} : List (Lit × DataW H) → Nat
  | [] => 0
  | x :: r => uptoBulkEntry x + uptoBulkEntries r
def uptoBulkEntry {H : Type} : Lit × DataW H → Nat
  | (.string bytes, d) => bytes.length + uptoBulk d + 1
  | (_, d) => uptoBulk d + 1
 end
def uptoSmall : (H : Type) → List (DataW H) → Bool := fun _ ds => decide (uptoBulkAll ds ≤ 1048576)
def OpenSpec.upto (s : _root_.Go.ChangeSpec) : _root_.Go.OpenSpec := { _root_.Go.OpenSpec.ofChange s with cond := some uptoSmall }

/-- 'barragelaw03.GateSensors', WHERE WHAT IT READS IS OF BULK AT MOST 1048576: true; the input reads as it did. -/
def gateSensorsUptoRow : OpenClaim := { program := "ytmhfnnpbnocafaagreat", sum := "b366bc102a7bb39ba99f2c94472c22c14716b1550a724e5bfc23ec05df61f0f8", func := "barrage/barragelaw03.GateSensors", spec := "gateSensors", unfollowed := true, recurses := true, apart := false, narrowed := true }
def GateSensorsUptoSaid : Prop := gateSensorsUptoRow.holds Tryz.pinned (OpenSpec.upto gateSensorsSpec)

/-- 'barragelaw03.GateKnown', WHERE WHAT IT READS IS OF BULK AT MOST 1048576: true; the input reads as it did. -/
def gateKnownUptoRow : OpenClaim := { program := "ytmhfnnpbnocafaagreat", sum := "b366bc102a7bb39ba99f2c94472c22c14716b1550a724e5bfc23ec05df61f0f8", func := "barrage/barragelaw03.GateKnown", spec := "gateKnown", unfollowed := true, recurses := true, apart := false, narrowed := true }
def GateKnownUptoSaid : Prop := gateKnownUptoRow.holds Tryz.pinned (OpenSpec.upto gateKnownSpec)

/-- 'barragelaw03.GateWhere', WHERE WHAT IT READS IS OF BULK AT MOST 1048576: true; the input reads as it did. -/
def gateWhereUptoRow : OpenClaim := { program := "ytmhfnnpbnocafaagreat", sum := "b366bc102a7bb39ba99f2c94472c22c14716b1550a724e5bfc23ec05df61f0f8", func := "barrage/barragelaw03.GateWhere", spec := "gateWhere", unfollowed := true, recurses := true, apart := false, narrowed := true }
def GateWhereUptoSaid : Prop := gateWhereUptoRow.holds Tryz.pinned (OpenSpec.upto gateWhereSpec)

/-- 'barragelaw03.GateBolts', WHERE WHAT IT READS IS OF BULK AT MOST 1048576: true; the input reads as it did. -/
def gateBoltsUptoRow : OpenClaim := { program := "ytmhfnnpbnocafaagreat", sum := "b366bc102a7bb39ba99f2c94472c22c14716b1550a724e5bfc23ec05df61f0f8", func := "barrage/barragelaw03.GateBolts", spec := "gateBolts", unfollowed := true, recurses := true, apart := false, narrowed := true }
def GateBoltsUptoSaid : Prop := gateBoltsUptoRow.holds Tryz.pinned (OpenSpec.upto gateBoltsSpec)

/-- 'barragelaw03.GateShips', WHERE WHAT IT READS IS OF BULK AT MOST 1048576: true; the input reads as it did. -/
def gateShipsUptoRow : OpenClaim := { program := "ytmhfnnpbnocafaagreat", sum := "b366bc102a7bb39ba99f2c94472c22c14716b1550a724e5bfc23ec05df61f0f8", func := "barrage/barragelaw03.GateShips", spec := "gateShips", unfollowed := true, recurses := true, apart := false, narrowed := true }
def GateShipsUptoSaid : Prop := gateShipsUptoRow.holds Tryz.pinned (OpenSpec.upto gateShipsSpec)

end Rows
end Go.Proofs.YtmhfnnpbnocafaaGreat
