/-
  No cell of these rows narrows 'for every input' (looked for: loops, veiled, ifaces, maps, wideKeys, modest, calm, conditions, laid).
  DERIVED. THE GIVEN ROWS OF THIS SEAT. 5 by the template 'for every input the law returns true; each argument reads behind the call as it read before'; 0 by the template 'total and deterministic' (their statements: YteejjaagkeklbabGreatTotals.lean).
  GIVEN WITH THE SEED: the statements are not yours to turn. If you find one false, say at which input.
  Laid BY PROGRAM, IN A SANDBOX (cutbox-rows.mjs): the forced cells as the released guide's own fill.sh prints them over the translation 99ac71660ea25328… (all of the seat's roots in one cut). By AI agents, Wed Nov 11 2026. No macro, syntax, notation, axiom, sorry.
-/
import Derived.Test.YteejjaagkeklbabGreatChecked
import GoSem.Claim
import GoSem.ClaimJoined
import GoSem.ClaimMapViews
import Derived.JoinedTies
import Derived.KernelRfl
namespace Go.Proofs.YteejjaagkeklbabGreat
/- THE CELL 'sum', in the pinned program and in every row, IS THE sha256 OF THE DUMP (.gsa) THAT YteejjaagkeklbabGreatProg.lean LOADS. Nothing in Lean hashes anything: it is a label: what it is worth is what the hold of that sum in a sandbox is worth. -/
noncomputable def Tryz.pinned : Pinned := { name := "yteejjaagkeklbabgreat", sum := "99ac71660ea25328b630aac263d59ef57c7ab84b55ade5d2295054d4e95d8375", checked := Tryz.checked }
namespace Rows
def none {H : Type} : Left H := { results := [], args := [] }

/-- 'barragelaw01.TideKnows': WHATEVER THE INPUT: true; the input reads as it did. -/
def tideKnowsSpec : ChangeSpec := { name := "tideKnows", fn := fun _ => fun
  | [d1, d2] => { results := [.lit (.bool true)], args := [d1, d2] }
  | _ => none }
def tideKnowsRow : OpenClaim := { program := "yteejjaagkeklbabgreat", sum := "99ac71660ea25328b630aac263d59ef57c7ab84b55ade5d2295054d4e95d8375", func := "barrage/barragelaw01.TideKnows", spec := "tideKnows", unfollowed := true, recurses := true, apart := false }
def TideKnowsSaid : Prop := tideKnowsRow.holds Tryz.pinned (OpenSpec.ofChange tideKnowsSpec)

/-- ITS FALSE NEIGHBOUR: 'it returns false'. Refute it at one input. -/
def tideKnowsWrong : ChangeSpec := { name := "tideKnows", fn := fun _ => fun
  | [d1, d2] => { results := [.lit (.bool false)], args := [d1, d2] }
  | _ => none }
def TideKnowsWrongFalsely : Prop := tideKnowsRow.holds Tryz.pinned (OpenSpec.ofChange tideKnowsWrong)

/-- 'barragelaw01.TideVotes': WHATEVER THE INPUT: true; the input reads as it did. -/
def tideVotesSpec : ChangeSpec := { name := "tideVotes", fn := fun _ => fun
  | [d1, d2, d3] => { results := [.lit (.bool true)], args := [d1, d2, d3] }
  | _ => none }
def tideVotesRow : OpenClaim := { program := "yteejjaagkeklbabgreat", sum := "99ac71660ea25328b630aac263d59ef57c7ab84b55ade5d2295054d4e95d8375", func := "barrage/barragelaw01.TideVotes", spec := "tideVotes", unfollowed := true, recurses := true, apart := false }
def TideVotesSaid : Prop := tideVotesRow.holds Tryz.pinned (OpenSpec.ofChange tideVotesSpec)

/-- ITS FALSE NEIGHBOUR: 'it returns false'. Refute it at one input. -/
def tideVotesWrong : ChangeSpec := { name := "tideVotes", fn := fun _ => fun
  | [d1, d2, d3] => { results := [.lit (.bool false)], args := [d1, d2, d3] }
  | _ => none }
def TideVotesWrongFalsely : Prop := tideVotesRow.holds Tryz.pinned (OpenSpec.ofChange tideVotesWrong)

/-- 'barragelaw01.TideOrders': WHATEVER THE INPUT: true; the input reads as it did. -/
def tideOrdersSpec : ChangeSpec := { name := "tideOrders", fn := fun _ => fun
  | [d1, d2] => { results := [.lit (.bool true)], args := [d1, d2] }
  | _ => none }
def tideOrdersRow : OpenClaim := { program := "yteejjaagkeklbabgreat", sum := "99ac71660ea25328b630aac263d59ef57c7ab84b55ade5d2295054d4e95d8375", func := "barrage/barragelaw01.TideOrders", spec := "tideOrders", unfollowed := true, recurses := true, apart := false }
def TideOrdersSaid : Prop := tideOrdersRow.holds Tryz.pinned (OpenSpec.ofChange tideOrdersSpec)

/-- ITS FALSE NEIGHBOUR: 'it returns false'. Refute it at one input. -/
def tideOrdersWrong : ChangeSpec := { name := "tideOrders", fn := fun _ => fun
  | [d1, d2] => { results := [.lit (.bool false)], args := [d1, d2] }
  | _ => none }
def TideOrdersWrongFalsely : Prop := tideOrdersRow.holds Tryz.pinned (OpenSpec.ofChange tideOrdersWrong)

/-- 'barragelaw01.TideDiffers': WHATEVER THE INPUT: true; the input reads as it did. -/
def tideDiffersSpec : ChangeSpec := { name := "tideDiffers", fn := fun _ => fun
  | [d1, d2, d3] => { results := [.lit (.bool true)], args := [d1, d2, d3] }
  | _ => none }
def tideDiffersRow : OpenClaim := { program := "yteejjaagkeklbabgreat", sum := "99ac71660ea25328b630aac263d59ef57c7ab84b55ade5d2295054d4e95d8375", func := "barrage/barragelaw01.TideDiffers", spec := "tideDiffers", unfollowed := true, recurses := true, apart := false }
def TideDiffersSaid : Prop := tideDiffersRow.holds Tryz.pinned (OpenSpec.ofChange tideDiffersSpec)

/-- ITS FALSE NEIGHBOUR: 'it returns false'. Refute it at one input. -/
def tideDiffersWrong : ChangeSpec := { name := "tideDiffers", fn := fun _ => fun
  | [d1, d2, d3] => { results := [.lit (.bool false)], args := [d1, d2, d3] }
  | _ => none }
def TideDiffersWrongFalsely : Prop := tideDiffersRow.holds Tryz.pinned (OpenSpec.ofChange tideDiffersWrong)

/-- 'barragelaw01.TideFitted': WHATEVER THE INPUT: true; the input reads as it did. -/
def tideFittedSpec : ChangeSpec := { name := "tideFitted", fn := fun _ => fun
  | [d1, d2, d3] => { results := [.lit (.bool true)], args := [d1, d2, d3] }
  | _ => none }
def tideFittedRow : OpenClaim := { program := "yteejjaagkeklbabgreat", sum := "99ac71660ea25328b630aac263d59ef57c7ab84b55ade5d2295054d4e95d8375", func := "barrage/barragelaw01.TideFitted", spec := "tideFitted", unfollowed := true, recurses := true, apart := false }
def TideFittedSaid : Prop := tideFittedRow.holds Tryz.pinned (OpenSpec.ofChange tideFittedSpec)

/-- ITS FALSE NEIGHBOUR: 'it returns false'. Refute it at one input. -/
def tideFittedWrong : ChangeSpec := { name := "tideFitted", fn := fun _ => fun
  | [d1, d2, d3] => { results := [.lit (.bool false)], args := [d1, d2, d3] }
  | _ => none }
def TideFittedWrongFalsely : Prop := tideFittedRow.holds Tryz.pinned (OpenSpec.ofChange tideFittedWrong)

/- THE SECOND FORM. 'bulk': how many values and letters a reading holds, each counted each time it is reached (what is shared counts as often as it is met; a slice's spare places count too). A statement '..UptoSaid' is the law's where the arguments, and the package variables that the reading takes, are together of bulk at most 1048576: NARROWER than '..Said'. Prove '..Said' where nothing that the law and all that it calls make is longer than what came in: it says more and counts as full. Else prove '..UptoSaid'. A law counts once. -/
mutual
def uptoBulk {H : Type} : DataW H → Nat
  | .lit (.string bytes) => bytes.length + 1
  | .lit _ => 1
  | .nil => 1
  | .ptr d => uptoBulk d + 1
  | .slice elems spare => uptoBulkAll elems + uptoBulkAll spare + 1
  | .agg parts => uptoBulkAll parts + 1
  | .iface _ d => uptoBulk d + 1
  | .map entries => uptoBulkEntries entries + 1
  | .held _ => 1
def uptoBulkAll {H : Type} : List (DataW H) → Nat
  | [] => 0
  | d :: r => uptoBulk d + uptoBulkAll r
def uptoBulkEntries {H : Type} : List (Lit × DataW H) → Nat
  | [] => 0
  | x :: r => uptoBulkEntry x + uptoBulkEntries r
def uptoBulkEntry {H : Type} : Lit × DataW H → Nat
  | (.string bytes, d) => bytes.length + uptoBulk d + 1
  | (_, d) => uptoBulk d + 1
 end
def uptoSmall : (H : Type) → List (DataW H) → Bool := fun _ ds => decide (uptoBulkAll ds ≤ 1048576)
def OpenSpec.upto (s : _root_.Go.ChangeSpec) : _root_.Go.OpenSpec := { _root_.Go.OpenSpec.ofChange s with cond := some uptoSmall }

/-- 'barragelaw01.TideKnows', WHERE WHAT IT READS IS OF BULK AT MOST 1048576: true; the input reads as it did. -/
def tideKnowsUptoRow : OpenClaim := { program := "yteejjaagkeklbabgreat", sum := "99ac71660ea25328b630aac263d59ef57c7ab84b55ade5d2295054d4e95d8375", func := "barrage/barragelaw01.TideKnows", spec := "tideKnows", unfollowed := true, recurses := true, apart := false, narrowed := true }
def TideKnowsUptoSaid : Prop := tideKnowsUptoRow.holds Tryz.pinned (OpenSpec.upto tideKnowsSpec)

/-- 'barragelaw01.TideVotes', WHERE WHAT IT READS IS OF BULK AT MOST 1048576: true; the input reads as it did. -/
def tideVotesUptoRow : OpenClaim := { program := "yteejjaagkeklbabgreat", sum := "99ac71660ea25328b630aac263d59ef57c7ab84b55ade5d2295054d4e95d8375", func := "barrage/barragelaw01.TideVotes", spec := "tideVotes", unfollowed := true, recurses := true, apart := false, narrowed := true }
def TideVotesUptoSaid : Prop := tideVotesUptoRow.holds Tryz.pinned (OpenSpec.upto tideVotesSpec)

/-- 'barragelaw01.TideOrders', WHERE WHAT IT READS IS OF BULK AT MOST 1048576: true; the input reads as it did. -/
def tideOrdersUptoRow : OpenClaim := { program := "yteejjaagkeklbabgreat", sum := "99ac71660ea25328b630aac263d59ef57c7ab84b55ade5d2295054d4e95d8375", func := "barrage/barragelaw01.TideOrders", spec := "tideOrders", unfollowed := true, recurses := true, apart := false, narrowed := true }
def TideOrdersUptoSaid : Prop := tideOrdersUptoRow.holds Tryz.pinned (OpenSpec.upto tideOrdersSpec)

/-- 'barragelaw01.TideDiffers', WHERE WHAT IT READS IS OF BULK AT MOST 1048576: true; the input reads as it did. -/
def tideDiffersUptoRow : OpenClaim := { program := "yteejjaagkeklbabgreat", sum := "99ac71660ea25328b630aac263d59ef57c7ab84b55ade5d2295054d4e95d8375", func := "barrage/barragelaw01.TideDiffers", spec := "tideDiffers", unfollowed := true, recurses := true, apart := false, narrowed := true }
def TideDiffersUptoSaid : Prop := tideDiffersUptoRow.holds Tryz.pinned (OpenSpec.upto tideDiffersSpec)

/-- 'barragelaw01.TideFitted', WHERE WHAT IT READS IS OF BULK AT MOST 1048576: true; the input reads as it did. -/
def tideFittedUptoRow : OpenClaim := { program := "yteejjaagkeklbabgreat", sum := "99ac71660ea25328b630aac263d59ef57c7ab84b55ade5d2295054d4e95d8375", func := "barrage/barragelaw01.TideFitted", spec := "tideFitted", unfollowed := true, recurses := true, apart := false, narrowed := true }
def TideFittedUptoSaid : Prop := tideFittedUptoRow.holds Tryz.pinned (OpenSpec.upto tideFittedSpec)

end Rows
end Go.Proofs.YteejjaagkeklbabGreat
