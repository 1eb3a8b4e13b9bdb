/- How further arguments of the gate laws read: the levels on both sides, small numbers. -/
import Derived.Test.YtmepecplbfgakaaGreatGtRead
namespace Go.Proofs.YtmepecplbfgakaaGreat
open Go.ChangeShapes Go.WideShapes Go.ChangeAt Go.RowKit Go.Deep
set_option linter.unusedSimpArgs false
set_option linter.unusedVariables false

theorem uU16 : Tryz.prog.underlying 84 = some (.int .u16) := by kernel_rfl
theorem uSides : Tryz.prog.underlying 56 = some (.struct #[Field.mk "Outer" 3 0 false "" "" 0, Field.mk "Inner" 3 1 false "" "" 8, Field.mk "Power" 4 2 false "" "" 16]) := by kernel_rfl
theorem cSides : Tryz.prog.cellsOf 56 = 3 := by kernel_rfl
section
variable {H : Type} {enc : TypeId × Value → H} {w : World} {spare : Nat → Bool} {held : Bool}
theorem read_u16 {base fuel : Nat} {cs : List Value} {x : DataW H × List MemPlace} (h : DataW.trod enc Tryz.prog w base spare held fuel 84 cs = some x) : ∃ z : Int, cs = [.int .u16 z] ∧ 0 ≤ z ∧ z ≤ 65535 := by
  obtain ⟨n, e, _, hw⟩ := DataW.trod_int uU16 h
  simp [Lit.wf] at hw
  exact ⟨n, e, hw.1, hw.2⟩
theorem read_sides {base fuel : Nat} {cs : List Value} {x : DataW H × List MemPlace} (h : DataW.trod enc Tryz.prog w base spare held fuel 56 cs = some x) : ∃ (a b : Int) (p : Bool), cs = [.int .i64 a, .int .i64 b, .bool p] := by
  obtain ⟨xs, n, _, _, hlen, hxl, hf⟩ := DataW.trod_struct uSides h
  rw [cSides] at hlen
  obtain ⟨a, b, c, rfl⟩ := len3 hlen
  obtain ⟨y0, y1, y2, rfl⟩ := len3 hxl
  have h0 : DataW.trod enc Tryz.prog w base spare held n 3 [a] = some y0 := by simpa [cInt] using hf 0 _ rfl
  have h1 : DataW.trod enc Tryz.prog w base spare held n 3 [b] = some y1 := by simpa [cInt] using hf 1 _ rfl
  have h2 : DataW.trod enc Tryz.prog w base spare held n 4 [c] = some y2 := by simpa [cBool] using hf 2 _ rfl
  obtain ⟨p, e0⟩ := read_int1 h0
  obtain ⟨q, e1⟩ := read_int1 h1
  obtain ⟨r, e2, _⟩ := DataW.trod_bool uBool h2
  cases e0
  cases e1
  cases e2
  exact ⟨p, q, r, rfl⟩
end
end Go.Proofs.YtmepecplbfgakaaGreat
