/- How an array of three numbers reads. -/
import Derived.Test.YtgdomaddjiggaaaGreatGtRead
namespace Go.Proofs.YtgdomaddjiggaaaGreat
open Go.ChangeShapes Go.WideShapes Go.ChangeAt Go.RowKit Go.Deep
set_option linter.unusedSimpArgs false
set_option linter.unusedVariables false

theorem uThree : Tryz.prog.underlying 36 = some (.array 3 3) := by kernel_rfl
theorem cThree : Tryz.prog.cellsOf 36 = 3 := by kernel_rfl
theorem read_three {H : Type} {enc : TypeId × Value → H} {w : World} {base : Nat} {spare : Nat → Bool} {held : Bool} {fuel : Nat} {cs : List Value} {x : DataW H × List MemPlace} (h : DataW.trod enc Tryz.prog w base spare held fuel 36 cs = some x) :
    ∃ a b c : Int, cs = [.int .i64 a, .int .i64 b, .int .i64 c] := by
  obtain ⟨xs, n, _, _, hlen, hxl, hf⟩ := DataW.trod_array uThree h
  rw [cThree] at hlen
  obtain ⟨a, b, c, rfl⟩ := len3 hlen
  obtain ⟨y0, y1, y2, rfl⟩ := len3 hxl
  have h0 : DataW.trod enc Tryz.prog w base spare held n 3 [a] = some y0 := by simpa [cInt] using hf 0 (by omega)
  have h1 : DataW.trod enc Tryz.prog w base spare held n 3 [b] = some y1 := by simpa [cInt] using hf 1 (by omega)
  have h2 : DataW.trod enc Tryz.prog w base spare held n 3 [c] = some y2 := by simpa [cInt] using hf 2 (by omega)
  obtain ⟨p, e0⟩ := read_int1 h0
  obtain ⟨q, e1⟩ := read_int1 h1
  obtain ⟨r, e2⟩ := read_int1 h2
  cases e0
  cases e1
  cases e2
  exact ⟨p, q, r, rfl⟩
end Go.Proofs.YtgdomaddjiggaaaGreat
