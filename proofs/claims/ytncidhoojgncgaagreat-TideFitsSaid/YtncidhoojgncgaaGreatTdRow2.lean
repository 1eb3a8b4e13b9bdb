/- How further arguments read: what is told of levels, a truth, small arrays. -/
import Derived.Test.YtncidhoojgncgaaGreatTdRow
import Derived.Test.YtncidhoojgncgaaGreatTdFit
namespace Go.Proofs.YtncidhoojgncgaaGreat
open Go.ChangeShapes Go.WideShapes Go.ChangeAt Go.RowKit
set_option linter.unusedVariables false
set_option linter.unusedSimpArgs false

theorem uTold : Tryz.prog.underlying 62 = some (.struct #[Field.mk "Datum" 3 0 false "" "" 0, Field.mk "From" 3 1 false "" "" 8, Field.mk "Levels" 35 2 false "" "" 16]) := by kernel_rfl
theorem cTold : Tryz.prog.cellsOf 62 = 3 := by kernel_rfl
theorem uSpans : Tryz.prog.underlying 35 = some (.slice 32) := by kernel_rfl
theorem cSpans : Tryz.prog.cellsOf 35 = 1 := by kernel_rfl
section
variable {H : Type} {enc : TypeId × Value → H} {w : World} {spare : Nat → Bool} {held : Bool}
instance : Inhabited Sp := ⟨⟨0, 0⟩⟩
theorem read_told {fuel : Nat} {cs : List Value} {x : DataW H × List MemPlace} (h : DataW.trod enc Tryz.prog w 0 spare held fuel 62 cs = some x) :
    ∃ (a b : Int) (A : Option Addr) (n c : Nat) (l : List Sp), cs = [.int .i64 a, .int .i64 b, .slice A n c] ∧ LvAt w w.heap.size A n l := by
  obtain ⟨xs, n, _, _, hlen, hxl, hf⟩ := DataW.trod_struct uTold h
  rw [cTold] at hlen
  obtain ⟨a, b, c, rfl⟩ := len3 hlen
  obtain ⟨y0, y1, y2, rfl⟩ := len3 hxl
  have h0 : DataW.trod enc Tryz.prog w 0 spare held n 3 [a] = some y0 := by simpa [cInt] using hf 0 _ rfl
  have h1 : DataW.trod enc Tryz.prog w 0 spare held n 3 [b] = some y1 := by simpa [cInt] using hf 1 _ rfl
  have h2 : DataW.trod enc Tryz.prog w 0 spare held n 35 [c] = some y2 := by simpa [cSpans] using hf 2 _ rfl
  obtain ⟨p, e0, _, _⟩ := DataW.trod_int uInt h0
  obtain ⟨q, e1, _, _⟩ := DataW.trod_int uInt h1
  obtain ⟨A, m, cc, l, rfl, hc, hcn, _, _⟩ := read_slice Sp.cells (fun _ => True) 2 (by omega) uSpans cSpan (fun n cs x h => by obtain ⟨lo, hi, e⟩ := read_span h; exact ⟨⟨lo, hi⟩, e, trivial⟩) h2
  cases e0
  cases e1
  exact ⟨p, q, A, m, cc, l, rfl, ⟨hc, hcn⟩⟩
end
end Go.Proofs.YtncidhoojgncgaaGreat
