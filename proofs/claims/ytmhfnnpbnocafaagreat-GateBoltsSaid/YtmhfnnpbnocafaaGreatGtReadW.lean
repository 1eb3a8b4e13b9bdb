/- How readings of sensors read, by themselves and beside a truth or a state. -/
import Derived.Test.YtmhfnnpbnocafaaGreatGtReadS
namespace Go.Proofs.YtmhfnnpbnocafaaGreat
open Go.ChangeShapes Go.WideShapes Go.ChangeAt Go.RowKit Go.Deep
set_option linter.unusedSimpArgs false
set_option linter.unusedVariables false

theorem uRead : Tryz.prog.underlying 29 = some (.struct #[Field.mk "Readings" 22 0 false "" "" 0, Field.mk "On" 4 1 false "" "" 24]) := by kernel_rfl
theorem cRead : Tryz.prog.cellsOf 29 = 2 := by kernel_rfl
theorem uBolts : Tryz.prog.underlying 70 = some (.struct #[Field.mk "State" 27 0 false "" "" 0, Field.mk "Readings" 22 3 false "" "" 24]) := by kernel_rfl
theorem cBolts : Tryz.prog.cellsOf 70 = 4 := by kernel_rfl
section
variable {H : Type} {enc : TypeId × Value → H} {w : World} {spare : Nat → Bool} {held : Bool}
theorem read_ints {fuel : Nat} {v : Value} {x : DataW H × List MemPlace} (h : DataW.trod enc Tryz.prog w 0 spare held fuel 22 [v] = some x) : ∃ (A : Option Addr) (n c : Nat) (l : List Int), v = .slice A n c ∧ Tab w w.heap.size A n 1 (l.map fun i => [Value.int .i64 i]) ∧ n ≤ maxLen ∧ n ≤ c := by
  obtain ⟨A, n, c, l, e, ht, hn, hc, _⟩ := read_slice (fun i : Int => [Value.int .i64 i]) (fun _ => True) 1 (by omega) uInts cInt (fun n cs x h => by obtain ⟨z, e⟩ := read_int1 h; exact ⟨z, e, trivial⟩) h
  exact ⟨A, n, c, l, e, ht, hn, hc⟩
theorem read_rd {fuel : Nat} {cs : List Value} {x : DataW H × List MemPlace} (h : DataW.trod enc Tryz.prog w 0 spare held fuel 29 cs = some x) : ∃ (on : Bool) (l : List Int) (A : Option Addr) (n c : Nat), cs = [.slice A n c, .bool on] ∧ Tab w w.heap.size A n 1 (l.map fun i => [Value.int .i64 i]) := by
  obtain ⟨xs, n, _, _, hlen, hxl, hf⟩ := DataW.trod_struct uRead h
  rw [cRead] at hlen
  obtain ⟨a, b, rfl⟩ := len2' hlen
  obtain ⟨y0, y1, rfl⟩ := len2' hxl
  have h0 : DataW.trod enc Tryz.prog w 0 spare held n 22 [a] = some y0 := by simpa [cInts] using hf 0 _ rfl
  have h1 : DataW.trod enc Tryz.prog w 0 spare held n 4 [b] = some y1 := by simpa [cBool] using hf 1 _ rfl
  obtain ⟨A, n, c, l, rfl, hl, _, _⟩ := read_ints h0
  obtain ⟨r, e1, _⟩ := DataW.trod_bool uBool h1
  cases e1
  exact ⟨r, l, A, n, c, rfl, hl⟩
theorem read_bt {fuel : Nat} {cs : List Value} {x : DataW H × List MemPlace} (h : DataW.trod enc Tryz.prog w 0 spare held fuel 70 cs = some x) : ∃ (s : Gs) (l : List Int) (A : Option Addr) (n c : Nat), cs = [.int .i64 s.pos, .int .i64 s.charge, .bool s.bolted, .slice A n c] ∧ Tab w w.heap.size A n 1 (l.map fun i => [Value.int .i64 i]) := by
  obtain ⟨xs, n, _, _, hlen, hxl, hf⟩ := DataW.trod_struct uBolts h
  rw [cBolts] at hlen
  obtain ⟨a, b, c, d, rfl⟩ := len4 hlen
  obtain ⟨y0, y1, rfl⟩ := len2' hxl
  have h0 : DataW.trod enc Tryz.prog w 0 spare held n 27 [a, b, c] = some y0 := by simpa [cState] using hf 0 _ rfl
  have h1 : DataW.trod enc Tryz.prog w 0 spare held n 22 [d] = some y1 := by simpa [cInts] using hf 1 _ rfl
  obtain ⟨s, e0⟩ := read_state h0
  obtain ⟨A, n, c', l, rfl, hl, _, _⟩ := read_ints h1
  simp only [List.cons.injEq] at e0
  obtain ⟨rfl, rfl, rfl, _⟩ := e0
  exact ⟨s, l, A, n, c', rfl, hl⟩
end
end Go.Proofs.YtmhfnnpbnocafaaGreat
