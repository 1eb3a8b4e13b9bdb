/- How an array of three numbers reads. How sets, lists of states, steps and truths read. -/
import Derived.Test.YtmhfnnpbnocafaaGreatGtRow
import Derived.Test.YtmhfnnpbnocafaaGreatGtSetOf
namespace Go.Proofs.YtmhfnnpbnocafaaGreat
open Go.ChangeShapes Go.WideShapes Go.ChangeAt Go.RowKit Go.Deep
set_option linter.unusedSimpArgs false
set_option linter.unusedVariables false

end Go.Proofs.YtmhfnnpbnocafaaGreat

namespace Go.Proofs.YtmhfnnpbnocafaaGreat
open Go.ChangeShapes Go.WideShapes Go.ChangeAt Go.RowKit Go.Deep
set_option linter.unusedSimpArgs false
set_option linter.unusedVariables false

theorem uRule : Tryz.prog.underlying 77 = some (.struct #[Field.mk "Gate" 3 0 false "" "" 0, Field.mk "Other" 3 1 false "" "" 8, Field.mk "Lo" 3 2 false "" "" 16, Field.mk "Hi" 3 3 false "" "" 24]) := by kernel_rfl
theorem uRules : Tryz.prog.underlying 59 = some (.slice 77) := by kernel_rfl
theorem uGatesL : Tryz.prog.underlying 58 = some (.slice 25) := by kernel_rfl
theorem uStatesL : Tryz.prog.underlying 54 = some (.slice 27) := by kernel_rfl
theorem uStepsL : Tryz.prog.underlying 63 = some (.slice 51) := by kernel_rfl
theorem uBoolsL : Tryz.prog.underlying 64 = some (.slice 4) := by kernel_rfl
theorem uSetS : Tryz.prog.underlying 61 = some (.struct #[Field.mk "Gates" 58 0 false "" "" 0, Field.mk "Rules" 59 1 false "" "" 24]) := by kernel_rfl
theorem cRule : Tryz.prog.cellsOf 77 = 4 := by kernel_rfl
theorem cRules : Tryz.prog.cellsOf 59 = 1 := by kernel_rfl
theorem cGatesL : Tryz.prog.cellsOf 58 = 1 := by kernel_rfl
theorem cSetS : Tryz.prog.cellsOf 61 = 2 := by kernel_rfl
theorem uJoint : Tryz.prog.underlying 75 = some (.struct #[Field.mk "States" 54 0 false "" "" 0, Field.mk "Steps" 63 1 false "" "" 24, Field.mk "Ships" 64 2 false "" "" 48]) := by kernel_rfl
theorem cJoint : Tryz.prog.cellsOf 75 = 3 := by kernel_rfl
theorem cStatesL : Tryz.prog.cellsOf 54 = 1 := by kernel_rfl
theorem cStepsL : Tryz.prog.cellsOf 63 = 1 := by kernel_rfl
theorem cBoolsL : Tryz.prog.cellsOf 64 = 1 := by kernel_rfl
/-- What is done with a set. -/
structure Jo where
  sA : Option Addr
  sn : Nat
  sc : Nat
  ss : List Gs
  tA : Option Addr
  tn : Nat
  tc : Nat
  ts : List Gt
  pA : Option Addr
  pn : Nat
  pc : Nat
  ps : List Bool
abbrev Jo.v (j : Jo) : Value := .agg #[.slice j.sA j.sn j.sc, .slice j.tA j.tn j.tc, .slice j.pA j.pn j.pc]
structure Jo.At (j : Jo) (w : World) (B : Nat) : Prop where
  s : Tab w B j.sA j.sn 3 (j.ss.map Gs.cells)
  t : Tab w B j.tA j.tn 4 (j.ts.map Gt.cells)
  p : Tab w B j.pA j.pn 1 (j.ps.map fun b => [Value.bool b])
  sm : j.sn ≤ maxLen
  tm : j.tn ≤ maxLen
  pm : j.pn ≤ maxLen
  sc : j.sn ≤ j.sc
  tc : j.tn ≤ j.tc
  pc : j.pn ≤ j.pc
theorem Jo.At.grow {j : Jo} {w w' : World} (h : j.At w w.heap.size) (hb : Below w.heap.size w w') : j.At w' w'.heap.size := ⟨h.s.grow hb, h.t.grow hb, h.p.grow hb, h.sm, h.tm, h.pm, h.sc, h.tc, h.pc⟩
instance : Inhabited Gr := ⟨⟨0, 0, 0, 0⟩⟩
theorem len2' {α : Type} {l : List α} (h : l.length = 2) : ∃ a b, l = [a, b] := by
  match l, h with
  | [a, b], _ => exact ⟨a, b, rfl⟩
section
variable {H : Type} {enc : TypeId × Value → H} {w : World} {spare : Nat → Bool} {held : Bool}
theorem read_rule {base fuel : Nat} {cs : List Value} {x : DataW H × List MemPlace} (h : DataW.trod enc Tryz.prog w base spare held fuel 77 cs = some x) : ∃ r : Gr, cs = r.cells := by
  obtain ⟨xs, n, _, _, hlen, hxl, hf⟩ := DataW.trod_struct uRule h
  rw [cRule] at hlen
  obtain ⟨a, b, c, d, rfl⟩ := len4 hlen
  obtain ⟨y0, y1, y2, y3, rfl⟩ := len4 hxl
  have h0 : DataW.trod enc Tryz.prog w base spare held n 3 [a] = some y0 := by simpa [cInt] using hf 0 _ rfl
  have h1 : DataW.trod enc Tryz.prog w base spare held n 3 [b] = some y1 := by simpa [cInt] using hf 1 _ rfl
  have h2 : DataW.trod enc Tryz.prog w base spare held n 3 [c] = some y2 := by simpa [cInt] using hf 2 _ rfl
  have h3 : DataW.trod enc Tryz.prog w base spare held n 3 [d] = some y3 := by simpa [cInt] using hf 3 _ rfl
  obtain ⟨p, e0⟩ := read_int1 h0
  obtain ⟨q, e1⟩ := read_int1 h1
  obtain ⟨r, e2⟩ := read_int1 h2
  obtain ⟨s, e3⟩ := read_int1 h3
  cases e0
  cases e1
  cases e2
  cases e3
  exact ⟨⟨p, q, r, s⟩, rfl⟩
theorem read_set {fuel : Nat} {cs : List Value} {x : DataW H × List MemPlace} (h : DataW.trod enc Tryz.prog w 0 spare held fuel 61 cs = some x) : ∃ l : St, cs = [.slice l.gA l.gn l.gc, .slice l.rA l.rn l.rc] ∧ l.At w w.heap.size := by
  obtain ⟨xs, n, _, _, hlen, hxl, hf⟩ := DataW.trod_struct uSetS h
  rw [cSetS] at hlen
  obtain ⟨a, b, rfl⟩ := len2' hlen
  obtain ⟨y0, y1, rfl⟩ := len2' hxl
  have h0 : DataW.trod enc Tryz.prog w 0 spare held n 58 [a] = some y0 := by simpa [cGatesL] using hf 0 _ rfl
  have h1 : DataW.trod enc Tryz.prog w 0 spare held n 59 [b] = some y1 := by simpa [cRules] using hf 1 _ rfl
  obtain ⟨gA, gn, gc, gs, rfl, hg, hgn, hgc, hga⟩ := read_slice Ga.cells (fun g => g.At w w.heap.size) 21 (by omega) uGatesL cGate (fun n cs x h => read_gate h) h0
  obtain ⟨rA, rn, rc, rs, rfl, hr, hrn, _, _⟩ := read_slice Gr.cells (fun _ => True) 4 (by omega) uRules cRule (fun n cs x h => by obtain ⟨z, e⟩ := read_rule h; exact ⟨z, e, trivial⟩) h1
  exact ⟨⟨gA, gn, gc, gs, rA, rn, rc, rs⟩, rfl, ⟨⟨hg, hga⟩, hr, hgn, hrn, hgc⟩⟩
theorem read_states {fuel : Nat} {v : Value} {x : DataW H × List MemPlace} (h : DataW.trod enc Tryz.prog w 0 spare held fuel 54 [v] = some x) : ∃ (A : Option Addr) (n c : Nat) (l : List Gs), v = .slice A n c ∧ Tab w w.heap.size A n 3 (l.map Gs.cells) ∧ n ≤ maxLen ∧ n ≤ c := by
  obtain ⟨A, n, c, l, e, ht, hn, hc, _⟩ := read_slice Gs.cells (fun _ => True) 3 (by omega) uStatesL cState (fun n cs x h => by obtain ⟨z, e⟩ := read_state h; exact ⟨z, e, trivial⟩) h
  exact ⟨A, n, c, l, e, ht, hn, hc⟩
theorem read_steps {fuel : Nat} {v : Value} {x : DataW H × List MemPlace} (h : DataW.trod enc Tryz.prog w 0 spare held fuel 63 [v] = some x) : ∃ (A : Option Addr) (n c : Nat) (l : List Gt), v = .slice A n c ∧ Tab w w.heap.size A n 4 (l.map Gt.cells) ∧ n ≤ maxLen ∧ n ≤ c := by
  obtain ⟨A, n, c, l, e, ht, hn, hc, _⟩ := read_slice Gt.cells (fun _ => True) 4 (by omega) uStepsL cStep (fun n cs x h => by obtain ⟨z, e⟩ := read_step h; exact ⟨z, e, trivial⟩) h
  exact ⟨A, n, c, l, e, ht, hn, hc⟩
theorem read_bools {fuel : Nat} {v : Value} {x : DataW H × List MemPlace} (h : DataW.trod enc Tryz.prog w 0 spare held fuel 64 [v] = some x) : ∃ (A : Option Addr) (n c : Nat) (l : List Bool), v = .slice A n c ∧ Tab w w.heap.size A n 1 (l.map fun b => [Value.bool b]) ∧ n ≤ maxLen ∧ n ≤ c := by
  obtain ⟨A, n, c, l, e, ht, hn, hc, _⟩ := read_slice (fun b : Bool => [Value.bool b]) (fun _ => True) 1 (by omega) uBoolsL cBool (fun n cs x h => by obtain ⟨r, e, _⟩ := DataW.trod_bool uBool h; exact ⟨r, e, trivial⟩) h
  exact ⟨A, n, c, l, e, ht, hn, hc⟩
theorem read_joint {fuel : Nat} {cs : List Value} {x : DataW H × List MemPlace} (h : DataW.trod enc Tryz.prog w 0 spare held fuel 75 cs = some x) : ∃ j : Jo, cs = [.slice j.sA j.sn j.sc, .slice j.tA j.tn j.tc, .slice j.pA j.pn j.pc] ∧ j.At w w.heap.size := by
  obtain ⟨xs, n, _, _, hlen, hxl, hf⟩ := DataW.trod_struct uJoint h
  rw [cJoint] at hlen
  obtain ⟨a, b, c, rfl⟩ := len3 hlen
  obtain ⟨y0, y1, y2, rfl⟩ := len3 hxl
  have h0 : DataW.trod enc Tryz.prog w 0 spare held n 54 [a] = some y0 := by simpa [cStatesL] using hf 0 _ rfl
  have h1 : DataW.trod enc Tryz.prog w 0 spare held n 63 [b] = some y1 := by simpa [cStepsL] using hf 1 _ rfl
  have h2 : DataW.trod enc Tryz.prog w 0 spare held n 64 [c] = some y2 := by simpa [cBoolsL] using hf 2 _ rfl
  obtain ⟨sA, sn, sc, ss, e0, s1, s2, s3⟩ := read_states h0
  obtain ⟨tA, tn, tc, ts, e1, t1, t2, t3⟩ := read_steps h1
  obtain ⟨pA, pn, pc, ps, e2, p1, p2, p3⟩ := read_bools h2
  cases e0
  cases e1
  cases e2
  exact ⟨⟨sA, sn, sc, ss, tA, tn, tc, ts, pA, pn, pc, ps⟩, rfl, ⟨s1, t1, p1, s2, t2, p2, s3, t3, p3⟩⟩
end
end Go.Proofs.YtmhfnnpbnocafaaGreat
