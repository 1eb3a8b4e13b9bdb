/- GateTimes: Time returns what the document says. -/
import Derived.Test.YtgdomaddjiggaaaGreatGtAwake
import Derived.Test.YtgdomaddjiggaaaGreatGtRefM
namespace Go.Proofs.YtgdomaddjiggaaaGreat
open Go.RowKit
set_option linter.unusedSimpArgs false
set_option linter.unusedVariables false

set_option maxRecDepth 100000 in
set_option maxHeartbeats 4000000 in
theorem GateTimes_any (g : Ga) (s : Gs) (a b : Int) (p : Bool) (w : World) (hg : g.At w w.heap.size) :
    Calls Tryz.prog 6 #[g.v, s.v, .agg #[.int .i64 a, .int .i64 b, .bool p]] w fun e w' => e = .returned (.bool true) ∧ Below w.heap.size w w' := by
  have Hg := Lib.hid hg
  have H1 := Lib.hid (fun W h => Time_any g s a b p W h)
  have H2 := Lib.hid (fun W h => rTime_any g s a b p W h)
  obtain ⟨d, f, h6⟩ : ∃ d f, timeR g s ⟨1, p, a, b⟩ = (d, f) := ⟨_, _, rfl⟩
  rw [h6] at H1 H2
  have H1 := Lib.hid (show ∀ W, g.At W W.heap.size → Calls Tryz.prog 34 #[g.v, .agg #[.int .i64 s.pos, .int .i64 s.charge, .bool s.bolted], .int .i64 a, .int .i64 b, .bool p] W fun e w' => e = .returned (.tuple #[.int .i64 d, .int .i64 f]) ∧ Below W.heap.size W w' from H1.out)
  have H2 := Lib.hid (show ∀ W, g.At W W.heap.size → Calls Tryz.prog 35 #[g.v, .agg #[.int .i64 s.pos, .int .i64 s.charge, .bool s.bolted], .int .i64 a, .int .i64 b, .bool p] W fun e w' => e = .returned (.tuple #[.int .i64 d, .int .i64 f]) ∧ Below W.heap.size W w' from H2.out)
  clear hg h6
  go_enter Tryz.func6, Tryz.ntmps6
  go_wp2_with (with_reducible refine wpl_g (g := g) (((Blk.new w _ _).alloc _).alloc _) rfl rfl rfl ?_)
  refine (H1.out _ (Hg.out.grow (by repeat (first | exact Below.refl _ _ | assumption | (refine Below.setCell ?_ (by first | omega | (simp; done) | (simp; omega)) _) | (refine Below.alloc ?_ (by first | omega | (simp; done) | (simp; omega)) _) | refine Below.drew ?_ | (refine below_thru ?_ (by assumption) (by first | omega | (simp; done) | (simp; omega))) | refine below_drewN ?_ _)))).mono ?_
  rintro e w1 ⟨rfl, hb1⟩
  obtain ⟨hc1, hf1⟩ := bcell hb1; have hz1 := hb1.size; (try simp at hz1)
  have hG1 : Blk w1 w.heap.size 33 (grow g) := Blk.thru (by (repeat (first | assumption | exact Blk.new _ _ _ | (refine Blk.new' _ _ _ ?_; (simp; done)) | refine Blk.drew ?_ | refine Blk.alloc ?_ _ | (refine Blk.fars ?_ ?_ _ _; rotate_left; (dsimp only; omega)) | (refine Blk.far ?_ ?_ _; rotate_left; (first | (dsimp only; omega) | (simp; done) | (simp; omega) | omega))))) hb1 (by simp <;> omega)
  have hS1 : Blk w1 (w.heap.size + 1) 42 #[.int .i64 s.pos, .int .i64 s.charge, .bool s.bolted] := Blk.thru (by (repeat (first | assumption | exact Blk.new _ _ _ | (refine Blk.new' _ _ _ ?_; (simp; done)) | refine Blk.drew ?_ | refine Blk.alloc ?_ _ | (refine Blk.fars ?_ ?_ _ _; rotate_left; (dsimp only; omega)) | (refine Blk.far ?_ ?_ _; rotate_left; (first | (dsimp only; omega) | (simp; done) | (simp; omega) | omega))))) hb1 (by simp <;> omega)
  have hX1 : Blk w1 (w.heap.size + 1 + 1) 56 #[.int .i64 a, .int .i64 b, .bool p] := Blk.thru (by (repeat (first | assumption | exact Blk.new _ _ _ | (refine Blk.new' _ _ _ ?_; (simp; done)) | refine Blk.drew ?_ | refine Blk.alloc ?_ _ | (refine Blk.fars ?_ ?_ _ _; rotate_left; (dsimp only; omega)) | (refine Blk.far ?_ ?_ _; rotate_left; (first | (dsimp only; omega) | (simp; done) | (simp; omega) | omega))))) hb1 (by simp <;> omega)
  have hw1 : Below w.heap.size w w1 := (by repeat (first | exact Below.refl _ _ | assumption | (refine Below.setCell ?_ (by first | omega | (simp; done) | (simp; omega)) _) | (refine Below.alloc ?_ (by first | omega | (simp; done) | (simp; omega)) _) | refine Below.drew ?_ | (refine below_thru ?_ (by assumption) (by first | omega | (simp; done) | (simp; omega))) | refine below_drewN ?_ _))
  clear hb1 hc1 hf1
  have HG1 := Lib.hid hG1
  obtain ⟨s0, s1, s2, _⟩ := hS1.three
  obtain ⟨x0, x1, x2, _⟩ := hX1.three
  have hl1 := hX1.lt
  have hl2 := hS1.lt
  clear hG1 hX1 hS1
  go_wp2_with (with_reducible refine wpl_g (g := g) (b := w.heap.size) (t := 33) HG1.out rfl rfl rfl ?_)
  refine (H2.out _ (Hg.out.grow hw1)).mono ?_
  rintro e w2 ⟨rfl, hb2⟩
  have hw2 : Below w.heap.size w w2 := hw1.trans (hb2.mono hw1.size)
  clear hb2 x0 x1 x2 s0 s1 s2
  go_wp2_with fail
  refine (Awake_any _).mono ?_
  rintro e w5 ⟨rfl, hb5⟩
  go_wp2
  go_ret
  exact ⟨rfl, hw2.trans (hb5.mono hw2.size)⟩
end Go.Proofs.YtgdomaddjiggaaaGreat
