/- GateForces: Force and Falls return what the document says. -/
import Derived.Test.YtgdomaddjiggaaaGreatGtAwake
import Derived.Test.YtgdomaddjiggaaaGreatGtRefK
namespace Go.Proofs.YtgdomaddjiggaaaGreat
open Go.RowKit
set_option linter.unusedSimpArgs false
set_option linter.unusedVariables false

set_option maxRecDepth 100000 in
set_option maxHeartbeats 4000000 in
theorem GateForces_any (g : Ga) (x y z : Int) (w : World) (hg : g.At w w.heap.size) :
    Calls Tryz.prog 4 #[g.v, .agg #[.int .i64 x, .int .i64 y, .int .i64 z]] w fun e w' => e = .returned (.bool true) ∧ Below w.heap.size w w' := by
  have Hg := Lib.hid hg
  have H1 := Lib.hid (fun W h => Force_any g x y z W h)
  have H2 := Lib.hid (fun W h => rForce_any g x y z W h)
  have H3 := Lib.hid (fun W h => Falls_any g y z W h)
  have H4 := Lib.hid (fun W h => rFalls_any g y z W h)
  obtain ⟨a, b, c, h5⟩ : ∃ a b c, forceR g x y z = (a, b, c) := ⟨_, _, _, rfl⟩
  obtain ⟨d, f, h6⟩ : ∃ d f, fallsR g y z = (d, f) := ⟨_, _, rfl⟩
  rw [h5] at H1 H2
  rw [h6] at H3 H4
  have H1 := Lib.hid (show ∀ W, g.At W W.heap.size → Calls Tryz.prog 25 #[g.v, .int .i64 x, .int .i64 y, .int .i64 z] W fun e w' => e = .returned (.tuple #[.int .i64 a, .int .i64 b, .int .i64 c]) ∧ Below W.heap.size W w' from H1.out)
  have H2 := Lib.hid (show ∀ W, g.At W W.heap.size → Calls Tryz.prog 26 #[g.v, .int .i64 x, .int .i64 y, .int .i64 z] W fun e w' => e = .returned (.tuple #[.int .i64 a, .int .i64 b, .int .i64 c]) ∧ Below W.heap.size W w' from H2.out)
  have H3 := Lib.hid (show ∀ W, g.At W W.heap.size → Calls Tryz.prog 27 #[g.v, .int .i64 y, .int .i64 z] W fun e w' => e = .returned (.tuple #[.int .i64 d, .int .i64 f]) ∧ Below W.heap.size W w' from H3.out)
  have H4 := Lib.hid (show ∀ W, g.At W W.heap.size → Calls Tryz.prog 28 #[g.v, .int .i64 y, .int .i64 z] W fun e w' => e = .returned (.tuple #[.int .i64 d, .int .i64 f]) ∧ Below W.heap.size W w' from H4.out)
  clear hg h5 h6
  go_enter Tryz.func4, Tryz.ntmps4
  go_wp2_with (with_reducible refine wpl_g (g := g) ((Blk.new w _ _).alloc _) rfl rfl rfl ?_)
  refine (H1.out _ (Hg.out.grow (by repeat (first | exact Below.refl _ _ | assumption | (refine Below.setCell ?_ (by first | omega | (simp; done) | (simp; omega)) _) | (refine Below.alloc ?_ (by first | omega | (simp; done) | (simp; omega)) _) | refine Below.drew ?_ | (refine below_thru ?_ (by assumption) (by first | omega | (simp; done) | (simp; omega))) | refine below_drewN ?_ _)))).mono ?_
  rintro e w1 ⟨rfl, hb1⟩
  obtain ⟨hc1, hf1⟩ := bcell hb1; have hz1 := hb1.size; (try simp at hz1)
  have hG1 : Blk w1 w.heap.size 33 (grow g) := Blk.thru (by (repeat (first | assumption | exact Blk.new _ _ _ | (refine Blk.new' _ _ _ ?_; (simp; done)) | refine Blk.drew ?_ | refine Blk.alloc ?_ _ | (refine Blk.fars ?_ ?_ _ _; rotate_left; (dsimp only; omega)) | (refine Blk.far ?_ ?_ _; rotate_left; (first | (dsimp only; omega) | (simp; done) | (simp; omega) | omega))))) hb1 (by simp <;> omega)
  have hX1 : Blk w1 (w.heap.size + 1) 36 #[.int .i64 x, .int .i64 y, .int .i64 z] := Blk.thru (by (repeat (first | assumption | exact Blk.new _ _ _ | (refine Blk.new' _ _ _ ?_; (simp; done)) | refine Blk.drew ?_ | refine Blk.alloc ?_ _ | (refine Blk.fars ?_ ?_ _ _; rotate_left; (dsimp only; omega)) | (refine Blk.far ?_ ?_ _; rotate_left; (first | (dsimp only; omega) | (simp; done) | (simp; omega) | omega))))) hb1 (by simp <;> omega)
  have hw1 : Below w.heap.size w w1 := (by repeat (first | exact Below.refl _ _ | assumption | (refine Below.setCell ?_ (by first | omega | (simp; done) | (simp; omega)) _) | (refine Below.alloc ?_ (by first | omega | (simp; done) | (simp; omega)) _) | refine Below.drew ?_ | (refine below_thru ?_ (by assumption) (by first | omega | (simp; done) | (simp; omega))) | refine below_drewN ?_ _))
  clear hb1 hc1 hf1
  have step : ∀ (W W' : World), Blk W w.heap.size 33 (grow g) → Blk W (w.heap.size + 1) 36 #[.int .i64 x, .int .i64 y, .int .i64 z] → Below w.heap.size w W → Below W.heap.size W W' → Blk W' w.heap.size 33 (grow g) ∧ Blk W' (w.heap.size + 1) 36 #[.int .i64 x, .int .i64 y, .int .i64 z] ∧ Below w.heap.size w W' :=
    fun W W' h1 h2 h3 h4 => ⟨h1.thru h4 h1.lt, h2.thru h4 h2.lt, h3.trans (h4.mono h3.size)⟩
  have Hst := Lib.hid step
  clear step
  have HG1 := Lib.hid hG1
  have HX1 := Lib.hid hX1
  obtain ⟨x0, x1, x2, _⟩ := hX1.three
  have hl1 := hX1.lt
  clear hG1 hX1
  go_wp2_with (with_reducible refine wpl_g (g := g) (b := w.heap.size) (t := 33) HG1.out rfl rfl rfl ?_)
  refine (H2.out _ (Hg.out.grow hw1)).mono ?_
  rintro e w2 ⟨rfl, hb2⟩
  obtain ⟨hG2, hX2, hw2⟩ := Hst.out w1 w2 HG1.out HX1.out hw1 hb2
  have HG2 := Lib.hid hG2
  have HX2 := Lib.hid hX2
  have hl2 := hX2.lt
  clear x0 x1 x2
  obtain ⟨x0, x1, x2, _⟩ := hX2.three
  clear hG2 hX2 hb2
  go_wp2_with (with_reducible refine wpl_g (g := g) (b := w.heap.size) (t := 33) HG2.out rfl rfl rfl ?_)
  refine (H3.out _ (Hg.out.grow hw2)).mono ?_
  rintro e w3 ⟨rfl, hb3⟩
  obtain ⟨hG3, hX3, hw3⟩ := Hst.out w2 w3 HG2.out HX2.out hw2 hb3
  have HG3 := Lib.hid hG3
  have hl3 := hX3.lt
  clear x0 x1 x2
  obtain ⟨x0, x1, x2, _⟩ := hX3.three
  clear hG3 hX3 hb3
  go_wp2_with (with_reducible refine wpl_g (g := g) (b := w.heap.size) (t := 33) HG3.out rfl rfl rfl ?_)
  refine (H4.out _ (Hg.out.grow hw3)).mono ?_
  rintro e w4 ⟨rfl, hb4⟩
  have hw4 : Below w.heap.size w w4 := hw3.trans (hb4.mono hw3.size)
  clear hb4 x0 x1 x2
  go_wp2_with fail
  refine (Awake_any _).mono ?_
  rintro e w5 ⟨rfl, hb5⟩
  go_wp2
  go_ret
  exact ⟨rfl, hw4.trans (hb5.mono hw4.size)⟩
end Go.Proofs.YtgdomaddjiggaaaGreat
