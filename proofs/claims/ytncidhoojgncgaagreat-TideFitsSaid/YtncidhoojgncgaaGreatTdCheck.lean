/- CheckGauge: the fault of a gauge, as three numbers. -/
import Derived.Test.YtncidhoojgncgaaGreatTdKnows
namespace Go.Proofs.YtncidhoojgncgaaGreat
open Go.RowKit
set_option linter.unusedSimpArgs false
set_option linter.unusedVariables false

set_option maxHeartbeats 1000000 in
theorem CheckGauge_any (g : Gg) (w : World) (hg : g.At w w.heap.size) :
    Calls Tryz.prog 35 #[g.v] w fun e w' => e = .returned (.tuple #[.int .i64 (gaugeF g).part, .int .i64 (gaugeF g).at_, .int .i64 (gaugeF g).e]) ∧ Below w.heap.size w w' := by
  have H := Lib.hid (gaugeFault_any g)
  have Hg := Lib.hid hg; clear hg
  go_enter Tryz.func35, Tryz.ntmps35
  go_wp2_with fail
  refine (H.out _ (Hg.out.grow (by repeat (first | exact Below.refl _ _ | assumption | (refine Below.setCell ?_ (by first | omega | (simp; done) | (simp; omega)) _) | (refine Below.alloc ?_ (by first | omega | (simp; done) | (simp; omega)) _) | refine Below.drew ?_ | (refine below_thru ?_ (by assumption) (by first | omega | (simp; done) | (simp; omega))) | refine below_drewN ?_ _)))).mono ?_
  rintro e w1 ⟨rfl, hb1⟩
  generalize hf : gaugeF g = f
  have Hf := Lib.hid hf; clear hf
  obtain ⟨p, a, c⟩ := f
  obtain ⟨hc1, hf1⟩ := bcell hb1; have hz1 := hb1.size; (try simp at hz1)
  go_wp2_with fail
  go_region
  all_goals go_wp2
  all_goals exact bodyPost_ret (v := .tuple #[.int .i64 p, .int .i64 a, .int .i64 c]) (by simp [results, Tryz.results35, go_sem] <;> omega) rfl ⟨by rw [Hf.out], (by repeat (first | exact Below.refl _ _ | assumption | (refine Below.setCell ?_ (by first | omega | (simp; done) | (simp; omega)) _) | (refine Below.alloc ?_ (by first | omega | (simp; done) | (simp; omega)) _) | refine Below.drew ?_ | (refine below_thru ?_ (by assumption) (by first | omega | (simp; done) | (simp; omega))) | refine below_drewN ?_ _))⟩
end Go.Proofs.YtncidhoojgncgaaGreat
