/- TideFits: Fit returns what the reference returns. -/
import Derived.Test.YtncidhoojgncgaaGreatRfFitW
import Derived.Test.YtncidhoojgncgaaGreatTdFitY
import Derived.Test.YtncidhoojgncgaaGreatTdAwake3
namespace Go.Proofs.YtncidhoojgncgaaGreat
open Go.RowKit
set_option linter.unusedSimpArgs false
set_option linter.unusedVariables false

set_option maxHeartbeats 4000000 in
theorem TideFits_any (g : Gg) (d a : Int) (A : Option Addr) (n c : Nat) (l : List Sp) (w : World) (hg : g.At w w.heap.size) (hl : LvAt w w.heap.size A n l) :
    Calls Tryz.prog 9 #[g.v, .agg #[.int .i64 d, .int .i64 a, .slice A n c]] w fun e w' => e = .returned (.bool true) ∧ Below w.heap.size w w' := by
  have H3 := Lib.hid (fun W h1 h2 => Fit_any g d a A n c l W h1 h2)
  have H4 := Lib.hid (fun W h1 h2 => rFit_any g d a A n c l W h1 h2)
  have Hg := Lib.hid hg; clear hg
  have Hl := Lib.hid hl; clear hl
  generalize fitR g d a n l = s at *
  obtain ⟨⟨lo, hi⟩, er⟩ := s
  go_enter Tryz.func9, Tryz.ntmps9
  go_wp2_with fail
  refine (H3.out _ (Hg.out.grow (by repeat (first | exact Below.refl _ _ | assumption | (refine Below.setCell ?_ (by first | omega | (simp; done) | (simp; omega)) _) | (refine Below.alloc ?_ (by first | omega | (simp; done) | (simp; omega)) _) | refine Below.drew ?_ | (refine below_thru ?_ (by assumption) (by first | omega | (simp; done) | (simp; omega))) | refine below_drewN ?_ _))) (Hl.out.grow (by repeat (first | exact Below.refl _ _ | assumption | (refine Below.setCell ?_ (by first | omega | (simp; done) | (simp; omega)) _) | (refine Below.alloc ?_ (by first | omega | (simp; done) | (simp; omega)) _) | refine Below.drew ?_ | (refine below_thru ?_ (by assumption) (by first | omega | (simp; done) | (simp; omega))) | refine below_drewN ?_ _)))).mono ?_
  rintro e w3 ⟨rfl, hb3⟩
  obtain ⟨hc3, hf3⟩ := bcell hb3; have hz3 := hb3.size; (try simp at hz3)
  have hl3 : w.heap.size < w3.heap.size := by omega
  have hl3' : w.heap.size + 1 < w3.heap.size := by omega
  go_wp2_with fail
  refine (H4.out _ (Hg.out.grow (by repeat (first | exact Below.refl _ _ | assumption | (refine Below.setCell ?_ (by first | omega | (simp; done) | (simp; omega)) _) | (refine Below.alloc ?_ (by first | omega | (simp; done) | (simp; omega)) _) | refine Below.drew ?_ | (refine below_thru ?_ (by assumption) (by first | omega | (simp; done) | (simp; omega))) | refine below_drewN ?_ _))) (Hl.out.grow (by repeat (first | exact Below.refl _ _ | assumption | (refine Below.setCell ?_ (by first | omega | (simp; done) | (simp; omega)) _) | (refine Below.alloc ?_ (by first | omega | (simp; done) | (simp; omega)) _) | refine Below.drew ?_ | (refine below_thru ?_ (by assumption) (by first | omega | (simp; done) | (simp; omega))) | refine below_drewN ?_ _)))).mono ?_
  rintro e w4 ⟨rfl, hb4⟩
  obtain ⟨hc4, hf4⟩ := bcell hb4; have hz4 := hb4.size; (try simp at hz4)
  have hl4 : w.heap.size < w4.heap.size := by omega
  have hl34 : w3.heap.size < w4.heap.size := by omega
  go_wp2_with fail
  refine (Awake_any _).mono ?_
  rintro e w5 ⟨rfl, hb5⟩
  have hz5' := hb5.size
  simp at hz5'
  go_wp2
  go_ret
  exact ⟨rfl, (by repeat (first | exact Below.refl _ _ | assumption | (refine Below.setCell ?_ (by first | omega | (simp; done) | (simp; omega)) _) | (refine Below.alloc ?_ (by first | omega | (simp; done) | (simp; omega)) _) | refine Below.drew ?_ | (refine below_thru ?_ (by assumption) (by first | omega | (simp; done) | (simp; omega))) | refine below_drewN ?_ _))⟩
end Go.Proofs.YtncidhoojgncgaaGreat
