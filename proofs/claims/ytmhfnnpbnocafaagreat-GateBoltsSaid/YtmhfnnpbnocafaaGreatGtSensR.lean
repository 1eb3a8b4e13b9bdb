/- Whether sensors agree with a position, by the reference and by the statements' own words. -/
import Derived.Test.YtmhfnnpbnocafaaGreatGtSens
namespace Go.Proofs.YtmhfnnpbnocafaaGreat
open Go.RowKit
set_option linter.unusedSimpArgs false
set_option linter.unusedVariables false

set_option maxRecDepth 100000 in
set_option maxHeartbeats 4000000 in
theorem ragrees_any (s : Sn) (r p : Int) (w : World) (a0 : 0 ≤ s.at_) (a1 : s.at_ ≤ 5000) (t0 : 0 ≤ s.tol) (t1 : s.tol ≤ 5000) (p0 : 0 ≤ p) (p1 : p ≤ 5000) :
    Calls Tryz.prog 89 #[snv s, .int .i64 r, .int .i64 p] w fun e w' => e = .returned (.bool (agreesB s r p)) ∧ Below w.heap.size w w' := by
  by_cases hk : s.kind = 1
  · have q : (s.kind == 1) = true := by rw [beq_iff_eq]; exact hk
    have hf : agreesB s r p = betw r (p - s.tol) (p + s.tol) := by unfold agreesB; rw [if_pos hk]
    by_cases h1 : p - s.tol ≤ r
    · by_cases h2 : r ≤ p + s.tol
      · have hf2 : agreesB s r p = true := by rw [hf]; simp [betw, h1, h2]
        rw [hf2]
        clear hf hf2 hk
        go_enter Tryz.func89, Tryz.ntmps89
        go_wp2
        go_ret
        exact ⟨rfl, (by repeat (first | exact Below.refl _ _ | assumption | (refine Below.setCell ?_ (by first | omega | (simp; done) | (simp; omega)) _) | (refine Below.alloc ?_ (by first | omega | (simp; done) | (simp; omega)) _) | refine Below.drew ?_ | (refine below_thru ?_ (by assumption) (by first | omega | (simp; done) | (simp; omega))) | refine below_drewN ?_ _))⟩
      · have hf2 : agreesB s r p = false := by rw [hf]; simp [betw]; omega
        rw [hf2]
        clear hf hf2 hk
        go_enter Tryz.func89, Tryz.ntmps89
        go_wp2
        go_ret
        exact ⟨rfl, (by repeat (first | exact Below.refl _ _ | assumption | (refine Below.setCell ?_ (by first | omega | (simp; done) | (simp; omega)) _) | (refine Below.alloc ?_ (by first | omega | (simp; done) | (simp; omega)) _) | refine Below.drew ?_ | (refine below_thru ?_ (by assumption) (by first | omega | (simp; done) | (simp; omega))) | refine below_drewN ?_ _))⟩
    · have hf2 : agreesB s r p = false := by rw [hf]; simp [betw]; omega
      rw [hf2]
      clear hf hf2 hk
      go_enter Tryz.func89, Tryz.ntmps89
      go_wp2
      go_ret
      exact ⟨rfl, (by repeat (first | exact Below.refl _ _ | assumption | (refine Below.setCell ?_ (by first | omega | (simp; done) | (simp; omega)) _) | (refine Below.alloc ?_ (by first | omega | (simp; done) | (simp; omega)) _) | refine Below.drew ?_ | (refine below_thru ?_ (by assumption) (by first | omega | (simp; done) | (simp; omega))) | refine below_drewN ?_ _))⟩
  · have q : (s.kind == 1) = false := by rw [beq_eq_false_iff_ne]; exact hk
    by_cases h1 : r = 1
    · have hf : agreesB s r p = decide (s.at_ - s.tol ≤ p) := by unfold agreesB; rw [if_neg hk, if_pos h1]
      subst h1
      by_cases h2 : s.at_ - s.tol ≤ p
      · have hf2 : agreesB s 1 p = true := by rw [hf]; simp [h2]
        rw [hf2]
        clear hf hf2 hk
        go_enter Tryz.func89, Tryz.ntmps89
        go_wp2
        go_ret
        exact ⟨rfl, (by repeat (first | exact Below.refl _ _ | assumption | (refine Below.setCell ?_ (by first | omega | (simp; done) | (simp; omega)) _) | (refine Below.alloc ?_ (by first | omega | (simp; done) | (simp; omega)) _) | refine Below.drew ?_ | (refine below_thru ?_ (by assumption) (by first | omega | (simp; done) | (simp; omega))) | refine below_drewN ?_ _))⟩
      · have hf2 : agreesB s 1 p = false := by rw [hf]; simp [h2]
        rw [hf2]
        clear hf hf2 hk
        go_enter Tryz.func89, Tryz.ntmps89
        go_wp2
        go_ret
        exact ⟨rfl, (by repeat (first | exact Below.refl _ _ | assumption | (refine Below.setCell ?_ (by first | omega | (simp; done) | (simp; omega)) _) | (refine Below.alloc ?_ (by first | omega | (simp; done) | (simp; omega)) _) | refine Below.drew ?_ | (refine below_thru ?_ (by assumption) (by first | omega | (simp; done) | (simp; omega))) | refine below_drewN ?_ _))⟩
    · have q1 : (r == 1) = false := by rw [beq_eq_false_iff_ne]; exact h1
      by_cases h0 : r = 0
      · have hf : agreesB s r p = decide (p ≤ s.at_ + s.tol) := by unfold agreesB; rw [if_neg hk, if_neg h1, if_pos h0]
        subst h0
        by_cases h2 : p ≤ s.at_ + s.tol
        · have hf2 : agreesB s 0 p = true := by rw [hf]; simp [h2]
          rw [hf2]
          clear hf hf2 hk h1 q1
          go_enter Tryz.func89, Tryz.ntmps89
          go_wp2
          go_ret
          exact ⟨rfl, (by repeat (first | exact Below.refl _ _ | assumption | (refine Below.setCell ?_ (by first | omega | (simp; done) | (simp; omega)) _) | (refine Below.alloc ?_ (by first | omega | (simp; done) | (simp; omega)) _) | refine Below.drew ?_ | (refine below_thru ?_ (by assumption) (by first | omega | (simp; done) | (simp; omega))) | refine below_drewN ?_ _))⟩
        · have hf2 : agreesB s 0 p = false := by rw [hf]; simp [h2]
          rw [hf2]
          clear hf hf2 hk h1 q1
          go_enter Tryz.func89, Tryz.ntmps89
          go_wp2
          go_ret
          exact ⟨rfl, (by repeat (first | exact Below.refl _ _ | assumption | (refine Below.setCell ?_ (by first | omega | (simp; done) | (simp; omega)) _) | (refine Below.alloc ?_ (by first | omega | (simp; done) | (simp; omega)) _) | refine Below.drew ?_ | (refine below_thru ?_ (by assumption) (by first | omega | (simp; done) | (simp; omega))) | refine below_drewN ?_ _))⟩
      · have hf : agreesB s r p = false := by unfold agreesB; rw [if_neg hk, if_neg h1, if_neg h0]
        have q2 : (r == 0) = false := by rw [beq_eq_false_iff_ne]; exact h0
        rw [hf]
        clear hf hk h1 h0
        go_enter Tryz.func89, Tryz.ntmps89
        go_wp2
        go_ret
        exact ⟨rfl, (by repeat (first | exact Below.refl _ _ | assumption | (refine Below.setCell ?_ (by first | omega | (simp; done) | (simp; omega)) _) | (refine Below.alloc ?_ (by first | omega | (simp; done) | (simp; omega)) _) | refine Below.drew ?_ | (refine below_thru ?_ (by assumption) (by first | omega | (simp; done) | (simp; omega))) | refine below_drewN ?_ _))⟩
set_option maxRecDepth 100000 in
set_option maxHeartbeats 4000000 in
theorem lagrees_any (s : Sn) (r p : Int) (w : World) (a0 : 0 ≤ s.at_) (a1 : s.at_ ≤ 5000) (t0 : 0 ≤ s.tol) (t1 : s.tol ≤ 5000) (p0 : 0 ≤ p) (p1 : p ≤ 5000) :
    Calls Tryz.prog 57 #[snv s, .int .i64 r, .int .i64 p] w fun e w' => e = .returned (.bool (agreesB s r p)) ∧ Below w.heap.size w w' := by
  by_cases hk : s.kind = 1
  · have q : (s.kind == 1) = true := by rw [beq_iff_eq]; exact hk
    have hf : agreesB s r p = betw r (p - s.tol) (p + s.tol) := by unfold agreesB; rw [if_pos hk]
    by_cases h1 : p - s.tol ≤ r
    · by_cases h2 : r ≤ p + s.tol
      · have hf2 : agreesB s r p = true := by rw [hf]; simp [betw, h1, h2]
        rw [hf2]
        clear hf hf2 hk
        go_enter Tryz.func57, Tryz.ntmps57
        go_wp2
        go_ret
        exact ⟨rfl, (by repeat (first | exact Below.refl _ _ | assumption | (refine Below.setCell ?_ (by first | omega | (simp; done) | (simp; omega)) _) | (refine Below.alloc ?_ (by first | omega | (simp; done) | (simp; omega)) _) | refine Below.drew ?_ | (refine below_thru ?_ (by assumption) (by first | omega | (simp; done) | (simp; omega))) | refine below_drewN ?_ _))⟩
      · have hf2 : agreesB s r p = false := by rw [hf]; simp [betw]; omega
        rw [hf2]
        clear hf hf2 hk
        go_enter Tryz.func57, Tryz.ntmps57
        go_wp2
        go_ret
        exact ⟨rfl, (by repeat (first | exact Below.refl _ _ | assumption | (refine Below.setCell ?_ (by first | omega | (simp; done) | (simp; omega)) _) | (refine Below.alloc ?_ (by first | omega | (simp; done) | (simp; omega)) _) | refine Below.drew ?_ | (refine below_thru ?_ (by assumption) (by first | omega | (simp; done) | (simp; omega))) | refine below_drewN ?_ _))⟩
    · have hf2 : agreesB s r p = false := by rw [hf]; simp [betw]; omega
      rw [hf2]
      clear hf hf2 hk
      go_enter Tryz.func57, Tryz.ntmps57
      go_wp2
      go_ret
      exact ⟨rfl, (by repeat (first | exact Below.refl _ _ | assumption | (refine Below.setCell ?_ (by first | omega | (simp; done) | (simp; omega)) _) | (refine Below.alloc ?_ (by first | omega | (simp; done) | (simp; omega)) _) | refine Below.drew ?_ | (refine below_thru ?_ (by assumption) (by first | omega | (simp; done) | (simp; omega))) | refine below_drewN ?_ _))⟩
  · have q : (s.kind == 1) = false := by rw [beq_eq_false_iff_ne]; exact hk
    by_cases h1 : r = 1
    · have hf : agreesB s r p = decide (s.at_ - s.tol ≤ p) := by unfold agreesB; rw [if_neg hk, if_pos h1]
      subst h1
      by_cases h2 : s.at_ - s.tol ≤ p
      · have hf2 : agreesB s 1 p = true := by rw [hf]; simp [h2]
        rw [hf2]
        clear hf hf2 hk
        go_enter Tryz.func57, Tryz.ntmps57
        go_wp2
        go_ret
        exact ⟨rfl, (by repeat (first | exact Below.refl _ _ | assumption | (refine Below.setCell ?_ (by first | omega | (simp; done) | (simp; omega)) _) | (refine Below.alloc ?_ (by first | omega | (simp; done) | (simp; omega)) _) | refine Below.drew ?_ | (refine below_thru ?_ (by assumption) (by first | omega | (simp; done) | (simp; omega))) | refine below_drewN ?_ _))⟩
      · have hf2 : agreesB s 1 p = false := by rw [hf]; simp [h2]
        rw [hf2]
        clear hf hf2 hk
        go_enter Tryz.func57, Tryz.ntmps57
        go_wp2
        go_ret
        exact ⟨rfl, (by repeat (first | exact Below.refl _ _ | assumption | (refine Below.setCell ?_ (by first | omega | (simp; done) | (simp; omega)) _) | (refine Below.alloc ?_ (by first | omega | (simp; done) | (simp; omega)) _) | refine Below.drew ?_ | (refine below_thru ?_ (by assumption) (by first | omega | (simp; done) | (simp; omega))) | refine below_drewN ?_ _))⟩
    · have q1 : (r == 1) = false := by rw [beq_eq_false_iff_ne]; exact h1
      by_cases h0 : r = 0
      · have hf : agreesB s r p = decide (p ≤ s.at_ + s.tol) := by unfold agreesB; rw [if_neg hk, if_neg h1, if_pos h0]
        subst h0
        by_cases h2 : p ≤ s.at_ + s.tol
        · have hf2 : agreesB s 0 p = true := by rw [hf]; simp [h2]
          rw [hf2]
          clear hf hf2 hk h1 q1
          go_enter Tryz.func57, Tryz.ntmps57
          go_wp2
          go_ret
          exact ⟨rfl, (by repeat (first | exact Below.refl _ _ | assumption | (refine Below.setCell ?_ (by first | omega | (simp; done) | (simp; omega)) _) | (refine Below.alloc ?_ (by first | omega | (simp; done) | (simp; omega)) _) | refine Below.drew ?_ | (refine below_thru ?_ (by assumption) (by first | omega | (simp; done) | (simp; omega))) | refine below_drewN ?_ _))⟩
        · have hf2 : agreesB s 0 p = false := by rw [hf]; simp [h2]
          rw [hf2]
          clear hf hf2 hk h1 q1
          go_enter Tryz.func57, Tryz.ntmps57
          go_wp2
          go_ret
          exact ⟨rfl, (by repeat (first | exact Below.refl _ _ | assumption | (refine Below.setCell ?_ (by first | omega | (simp; done) | (simp; omega)) _) | (refine Below.alloc ?_ (by first | omega | (simp; done) | (simp; omega)) _) | refine Below.drew ?_ | (refine below_thru ?_ (by assumption) (by first | omega | (simp; done) | (simp; omega))) | refine below_drewN ?_ _))⟩
      · have hf : agreesB s r p = false := by unfold agreesB; rw [if_neg hk, if_neg h1, if_neg h0]
        have q2 : (r == 0) = false := by rw [beq_eq_false_iff_ne]; exact h0
        rw [hf]
        clear hf hk h1 h0
        go_enter Tryz.func57, Tryz.ntmps57
        go_wp2
        go_ret
        exact ⟨rfl, (by repeat (first | exact Below.refl _ _ | assumption | (refine Below.setCell ?_ (by first | omega | (simp; done) | (simp; omega)) _) | (refine Below.alloc ?_ (by first | omega | (simp; done) | (simp; omega)) _) | refine Below.drew ?_ | (refine below_thru ?_ (by assumption) (by first | omega | (simp; done) | (simp; omega))) | refine below_drewN ?_ _))⟩
end Go.Proofs.YtmhfnnpbnocafaaGreat
