/- What GateLimits asks, and its function size. -/
import Derived.Test.YtmepecplbfgakaaGreatGtAwake
import Derived.Test.YtmepecplbfgakaaGreatGtStepM
namespace Go.Proofs.YtmepecplbfgakaaGreat
open Go.RowKit
set_option linter.unusedSimpArgs false
set_option linter.unusedVariables false

theorem lsize_any (n : Int) (w : World) (h0 : -1000000000000 ≤ n) (h1 : n ≤ 1000000000000) :
    Calls Tryz.prog 48 #[.int .i64 n] w fun e w' => e = .returned (.int .i64 (absI n)) ∧ w = w' := by
  by_cases h : n < -n
  · have hv : absI n = -n := by unfold absI; omega
    rw [hv]
    go_enter Tryz.func48, Tryz.ntmps48
    go_wp2
    go_ret
    exact ⟨rfl, rfl⟩
  · have hv : absI n = n := by unfold absI; omega
    rw [hv]
    go_enter Tryz.func48, Tryz.ntmps48
    go_wp2
    go_ret
    exact ⟨rfl, rfl⟩

theorem lock_is2 (s : Gs) (t : Gt) : (lockF s t = 0 ∧ (t.order = 0 ∨ s.bolted = false)) ∨ (lockF s t = 130 ∧ s.bolted = true ∧ t.order ≠ 0) := by
  unfold lockF
  by_cases h : t.order = 0
  · rw [if_pos h]; exact .inl ⟨rfl, .inl h⟩
  · rw [if_neg h]
    cases hb : s.bolted
    · exact .inl ⟨rfl, .inr rfl⟩
    · exact .inr ⟨rfl, rfl, h⟩
end Go.Proofs.YtmepecplbfgakaaGreat
