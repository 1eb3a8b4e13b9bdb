/- When a gate alone is shut, by its states: the mathematics of GateInTime. -/
import Derived.Test.YtgdomaddjiggaaaGreatGtRun
import Derived.Test.YtgdomaddjiggaaaGreatGtShutM
namespace Go.Proofs.YtgdomaddjiggaaaGreat
open Go.RowKit
set_option linter.unusedSimpArgs false
set_option linter.unusedVariables false

theorem shut_stays {t : Gt} (ht : t.order = 1) {g : Ga} (hg : g.Ok) : ∀ (j : Nat) (s : Gs), s.Ok g → ¬ s.pos < g.travel → ¬ (endF g s (List.replicate j t)).pos < g.travel
  | 0, s, _, h => h
  | j + 1, s, hs, h => by
    rw [List.replicate_succ]
    exact shut_stays ht hg j (lone g s t) (after_ok hg hs t _) (solo_shut (m := (g, s)) ht ⟨hg, hs⟩ h)
theorem in_time {t : Gt} (ht : t.order = 1) {g : Ga} (hg : g.Ok) : ∀ (f k : Nat) (s : Gs) (N : Int), s.Ok g → oneT t f k (g, s) = (N, 0) → ∃ d : Nat, N = (k : Int) + d ∧ ∀ j, (endF g s (List.replicate j t)).pos < g.travel ↔ j < d
  | f, k, s, N, hs, h => by
    by_cases hp : s.pos < g.travel
    · cases f with
      | zero =>
        unfold oneT at h
        rw [toShutF, if_neg (fun hc => (shutB_is [(g, s)] 1 rfl).1 hc (g, s) (by simp) hp)] at h
        simp at h
      | succ f =>
        rw [one_step (m := (g, s)) hp] at h
        obtain ⟨d, hd, hj⟩ := in_time ht hg f (k + 1) (lone g s t) N (after_ok hg hs t _) h
        refine ⟨d + 1, by omega, fun j => ?_⟩
        cases j with
        | zero => exact ⟨fun _ => by omega, fun _ => hp⟩
        | succ j =>
          rw [List.replicate_succ]
          show (endF g (lone g s t) (List.replicate j t)).pos < g.travel ↔ _
          rw [hj j]
          omega
    · rw [one_shut (m := (g, s)) hp] at h
      have hN : (k : Int) = N := congrArg Prod.fst h
      exact ⟨0, by omega, fun j => ⟨fun hlt => absurd hlt (shut_stays ht hg j s hs hp), fun h => by omega⟩⟩
theorem take_replicate {t : Gt} {n k : Nat} (h : k ≤ n) : (List.replicate n t).take k = List.replicate k t := by rw [List.take_replicate]; congr 1; omega
/-- The state after a step, among many of the same step. -/
theorem run_same_at (g : Ga) (s : Gs) (t : Gt) {n k : Nat} (h : k < n) : (runL g s (List.replicate n t))[k]? = some (endF g s (List.replicate (k + 1) t)) := by
  rw [runL_at g s (by simpa using h), take_replicate (by omega)]
end Go.Proofs.YtgdomaddjiggaaaGreat
