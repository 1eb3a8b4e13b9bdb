/- The example's delay. -/
import Derived.Test.YtmepecplbfgakaaGreatGtAwakeA
namespace Go.Proofs.YtmepecplbfgakaaGreat
open Go.RowKit
set_option linter.unusedSimpArgs false
set_option linter.unusedVariables false
theorem ex_falls (a b : Nat) : fallsR (exG eastName a b) 9000 8000 = (891, 0) := by kernel_rfl
def exS : Gs := ⟨100, 100, false⟩
def exT : Gt := ⟨2, true, 3000, 1000⟩
theorem ex_stepE (a b : Nat) : (stepFt (exG eastName a b) exS exT).e = 0 := by kernel_rfl
theorem ex_stepU (a b : Nat) : stepU (exG eastName a b) exS exT = ⟨75, 105, false⟩ := by kernel_rfl
theorem ex_stepD (a b : Nat) : stepD (exG eastName a b) exS exT = ⟨0, -25, 25⟩ := by kernel_rfl
theorem ex_gate (a b : Nat) : gateF (exG eastName a b) = ⟨0, 0, 0⟩ := by kernel_rfl
def exSt (a b c d : Nat) (gA rA : Option Addr) (gc rc : Nat) : St := ⟨gA, 2, gc, [exG eastName a b, exG westName c d], rA, 1, rc, [⟨1, 0, 1000, 1000⟩]⟩
def exSs : List Gs := [⟨0, 0, false⟩, ⟨0, 0, false⟩]
theorem ex_names : twiceB [exG eastName 0 0, exG westName 0 0] 1 = false := by kernel_rfl
theorem ex_delayF (a b c d : Nat) (gA rA : Option Addr) (gc rc : Nat) : (delayFt (exSt a b c d gA rA gc rc) exSs 2 ⟨1, false, 3000, 1000⟩).e = 0 := by kernel_rfl
theorem ex_delay (a b c d : Nat) (gA rA : Option Addr) (gc rc : Nat) : delayR (exSt a b c d gA rA gc rc) exSs 2 ⟨1, false, 3000, 1000⟩ = (5, 0) := by kernel_rfl
end Go.Proofs.YtmepecplbfgakaaGreat
