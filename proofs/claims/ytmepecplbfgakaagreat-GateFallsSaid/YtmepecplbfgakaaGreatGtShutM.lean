/- How long a gate takes that falls from each position: the mathematics of GateFalls. -/
import Derived.Test.YtmepecplbfgakaaGreatGtTime
import Derived.Test.YtmepecplbfgakaaGreatGtStepM
import Derived.Test.YtmepecplbfgakaaGreatGtFalls2
namespace Go.Proofs.YtmepecplbfgakaaGreat
open Go.RowKit
set_option linter.unusedSimpArgs false
set_option linter.unusedVariables false

theorem fallsN_all (g : Ga) (a b : Int) : ∀ (n k : Nat), fallsN g a b k n = -1 → ∀ j, j < n → ¬ netF g (k + j : Nat) a b ≤ rubF g (k + j : Nat) a b
  | 0, _, _, j, hj => by omega
  | n + 1, k, h, j, hj => by
    unfold fallsN at h
    split at h
    · rename_i h1
      have : (k : Int) = -1 := h
      omega
    · rename_i h1
      cases j with
      | zero => exact h1
      | succ j =>
        have := fallsN_all g a b n (k + 1) h j (by omega)
        rwa [show k + 1 + j = k + (j + 1) by omega] at this
theorem fallsF_all {g : Ga} {a b : Int} (h : fallsF g a b = -1) {p : Int} (h0 : 0 ≤ p) (h1 : p < g.travel) : rubF g p a b < netF g p a b := by
  obtain ⟨k, rfl⟩ := Int.eq_ofNat_of_zero_le h0
  have := fallsN_all g a b g.travel.toNat 0 h k (by omega)
  rw [Nat.zero_add] at this
  omega
theorem fallsN_at (g : Ga) (a b : Int) : ∀ (n k : Nat), fallsN g a b k n = -1 ∨ (k ≤ fallsN g a b k n ∧ fallsN g a b k n < k + n ∧ netF g (fallsN g a b k n) a b ≤ rubF g (fallsN g a b k n) a b)
  | 0, _ => .inl rfl
  | n + 1, k => by
    unfold fallsN
    split
    · rename_i h1
      exact .inr ⟨Int.le_refl _, by omega, h1⟩
    · rcases fallsN_at g a b n (k + 1) with h | ⟨h2, h3, h4⟩
      · exact .inl h
      · exact .inr ⟨by omega, by omega, h4⟩
/-- A gate that closes by gravity, one step. -/
theorem close_falls {g : Ga} {p c : Int} {power : Bool} {a b : Int} (hf : rubF g p a b < netF g p a b) :
    afterF g ⟨p, c, false⟩ ⟨1, power, a, b⟩ (lockF ⟨p, c, false⟩ ⟨1, power, a, b⟩) = ⟨p + min g.gravity (g.travel - p), if power = true then min (c - 0 + g.pump) g.capacity else c - 0, false⟩ := by
  have hd := done_alone g ⟨p, c, false⟩ ⟨1, power, a, b⟩
  have ho : orderF g ⟨p, c, false⟩ ⟨1, power, a, b⟩ = (min g.gravity (g.travel - p), 0) := by
    unfold orderF
    rw [if_pos rfl]
    unfold closeF advF
    simp only
    rw [if_pos hf]
  have hd' : doneF g ⟨p, c, false⟩ ⟨1, power, a, b⟩ (lockF ⟨p, c, false⟩ ⟨1, power, a, b⟩) = (min g.gravity (g.travel - p), 0) := by
    rw [hd]
    simp only [Bool.false_eq_true, if_false]
    exact ho
  unfold afterF
  rw [hd']
theorem stepMs_one (g : Ga) (s : Gs) (t : Gt) : stepMs [(g, s)] [] 0 t 1 = [(g, afterF g s t (lockF s t))] := by
  show [(g, aftF [(g, s)] [] 0 (sameT t 1) (sameB 1) 0)] = _
  rw [show sameT t 1 = [t] from rfl, show sameB 1 = [false] from rfl, aft_alone]
theorem shut_one (g : Ga) (s : Gs) : shutB [(g, s)] 1 = !decide (s.pos < g.travel) := by unfold shutB ajarB; simp [List.range_succ]
def needF (g : Ga) (p : Int) : Int := (g.travel - p + g.gravity - 1) / g.gravity
theorem needF_zero {g : Ga} (h : 0 < g.gravity) : needF g g.travel = 0 := by
  unfold needF
  rw [Int.sub_self, Int.zero_add]
  exact Int.ediv_eq_zero_of_lt (by omega) (by omega)
theorem needF_pos {g : Ga} (h : 0 < g.gravity) {p : Int} (hp : p < g.travel) : needF g p = 1 + needF g (p + min g.gravity (g.travel - p)) := by
  rcases (show g.gravity ≤ g.travel - p ∨ g.travel - p < g.gravity by omega) with h1 | h1
  · rw [show min g.gravity (g.travel - p) = g.gravity by omega]
    unfold needF
    have e : g.travel - p + g.gravity - 1 = (g.travel - (p + g.gravity) + g.gravity - 1) + 1 * g.gravity := by omega
    rw [e, Int.add_mul_ediv_right _ _ (by omega)]
    omega
  · rw [show min g.gravity (g.travel - p) = g.travel - p by omega, show p + (g.travel - p) = g.travel by omega, needF_zero h]
    unfold needF
    have e : g.travel - p + g.gravity - 1 = (g.travel - p - 1) + 1 * g.gravity := by omega
    rw [e, Int.add_mul_ediv_right _ _ (by omega), Int.ediv_eq_zero_of_lt (by omega) (by omega)]
    omega
theorem needF_nonneg {g : Ga} (h : 0 < g.gravity) {p : Int} (hp : p ≤ g.travel) : 0 ≤ needF g p := Int.ediv_nonneg (by omega) (by omega)
theorem shut_falls {g : Ga} {power : Bool} {a b : Int} (hgv : 0 < g.gravity) (hf : ∀ p : Int, 0 ≤ p → p < g.travel → rubF g p a b < netF g p a b) : ∀ (f k : Nat) (p c : Int), 0 ≤ p → p ≤ g.travel →
    toShutF [] 0 ⟨1, power, a, b⟩ 1 f k [(g, ⟨p, c, false⟩)] = if needF g p ≤ f then ((k : Int) + needF g p, 0) else (0, 9)
  | 0, k, p, c, h0, h1 => by
    unfold toShutF
    rw [shut_one]
    by_cases hp : p < g.travel
    · have := needF_pos hgv hp
      have := needF_nonneg hgv (show p + min g.gravity (g.travel - p) ≤ g.travel by omega)
      rw [if_neg (by simp [hp]), if_neg (by simp only [Int.natCast_zero] ; omega)]
    · obtain rfl : p = g.travel := by omega
      rw [needF_zero hgv, if_pos (by simp), if_pos (by simp)]
      simp
  | f + 1, k, p, c, h0, h1 => by
    unfold toShutF
    rw [shut_one]
    by_cases hp : p < g.travel
    · have e1 := needF_pos hgv hp
      rw [if_neg (by simp [hp]), stepMs_one, close_falls (hf p h0 hp), shut_falls hgv hf f (k + 1) _ _ (by omega) (by omega), e1]
      split
      · rw [if_pos (by simp only [Int.natCast_add, Int.natCast_one]; omega)]
        congr 1
        simp only [Int.natCast_add, Int.natCast_one]
        omega
      · rw [if_neg (by simp only [Int.natCast_add, Int.natCast_one]; omega)]
    · obtain rfl : p = g.travel := by omega
      rw [needF_zero hgv, if_pos (by simp), if_pos (by simp only [Int.natCast_add, Int.natCast_one]; omega)]
      simp
end Go.Proofs.YtmepecplbfgakaaGreat
