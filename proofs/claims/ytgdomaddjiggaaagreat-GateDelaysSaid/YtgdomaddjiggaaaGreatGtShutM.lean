/- How long a gate takes that falls from each position: the mathematics of GateFalls. Without rules the time of a set is the greatest one of its gates: the mathematics of GateLatest. -/
import Derived.Test.YtgdomaddjiggaaaGreatGtTime
import Derived.Test.YtgdomaddjiggaaaGreatGtStepT
import Derived.Test.YtgdomaddjiggaaaGreatGtSet
namespace Go.Proofs.YtgdomaddjiggaaaGreat
open Go.RowKit
set_option linter.unusedSimpArgs false
set_option linter.unusedVariables false

theorem fallsN_all (g : Ga) (a b : Int) : ∀ (n k : Nat), fallsN g a b k n = -1 → ∀ j, j < n → ¬ netF g (k + j : Nat) a b ≤ rubF g (k + j : Nat) a b
  | 0, _, _, j, hj => by omega
  | n + 1, k, h, j, hj => by
    unfold fallsN at h
    split at h
    · rename_i h1
      have : (k : Int) = -1 := h
      omega
    · rename_i h1
      cases j with
      | zero => exact h1
      | succ j =>
        have := fallsN_all g a b n (k + 1) h j (by omega)
        rwa [show k + 1 + j = k + (j + 1) by omega] at this
theorem fallsF_all {g : Ga} {a b : Int} (h : fallsF g a b = -1) {p : Int} (h0 : 0 ≤ p) (h1 : p < g.travel) : rubF g p a b < netF g p a b := by
  obtain ⟨k, rfl⟩ := Int.eq_ofNat_of_zero_le h0
  have := fallsN_all g a b g.travel.toNat 0 h k (by omega)
  rw [Nat.zero_add] at this
  omega
theorem fallsN_at (g : Ga) (a b : Int) : ∀ (n k : Nat), fallsN g a b k n = -1 ∨ (k ≤ fallsN g a b k n ∧ fallsN g a b k n < k + n ∧ netF g (fallsN g a b k n) a b ≤ rubF g (fallsN g a b k n) a b)
  | 0, _ => .inl rfl
  | n + 1, k => by
    unfold fallsN
    split
    · rename_i h1
      exact .inr ⟨Int.le_refl _, by omega, h1⟩
    · rcases fallsN_at g a b n (k + 1) with h | ⟨h2, h3, h4⟩
      · exact .inl h
      · exact .inr ⟨by omega, by omega, h4⟩
/-- A gate that closes by gravity, one step. -/
theorem close_falls {g : Ga} {p c : Int} {power : Bool} {a b : Int} (hf : rubF g p a b < netF g p a b) :
    afterF g ⟨p, c, false⟩ ⟨1, power, a, b⟩ (lockF ⟨p, c, false⟩ ⟨1, power, a, b⟩) = ⟨p + min g.gravity (g.travel - p), if power = true then min (c - 0 + g.pump) g.capacity else c - 0, false⟩ := by
  have hd := done_alone g ⟨p, c, false⟩ ⟨1, power, a, b⟩
  have ho : orderF g ⟨p, c, false⟩ ⟨1, power, a, b⟩ = (min g.gravity (g.travel - p), 0) := by
    unfold orderF
    rw [if_pos rfl]
    unfold closeF advF
    simp only
    rw [if_pos hf]
  have hd' : doneF g ⟨p, c, false⟩ ⟨1, power, a, b⟩ (lockF ⟨p, c, false⟩ ⟨1, power, a, b⟩) = (min g.gravity (g.travel - p), 0) := by
    rw [hd]
    simp only [Bool.false_eq_true, if_false]
    exact ho
  unfold afterF
  rw [hd']
theorem stepMs_one (g : Ga) (s : Gs) (t : Gt) : stepMs [(g, s)] [] 0 t 1 = [(g, afterF g s t (lockF s t))] := by
  show [(g, aftF [(g, s)] [] 0 (sameT t 1) (sameB 1) 0)] = _
  rw [show sameT t 1 = [t] from rfl, show sameB 1 = [false] from rfl, aft_alone]
theorem shut_one (g : Ga) (s : Gs) : shutB [(g, s)] 1 = !decide (s.pos < g.travel) := by unfold shutB ajarB; simp [List.range_succ]
def needF (g : Ga) (p : Int) : Int := (g.travel - p + g.gravity - 1) / g.gravity
theorem needF_zero {g : Ga} (h : 0 < g.gravity) : needF g g.travel = 0 := by
  unfold needF
  rw [Int.sub_self, Int.zero_add]
  exact Int.ediv_eq_zero_of_lt (by omega) (by omega)
theorem needF_pos {g : Ga} (h : 0 < g.gravity) {p : Int} (hp : p < g.travel) : needF g p = 1 + needF g (p + min g.gravity (g.travel - p)) := by
  rcases (show g.gravity ≤ g.travel - p ∨ g.travel - p < g.gravity by omega) with h1 | h1
  · rw [show min g.gravity (g.travel - p) = g.gravity by omega]
    unfold needF
    have e : g.travel - p + g.gravity - 1 = (g.travel - (p + g.gravity) + g.gravity - 1) + 1 * g.gravity := by omega
    rw [e, Int.add_mul_ediv_right _ _ (by omega)]
    omega
  · rw [show min g.gravity (g.travel - p) = g.travel - p by omega, show p + (g.travel - p) = g.travel by omega, needF_zero h]
    unfold needF
    have e : g.travel - p + g.gravity - 1 = (g.travel - p - 1) + 1 * g.gravity := by omega
    rw [e, Int.add_mul_ediv_right _ _ (by omega), Int.ediv_eq_zero_of_lt (by omega) (by omega)]
    omega
theorem needF_nonneg {g : Ga} (h : 0 < g.gravity) {p : Int} (hp : p ≤ g.travel) : 0 ≤ needF g p := Int.ediv_nonneg (by omega) (by omega)
theorem shut_falls {g : Ga} {power : Bool} {a b : Int} (hgv : 0 < g.gravity) (hf : ∀ p : Int, 0 ≤ p → p < g.travel → rubF g p a b < netF g p a b) : ∀ (f k : Nat) (p c : Int), 0 ≤ p → p ≤ g.travel →
    toShutF [] 0 ⟨1, power, a, b⟩ 1 f k [(g, ⟨p, c, false⟩)] = if needF g p ≤ f then ((k : Int) + needF g p, 0) else (0, 9)
  | 0, k, p, c, h0, h1 => by
    unfold toShutF
    rw [shut_one]
    by_cases hp : p < g.travel
    · have := needF_pos hgv hp
      have := needF_nonneg hgv (show p + min g.gravity (g.travel - p) ≤ g.travel by omega)
      rw [if_neg (by simp [hp]), if_neg (by simp only [Int.natCast_zero] ; omega)]
    · obtain rfl : p = g.travel := by omega
      rw [needF_zero hgv, if_pos (by simp), if_pos (by simp)]
      simp
  | f + 1, k, p, c, h0, h1 => by
    unfold toShutF
    rw [shut_one]
    by_cases hp : p < g.travel
    · have e1 := needF_pos hgv hp
      rw [if_neg (by simp [hp]), stepMs_one, close_falls (hf p h0 hp), shut_falls hgv hf f (k + 1) _ _ (by omega) (by omega), e1]
      split
      · rw [if_pos (by simp only [Int.natCast_add, Int.natCast_one]; omega)]
        congr 1
        simp only [Int.natCast_add, Int.natCast_one]
        omega
      · rw [if_neg (by simp only [Int.natCast_add, Int.natCast_one]; omega)]
    · obtain rfl : p = g.travel := by omega
      rw [needF_zero hgv, if_pos (by simp), if_pos (by simp only [Int.natCast_add, Int.natCast_one]; omega)]
      simp
end Go.Proofs.YtgdomaddjiggaaaGreat

namespace Go.Proofs.YtgdomaddjiggaaaGreat
open Go.RowKit
set_option linter.unusedSimpArgs false
set_option linter.unusedVariables false

/-- One step of a gate by itself. -/
def soloF (t : Gt) (m : Ga × Gs) : Ga × Gs := (m.1, afterF m.1 m.2 t (lockF m.2 t))
theorem aft_free (ms : List (Ga × Gs)) (t : Gt) (n i : Nat) (hi : i < n) (m : Ga × Gs) (hm : ms[i]? = some m) : aftF ms [] 0 (sameT t n) (sameB n) i = afterF m.1 m.2 t (lockF m.2 t) := by
  unfold aftF
  have ht : (sameT t n)[i]? = some t := by unfold sameT; rw [List.getElem?_replicate, if_pos hi]
  have hb : (sameB n)[i]? = some false := by unfold sameB; rw [List.getElem?_replicate, if_pos hi]
  rw [hm, ht, hb]
  show afterF m.1 m.2 t (refusalF ms [] 0 i t.order false) = _
  have : refusalF ms [] 0 i t.order false = lockF m.2 t := by
    unfold refusalF lockF boltAt keptB
    rw [hm]
    simp
  rw [this]
theorem newMs_at (ms : List (Ga × Gs)) (f : Nat → Gs) : ∀ (k j : Nat), j < k → (newMs ms f k)[j]? = (ms[j]?).map fun m => (m.1, f j)
  | 0, _, h => by omega
  | k + 1, j, h => by
    unfold newMs
    rcases (show j < k ∨ j = k by omega) with h1 | rfl
    · have ih := newMs_at ms f k j h1
      split
      · rw [List.getElem?_set_ne (by omega)]; exact ih
      · exact ih
    · split
      · rename_i m hm
        have hlt := (List.getElem?_eq_some_iff.1 hm).1
        rw [List.getElem?_set_self (by rw [newMs_len]; exact hlt), hm]
        rfl
      · rename_i hm
        rw [newMs_get ms f j j (Nat.le_refl _), hm]
        rfl
theorem stepMs_free (ms : List (Ga × Gs)) (t : Gt) (n : Nat) (hn : ms.length = n) : stepMs ms [] 0 t n = ms.map (soloF t) := by
  refine List.ext_getElem? fun i => ?_
  unfold stepMs
  rcases Nat.lt_or_ge i n with h | h
  · rw [newMs_at ms _ n i h, List.getElem?_map]
    rcases hm : ms[i]? with _ | m
    · rfl
    · simp only [Option.map_some, soloF]
      rw [aft_free ms t n i h m hm]
  · rw [newMs_get ms _ n i h, List.getElem?_map, List.getElem?_eq_none (by omega)]
    rfl
theorem shutB_is (ms : List (Ga × Gs)) (n : Nat) (hn : ms.length = n) : shutB ms n = true ↔ ∀ m ∈ ms, ¬ m.2.pos < m.1.travel := by
  unfold shutB
  rw [Bool.not_eq_true', List.any_eq_false]
  constructor
  · intro h m hm
    obtain ⟨i, hi⟩ := List.getElem?_of_mem hm
    have hlt := (List.getElem?_eq_some_iff.1 hi).1
    have := h i (List.mem_range.2 (by omega))
    unfold ajarB at this
    rw [hi] at this
    simpa using this
  · intro h i hi
    have hlt := List.mem_range.1 hi
    obtain ⟨m, hm⟩ := get_lt hn hlt
    have := h m (List.mem_of_getElem? hm)
    unfold ajarB
    rw [hm]
    simpa using this
/-- The time of one gate alone. -/
def oneT (t : Gt) (f k : Nat) (m : Ga × Gs) : Int × Int := toShutF [] 0 t 1 f k [m]
theorem one_shut {t : Gt} {f k : Nat} {m : Ga × Gs} (h : ¬ m.2.pos < m.1.travel) : oneT t f k m = ((k : Int), 0) := by
  have hs : shutB [m] 1 = true := (shutB_is [m] 1 rfl).2 fun q hq => by simp only [List.mem_singleton] at hq; subst hq; exact h
  unfold oneT
  cases f with
  | zero => unfold toShutF; rw [if_pos hs]
  | succ f => unfold toShutF; rw [if_pos hs]
theorem one_step {t : Gt} {f k : Nat} {m : Ga × Gs} (h : m.2.pos < m.1.travel) : oneT t (f + 1) k m = oneT t f (k + 1) (soloF t m) := by
  have hs : ¬ shutB [m] 1 = true := fun hc => (shutB_is [m] 1 rfl).1 hc m (by simp) h
  unfold oneT
  rw [toShutF, if_neg hs, stepMs_free [m] t 1 rfl]
  rfl
theorem solo_ok {t : Gt} {m : Ga × Gs} (h : m.1.Ok ∧ m.2.Ok m.1) : (soloF t m).1.Ok ∧ (soloF t m).2.Ok (soloF t m).1 := ⟨h.1, after_ok h.1 h.2 t _⟩
/-- A gate that is shut stays so. -/
theorem solo_shut {t : Gt} (ht : t.order = 1) {m : Ga × Gs} (h : m.1.Ok ∧ m.2.Ok m.1) (hs : ¬ m.2.pos < m.1.travel) : ¬ (soloF t m).2.pos < (soloF t m).1.travel := by
  have hl := (limits_any h.1 h.2 t).dir1 ht
  show ¬ m.2.pos + (doneF m.1 m.2 t (lockF m.2 t)).1 < m.1.travel
  omega
theorem latest_any {t : Gt} (ht : t.order = 1) (n : Nat) (hn1 : 1 ≤ n) : ∀ (f k : Nat) (ms : List (Ga × Gs)) (N : Int), ms.length = n → (∀ m ∈ ms, m.1.Ok ∧ m.2.Ok m.1) → toShutF [] 0 t n f k ms = (N, 0) →
    (∀ m ∈ ms, ∃ j : Int, oneT t f k m = (j, 0) ∧ (k : Int) ≤ j ∧ j ≤ N) ∧ ∃ m ∈ ms, oneT t f k m = (N, 0)
  | f, k, ms, N, hn, hok, h => by
    by_cases hs : shutB ms n = true
    · have hN : (k : Int) = N := by
        cases f with
        | zero => rw [toShutF, if_pos hs] at h; exact congrArg Prod.fst h
        | succ f => rw [toShutF, if_pos hs] at h; exact congrArg Prod.fst h
      subst hN
      have ha := (shutB_is ms n hn).1 hs
      refine ⟨fun m hm => ⟨k, one_shut (ha m hm), Int.le_refl _, Int.le_refl _⟩, ?_⟩
      obtain ⟨m, hm⟩ := get_lt hn (by omega : 0 < n)
      exact ⟨m, List.mem_of_getElem? hm, one_shut (ha m (List.mem_of_getElem? hm))⟩
    · cases f with
      | zero =>
        rw [toShutF, if_neg hs] at h
        simp at h
      | succ f =>
        rw [toShutF, if_neg hs, stepMs_free ms t n hn] at h
        obtain ⟨ha, m', hm', hN⟩ := latest_any ht n hn1 f (k + 1) (ms.map (soloF t)) N (by simpa using hn) (fun m hm => by
          obtain ⟨q, hq, rfl⟩ := List.mem_map.1 hm
          exact solo_ok (hok q hq)) h
        have hall : ∀ m ∈ ms, ∃ j : Int, oneT t (f + 1) k m = (j, 0) ∧ (k : Int) ≤ j ∧ j ≤ N := by
          intro m hm
          obtain ⟨j, h1, h2, h3⟩ := ha (soloF t m) (List.mem_map.2 ⟨m, hm, rfl⟩)
          by_cases hp : m.2.pos < m.1.travel
          · rw [one_step hp]
            exact ⟨j, h1, by omega, h3⟩
          · exact ⟨k, one_shut hp, Int.le_refl _, by omega⟩
        refine ⟨hall, ?_⟩
        obtain ⟨q, hq, rfl⟩ := List.mem_map.1 hm'
        by_cases hp : q.2.pos < q.1.travel
        · exact ⟨q, hq, by rw [one_step hp]; exact hN⟩
        · rw [one_shut (solo_shut ht (hok q hq) hp)] at hN
          have hkN : ((k + 1 : Nat) : Int) = N := congrArg Prod.fst hN
          have hex : ∃ r ∈ ms, r.2.pos < r.1.travel := by
            apply Classical.byContradiction
            intro hc
            exact hs ((shutB_is ms n hn).2 fun r hr hlt => hc ⟨r, hr, hlt⟩)
          obtain ⟨r, hr, hlt⟩ := hex
          obtain ⟨j, h1, h2, h3⟩ := ha (soloF t r) (List.mem_map.2 ⟨r, hr, rfl⟩)
          refine ⟨r, hr, ?_⟩
          rw [one_step hlt, h1, show j = N by omega]
end Go.Proofs.YtgdomaddjiggaaaGreat
