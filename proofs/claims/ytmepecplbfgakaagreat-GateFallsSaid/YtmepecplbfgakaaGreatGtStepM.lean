/- What a step of one gate is, in plain numbers: the mathematics of the laws about steps. -/
import Derived.Test.YtmepecplbfgakaaGreatGtStep
namespace Go.Proofs.YtmepecplbfgakaaGreat
open Go.RowKit
set_option linter.unusedSimpArgs false
set_option linter.unusedVariables false

/-- Why the order to a gate alone is refused. -/
def lockF (s : Gs) (t : Gt) : Int := if t.order = 0 then 0 else if s.bolted = true then 130 else 0
theorem lock_is (s : Gs) (t : Gt) : lockF s t = 0 ∨ (lockF s t = 130 ∧ s.bolted = true ∧ t.order ≠ 0) := by
  unfold lockF
  by_cases h : t.order = 0
  · rw [if_pos h]; exact .inl rfl
  · rw [if_neg h]
    by_cases h' : s.bolted = true
    · rw [if_pos h']; exact .inr ⟨rfl, h', h⟩
    · rw [if_neg h']; exact .inl rfl
/-- What a gate alone does in a step. -/
theorem done_alone (g : Ga) (s : Gs) (t : Gt) : doneF g s t (lockF s t) = if s.bolted = true then (0, 0) else orderF g s t := by
  unfold doneF
  by_cases h : s.bolted = true
  · rw [if_pos h, if_pos h]
  · rw [if_neg h, if_neg h]
    have : lockF s t = 0 := by
      rcases lock_is s t with h1 | ⟨_, h1, _⟩
      · exact h1
      · exact absurd h1 h
    rw [this, if_pos rfl]
theorem ceil100 (a : Int) : -(-a / 100) = (a + 99) / 100 := by omega
def absI (n : Int) : Int := max n (-n)
theorem adv_oil {g : Ga} {s : Gs} (hg : g.Ok) (hs : s.Ok g) (f r : Int) {left : Int} (h0 : 0 ≤ left) (p : Bool) (h : 0 < (advF g s f r left p).2) :
    p = true ∧ (advF g s f r left p).1 ≤ g.speed ∧ (advF g s f r left p).2 = ((advF g s f r left p).1 * g.use + 99) / 100 := by
  have d := drive_in hg hs h0
  unfold advF at *
  split at h
  · simp at h
  · rename_i h1
    split at h
    · rename_i h2
      rw [if_neg h1, if_pos h2]
      exact ⟨h2.1, d.2.2.2.1, ceil100 _⟩
    · simp at h

structure Limits (g : Ga) (s : Gs) (t : Gt) (moved oil after : Int) : Prop where
  p0 : 0 ≤ s.pos + moved
  p1 : s.pos + moved ≤ g.travel
  c0 : 0 ≤ after
  c1 : after ≤ g.capacity
  m0 : absI moved ≤ max g.speed g.gravity
  b0 : -100 ≤ moved
  b1 : moved ≤ 100
  o0 : 0 ≤ oil
  o1 : oil ≤ s.charge
  ch : after = min (s.charge - oil + (if t.power = true then g.pump else 0)) g.capacity
  use : 0 < oil → t.power = true ∧ t.order ≠ 0 ∧ absI moved ≤ g.speed ∧ oil = (absI moved * g.use + 99) / 100
  dir1 : t.order = 1 → 0 ≤ moved
  dir2 : t.order = 2 → moved ≤ 0
theorem limits_any {g : Ga} {s : Gs} (hg : g.Ok) (hs : s.Ok g) (t : Gt) : Limits g s t (doneF g s t (lockF s t)).1 (doneF g s t (lockF s t)).2 (afterF g s t (lockF s t)).charge := by
  obtain ⟨a, b, c, d, e, f⟩ := done_in hg hs t (lockF s t)
  obtain ⟨_, _, q0, q1⟩ := after_ok hg hs t (lockF s t)
  have hsp := hg.speed1
  have hgv := hg.gravity1
  have hc1 := hs.c1
  have hdn := done_alone g s t
  have p0 := hs.p0
  have p1 := hs.p1
  refine ⟨a, b, q0, q1, by unfold absI; omega, by omega, by omega, e, f, ?_, ?_, ?_, ?_⟩
  · unfold afterF
    simp only
    split
    · rfl
    · omega
  · intro h
    rw [hdn] at h ⊢
    by_cases hb : s.bolted = true
    · rw [if_pos hb] at h; simp at h
    · rw [if_neg hb] at h ⊢
      unfold orderF at h ⊢
      split at h
      · rename_i h1
        rw [if_pos h1]
        unfold closeF at h ⊢
        have x := adv_in hg hs (netF g s.pos t.outer t.inner) (rubF g s.pos t.outer t.inner) (show 0 ≤ g.travel - s.pos by omega) t.power
        obtain ⟨y1, y2, y3⟩ := adv_oil hg hs _ _ (show 0 ≤ g.travel - s.pos by omega) _ h
        have hab : absI (advF g s (netF g s.pos t.outer t.inner) (rubF g s.pos t.outer t.inner) (g.travel - s.pos) t.power).1 = (advF g s (netF g s.pos t.outer t.inner) (rubF g s.pos t.outer t.inner) (g.travel - s.pos) t.power).1 := by unfold absI; omega
        rw [hab]
        exact ⟨y1, by omega, y2, y3⟩
      · rename_i h1
        split at h
        · rename_i h2
          rw [if_neg h1, if_pos h2]
          unfold openF at h ⊢
          simp only at h ⊢
          have x := adv_in hg hs (-netF g s.pos t.outer t.inner) (rubF g s.pos t.outer t.inner) p0 t.power
          obtain ⟨y1, y2, y3⟩ := adv_oil hg hs _ _ p0 _ h
          have hab : absI (-(advF g s (-netF g s.pos t.outer t.inner) (rubF g s.pos t.outer t.inner) s.pos t.power).1) = (advF g s (-netF g s.pos t.outer t.inner) (rubF g s.pos t.outer t.inner) s.pos t.power).1 := by unfold absI; omega
          rw [hab]
          exact ⟨y1, by omega, y2, y3⟩
        · unfold holdF at h
          split at h
          · simp at h
          · split at h
            · simp at h
            · simp at h
  · intro ho
    rw [hdn]
    split
    · exact Int.le_refl _
    · unfold orderF
      rw [if_pos ho]
      exact (adv_in hg hs (netF g s.pos t.outer t.inner) (rubF g s.pos t.outer t.inner) (show 0 ≤ g.travel - s.pos by omega) t.power).1
  · intro ho
    rw [hdn]
    split
    · exact Int.le_refl _
    · unfold orderF
      rw [if_neg (by omega), if_pos ho]
      have := (adv_in hg hs (-netF g s.pos t.outer t.inner) (rubF g s.pos t.outer t.inner) p0 t.power).1
      unfold openF
      simp only
      omega
/-- What a gate that is held, or bolted, does. -/
theorem held_any {g : Ga} {s : Gs} (hg : g.Ok) (hs : s.Ok g) (t : Gt) :
    (s.bolted = true → (doneF g s t (lockF s t)).1 = 0) ∧
    (s.bolted = false → t.order = 0 → absI (netF g s.pos t.outer t.inner) ≤ g.brake + rubF g s.pos t.outer t.inner → (doneF g s t (lockF s t)).1 = 0) ∧
    (s.bolted = false → t.order = 0 → g.brake + rubF g s.pos t.outer t.inner < absI (netF g s.pos t.outer t.inner) → 0 < netF g s.pos t.outer t.inner → (doneF g s t (lockF s t)).1 = min g.gravity (g.travel - s.pos)) ∧
    (s.bolted = false → t.order = 0 → 0 ≤ rubF g s.pos t.outer t.inner → g.brake + rubF g s.pos t.outer t.inner < absI (netF g s.pos t.outer t.inner) → ¬ 0 < netF g s.pos t.outer t.inner → (doneF g s t (lockF s t)).1 = -min g.gravity s.pos) := by
  have hdn := done_alone g s t
  have hb0 := hg.brake0
  rw [hdn]
  refine ⟨fun h => by rw [if_pos h], fun h ho ha => ?_, fun h ho ha hp => ?_, fun h ho hr ha hp => ?_⟩
  all_goals
    rw [if_neg (by rw [h]; decide)]
    unfold orderF
    rw [if_neg (by omega), if_neg (by omega)]
    unfold holdF
    unfold absI at ha
    generalize netF g s.pos t.outer t.inner = nt at *
    generalize rubF g s.pos t.outer t.inner = rb at *
  · rw [if_neg (by omega), if_neg (by omega)]
  · rw [if_pos (by omega)]
  · rw [if_neg (by omega), if_pos (by omega)]
end Go.Proofs.YtmepecplbfgakaaGreat
