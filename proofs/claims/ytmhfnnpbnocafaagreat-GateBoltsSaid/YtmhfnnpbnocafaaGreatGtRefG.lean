/- The reference's small functions and names. The reference's small parts of a step: states, steps, oil, how far a gate is driven. The reference: how far a gate is driven. -/
import Derived.Test.YtmhfnnpbnocafaaGreatGtGf2
import Derived.Test.YtmhfnnpbnocafaaGreatGtSet
import Derived.Test.YtmhfnnpbnocafaaGreatGtStepT
import Derived.Test.YtmhfnnpbnocafaaGreatGtSetOf
namespace Go.Proofs.YtmhfnnpbnocafaaGreat
open Go.RowKit
set_option linter.unusedSimpArgs false
set_option linter.unusedVariables false

set_option maxRecDepth 100000 in
theorem r1in_any (x lo hi : Int) (w : World) :
    Calls Tryz.prog 129 #[.int .i64 x, .int .i64 lo, .int .i64 hi] w fun e w' => e = .returned (.bool (betw x lo hi)) ∧ w = w' := by
  by_cases h1 : lo ≤ x
  · by_cases h2 : x ≤ hi
    all_goals
      go_enter Tryz.func129, Tryz.ntmps129
      go_wp2
      go_ret
      exact ⟨by simp [betw, h1, h2], rfl⟩
  · have h1' : decide (lo ≤ x) = false := by simpa using h1
    go_enter Tryz.func129, Tryz.ntmps129
    go_wp2
    go_ret
    exact ⟨by simp [betw, h1'], rfl⟩
theorem r1in_is (x lo hi : Int) (b : Bool) (h : betw x lo hi = b) : ∀ W : World, Calls Tryz.prog 129 #[.int .i64 x, .int .i64 lo, .int .i64 hi] W fun e w' => e = .returned (.bool b) ∧ w' = W := fun W => by
  subst h; exact (r1in_any x lo hi W).mono fun _ _ h => ⟨h.1, h.2.symm⟩
set_option maxRecDepth 100000 in
theorem rin_any (x lo hi : Int) (w : World) :
    Calls Tryz.prog 82 #[.int .i64 x, .int .i64 lo, .int .i64 hi] w fun e w' => e = .returned (.bool (betw x lo hi)) ∧ w = w' := by
  by_cases h1 : lo ≤ x
  · by_cases h2 : x ≤ hi
    all_goals
      go_enter Tryz.func82, Tryz.ntmps82
      go_wp2
      go_ret
      exact ⟨by simp [betw, h1, h2], rfl⟩
  · have h1' : decide (lo ≤ x) = false := by simpa using h1
    go_enter Tryz.func82, Tryz.ntmps82
    go_wp2
    go_ret
    exact ⟨by simp [betw, h1'], rfl⟩
theorem rin_is (x lo hi : Int) (b : Bool) (h : betw x lo hi = b) : ∀ W : World, Calls Tryz.prog 82 #[.int .i64 x, .int .i64 lo, .int .i64 hi] W fun e w' => e = .returned (.bool b) ∧ w' = W := fun W => by
  subst h; exact (rin_any x lo hi W).mono fun _ _ h => ⟨h.1, h.2.symm⟩
set_option maxRecDepth 100000 in
theorem rlevel_any (x : Int) (w : World) : Calls Tryz.prog 84 #[.int .i64 x] w fun e w' => e = .returned (.bool (levelB x)) ∧ w = w' := by
  have HB := Lib.hid (rin_is x (-20000) 20000 _ rfl)
  generalize hb : betw x (-20000) 20000 = b at *
  have hf : (levelB x) = b := hb
  rw [hf]
  clear hf hb
  go_enter Tryz.func84, Tryz.ntmps84
  go_wp2_with fail
  refine (HB.out _).mono ?_
  rintro e w1 ⟨rfl, rfl⟩
  go_wp2
  go_ret
  exact ⟨rfl, rfl⟩
theorem rlevel_is (x : Int) (b : Bool) (h : (levelB x) = b) : ∀ W : World, Calls Tryz.prog 84 #[.int .i64 x] W fun e w' => e = .returned (.bool b) ∧ w' = W := fun W => by
  subst h; exact (rlevel_any x W).mono fun _ _ h => ⟨h.1, h.2.symm⟩
set_option maxRecDepth 100000 in
theorem rforce_any (x : Int) (w : World) : Calls Tryz.prog 86 #[.int .i64 x] w fun e w' => e = .returned (.bool (betw x 0 200000)) ∧ w = w' := by
  have HB := Lib.hid (rin_is x (0) 200000 _ rfl)
  generalize hb : betw x (0) 200000 = b at *
  clear hb
  go_enter Tryz.func86, Tryz.ntmps86
  go_wp2_with fail
  refine (HB.out _).mono ?_
  rintro e w1 ⟨rfl, rfl⟩
  go_wp2
  go_ret
  exact ⟨rfl, rfl⟩
theorem rforce_is (x : Int) (b : Bool) (h : (betw x 0 200000) = b) : ∀ W : World, Calls Tryz.prog 86 #[.int .i64 x] W fun e w' => e = .returned (.bool b) ∧ w' = W := fun W => by
  subst h; exact (rforce_any x W).mono fun _ _ h => ⟨h.1, h.2.symm⟩
set_option maxRecDepth 100000 in
theorem rrate_any (x : Int) (w : World) : Calls Tryz.prog 85 #[.int .i64 x] w fun e w' => e = .returned (.bool (betw x 0 10000)) ∧ w = w' := by
  have HB := Lib.hid (rin_is x (0) 10000 _ rfl)
  generalize hb : betw x (0) 10000 = b at *
  clear hb
  go_enter Tryz.func85, Tryz.ntmps85
  go_wp2_with fail
  refine (HB.out _).mono ?_
  rintro e w1 ⟨rfl, rfl⟩
  go_wp2
  go_ret
  exact ⟨rfl, rfl⟩
theorem rrate_is (x : Int) (b : Bool) (h : (betw x 0 10000) = b) : ∀ W : World, Calls Tryz.prog 85 #[.int .i64 x] W fun e w' => e = .returned (.bool b) ∧ w' = W := fun W => by
  subst h; exact (rrate_any x W).mono fun _ _ h => ⟨h.1, h.2.symm⟩
set_option maxRecDepth 100000 in
theorem roil_any (x : Int) (w : World) : Calls Tryz.prog 87 #[.int .i64 x] w fun e w' => e = .returned (.bool (betw x 0 100000)) ∧ w = w' := by
  have HB := Lib.hid (rin_is x (0) 100000 _ rfl)
  generalize hb : betw x (0) 100000 = b at *
  clear hb
  go_enter Tryz.func87, Tryz.ntmps87
  go_wp2_with fail
  refine (HB.out _).mono ?_
  rintro e w1 ⟨rfl, rfl⟩
  go_wp2
  go_ret
  exact ⟨rfl, rfl⟩
theorem roil_is (x : Int) (b : Bool) (h : (betw x 0 100000) = b) : ∀ W : World, Calls Tryz.prog 87 #[.int .i64 x] W fun e w' => e = .returned (.bool b) ∧ w' = W := fun W => by
  subst h; exact (roil_any x W).mono fun _ _ h => ⟨h.1, h.2.symm⟩

/-- What the reference asks of the byte at a place. -/
def okAt (s : ByteArray) (i : Nat) : Prop := (97 ≤ byteAt s i ∧ byteAt s i ≤ 122) ∨ (i ≠ 0 ∧ (byteAt s i = 45 ∨ (48 ≤ byteAt s i ∧ byteAt s i ≤ 57)))
theorem name_of_ok (s : ByteArray) (hb : betw s.size 1 24 = true) (h : ∀ i, i < s.size → okAt s i) : nameB s = true := by
  have hbb := hb
  simp only [betw, Bool.and_eq_true, decide_eq_true_eq] at hbb
  simp only [nameB, hb, Bool.true_and, Bool.and_eq_true, List.all_eq_true, List.mem_range, Bool.or_eq_true, decide_eq_true_eq, letZ, nextZ, digZ]
  refine ⟨?_, fun i hi => ?_⟩
  · rcases h 0 (by omega) with h | h
    · exact h
    · exact absurd rfl h.1
  · rcases h i hi with h | h
    · exact .inr (.inl (.inl h))
    · rcases h.2 with h | h
      · exact .inr (.inr h)
      · exact .inr (.inl (.inr h))
theorem name_bad (s : ByteArray) (i : Nat) (hi : i < s.size) (h : ¬ okAt s i) : nameB s = false := by
  cases hn : nameB s
  · rfl
  · exfalso
    simp only [nameB, Bool.and_eq_true, List.all_eq_true, List.mem_range, Bool.or_eq_true, decide_eq_true_eq, letZ, nextZ, digZ] at hn
    obtain ⟨⟨h1, h2⟩, h3⟩ := hn
    apply h
    unfold okAt
    rcases h3 i hi with rfl | ((h4 | h4) | h4)
    · exact .inl h2
    · exact .inl h4
    · by_cases h0 : i = 0
      · subst h0; exact .inl h2
      · exact .inr ⟨h0, .inr h4⟩
    · by_cases h0 : i = 0
      · subst h0; exact .inl h2
      · exact .inr ⟨h0, .inl h4⟩

set_option maxRecDepth 100000 in
set_option maxHeartbeats 2000000 in
theorem r1Name_any (s : ByteArray) (w : World) (hs : s.size ≤ maxLen) :
    Calls Tryz.prog 81 #[.string s] w fun e w' => e = .returned (.bool (nameB s)) ∧ w = w' := by
  unfold maxLen at hs
  cases hb : betw s.size 1 24
  · have hfin : nameB s = false := by simp [nameB, hb]
    have HB := Lib.hid (r1in_is s.size 1 24 _ hb)
    rw [hfin]
    clear hfin hb
    go_enter Tryz.func81, Tryz.ntmps81
    go_wp2_with (go_at_call 129; refine (HB.out _).mono ?_; rintro e w1 ⟨rfl, rfl⟩)
    go_ret
    exact ⟨rfl, rfl⟩
  · have hok := name_of_ok s hb
    have HB := Lib.hid (r1in_is s.size 1 24 _ hb)
    have Hok := Lib.hid hok
    clear hb hok
    go_enter Tryz.func81, Tryz.ntmps81
    go_wp2_with fail
    refine (HB.out _).mono ?_
    rintro e w1 ⟨rfl, rfl⟩
    go_wp2
    go_loop [3] (fun i => ∃ k : Nat, k ≤ s.size ∧ i = .int .i64 k ∧ Hid (∀ i, i < k → okAt s i)) (fun i => s.size - (intOf i).toNat)
    case atStart => exact ⟨0, Nat.zero_le _, rfl, fun i hi => by omega⟩
    case round =>
      obtain ⟨k, hk, rfl, hprev⟩ := hrel
      by_cases hlt : k < s.size
      · have Gk := Lib.hid (byteAt_get s k hlt)
        have Hbad := Lib.hid (name_bad s k hlt)
        have More := Lib.hid (show okAt s k → Hid (∀ i, i < k + 1 → okAt s i) from fun h i hi => by
          rcases Nat.lt_or_ge i k with h1 | h1
          · exact hprev.out i h1
          · obtain rfl : i = k := by omega
            exact h)
        by_cases hk0 : k = 0
        · subst hk0
          go_wp2
          all_goals first
            | (go_ret; exact ⟨by rw [Hbad.out (by unfold okAt; rw [← Gk.out]; simp_all <;> omega)]; rfl, rfl⟩)
            | (go_round
               case rel => exact ⟨0 + 1, by omega, by go_num, More.out (by unfold okAt; rw [← Gk.out]; simp_all <;> omega)⟩
               case measure => simp [intOf]; omega)
        · have hk1 : ((k : Int) == 0) = false := by rw [beq_eq_false_iff_ne]; omega
          go_wp2
          all_goals first
            | (go_ret; exact ⟨by rw [Hbad.out (by unfold okAt; rw [← Gk.out]; simp_all <;> omega)]; rfl, rfl⟩)
            | (go_round
               case rel => exact ⟨k + 1, by omega, by go_num, More.out (by unfold okAt; rw [← Gk.out]; simp_all <;> omega)⟩
               case measure => simp [intOf]; omega)
      · obtain rfl : k = s.size := by omega
        have hfin : nameB s = true := Hok.out hprev.out
        have Hf := Lib.hid hfin; clear hfin
        go_wp2
        go_ret
        exact ⟨by rw [Hf.out]; rfl, rfl⟩
end Go.Proofs.YtmhfnnpbnocafaaGreat

namespace Go.Proofs.YtmhfnnpbnocafaaGreat
open Go.RowKit
set_option linter.unusedSimpArgs false
set_option linter.unusedVariables false

def stateR (g : Ga) (s : Gs) : Int := if stateB g s = true then 0 else 7
def validR (g : Ga) (s : Gs) (t : Gt) : Int := if stateB g s = true then (if betw t.order 0 2 = true then (if levels2B t.outer t.inner = true then 0 else 7) else 2) else 7
theorem step_valid (g : Ga) (s : Gs) (t : Gt) : (stepFt g s t).e = if (gateF g).e = 0 then validR g s t else (gateF g).e := by
  unfold stepFt stateFt orderFt validR
  by_cases h : (gateF g).e = 0
  · cases h1 : stateB g s <;> cases h2 : betw t.order 0 2 <;> cases h3 : levels2B t.outer t.inner <;> simp [firstF, need, h]
  · simp [firstF, h]

set_option maxRecDepth 100000 in
set_option maxHeartbeats 1000000 in
theorem rstate_any (g : Ga) (s : Gs) (w : World) : Calls Tryz.prog 37 #[g.v, s.v] w fun e w' => e = .returned (.int .i64 (stateR g s)) ∧ Below w.heap.size w w' := by
  have H1 := Lib.hid (rin_is s.pos 0 g.travel _ rfl)
  have H2 := Lib.hid (rin_is s.charge 0 g.capacity _ rfl)
  have hf : stateR g s = if (betw s.pos 0 g.travel && betw s.charge 0 g.capacity) = true then 0 else 7 := rfl
  rw [hf]
  clear hf
  cases h1 : betw s.pos 0 g.travel
  · rw [h1] at H1
    clear h1
    go_enter Tryz.func37, Tryz.ntmps37
    go_wp2_with fail
    refine (H1.out _).mono ?_
    rintro e w' ⟨rfl, rfl⟩
    go_wp2
    go_ret
    exact ⟨rfl, (by repeat (first | exact Below.refl _ _ | assumption | (refine Below.setCell ?_ (by first | omega | (simp; done) | (simp; omega)) _) | (refine Below.alloc ?_ (by first | omega | (simp; done) | (simp; omega)) _) | refine Below.drew ?_ | (refine below_thru ?_ (by assumption) (by first | omega | (simp; done) | (simp; omega))) | refine below_drewN ?_ _))⟩
  · rw [h1] at H1
    cases h2 : betw s.charge 0 g.capacity
    all_goals
      rw [h2] at H2
      clear h1 h2
      go_enter Tryz.func37, Tryz.ntmps37
      go_wp2_with fail
      refine (H1.out _).mono ?_
      rintro e w' ⟨rfl, rfl⟩
      go_wp2_with fail
      refine (H2.out _).mono ?_
      rintro e w' ⟨rfl, rfl⟩
      go_wp2
      go_ret
      exact ⟨rfl, (by repeat (first | exact Below.refl _ _ | assumption | (refine Below.setCell ?_ (by first | omega | (simp; done) | (simp; omega)) _) | (refine Below.alloc ?_ (by first | omega | (simp; done) | (simp; omega)) _) | refine Below.drew ?_ | (refine below_thru ?_ (by assumption) (by first | omega | (simp; done) | (simp; omega))) | refine below_drewN ?_ _))⟩

/-- The oil for so many cm. -/
def oilF (g : Ga) (d : Int) : Int := (d * g.use + 99) / 100
end Go.Proofs.YtmhfnnpbnocafaaGreat

namespace Go.Proofs.YtmhfnnpbnocafaaGreat
open Go.RowKit
set_option linter.unusedSimpArgs false
set_option linter.unusedVariables false

theorem oil_more {g : Ga} {s : Gs} (hg : g.Ok) (hs : s.Ok g) {d : Int} (d0 : 0 ≤ d) (d1 : d ≤ g.travel) : s.charge < oilF g d ↔ reachF g s < d := by
  have u0 := hg.use0
  have c0 := hs.c0
  unfold oilF reachF
  by_cases hu : g.use = 0
  · rw [if_pos hu, hu, Int.mul_zero]
    omega
  · rw [if_neg hu, Int.ediv_lt_iff_lt_mul (by omega)]
    generalize d * g.use = x
    omega
/-- What the loop reads. -/
structure DvR (W : World) (gb : Nat) (g : Ga) (sb : Nat) (s : Gs) : Prop where
  g : Blk W gb 25 (grow g)
  s : Blk W sb 27 #[.int .i64 s.pos, .int .i64 s.charge, .bool s.bolted]
section
variable {W W' : World} {gb sb : Nat} {g : Ga} {s : Gs}
theorem DvR.below (h : DvR W gb g sb s) (hb : Below W.heap.size W W') : DvR W' gb g sb s := ⟨h.g.thru hb h.g.lt, h.s.thru hb h.s.lt⟩
theorem DvR.drew (h : DvR W gb g sb s) : DvR W.drew gb g sb s := ⟨h.g, h.s⟩
end

end Go.Proofs.YtmhfnnpbnocafaaGreat
