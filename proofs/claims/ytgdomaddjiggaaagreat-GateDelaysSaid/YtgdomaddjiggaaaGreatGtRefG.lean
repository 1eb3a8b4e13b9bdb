/- The reference's small functions and names. The reference's small parts of a step: states, steps, oil, how far a gate is driven. The reference: how far a gate is driven. -/
import Derived.Test.YtgdomaddjiggaaaGreatGtGf2
import Derived.Test.YtgdomaddjiggaaaGreatGtSet
import Derived.Test.YtgdomaddjiggaaaGreatGtStepT
import Derived.Test.YtgdomaddjiggaaaGreatGtSetOf
namespace Go.Proofs.YtgdomaddjiggaaaGreat
open Go.RowKit
set_option linter.unusedSimpArgs false
set_option linter.unusedVariables false

set_option maxRecDepth 100000 in
theorem r1in_any (x lo hi : Int) (w : World) :
    Calls Tryz.prog 128 #[.int .i64 x, .int .i64 lo, .int .i64 hi] w fun e w' => e = .returned (.bool (betw x lo hi)) ∧ w = w' := by
  by_cases h1 : lo ≤ x
  · by_cases h2 : x ≤ hi
    all_goals
      go_enter Tryz.func128, Tryz.ntmps128
      go_wp2
      go_ret
      exact ⟨by simp [betw, h1, h2], rfl⟩
  · have h1' : decide (lo ≤ x) = false := by simpa using h1
    go_enter Tryz.func128, Tryz.ntmps128
    go_wp2
    go_ret
    exact ⟨by simp [betw, h1'], rfl⟩
theorem r1in_is (x lo hi : Int) (b : Bool) (h : betw x lo hi = b) : ∀ W : World, Calls Tryz.prog 128 #[.int .i64 x, .int .i64 lo, .int .i64 hi] W fun e w' => e = .returned (.bool b) ∧ w' = W := fun W => by
  subst h; exact (r1in_any x lo hi W).mono fun _ _ h => ⟨h.1, h.2.symm⟩
set_option maxRecDepth 100000 in
theorem rin_any (x lo hi : Int) (w : World) :
    Calls Tryz.prog 51 #[.int .i64 x, .int .i64 lo, .int .i64 hi] w fun e w' => e = .returned (.bool (betw x lo hi)) ∧ w = w' := by
  by_cases h1 : lo ≤ x
  · by_cases h2 : x ≤ hi
    all_goals
      go_enter Tryz.func51, Tryz.ntmps51
      go_wp2
      go_ret
      exact ⟨by simp [betw, h1, h2], rfl⟩
  · have h1' : decide (lo ≤ x) = false := by simpa using h1
    go_enter Tryz.func51, Tryz.ntmps51
    go_wp2
    go_ret
    exact ⟨by simp [betw, h1'], rfl⟩
theorem rin_is (x lo hi : Int) (b : Bool) (h : betw x lo hi = b) : ∀ W : World, Calls Tryz.prog 51 #[.int .i64 x, .int .i64 lo, .int .i64 hi] W fun e w' => e = .returned (.bool b) ∧ w' = W := fun W => by
  subst h; exact (rin_any x lo hi W).mono fun _ _ h => ⟨h.1, h.2.symm⟩
set_option maxRecDepth 100000 in
theorem rlevel_any (x : Int) (w : World) : Calls Tryz.prog 55 #[.int .i64 x] w fun e w' => e = .returned (.bool (levelB x)) ∧ w = w' := by
  have HB := Lib.hid (rin_is x (-20000) 20000 _ rfl)
  generalize hb : betw x (-20000) 20000 = b at *
  have hf : (levelB x) = b := hb
  rw [hf]
  clear hf hb
  go_enter Tryz.func55, Tryz.ntmps55
  go_wp2_with fail
  refine (HB.out _).mono ?_
  rintro e w1 ⟨rfl, rfl⟩
  go_wp2
  go_ret
  exact ⟨rfl, rfl⟩
theorem rlevel_is (x : Int) (b : Bool) (h : (levelB x) = b) : ∀ W : World, Calls Tryz.prog 55 #[.int .i64 x] W fun e w' => e = .returned (.bool b) ∧ w' = W := fun W => by
  subst h; exact (rlevel_any x W).mono fun _ _ h => ⟨h.1, h.2.symm⟩
set_option maxRecDepth 100000 in
theorem rforce_any (x : Int) (w : World) : Calls Tryz.prog 57 #[.int .i64 x] w fun e w' => e = .returned (.bool (betw x 0 200000)) ∧ w = w' := by
  have HB := Lib.hid (rin_is x (0) 200000 _ rfl)
  generalize hb : betw x (0) 200000 = b at *
  clear hb
  go_enter Tryz.func57, Tryz.ntmps57
  go_wp2_with fail
  refine (HB.out _).mono ?_
  rintro e w1 ⟨rfl, rfl⟩
  go_wp2
  go_ret
  exact ⟨rfl, rfl⟩
theorem rforce_is (x : Int) (b : Bool) (h : (betw x 0 200000) = b) : ∀ W : World, Calls Tryz.prog 57 #[.int .i64 x] W fun e w' => e = .returned (.bool b) ∧ w' = W := fun W => by
  subst h; exact (rforce_any x W).mono fun _ _ h => ⟨h.1, h.2.symm⟩
set_option maxRecDepth 100000 in
theorem rrate_any (x : Int) (w : World) : Calls Tryz.prog 56 #[.int .i64 x] w fun e w' => e = .returned (.bool (betw x 0 10000)) ∧ w = w' := by
  have HB := Lib.hid (rin_is x (0) 10000 _ rfl)
  generalize hb : betw x (0) 10000 = b at *
  clear hb
  go_enter Tryz.func56, Tryz.ntmps56
  go_wp2_with fail
  refine (HB.out _).mono ?_
  rintro e w1 ⟨rfl, rfl⟩
  go_wp2
  go_ret
  exact ⟨rfl, rfl⟩
theorem rrate_is (x : Int) (b : Bool) (h : (betw x 0 10000) = b) : ∀ W : World, Calls Tryz.prog 56 #[.int .i64 x] W fun e w' => e = .returned (.bool b) ∧ w' = W := fun W => by
  subst h; exact (rrate_any x W).mono fun _ _ h => ⟨h.1, h.2.symm⟩
set_option maxRecDepth 100000 in
theorem roil_any (x : Int) (w : World) : Calls Tryz.prog 58 #[.int .i64 x] w fun e w' => e = .returned (.bool (betw x 0 100000)) ∧ w = w' := by
  have HB := Lib.hid (rin_is x (0) 100000 _ rfl)
  generalize hb : betw x (0) 100000 = b at *
  clear hb
  go_enter Tryz.func58, Tryz.ntmps58
  go_wp2_with fail
  refine (HB.out _).mono ?_
  rintro e w1 ⟨rfl, rfl⟩
  go_wp2
  go_ret
  exact ⟨rfl, rfl⟩
theorem roil_is (x : Int) (b : Bool) (h : (betw x 0 100000) = b) : ∀ W : World, Calls Tryz.prog 58 #[.int .i64 x] W fun e w' => e = .returned (.bool b) ∧ w' = W := fun W => by
  subst h; exact (roil_any x W).mono fun _ _ h => ⟨h.1, h.2.symm⟩

/-- What the reference asks of the byte at a place. -/
def okAt (s : ByteArray) (i : Nat) : Prop := (97 ≤ byteAt s i ∧ byteAt s i ≤ 122) ∨ (i ≠ 0 ∧ (byteAt s i = 45 ∨ (48 ≤ byteAt s i ∧ byteAt s i ≤ 57)))
theorem name_of_ok (s : ByteArray) (hb : betw s.size 1 24 = true) (h : ∀ i, i < s.size → okAt s i) : nameB s = true := by
  have hbb := hb
  simp only [betw, Bool.and_eq_true, decide_eq_true_eq] at hbb
  simp only [nameB, hb, Bool.true_and, Bool.and_eq_true, List.all_eq_true, List.mem_range, Bool.or_eq_true, decide_eq_true_eq, letZ, nextZ, digZ]
  refine ⟨?_, fun i hi => ?_⟩
  · rcases h 0 (by omega) with h | h
    · exact h
    · exact absurd rfl h.1
  · rcases h i hi with h | h
    · exact .inr (.inl (.inl h))
    · rcases h.2 with h | h
      · exact .inr (.inr h)
      · exact .inr (.inl (.inr h))
theorem name_bad (s : ByteArray) (i : Nat) (hi : i < s.size) (h : ¬ okAt s i) : nameB s = false := by
  cases hn : nameB s
  · rfl
  · exfalso
    simp only [nameB, Bool.and_eq_true, List.all_eq_true, List.mem_range, Bool.or_eq_true, decide_eq_true_eq, letZ, nextZ, digZ] at hn
    obtain ⟨⟨h1, h2⟩, h3⟩ := hn
    apply h
    unfold okAt
    rcases h3 i hi with rfl | ((h4 | h4) | h4)
    · exact .inl h2
    · exact .inl h4
    · by_cases h0 : i = 0
      · subst h0; exact .inl h2
      · exact .inr ⟨h0, .inr h4⟩
    · by_cases h0 : i = 0
      · subst h0; exact .inl h2
      · exact .inr ⟨h0, .inl h4⟩

set_option maxRecDepth 100000 in
set_option maxHeartbeats 2000000 in
theorem r1Name_any (s : ByteArray) (w : World) (hs : s.size ≤ maxLen) :
    Calls Tryz.prog 53 #[.string s] w fun e w' => e = .returned (.bool (nameB s)) ∧ w = w' := by
  unfold maxLen at hs
  cases hb : betw s.size 1 24
  · have hfin : nameB s = false := by simp [nameB, hb]
    have HB := Lib.hid (r1in_is s.size 1 24 _ hb)
    rw [hfin]
    clear hfin hb
    go_enter Tryz.func53, Tryz.ntmps53
    go_wp2_with (go_at_call 128; refine (HB.out _).mono ?_; rintro e w1 ⟨rfl, rfl⟩)
    go_ret
    exact ⟨rfl, rfl⟩
  · have hok := name_of_ok s hb
    have HB := Lib.hid (r1in_is s.size 1 24 _ hb)
    have Hok := Lib.hid hok
    clear hb hok
    go_enter Tryz.func53, Tryz.ntmps53
    go_wp2_with fail
    refine (HB.out _).mono ?_
    rintro e w1 ⟨rfl, rfl⟩
    go_wp2
    go_loop [3] (fun i => ∃ k : Nat, k ≤ s.size ∧ i = .int .i64 k ∧ Hid (∀ i, i < k → okAt s i)) (fun i => s.size - (intOf i).toNat)
    case atStart => exact ⟨0, Nat.zero_le _, rfl, fun i hi => by omega⟩
    case round =>
      obtain ⟨k, hk, rfl, hprev⟩ := hrel
      by_cases hlt : k < s.size
      · have Gk := Lib.hid (byteAt_get s k hlt)
        have Hbad := Lib.hid (name_bad s k hlt)
        have More := Lib.hid (show okAt s k → Hid (∀ i, i < k + 1 → okAt s i) from fun h i hi => by
          rcases Nat.lt_or_ge i k with h1 | h1
          · exact hprev.out i h1
          · obtain rfl : i = k := by omega
            exact h)
        by_cases hk0 : k = 0
        · subst hk0
          go_wp2
          all_goals first
            | (go_ret; exact ⟨by rw [Hbad.out (by unfold okAt; rw [← Gk.out]; simp_all <;> omega)]; rfl, rfl⟩)
            | (go_round
               case rel => exact ⟨0 + 1, by omega, by go_num, More.out (by unfold okAt; rw [← Gk.out]; simp_all <;> omega)⟩
               case measure => simp [intOf]; omega)
        · have hk1 : ((k : Int) == 0) = false := by rw [beq_eq_false_iff_ne]; omega
          go_wp2
          all_goals first
            | (go_ret; exact ⟨by rw [Hbad.out (by unfold okAt; rw [← Gk.out]; simp_all <;> omega)]; rfl, rfl⟩)
            | (go_round
               case rel => exact ⟨k + 1, by omega, by go_num, More.out (by unfold okAt; rw [← Gk.out]; simp_all <;> omega)⟩
               case measure => simp [intOf]; omega)
      · obtain rfl : k = s.size := by omega
        have hfin : nameB s = true := Hok.out hprev.out
        have Hf := Lib.hid hfin; clear hfin
        go_wp2
        go_ret
        exact ⟨by rw [Hf.out]; rfl, rfl⟩
end Go.Proofs.YtgdomaddjiggaaaGreat

namespace Go.Proofs.YtgdomaddjiggaaaGreat
open Go.RowKit
set_option linter.unusedSimpArgs false
set_option linter.unusedVariables false

def stateR (g : Ga) (s : Gs) : Int := if stateB g s = true then 0 else 7
def validR (g : Ga) (s : Gs) (t : Gt) : Int := if stateB g s = true then (if betw t.order 0 2 = true then (if levels2B t.outer t.inner = true then 0 else 7) else 2) else 7
theorem step_valid (g : Ga) (s : Gs) (t : Gt) : (stepFt g s t).e = if (gateF g).e = 0 then validR g s t else (gateF g).e := by
  unfold stepFt stateFt orderFt validR
  by_cases h : (gateF g).e = 0
  · cases h1 : stateB g s <;> cases h2 : betw t.order 0 2 <;> cases h3 : levels2B t.outer t.inner <;> simp [firstF, need, h]
  · simp [firstF, h]

set_option maxRecDepth 100000 in
set_option maxHeartbeats 1000000 in
theorem rstate_any (g : Ga) (s : Gs) (w : World) : Calls Tryz.prog 84 #[g.v, s.v] w fun e w' => e = .returned (.int .i64 (stateR g s)) ∧ Below w.heap.size w w' := by
  have H1 := Lib.hid (rin_is s.pos 0 g.travel _ rfl)
  have H2 := Lib.hid (rin_is s.charge 0 g.capacity _ rfl)
  have hf : stateR g s = if (betw s.pos 0 g.travel && betw s.charge 0 g.capacity) = true then 0 else 7 := rfl
  rw [hf]
  clear hf
  cases h1 : betw s.pos 0 g.travel
  · rw [h1] at H1
    clear h1
    go_enter Tryz.func84, Tryz.ntmps84
    go_wp2_with fail
    refine (H1.out _).mono ?_
    rintro e w' ⟨rfl, rfl⟩
    go_wp2
    go_ret
    exact ⟨rfl, (by repeat (first | exact Below.refl _ _ | assumption | (refine Below.setCell ?_ (by first | omega | (simp; done) | (simp; omega)) _) | (refine Below.alloc ?_ (by first | omega | (simp; done) | (simp; omega)) _) | refine Below.drew ?_ | (refine below_thru ?_ (by assumption) (by first | omega | (simp; done) | (simp; omega))) | refine below_drewN ?_ _))⟩
  · rw [h1] at H1
    cases h2 : betw s.charge 0 g.capacity
    all_goals
      rw [h2] at H2
      clear h1 h2
      go_enter Tryz.func84, Tryz.ntmps84
      go_wp2_with fail
      refine (H1.out _).mono ?_
      rintro e w' ⟨rfl, rfl⟩
      go_wp2_with fail
      refine (H2.out _).mono ?_
      rintro e w' ⟨rfl, rfl⟩
      go_wp2
      go_ret
      exact ⟨rfl, (by repeat (first | exact Below.refl _ _ | assumption | (refine Below.setCell ?_ (by first | omega | (simp; done) | (simp; omega)) _) | (refine Below.alloc ?_ (by first | omega | (simp; done) | (simp; omega)) _) | refine Below.drew ?_ | (refine below_thru ?_ (by assumption) (by first | omega | (simp; done) | (simp; omega))) | refine below_drewN ?_ _))⟩

set_option maxRecDepth 100000 in
set_option maxHeartbeats 1000000 in
theorem rvalid_any (g : Ga) (s : Gs) (t : Gt) (w : World) : Calls Tryz.prog 73 #[g.v, s.v, t.v] w fun e w' => e = .returned (.int .i64 (validR g s t)) ∧ Below w.heap.size w w' := by
  have HS := Lib.hid (fun W => rstate_any g s W)
  have H1 := Lib.hid (rin_is t.order 0 2 _ rfl)
  have H2 := Lib.hid (rlevel_is t.outer _ rfl)
  have H3 := Lib.hid (rlevel_is t.inner _ rfl)
  unfold validR
  rw [show levels2B t.outer t.inner = (levelB t.outer && levelB t.inner) from rfl]
  unfold stateR at HS
  cases h0 : stateB g s
  · rw [h0] at HS
    have HS := Lib.hid (show ∀ W : World, Calls Tryz.prog 84 #[g.v, s.v] W fun e w' => e = .returned (.int .i64 7) ∧ Below W.heap.size W w' from HS.out)
    clear h0
    go_enter Tryz.func73, Tryz.ntmps73
    go_wp2_with (with_reducible refine wpl_g (g := g) (((Blk.new w _ _).alloc _).alloc _) rfl rfl rfl ?_)
    refine (HS.out _).mono ?_
    rintro e w1 ⟨rfl, hb1⟩
    obtain ⟨hc1, hf1⟩ := bcell hb1; have hz1 := hb1.size; (try simp at hz1)
    go_wp2
    go_ret
    exact ⟨rfl, (by repeat (first | exact Below.refl _ _ | assumption | (refine Below.setCell ?_ (by first | omega | (simp; done) | (simp; omega)) _) | (refine Below.alloc ?_ (by first | omega | (simp; done) | (simp; omega)) _) | refine Below.drew ?_ | (refine below_thru ?_ (by assumption) (by first | omega | (simp; done) | (simp; omega))) | refine below_drewN ?_ _))⟩
  · rw [h0] at HS
    have HS := Lib.hid (show ∀ W : World, Calls Tryz.prog 84 #[g.v, s.v] W fun e w' => e = .returned (.int .i64 0) ∧ Below W.heap.size W w' from HS.out)
    clear h0
    generalize betw t.order 0 2 = b1 at *
    generalize levelB t.outer = b2 at *
    generalize levelB t.inner = b3 at *
    cases b1
    · go_enter Tryz.func73, Tryz.ntmps73
      go_wp2_with (with_reducible refine wpl_g (g := g) (((Blk.new w _ _).alloc _).alloc _) rfl rfl rfl ?_)
      refine (HS.out _).mono ?_
      rintro e w1 ⟨rfl, hb1⟩
      obtain ⟨hc1, hf1⟩ := bcell hb1; have hz1 := hb1.size; (try simp at hz1)
      have hl2 : w.heap.size + 1 + 1 < w1.heap.size := by omega
      go_wp2_with fail
      refine (H1.out _).mono ?_
      rintro e w' ⟨rfl, rfl⟩
      go_wp2
      go_ret
      exact ⟨rfl, (by repeat (first | exact Below.refl _ _ | assumption | (refine Below.setCell ?_ (by first | omega | (simp; done) | (simp; omega)) _) | (refine Below.alloc ?_ (by first | omega | (simp; done) | (simp; omega)) _) | refine Below.drew ?_ | (refine below_thru ?_ (by assumption) (by first | omega | (simp; done) | (simp; omega))) | refine below_drewN ?_ _))⟩
    · cases b2
      · go_enter Tryz.func73, Tryz.ntmps73
        go_wp2_with (with_reducible refine wpl_g (g := g) (((Blk.new w _ _).alloc _).alloc _) rfl rfl rfl ?_)
        refine (HS.out _).mono ?_
        rintro e w1 ⟨rfl, hb1⟩
        obtain ⟨hc1, hf1⟩ := bcell hb1; have hz1 := hb1.size; (try simp at hz1)
        have hl2 : w.heap.size + 1 + 1 < w1.heap.size := by omega
        go_wp2_with fail
        refine (H1.out _).mono ?_
        rintro e w' ⟨rfl, rfl⟩
        go_wp2_with fail
        refine (H2.out _).mono ?_
        rintro e w' ⟨rfl, rfl⟩
        go_wp2
        go_ret
        exact ⟨rfl, (by repeat (first | exact Below.refl _ _ | assumption | (refine Below.setCell ?_ (by first | omega | (simp; done) | (simp; omega)) _) | (refine Below.alloc ?_ (by first | omega | (simp; done) | (simp; omega)) _) | refine Below.drew ?_ | (refine below_thru ?_ (by assumption) (by first | omega | (simp; done) | (simp; omega))) | refine below_drewN ?_ _))⟩
      · cases b3
        all_goals
          go_enter Tryz.func73, Tryz.ntmps73
          go_wp2_with (with_reducible refine wpl_g (g := g) (((Blk.new w _ _).alloc _).alloc _) rfl rfl rfl ?_)
          refine (HS.out _).mono ?_
          rintro e w1 ⟨rfl, hb1⟩
          obtain ⟨hc1, hf1⟩ := bcell hb1; have hz1 := hb1.size; (try simp at hz1)
          have hl2 : w.heap.size + 1 + 1 < w1.heap.size := by omega
          go_wp2_with fail
          refine (H1.out _).mono ?_
          rintro e w' ⟨rfl, rfl⟩
          go_wp2_with fail
          refine (H2.out _).mono ?_
          rintro e w' ⟨rfl, rfl⟩
          go_wp2_with fail
          refine (H3.out _).mono ?_
          rintro e w' ⟨rfl, rfl⟩
          go_wp2
          go_ret
          exact ⟨rfl, (by repeat (first | exact Below.refl _ _ | assumption | (refine Below.setCell ?_ (by first | omega | (simp; done) | (simp; omega)) _) | (refine Below.alloc ?_ (by first | omega | (simp; done) | (simp; omega)) _) | refine Below.drew ?_ | (refine below_thru ?_ (by assumption) (by first | omega | (simp; done) | (simp; omega))) | refine below_drewN ?_ _))⟩
set_option maxRecDepth 100000 in
theorem rbolted_any (s : Gs) (t : Gt) (w : World) : Calls Tryz.prog 75 #[s.v, t.v] w fun e w' => e = .returned (.int .i64 (lockF s t)) ∧ Below w.heap.size w w' := by
  unfold lockF
  obtain ⟨p, c, b⟩ := s
  simp only
  cases b
  · have hf : (if t.order = 0 then (0 : Int) else if false = true then 130 else 0) = 0 := by split <;> simp
    rw [hf]
    clear hf
    go_enter Tryz.func75, Tryz.ntmps75
    go_wp2
    go_ret
    exact ⟨rfl, (by repeat (first | exact Below.refl _ _ | assumption | (refine Below.setCell ?_ (by first | omega | (simp; done) | (simp; omega)) _) | (refine Below.alloc ?_ (by first | omega | (simp; done) | (simp; omega)) _) | refine Below.drew ?_ | (refine below_thru ?_ (by assumption) (by first | omega | (simp; done) | (simp; omega))) | refine below_drewN ?_ _))⟩
  · by_cases h : t.order = 0
    · have q : (t.order != 0) = false := by rw [bne_eq_false_iff_eq]; exact h
      rw [if_pos h]
      clear h
      go_enter Tryz.func75, Tryz.ntmps75
      go_wp2
      go_ret
      exact ⟨rfl, (by repeat (first | exact Below.refl _ _ | assumption | (refine Below.setCell ?_ (by first | omega | (simp; done) | (simp; omega)) _) | (refine Below.alloc ?_ (by first | omega | (simp; done) | (simp; omega)) _) | refine Below.drew ?_ | (refine below_thru ?_ (by assumption) (by first | omega | (simp; done) | (simp; omega))) | refine below_drewN ?_ _))⟩
    · have q : (t.order != 0) = true := by rw [bne_iff_ne]; exact h
      rw [if_neg h, if_pos rfl]
      clear h
      go_enter Tryz.func75, Tryz.ntmps75
      go_wp2
      go_ret
      exact ⟨rfl, (by repeat (first | exact Below.refl _ _ | assumption | (refine Below.setCell ?_ (by first | omega | (simp; done) | (simp; omega)) _) | (refine Below.alloc ?_ (by first | omega | (simp; done) | (simp; omega)) _) | refine Below.drew ?_ | (refine below_thru ?_ (by assumption) (by first | omega | (simp; done) | (simp; omega))) | refine below_drewN ?_ _))⟩
/-- The oil for so many cm. -/
def oilF (g : Ga) (d : Int) : Int := (d * g.use + 99) / 100
set_option maxRecDepth 100000 in
theorem rused_any (g : Ga) (d : Int) (w : World) (hg : g.Ok) (d0 : 0 ≤ d) (d1 : d ≤ 5000) : Calls Tryz.prog 170 #[g.v, .int .i64 d] w fun e w' => e = .returned (.int .i64 (oilF g d)) ∧ Below w.heap.size w w' := by
  obtain ⟨m0, m1⟩ := mul0 (a := d) (A := 5000) (b := g.use) (B := 100000) d0 d1 hg.use0 hg.use1
  have w0 : IntKind.i64.wrap (d * g.use) = d * g.use := IntWalk.i64_in _ (by omega)
  have Hf := Lib.hid (show oilF g d = (d * g.use + 99) / 100 from rfl)
  clear hg
  go_enter Tryz.func170, Tryz.ntmps170
  go_wp2
  go_ret
  exact ⟨by rw [Hf.out]; first | rfl | (refine ret_int ?_; omega), (by repeat (first | exact Below.refl _ _ | assumption | (refine Below.setCell ?_ (by first | omega | (simp; done) | (simp; omega)) _) | (refine Below.alloc ?_ (by first | omega | (simp; done) | (simp; omega)) _) | refine Below.drew ?_ | (refine below_thru ?_ (by assumption) (by first | omega | (simp; done) | (simp; omega))) | refine below_drewN ?_ _))⟩
end Go.Proofs.YtgdomaddjiggaaaGreat

namespace Go.Proofs.YtgdomaddjiggaaaGreat
open Go.RowKit
set_option linter.unusedSimpArgs false
set_option linter.unusedVariables false

theorem oil_more {g : Ga} {s : Gs} (hg : g.Ok) (hs : s.Ok g) {d : Int} (d0 : 0 ≤ d) (d1 : d ≤ g.travel) : s.charge < oilF g d ↔ reachF g s < d := by
  have u0 := hg.use0
  have c0 := hs.c0
  unfold oilF reachF
  by_cases hu : g.use = 0
  · rw [if_pos hu, hu, Int.mul_zero]
    omega
  · rw [if_neg hu, Int.ediv_lt_iff_lt_mul (by omega)]
    generalize d * g.use = x
    omega
/-- What the loop reads. -/
structure DvR (W : World) (gb : Nat) (g : Ga) (sb : Nat) (s : Gs) : Prop where
  g : Blk W gb 33 (grow g)
  s : Blk W sb 42 #[.int .i64 s.pos, .int .i64 s.charge, .bool s.bolted]
section
variable {W W' : World} {gb sb : Nat} {g : Ga} {s : Gs}
theorem DvR.below (h : DvR W gb g sb s) (hb : Below W.heap.size W W') : DvR W' gb g sb s := ⟨h.g.thru hb h.g.lt, h.s.thru hb h.s.lt⟩
theorem DvR.drew (h : DvR W gb g sb s) : DvR W.drew gb g sb s := ⟨h.g, h.s⟩
end

set_option maxRecDepth 100000 in
set_option maxHeartbeats 4000000 in
theorem rdriven_any (g : Ga) (s : Gs) (left : Int) (w : World) (hg : g.Ok) (hs : s.Ok g) (l0 : 0 ≤ left) (l1 : left ≤ g.travel) :
    Calls Tryz.prog 169 #[g.v, s.v, .int .i64 left] w fun e w' => e = .returned (.int .i64 (driveF g s left)) ∧ Below w.heap.size w w' := by
  obtain ⟨d0, d1, d2, d3, _⟩ := drive_in hg hs l0
  have sp0 := hg.speed0
  have sp1 := hg.speed1
  have t1 := hg.t1
  obtain ⟨mx, hmx⟩ : ∃ mx, min g.speed left = mx := ⟨_, rfl⟩
  have y1 : (if left < g.speed then left else g.speed) = mx := by rw [← hmx]; split <;> omega
  have hmx1 : mx ≤ 100 := by omega
  have hmx2 : driveF g s left ≤ mx := by omega
  have hmx3 : mx ≤ g.travel := by omega
  have Hd := Lib.hid (show driveF g s left = min mx (reachF g s) from by unfold driveF; rw [hmx])
  have HO := Lib.hid (fun d h0 h1 => oil_more (d := d) hg hs h0 h1)
  have HU := Lib.hid (fun d W h0 h1 => rused_any g d W hg h0 h1)
  generalize driveF g s left = dr at *
  clear hmx d1 d2 d3 hg hs
  go_enter Tryz.func169, Tryz.ntmps169
  go_wp2_with fail
  go_loopw [7] (fun v wr => ∃ m : Int, v = .int .i64 m ∧ dr ≤ m ∧ m ≤ mx ∧ Hid (DvR wr w.heap.size g (w.heap.size + 1) s) ∧ Below w.heap.size w wr)
    (fun v _ => (intOf v).toNat)
  case atStart => exact ⟨mx, rfl, hmx2, Int.le_refl _, ⟨(Blk.new w _ _).alloc _, Blk.new' (w.alloc _) _ _ (by simp)⟩, (by repeat (first | exact Below.refl _ _ | assumption | (refine Below.setCell ?_ (by first | omega | (simp; done) | (simp; omega)) _) | (refine Below.alloc ?_ (by first | omega | (simp; done) | (simp; omega)) _) | refine Below.drew ?_ | (refine below_thru ?_ (by assumption) (by first | omega | (simp; done) | (simp; omega))) | refine below_drewN ?_ _))⟩
  case round =>
    obtain ⟨m, rfl, m0, m1, hdv, hbr⟩ := hrel
    have hzr := hbr.size
    have hR1 := hdv.out.drew
    have ho := HO.out m (by omega) (by omega)
    have HU := Lib.hid (fun W => HU.out m W (by omega) (by omega))
    have Ho := Lib.hid ho
    generalize oilF g m = om at *
    clear ho
    go_wp2_with fail
    refine wp_region_held (S := fun W' => DvR W' w.heap.size g (w.heap.size + 1) s) (by kernel_rfl) (by exact hR1) (fun hHeld => ?_)
    refine wpAnyH_take (i := 0) (v := g.v) rfl (by kernel_rfl) (by kernel_rfl) (by kernel_rfl) (fun _ _ _ h => h) (Or.inl ⟨by rfl, fun w hSw => ld_g rfl rfl hSw.g⟩) hHeld ?_
    (try simp only [Act.put, List.setIfInBounds_toArray, List.set_cons_zero, List.set_cons_succ])
    refine wpAnyH_take (i := 1) (v := ?_) rfl (by kernel_rfl) (by kernel_rfl) (by kernel_rfl) (fun _ _ _ h => h) (Or.inl ⟨by rfl, ?_⟩) hHeld ?_
    rotate_left
    · intro w hSw; (try dsimp only at hSw); obtain ⟨x1, x2⟩ := hSw; have s0 := x2.cell 0; have s1 := x2.cell 1; have s2 := x2.cell 2; simp only [List.getElem?_toArray, List.getElem?_cons_zero, List.getElem?_cons_succ] at s0 s1 s2; go_simp; (try with_reducible rfl)
    (try simp only [Act.put, List.setIfInBounds_toArray, List.set_cons_zero, List.set_cons_succ])
    refine wpAnyH_take (i := 3) (v := ?_) rfl (by kernel_rfl) (by kernel_rfl) (by kernel_rfl) (fun _ _ _ h => h) (Or.inl ⟨by rfl, ?_⟩) hHeld ?_
    rotate_left
    · intro w hSw; (try dsimp only at hSw); obtain ⟨x1, x2⟩ := hSw; have s0 := x2.cell 0; have s1 := x2.cell 1; have s2 := x2.cell 2; simp only [List.getElem?_toArray, List.getElem?_cons_zero, List.getElem?_cons_succ] at s0 s1 s2; go_simp; (try with_reducible rfl)
    (try simp only [Act.put, List.setIfInBounds_toArray, List.set_cons_zero, List.set_cons_succ])
    refine wpAnyH_take (i := 4) (v := ?_) rfl (by kernel_rfl) (by kernel_rfl) (by kernel_rfl) (fun _ _ _ h => h) (Or.inl ⟨by rfl, ?_⟩) hHeld ?_
    rotate_left
    · intro w hSw; (try dsimp only at hSw); obtain ⟨x1, x2⟩ := hSw; have s0 := x2.cell 0; have s1 := x2.cell 1; have s2 := x2.cell 2; simp only [List.getElem?_toArray, List.getElem?_cons_zero, List.getElem?_cons_succ] at s0 s1 s2; go_simp; (try with_reducible rfl)
    (try simp only [Act.put, List.setIfInBounds_toArray, List.set_cons_zero, List.set_cons_succ])
    (try simp only [List.getElem_toArray, List.getElem_cons_zero, List.getElem_cons_succ, Act.put, List.setIfInBounds_toArray, List.set_cons_zero, List.set_cons_succ])
    refine wpAnyH_ready (rs := [2]) (by kernel_rfl) (by simp) ?_
    refine AllReadyH.cons rfl (fun K hK => ?_) AllReadyH.nil
    go_simp
    refine (HU.out _).mono ?_
    rintro e w2 ⟨rfl, hb2⟩; have hz2 := hb2.size; (try simp at hz2)
    (try dsimp only)
    refine hK.out _ _ (by exact hHeld.below hb2) (fun hHeld => ?_)
    clear hK K
    (try simp only [Act.put, List.setIfInBounds_toArray, List.set_cons_zero, List.set_cons_succ])
    refine wpAnyH_take (i := 5) (v := ?_) rfl (by kernel_rfl) (by kernel_rfl) (by kernel_rfl) (fun _ _ _ h => h) (Or.inl ⟨by rfl, ?_⟩) hHeld ?_
    rotate_left
    · intro w hSw; (try dsimp only at hSw); skip; go_simp; (try with_reducible rfl)
    (try simp only [Act.put, List.setIfInBounds_toArray, List.set_cons_zero, List.set_cons_succ])
    refine wpAnyH_done (by kernel_rfl) ?_ _
    (try simp only [List.getElem_toArray, List.getElem_cons_zero, List.getElem_cons_succ, Act.put, List.setIfInBounds_toArray, List.set_cons_zero, List.set_cons_succ])
    have hw2 : Below w.heap.size w w2 := (by repeat (first | exact Below.refl _ _ | assumption | (refine Below.setCell ?_ (by first | omega | (simp; done) | (simp; omega)) _) | (refine Below.alloc ?_ (by first | omega | (simp; done) | (simp; omega)) _) | refine Below.drew ?_ | (refine below_thru ?_ (by assumption) (by first | omega | (simp; done) | (simp; omega))) | refine below_drewN ?_ _))
    have hdv2 := Lib.hid (hR1.below hb2)
    clear hb2 hR1 hdv hbr HU
    by_cases hmore : s.charge < om
    · have hr := Ho.out.1 hmore
      have hdr : dr ≤ m - 1 := by have := Hd.out; omega
      have hdr1 := hdr
      clear hr hdr1
      go_wp2
      go_roundw
      case rel => exact ⟨m - 1, by go_num, hdr, by omega, hdv2.out, hw2⟩
      case measure => simp [intOf]; omega
    · have hr : ¬ reachF g s < m := fun h => hmore (Ho.out.2 h)
      have hdm : m = dr := by have := Hd.out; omega
      have Hdm := Lib.hid hdm
      clear hr hdm
      go_wp2
      go_ret
      exact ⟨by rw [Hdm.out]; rfl, hw2⟩
end Go.Proofs.YtgdomaddjiggaaaGreat
