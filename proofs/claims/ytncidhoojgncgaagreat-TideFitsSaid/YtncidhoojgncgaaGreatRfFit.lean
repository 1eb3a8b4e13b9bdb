/- The reference's Fit. -/
import Derived.Test.YtncidhoojgncgaaGreatTdFitX
import Derived.Test.YtncidhoojgncgaaGreatRfSays
namespace Go.Proofs.YtncidhoojgncgaaGreat
open Go.RowKit
set_option linter.unusedSimpArgs false
set_option linter.unusedVariables false

def someF (a : Int) (n : Nat) : Int := if n ≤ 400 then (if areTicksB a n = true then 0 else 7) else 3
set_option maxHeartbeats 1000000 in
theorem rsome_any (a : Int) (n : Nat) (w : World) (hm : n ≤ maxLen) :
    Calls Tryz.prog 72 #[.int .i64 a, .int .i64 n] w fun e w' => e = .returned (.int .i64 (someF a n)) ∧ w' = w := by
  unfold maxLen at hm
  have HI := rin_is n 0 400
  by_cases h1 : n ≤ 400
  · have hb : betw n 0 400 = true := by simp only [betw, Bool.and_eq_true, decide_eq_true_eq]; omega
    have HI := Lib.hid (HI _ hb)
    clear hb
    have hf : someF a n = if areTicksB a n = true then 0 else 7 := by unfold someF; rw [if_pos h1]
    rw [hf]
    clear hf
    by_cases h0 : n = 0
    · subst h0
      have hg : decide ((0 : Int) < ((0 : Nat) : Int)) = false := by simp
      go_enter Tryz.func72, Tryz.ntmps72
      go_wp2_with fail
      refine (HI.out _).mono ?_
      rintro e w1 ⟨rfl, rfl⟩
      go_wp2
      go_ret
      exact ⟨by simp [areTicksB], rfl⟩
    · have hg : decide ((0 : Int) < (n : Int)) = true := by rw [decide_eq_true_eq]; omega
      have hn0 : ((n : Int) == 0) = false := by rw [beq_eq_false_iff_ne]; omega
      cases ht : tickB a
      · have hfin : areTicksB a n = false := by unfold areTicksB; rw [hn0, ht]; rfl
        have HT := Lib.hid (rtick_is a _ ht)
        rw [hfin]
        clear hfin hn0 ht
        go_enter Tryz.func72, Tryz.ntmps72
        go_wp2_with fail
        refine (HI.out _).mono ?_
        rintro e w1 ⟨rfl, rfl⟩
        go_wp2_with fail
        refine (HT.out _).mono ?_
        rintro e w1 ⟨rfl, rfl⟩
        go_wp2
        go_ret
        exact ⟨rfl, rfl⟩
      · have hfin : areTicksB a n = tickB (a + n - 1) := by unfold areTicksB; rw [hn0, ht]; rfl
        have HT := Lib.hid (rtick_is a _ ht)
        have hb : 0 ≤ a ∧ a ≤ 200000 := by simpa [tickB, betw] using ht
        obtain ⟨a0, a1⟩ := hb
        rw [hfin]
        clear hfin hn0 ht
        have HT2 := rtick_is (a + n - 1)
        cases ht : tickB (a + n - 1)
        all_goals
          have HT2 := Lib.hid (HT2 _ ht)
          clear ht
          go_enter Tryz.func72, Tryz.ntmps72
          go_wp2_with fail
          refine (HI.out _).mono ?_
          rintro e w1 ⟨rfl, rfl⟩
          go_wp2_with fail
          refine (HT.out _).mono ?_
          rintro e w1 ⟨rfl, rfl⟩
          go_wp2_with fail
          refine (HT2.out _).mono ?_
          rintro e w1 ⟨rfl, rfl⟩
          go_wp2
          go_ret
          exact ⟨rfl, rfl⟩
  · have hb : betw n 0 400 = false := by simp only [betw, Bool.and_eq_false_iff, decide_eq_false_iff_not]; omega
    have HI := Lib.hid (HI _ hb)
    clear hb
    have hf : someF a n = 3 := by unfold someF; rw [if_neg h1]
    rw [hf]
    clear hf
    go_enter Tryz.func72, Tryz.ntmps72
    go_wp2_with fail
    refine (HI.out _).mono ?_
    rintro e w1 ⟨rfl, rfl⟩
    go_wp2
    go_ret
    exact ⟨rfl, rfl⟩

theorem fitR_a (g : Gg) (d a : Int) (n : Nat) (l : List Sp) (h1 : (gaugeF g).e ≠ 0) : fitR g d a n l = (⟨0, 0⟩, (gaugeF g).e) := by simp [fitR, fitL, firstF, h1]
theorem fitR_b (g : Gg) (d a : Int) (n : Nat) (l : List Sp) (h1 : (gaugeF g).e = 0) (h2 : betw d 0 (g.dn - 1) = false) : fitR g d a n l = (⟨0, 0⟩, 4) := by simp [fitR, fitL, firstF, h1, h2, need]
theorem fitR_c (g : Gg) (d a : Int) (n : Nat) (l : List Sp) (h1 : (gaugeF g).e = 0) (h2 : betw d 0 (g.dn - 1) = true) (h3 : someF a n ≠ 0) : fitR g d a n l = (⟨0, 0⟩, someF a n) := by
  unfold someF at *
  by_cases h4 : n ≤ 400
  · rw [if_pos h4] at *
    have h4' : (n : Int) ≤ 400 := by omega
    cases h5 : areTicksB a n
    · simp [fitR, fitL, firstF, h1, h2, need, h4', h5]
    · rw [h5] at h3; exact absurd rfl h3
  · rw [if_neg h4] at *
    have h4' : ¬ (n : Int) ≤ 400 := by omega
    simp [fitR, fitL, firstF, h1, h2, need, h4']
theorem someF_zero (a : Int) (n : Nat) (h : someF a n = 0) : n ≤ 400 ∧ areTicksB a n = true := by
  unfold someF at h
  split at h
  · split at h
    · exact ⟨by assumption, by assumption⟩
    · cases h
  · cases h
theorem fitR_d (g : Gg) (d a : Int) (n : Nat) (l : List Sp) (h1 : (gaugeF g).e = 0) (h2 : betw d 0 (g.dn - 1) = true) (h3 : someF a n = 0) (h4 : l.any badS = true) : fitR g d a n l = (⟨0, 0⟩, 2) := by
  obtain ⟨h5, h6⟩ := someF_zero a n h3
  have h5' : (n : Int) ≤ 400 := by omega
  simp only [fitR, fitL, firstF, h1, h2, need, h4, h5', h6]
  rfl
theorem fitR_e (g : Gg) (d a : Int) (n : Nat) (l : List Sp) (h1 : (gaugeF g).e = 0) (h2 : betw d 0 (g.dn - 1) = true) (h3 : someF a n = 0) (h4 : l.any badS = false) :
    fitR g d a n l = if (fitFold g d.toNat a l g.rs).emptyB = true then (⟨0, 0⟩, 9) else (fitFold g d.toNat a l g.rs, 0) := by
  obtain ⟨h5, h6⟩ := someF_zero a n h3
  have h5' : (n : Int) ≤ 400 := by omega
  simp only [fitR, fitL, firstF, h1, h2, need, h4, h5', h6]
  rfl
theorem badS_cases (s : Sp) : badS s = (decide (s.hi < s.lo) || !betw s.lo (-20000) 20000 || !betw s.hi (-20000) 20000) := by
  rw [Bool.eq_iff_iff]
  simp only [badS, Sp.withinB, Sp.emptyB, betw, Bool.or_eq_true, Bool.not_eq_true', Bool.and_eq_false_iff, decide_eq_true_eq, decide_eq_false_iff_not, Bool.not_eq_false']
  omega
/-- How the reference asks whether a reading counts. -/
theorem fitB_cases (g : Gg) (k : Nat) (a : Int) (n : Nat) (r : Rd) : fitB g k a n r = (decide (datFrom g.ds r.tick 0 0 = k) && !decide (n = 0) && betw r.tick a (a + n - 1)) := by
  rw [Bool.eq_iff_iff]
  simp only [fitB, betw, Bool.and_eq_true, Bool.not_eq_true', decide_eq_true_eq, decide_eq_false_iff_not, beq_iff_eq]
  omega
end Go.Proofs.YtncidhoojgncgaaGreat
