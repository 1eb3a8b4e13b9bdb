/- The small functions of package gate return what the plain models say, and leave memory as it was. -/
import Derived.Test.YtgdomaddjiggaaaGreatGtDefs
namespace Go.Proofs.YtgdomaddjiggaaaGreat
open Go.RowKit
set_option linter.unusedSimpArgs false
set_option linter.unusedVariables false

set_option maxHeartbeats 400000 in
theorem between_any (x lo hi : Int) (w : World) :
    Calls Tryz.prog 65 #[.int .i64 x, .int .i64 lo, .int .i64 hi] w fun e w' => e = .returned (.bool (betw x lo hi)) ∧ w = w' := by
  by_cases h1 : lo ≤ x
  · by_cases h2 : x ≤ hi
    all_goals
      go_enter Tryz.func65, Tryz.ntmps65
      go_wp2
      go_ret
      exact ⟨by simp [betw, h1, h2], rfl⟩
  · have h1' : decide (lo ≤ x) = false := by simpa using h1
    go_enter Tryz.func65, Tryz.ntmps65
    go_wp2
    go_ret
    exact ⟨by simp [betw, h1'], rfl⟩
theorem bet_is (x lo hi : Int) (b : Bool) (h : betw x lo hi = b) : ∀ W : World, Calls Tryz.prog 65 #[.int .i64 x, .int .i64 lo, .int .i64 hi] W fun e w' => e = .returned (.bool b) ∧ W = w' := fun W => by
  subst h; exact between_any x lo hi W

theorem need_any (b : Bool) (c : Int) (w : World) :
    Calls Tryz.prog 64 #[.bool b, .int .i64 c] w fun e w' => e = .returned (need b c).v ∧ Below w.heap.size w w' := by
  cases b
  · go_enter Tryz.func64, Tryz.ntmps64
    go_wp2
    exact bodyPost_ret (v := Ft.v ⟨0, 0, c⟩) (by simp [results, Tryz.results64, go_sem] <;> omega) rfl ⟨by simp [need], (by repeat (first | exact Below.refl _ _ | assumption | (refine Below.setCell ?_ (by first | omega | (simp; done) | (simp; omega)) _) | (refine Below.alloc ?_ (by first | omega | (simp; done) | (simp; omega)) _) | refine Below.drew ?_ | (refine below_thru ?_ (by assumption) (by first | omega | (simp; done) | (simp; omega))) | refine below_drewN ?_ _))⟩
  · go_enter Tryz.func64, Tryz.ntmps64
    go_wp2
    exact bodyPost_ret (v := Ft.v ⟨0, 0, 0⟩) (by simp [results, Tryz.results64, go_sem] <;> omega) rfl ⟨by simp [need], (by repeat (first | exact Below.refl _ _ | assumption | (refine Below.setCell ?_ (by first | omega | (simp; done) | (simp; omega)) _) | (refine Below.alloc ?_ (by first | omega | (simp; done) | (simp; omega)) _) | refine Below.drew ?_ | (refine below_thru ?_ (by assumption) (by first | omega | (simp; done) | (simp; omega))) | refine below_drewN ?_ _))⟩

theorem fault_in_any (f : Ft) (p : Int) (w : World) :
    Calls Tryz.prog 105 #[f.v, .int .i64 p] w fun e w' => e = .returned (f.in_ p).v ∧ Below w.heap.size w w' := by
  obtain ⟨a, b, c⟩ := f
  go_enter Tryz.func105, Tryz.ntmps105
  go_wp2
  exact bodyPost_ret (v := Ft.v ⟨p, b, c⟩) (by simp [results, Tryz.results105, go_sem] <;> omega) rfl ⟨by simp [Ft.in_], (by repeat (first | exact Below.refl _ _ | assumption | (refine Below.setCell ?_ (by first | omega | (simp; done) | (simp; omega)) _) | (refine Below.alloc ?_ (by first | omega | (simp; done) | (simp; omega)) _) | refine Below.drew ?_ | (refine below_thru ?_ (by assumption) (by first | omega | (simp; done) | (simp; omega))) | refine below_drewN ?_ _))⟩

theorem areLevels_any (a b : Int) (w : World) :
    Calls Tryz.prog 131 #[.int .i64 a, .int .i64 b] w fun e w' => e = .returned (.bool (levels2B a b)) ∧ w = w' := by
  have key : ∀ e1 e2 : Bool, levelB a = e1 → levelB b = e2 → Calls Tryz.prog 131 #[.int .i64 a, .int .i64 b] w fun e w' => e = .returned (.bool (e1 && e2)) ∧ w = w' := by
    intro e1 e2 h1 h2
    have H1 := Lib.hid (bet_is a (-20000) 20000 e1 h1)
    have H2 := Lib.hid (bet_is b (-20000) 20000 e2 h2)
    clear h1 h2
    cases e1
    · go_enter Tryz.func131, Tryz.ntmps131
      go_wp2_with fail
      refine (H1.out _).mono ?_
      rintro e w1 ⟨rfl, rfl⟩
      go_wp2
      go_ret
      exact ⟨rfl, rfl⟩
    · go_enter Tryz.func131, Tryz.ntmps131
      go_wp2_with fail
      refine (H1.out _).mono ?_
      rintro e w1 ⟨rfl, rfl⟩
      go_wp2_with fail
      refine (H2.out _).mono ?_
      rintro e w1 ⟨rfl, rfl⟩
      go_wp2
      go_ret
      exact ⟨rfl, rfl⟩
  exact key _ _ rfl rfl
theorem levels_is (x y : Int) (b : Bool) (h : levels2B x y = b) : ∀ W : World, Calls Tryz.prog 131 #[.int .i64 x, .int .i64 y] W fun e w' => e = .returned (.bool b) ∧ W = w' := fun W => by
  subst h; exact areLevels_any x y W

theorem div_of_t {a b : Int} (hb : 0 < b) : a / b = if a.tmod b < 0 then a.tdiv b - 1 else a.tdiv b := by
  have h1 := Int.mul_tdiv_add_tmod a b
  have h2 : a.tmod b < b := Int.tmod_lt_of_pos a hb
  have h3 : -b < a.tmod b := Int.lt_tmod_of_pos a hb
  split
  · have e : a.tmod b + b + b * (a.tdiv b - 1) = a := by rw [Int.mul_sub, Int.mul_one]; omega
    exact ((Int.ediv_emod_unique hb).2 ⟨e, by omega, by omega⟩).1
  · have e : a.tmod b + b * a.tdiv b = a := by omega
    exact ((Int.ediv_emod_unique hb).2 ⟨e, by omega, by omega⟩).1
theorem tdiv_small {a b : Int} (hb : 0 < b) (h0 : -4000000000000000000 ≤ a) (h1 : a ≤ 4000000000000000000) : -4000000000000000000 ≤ a.tdiv b ∧ a.tdiv b ≤ 4000000000000000000 := by
  have e := Int.natAbs_tdiv_le_natAbs a b
  omega

theorem floorDiv_any (a b : Int) (w : World) (hb : 0 < b) (h0 : -4000000000000000000 ≤ a) (h1 : a ≤ 4000000000000000000) :
    Calls Tryz.prog 132 #[.int .i64 a, .int .i64 b] w fun e w' => e = .returned (.int .i64 (a / b)) ∧ w = w' := by
  have hd := div_of_t (a := a) hb
  obtain ⟨t0, t1⟩ := tdiv_small hb h0 h1
  have hz : ¬ b = 0 := by omega
  have hm : ¬ b = -1 := by omega
  by_cases hr : a.tmod b < 0
  · rw [if_pos hr] at hd
    have Hd := Lib.hid hd; clear hd
    go_enter Tryz.func132, Tryz.ntmps132
    go_wp2
    go_ret
    exact ⟨by rw [Hd.out]; rfl, rfl⟩
  · rw [if_neg hr] at hd
    have Hd := Lib.hid hd; clear hd
    go_enter Tryz.func132, Tryz.ntmps132
    go_wp2
    go_ret
    exact ⟨by rw [Hd.out]; rfl, rfl⟩

theorem ceilDiv_any (a b : Int) (w : World) (hb : 0 < b) (h0 : -4000000000000000000 ≤ a) (h1 : a ≤ 4000000000000000000) :
    Calls Tryz.prog 102 #[.int .i64 a, .int .i64 b] w fun e w' => e = .returned (.int .i64 (-(-a / b))) ∧ w = w' := by
  obtain ⟨q0, q1⟩ : -4000000000000000001 ≤ -a / b ∧ -a / b ≤ 4000000000000000001 := by
    have hd := div_of_t (a := -a) hb
    have := tdiv_small (a := -a) hb (by omega) (by omega)
    rw [hd]
    split <;> omega
  have H := Lib.hid (fun W => floorDiv_any (-a) b W hb (by omega) (by omega))
  go_enter Tryz.func102, Tryz.ntmps102
  go_wp2_with fail
  refine (H.out _).mono ?_
  rintro e w1 ⟨rfl, rfl⟩
  go_wp2
  go_ret
  exact ⟨rfl, rfl⟩

theorem suits_any (f k : Int) (w : World) :
    Calls Tryz.prog 163 #[.int .i64 f, .int .i64 k] w fun e w' => e = .returned (.bool (suitsB f k)) ∧ w = w' := by
  rcases (show f = 0 ∨ (0 < f ∧ k = 2) ∨ (0 < f ∧ k ≠ 2) ∨ (f < 0 ∧ k = 3) ∨ (f < 0 ∧ k ≠ 3) by omega) with h | ⟨h, h2⟩ | ⟨h, h2⟩ | ⟨h, h2⟩ | ⟨h, h2⟩
  · subst h
    go_enter Tryz.func163, Tryz.ntmps163
    go_wp2
    go_ret
    exact ⟨by simp [suitsB], rfl⟩
  · subst h2
    have a0 : (f == 0) = false := by rw [beq_eq_false_iff_ne]; omega
    have hfin : suitsB f 2 = true := by simp [suitsB, h]
    have Hf := Lib.hid hfin; clear hfin
    go_enter Tryz.func163, Tryz.ntmps163
    go_wp2
    go_ret
    exact ⟨by rw [Hf.out]; rfl, rfl⟩
  · have a0 : (f == 0) = false := by rw [beq_eq_false_iff_ne]; omega
    have a1 : (k == 2) = false := by rw [beq_eq_false_iff_ne]; omega
    have a2 : decide (f < 0) = false := by rw [decide_eq_false_iff_not]; omega
    have hfin : suitsB f k = false := by simp [suitsB, h2]; omega
    have Hf := Lib.hid hfin; clear hfin
    go_enter Tryz.func163, Tryz.ntmps163
    go_wp2
    go_ret
    exact ⟨by rw [Hf.out]; rfl, rfl⟩
  · subst h2
    have a0 : (f == 0) = false := by rw [beq_eq_false_iff_ne]; omega
    have a2 : decide (0 < f) = false := by rw [decide_eq_false_iff_not]; omega
    have hfin : suitsB f 3 = true := by simp [suitsB, h]
    have Hf := Lib.hid hfin; clear hfin
    go_enter Tryz.func163, Tryz.ntmps163
    go_wp2
    go_ret
    exact ⟨by rw [Hf.out]; rfl, rfl⟩
  · have a0 : (f == 0) = false := by rw [beq_eq_false_iff_ne]; omega
    have a1 : (k == 3) = false := by rw [beq_eq_false_iff_ne]; omega
    have a2 : decide (0 < f) = false := by rw [decide_eq_false_iff_not]; omega
    have hfin : suitsB f k = false := by simp [suitsB, h2]; omega
    have Hf := Lib.hid hfin; clear hfin
    go_enter Tryz.func163, Tryz.ntmps163
    go_wp2
    go_ret
    exact ⟨by rw [Hf.out]; rfl, rfl⟩
end Go.Proofs.YtgdomaddjiggaaaGreat
