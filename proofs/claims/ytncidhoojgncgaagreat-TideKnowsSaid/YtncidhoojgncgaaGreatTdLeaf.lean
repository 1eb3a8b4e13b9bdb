/- The small functions of package tide return what the plain models say, and leave memory as it was. -/
import Derived.Test.YtncidhoojgncgaaGreatTdDefs
namespace Go.Proofs.YtncidhoojgncgaaGreat
open Go.RowKit

set_option maxHeartbeats 400000 in
theorem between_any (x lo hi : Int) (w : World) :
    Calls Tryz.prog 57 #[.int .i64 x, .int .i64 lo, .int .i64 hi] w fun e w' => e = .returned (.bool (betw x lo hi)) ∧ w = w' := by
  by_cases h1 : lo ≤ x
  · by_cases h2 : x ≤ hi
    all_goals
      go_enter Tryz.func57, Tryz.ntmps57
      go_wp2
      go_ret
      exact ⟨by simp [betw, h1, h2], rfl⟩
  · have h1' : decide (lo ≤ x) = false := by simpa using h1
    go_enter Tryz.func57, Tryz.ntmps57
    go_wp2
    go_ret
    exact ⟨by simp [betw, h1'], rfl⟩

theorem isTick_any (x : Int) (w : World) :
    Calls Tryz.prog 64 #[.int .i64 x] w fun e w' => e = .returned (.bool (tickB x)) ∧ w = w' := by
  go_enter Tryz.func64, Tryz.ntmps64
  go_wp2_with (go_at_call 57; refine (between_any _ _ _ _).mono ?_; rintro e w' ⟨rfl, rfl⟩)
  go_ret
  exact ⟨rfl, rfl⟩

theorem isLevel_any (x : Int) (w : World) :
    Calls Tryz.prog 107 #[.int .i64 x] w fun e w' => e = .returned (.bool (levelB x)) ∧ w = w' := by
  go_enter Tryz.func107, Tryz.ntmps107
  go_wp2_with (go_at_call 57; refine (between_any _ _ _ _).mono ?_; rintro e w' ⟨rfl, rfl⟩)
  go_ret
  exact ⟨rfl, rfl⟩

theorem spanOf_any (lo hi : Int) (w : World) :
    Calls Tryz.prog 113 #[.int .i64 lo, .int .i64 hi] w fun e w' => e = .returned (Sp.v ⟨lo, hi⟩) ∧ Below w.heap.size w w' := by
  go_enter Tryz.func113, Tryz.ntmps113
  go_wp2
  exact bodyPost_ret (v := Sp.v ⟨lo, hi⟩) (by simp [results, Tryz.results113, go_sem] <;> omega) rfl ⟨rfl, (by repeat (first | exact Below.refl _ _ | assumption | (refine Below.setCell ?_ (by first | omega | (simp; done) | (simp; omega)) _) | (refine Below.alloc ?_ (by first | omega | (simp; done) | (simp; omega)) _) | refine Below.drew ?_ | (refine below_thru ?_ (by assumption) (by first | omega | (simp; done) | (simp; omega))) | refine below_drewN ?_ _))⟩

theorem allLevels_any (w : World) :
    Calls Tryz.prog 131 #[] w fun e w' => e = .returned (Sp.v ⟨-20000, 20000⟩) ∧ Below w.heap.size w w' := by
  go_enter Tryz.func131, Tryz.ntmps131
  go_wp2_with (go_at_call 113; refine (spanOf_any _ _ _).mono ?_; rintro e w1 ⟨rfl, hb1⟩; obtain ⟨hc1, hf1⟩ := bcell hb1; have hz1 := hb1.size; (try simp at hz1))
  exact bodyPost_ret (v := Sp.v ⟨-20000, 20000⟩) (by simp [results, Tryz.results131, go_sem, hc1] <;> omega) rfl ⟨rfl, (by repeat (first | exact Below.refl _ _ | assumption | (refine Below.setCell ?_ (by first | omega | (simp; done) | (simp; omega)) _) | (refine Below.alloc ?_ (by first | omega | (simp; done) | (simp; omega)) _) | refine Below.drew ?_ | (refine below_thru ?_ (by assumption) (by first | omega | (simp; done) | (simp; omega))) | refine below_drewN ?_ _))⟩

theorem need_any (b : Bool) (c : Int) (w : World) :
    Calls Tryz.prog 63 #[.bool b, .int .i64 c] w fun e w' => e = .returned (need b c).v ∧ Below w.heap.size w w' := by
  cases b
  · go_enter Tryz.func63, Tryz.ntmps63
    go_wp2
    exact bodyPost_ret (v := Ft.v ⟨0, 0, c⟩) (by simp [results, Tryz.results63, go_sem] <;> omega) rfl ⟨by simp [need], (by repeat (first | exact Below.refl _ _ | assumption | (refine Below.setCell ?_ (by first | omega | (simp; done) | (simp; omega)) _) | (refine Below.alloc ?_ (by first | omega | (simp; done) | (simp; omega)) _) | refine Below.drew ?_ | (refine below_thru ?_ (by assumption) (by first | omega | (simp; done) | (simp; omega))) | refine below_drewN ?_ _))⟩
  · go_enter Tryz.func63, Tryz.ntmps63
    go_wp2
    exact bodyPost_ret (v := Ft.v ⟨0, 0, 0⟩) (by simp [results, Tryz.results63, go_sem] <;> omega) rfl ⟨by simp [need], (by repeat (first | exact Below.refl _ _ | assumption | (refine Below.setCell ?_ (by first | omega | (simp; done) | (simp; omega)) _) | (refine Below.alloc ?_ (by first | omega | (simp; done) | (simp; omega)) _) | refine Below.drew ?_ | (refine below_thru ?_ (by assumption) (by first | omega | (simp; done) | (simp; omega))) | refine below_drewN ?_ _))⟩

theorem fault_in_any (f : Ft) (p : Int) (w : World) :
    Calls Tryz.prog 121 #[f.v, .int .i64 p] w fun e w' => e = .returned (f.in_ p).v ∧ Below w.heap.size w w' := by
  obtain ⟨a, b, c⟩ := f
  by_cases h : c = 0
  · subst h
    go_enter Tryz.func121, Tryz.ntmps121
    go_wp2
    exact bodyPost_ret (v := Ft.v ⟨a, b, 0⟩) (by simp [results, Tryz.results121, go_sem] <;> omega) rfl ⟨by simp [Ft.in_], (by repeat (first | exact Below.refl _ _ | assumption | (refine Below.setCell ?_ (by first | omega | (simp; done) | (simp; omega)) _) | (refine Below.alloc ?_ (by first | omega | (simp; done) | (simp; omega)) _) | refine Below.drew ?_ | (refine below_thru ?_ (by assumption) (by first | omega | (simp; done) | (simp; omega))) | refine below_drewN ?_ _))⟩
  · have h0 : (c == 0) = false := by simpa using h
    have h1 : (c != 0) = true := by simpa using h
    go_enter Tryz.func121, Tryz.ntmps121
    go_wp2
    exact bodyPost_ret (v := Ft.v ⟨p, b, c⟩) (by simp [results, Tryz.results121, go_sem] <;> omega) rfl ⟨by simp [Ft.in_, h], (by repeat (first | exact Below.refl _ _ | assumption | (refine Below.setCell ?_ (by first | omega | (simp; done) | (simp; omega)) _) | (refine Below.alloc ?_ (by first | omega | (simp; done) | (simp; omega)) _) | refine Below.drew ?_ | (refine below_thru ?_ (by assumption) (by first | omega | (simp; done) | (simp; omega))) | refine below_drewN ?_ _))⟩

theorem meet_any (s o : Sp) (w : World) :
    Calls Tryz.prog 132 #[s.v, o.v] w fun e w' => e = .returned (s.meet o).v ∧ Below w.heap.size w w' := by
  obtain ⟨a, b⟩ := s
  obtain ⟨c, d⟩ := o
  go_enter Tryz.func132, Tryz.ntmps132
  go_wp2_with (go_at_call 113; refine (spanOf_any _ _ _).mono ?_; rintro e w1 ⟨rfl, hb1⟩; obtain ⟨hc1, hf1⟩ := bcell hb1; have hz1 := hb1.size; (try simp at hz1))
  all_goals exact bodyPost_ret (v := Sp.v ⟨max a c, min b d⟩) (by simp [results, Tryz.results132, go_sem, hc1] <;> omega) rfl ⟨rfl, (by repeat (first | exact Below.refl _ _ | assumption | (refine Below.setCell ?_ (by first | omega | (simp; done) | (simp; omega)) _) | (refine Below.alloc ?_ (by first | omega | (simp; done) | (simp; omega)) _) | refine Below.drew ?_ | (refine below_thru ?_ (by assumption) (by first | omega | (simp; done) | (simp; omega))) | refine below_drewN ?_ _))⟩

theorem wider_any (a b n : Int) (w : World) (h1 : -1000000000 ≤ a) (h2 : a ≤ 1000000000) (h3 : -1000000000 ≤ b) (h4 : b ≤ 1000000000) (h5 : -1000000000000 ≤ n) (h6 : n ≤ 1000000000000) :
    Calls Tryz.prog 134 #[Sp.v ⟨a, b⟩, .int .i64 n] w fun e w' => e = .returned (Sp.v ⟨a - n, b + n⟩) ∧ Below w.heap.size w w' := by
  go_enter Tryz.func134, Tryz.ntmps134
  go_wp2_with (go_at_call 113; refine (spanOf_any _ _ _).mono ?_; rintro e w1 ⟨rfl, hb1⟩; obtain ⟨hc1, hf1⟩ := bcell hb1; have hz1 := hb1.size; (try simp at hz1))
  exact bodyPost_ret (v := Sp.v ⟨a - n, b + n⟩) (by simp [results, Tryz.results134, go_sem, hc1] <;> omega) rfl ⟨rfl, (by repeat (first | exact Below.refl _ _ | assumption | (refine Below.setCell ?_ (by first | omega | (simp; done) | (simp; omega)) _) | (refine Below.alloc ?_ (by first | omega | (simp; done) | (simp; omega)) _) | refine Below.drew ?_ | (refine below_thru ?_ (by assumption) (by first | omega | (simp; done) | (simp; omega))) | refine below_drewN ?_ _))⟩

theorem less_any (a b c d : Int) (w : World) (h1 : -1000000000000 ≤ a) (h2 : a ≤ 1000000000000) (h3 : -1000000000000 ≤ b) (h4 : b ≤ 1000000000000) (h5 : -1000000000000 ≤ c) (h6 : c ≤ 1000000000000) (h7 : -1000000000000 ≤ d) (h8 : d ≤ 1000000000000) :
    Calls Tryz.prog 94 #[Sp.v ⟨a, b⟩, Sp.v ⟨c, d⟩] w fun e w' => e = .returned (Sp.v ⟨a - d, b - c⟩) ∧ Below w.heap.size w w' := by
  go_enter Tryz.func94, Tryz.ntmps94
  go_wp2_with (go_at_call 113; refine (spanOf_any _ _ _).mono ?_; rintro e w1 ⟨rfl, hb1⟩; obtain ⟨hc1, hf1⟩ := bcell hb1; have hz1 := hb1.size; (try simp at hz1))
  exact bodyPost_ret (v := Sp.v ⟨a - d, b - c⟩) (by simp [results, Tryz.results94, go_sem, hc1] <;> omega) rfl ⟨rfl, (by repeat (first | exact Below.refl _ _ | assumption | (refine Below.setCell ?_ (by first | omega | (simp; done) | (simp; omega)) _) | (refine Below.alloc ?_ (by first | omega | (simp; done) | (simp; omega)) _) | refine Below.drew ?_ | (refine below_thru ?_ (by assumption) (by first | omega | (simp; done) | (simp; omega))) | refine below_drewN ?_ _))⟩

theorem plus_any (a b c d : Int) (w : World) (h1 : -1000000000000 ≤ a) (h2 : a ≤ 1000000000000) (h3 : -1000000000000 ≤ b) (h4 : b ≤ 1000000000000) (h5 : -1000000000000 ≤ c) (h6 : c ≤ 1000000000000) (h7 : -1000000000000 ≤ d) (h8 : d ≤ 1000000000000) :
    Calls Tryz.prog 115 #[Sp.v ⟨a, b⟩, Sp.v ⟨c, d⟩] w fun e w' => e = .returned (Sp.v ⟨a + c, b + d⟩) ∧ Below w.heap.size w w' := by
  go_enter Tryz.func115, Tryz.ntmps115
  go_wp2_with (go_at_call 113; refine (spanOf_any _ _ _).mono ?_; rintro e w1 ⟨rfl, hb1⟩; obtain ⟨hc1, hf1⟩ := bcell hb1; have hz1 := hb1.size; (try simp at hz1))
  exact bodyPost_ret (v := Sp.v ⟨a + c, b + d⟩) (by simp [results, Tryz.results115, go_sem, hc1] <;> omega) rfl ⟨rfl, (by repeat (first | exact Below.refl _ _ | assumption | (refine Below.setCell ?_ (by first | omega | (simp; done) | (simp; omega)) _) | (refine Below.alloc ?_ (by first | omega | (simp; done) | (simp; omega)) _) | refine Below.drew ?_ | (refine below_thru ?_ (by assumption) (by first | omega | (simp; done) | (simp; omega))) | refine below_drewN ?_ _))⟩

theorem distance_any (a b : Int) (w : World) (h1 : -1000000000000 ≤ a) (h2 : a ≤ 1000000000000) (h3 : -1000000000000 ≤ b) (h4 : b ≤ 1000000000000) :
    Calls Tryz.prog 135 #[.int .i64 a, .int .i64 b] w fun e w' => e = .returned (.int .i64 (max (a - b) (b - a))) ∧ w = w' := by
  go_enter Tryz.func135, Tryz.ntmps135
  go_wp2
  all_goals go_ret
  all_goals exact ⟨by simp; omega, rfl⟩

theorem empty_any (s : Sp) (w : World) :
    Calls Tryz.prog 104 #[s.v] w fun e w' => e = .returned (.bool s.emptyB) ∧ Below w.heap.size w w' := by
  obtain ⟨a, b⟩ := s
  go_enter Tryz.func104, Tryz.ntmps104
  go_wp2
  go_ret
  exact ⟨rfl, (by repeat (first | exact Below.refl _ _ | assumption | (refine Below.setCell ?_ (by first | omega | (simp; done) | (simp; omega)) _) | (refine Below.alloc ?_ (by first | omega | (simp; done) | (simp; omega)) _) | refine Below.drew ?_ | (refine below_thru ?_ (by assumption) (by first | omega | (simp; done) | (simp; omega))) | refine below_drewN ?_ _))⟩

theorem within_any (s : Sp) (lo hi : Int) (w : World) :
    Calls Tryz.prog 96 #[s.v, .int .i64 lo, .int .i64 hi] w fun e w' => e = .returned (.bool (s.withinB lo hi)) ∧ Below w.heap.size w w' := by
  obtain ⟨a, b⟩ := s
  have key : ∀ e1 e2 e3 : Bool, Sp.emptyB ⟨a, b⟩ = e1 → decide (lo ≤ a) = e2 → decide (b ≤ hi) = e3 → Calls Tryz.prog 96 #[Sp.v ⟨a, b⟩, .int .i64 lo, .int .i64 hi] w fun e w' => e = .returned (.bool (!e1 && (e2 && e3))) ∧ Below w.heap.size w w' := by
    intro e1 e2 e3 h1 h2 h3
    have h1 := Lib.hid h1
    have hE : ∀ W : World, Calls Tryz.prog 104 #[Sp.v ⟨a, b⟩] W fun e w' => e = .returned (.bool e1) ∧ Below W.heap.size W w' := fun W => by have := empty_any ⟨a, b⟩ W; rwa [h1.out] at this
    have hE := Lib.hid hE
    clear h1
    cases e1 <;> cases e2 <;> cases e3
    all_goals
      go_enter Tryz.func96, Tryz.ntmps96
      go_wp2_with (go_at_call 104; refine (hE.out _).mono ?_; rintro e w1 ⟨rfl, hb1⟩; obtain ⟨hc1, hf1⟩ := bcell hb1; have hz1 := hb1.size; (try simp at hz1))
      go_ret
      exact ⟨rfl, (by repeat (first | exact Below.refl _ _ | assumption | (refine Below.setCell ?_ (by first | omega | (simp; done) | (simp; omega)) _) | (refine Below.alloc ?_ (by first | omega | (simp; done) | (simp; omega)) _) | refine Below.drew ?_ | (refine below_thru ?_ (by assumption) (by first | omega | (simp; done) | (simp; omega))) | refine below_drewN ?_ _))⟩
  exact key _ _ _ rfl rfl rfl
end Go.Proofs.YtncidhoojgncgaaGreat
