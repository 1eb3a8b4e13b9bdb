/- The lower edge of a machine, how far its oil reaches, what drives it. -/
import Derived.Test.YtgdomaddjiggaaaGreatGtMath
namespace Go.Proofs.YtgdomaddjiggaaaGreat
open Go.RowKit
set_option linter.unusedSimpArgs false
set_option linter.unusedVariables false

set_option maxRecDepth 100000 in
set_option maxHeartbeats 1000000 in
theorem edge_any (g : Ga) (s : Gs) (w : World) (hg : g.Ok) (hs : s.Ok g) :
    Calls Tryz.prog 166 #[mv g s] w fun e w' => e = .returned (.int .i64 (edgeF g s.pos)) ∧ Below w.heap.size w w' := by
  have t0 := hg.t0
  have t1 := hg.t1
  have a0 := hg.open0
  have a1 := hg.open1
  have b0 := hg.shut0
  have b1 := hg.shut1
  have p0 := hs.p0
  have p1 := hs.p1
  obtain ⟨x0, x1, x2, x3⟩ := edge_in hg p0 p1
  have m1 := mulb (a := g.travel - s.pos) (A := 5000) (b := g.opn) (B := 20000) (by omega) (by omega) (by omega) (by omega) (by omega)
  have m2 := mulb (a := s.pos) (A := 5000) (b := g.shut) (B := 20000) (by omega) (by omega) (by omega) (by omega) (by omega)
  rw [Int.mul_comm (g.travel - s.pos)] at m1
  rw [Int.mul_comm s.pos] at m2
  obtain ⟨m3, m4⟩ := m1
  obtain ⟨m5, m6⟩ := m2
  have H := Lib.hid (fun W => floorDiv_any (g.opn * (g.travel - s.pos) + g.shut * s.pos) g.travel W (by omega) (by omega) (by omega))
  clear hg hs
  go_enter Tryz.func166, Tryz.ntmps166
  go_wp2_with fail
  refine (H.out _).mono ?_
  rintro e w' ⟨rfl, rfl⟩
  go_wp2
  go_ret
  exact ⟨rfl, (by repeat (first | exact Below.refl _ _ | assumption | (refine Below.setCell ?_ (by first | omega | (simp; done) | (simp; omega)) _) | (refine Below.alloc ?_ (by first | omega | (simp; done) | (simp; omega)) _) | refine Below.drew ?_ | (refine below_thru ?_ (by assumption) (by first | omega | (simp; done) | (simp; omega))) | refine below_drewN ?_ _))⟩

set_option maxRecDepth 100000 in
set_option maxHeartbeats 1000000 in
theorem reach_any (g : Ga) (s : Gs) (w : World) (hg : g.Ok) (hs : s.Ok g) :
    Calls Tryz.prog 188 #[mv g s] w fun e w' => e = .returned (.int .i64 (reachF g s)) ∧ Below w.heap.size w w' := by
  have u0 := hg.use0
  have u1 := hg.use1
  have c0 := hs.c0
  have c1 := hs.c1
  have c2 := hg.cap1
  by_cases hu : g.use = 0
  · have hu' : (g.use == 0) = true := by rw [beq_iff_eq]; exact hu
    have hf : reachF g s = g.travel := by unfold reachF; rw [if_pos hu]
    have Hf := Lib.hid hf
    clear hf hu hg hs
    go_enter Tryz.func188, Tryz.ntmps188
    go_wp2
    go_ret
    exact ⟨by rw [Hf.out]; rfl, (by repeat (first | exact Below.refl _ _ | assumption | (refine Below.setCell ?_ (by first | omega | (simp; done) | (simp; omega)) _) | (refine Below.alloc ?_ (by first | omega | (simp; done) | (simp; omega)) _) | refine Below.drew ?_ | (refine below_thru ?_ (by assumption) (by first | omega | (simp; done) | (simp; omega))) | refine below_drewN ?_ _))⟩
  · have hu' : (g.use == 0) = false := by rw [beq_eq_false_iff_ne]; exact hu
    have hf : reachF g s = s.charge * 100 / g.use := by unfold reachF; rw [if_neg hu]
    have Hf := Lib.hid hf
    have hu2 : 0 < g.use := by omega
    clear hf hg hs
    go_enter Tryz.func188, Tryz.ntmps188
    go_wp2
    go_ret
    exact ⟨by rw [Hf.out]; rfl, (by repeat (first | exact Below.refl _ _ | assumption | (refine Below.setCell ?_ (by first | omega | (simp; done) | (simp; omega)) _) | (refine Below.alloc ?_ (by first | omega | (simp; done) | (simp; omega)) _) | refine Below.drew ?_ | (refine below_thru ?_ (by assumption) (by first | omega | (simp; done) | (simp; omega))) | refine below_drewN ?_ _))⟩
end Go.Proofs.YtgdomaddjiggaaaGreat
