/- How far a machine goes in a direction. -/
import Derived.Test.YtgdomaddjiggaaaGreatGtForces
namespace Go.Proofs.YtgdomaddjiggaaaGreat
open Go.RowKit
set_option linter.unusedSimpArgs false
set_option linter.unusedVariables false

theorem reach_in {g : Ga} {s : Gs} (hg : g.Ok) (hs : s.Ok g) : 0 ≤ reachF g s ∧ reachF g s ≤ 10000000 := by
  have a := hs.c0
  have b := hs.c1
  have c := hg.cap1
  have d := hg.use0
  have e := hg.t0
  have f := hg.t1
  unfold reachF
  split
  · omega
  · rename_i hu
    have hu' : 0 < g.use := by omega
    refine ⟨Int.ediv_nonneg (by omega) (by omega), ?_⟩
    have : s.charge * 100 / g.use ≤ s.charge * 100 := Int.ediv_le_self _ (by omega)
    omega
theorem drive_in {g : Ga} {s : Gs} (hg : g.Ok) (hs : s.Ok g) {left : Int} (h0 : 0 ≤ left) :
    0 ≤ driveF g s left ∧ driveF g s left ≤ left ∧ driveF g s left ≤ 100 ∧ driveF g s left ≤ g.speed ∧ 0 ≤ driveF g s left * g.use ∧ driveF g s left * g.use ≤ 10000000 ∧ 0 ≤ -(-(driveF g s left * g.use) / 100) ∧ -(-(driveF g s left * g.use) / 100) ≤ s.charge := by
  have r := reach_in hg hs
  have a := hg.speed0
  have b := hg.speed1
  have c := hg.use0
  have d := hg.use1
  have c0 := hs.c0
  have e0 : 0 ≤ driveF g s left := by unfold driveF; omega
  have e1 : driveF g s left ≤ left := by unfold driveF; omega
  have e2 : driveF g s left ≤ g.speed := by unfold driveF; omega
  have e3 : driveF g s left ≤ reachF g s := by unfold driveF; omega
  obtain ⟨x, y⟩ := mul0 (a := driveF g s left) (A := 100) e0 (by omega) c d
  have z : driveF g s left * g.use ≤ s.charge * 100 := by
    by_cases hu : g.use = 0
    · rw [hu, Int.mul_zero]; omega
    · have hr : reachF g s = s.charge * 100 / g.use := by unfold reachF; rw [if_neg hu]
      rw [hr, Int.le_ediv_iff_mul_le (by omega)] at e3
      exact e3
  refine ⟨e0, e1, by omega, e2, x, by omega, by omega, by omega⟩
theorem adv_in {g : Ga} {s : Gs} (hg : g.Ok) (hs : s.Ok g) (f r : Int) {left : Int} (h0 : 0 ≤ left) (p : Bool) :
    0 ≤ (advF g s f r left p).1 ∧ (advF g s f r left p).1 ≤ left ∧ (advF g s f r left p).1 ≤ max g.speed g.gravity ∧ 0 ≤ (advF g s f r left p).2 ∧ (advF g s f r left p).2 ≤ s.charge := by
  have a := hg.gravity0
  have b := hs.c0
  have c := hg.speed0
  have d := drive_in hg hs h0
  unfold advF
  split
  · simp only; omega
  · split
    · simp only; omega
    · simp only; omega

set_option maxRecDepth 100000 in
set_option maxHeartbeats 4000000 in
theorem advance_any (g : Ga) (s : Gs) (f r left : Int) (p : Bool) (w : World) (hg : g.Ok) (hs : s.Ok g) (f0 : -900000 ≤ f) (f1 : f ≤ 900000) (l0 : 0 ≤ left) (l1 : left ≤ 5000) :
    Calls Tryz.prog 186 #[mv g s, .int .i64 f, .int .i64 r, .int .i64 left, .bool p] w fun e w' => e = .returned (.tuple #[.int .i64 (advF g s f r left p).1, .int .i64 (advF g s f r left p).2]) ∧ Below w.heap.size w w' := by
  obtain ⟨c0, c1, c2, c3, c4, c5, c6, c7⟩ := drive_in hg hs l0
  have d0 := hg.drive0
  have d1 := hg.drive1
  have g0 := hg.gravity0
  have g1 := hg.gravity1
  have HR := Lib.hid (fun W => reach_any g s W hg hs)
  have hdr : driveF g s left = min (min g.speed left) (reachF g s) := rfl
  have hadv : advF g s f r left p = if r < f then (min g.gravity left, 0) else if p = true ∧ r < f + g.drive then (driveF g s left, -(-(driveF g s left * g.use) / 100)) else (0, 0) := rfl
  generalize reachF g s = rc at *
  generalize driveF g s left = dr at *
  obtain ⟨m, hm⟩ : ∃ m, min g.gravity left = m := ⟨_, rfl⟩
  obtain ⟨k, hk⟩ : ∃ k, min g.speed left = k := ⟨_, rfl⟩
  rw [hm] at hadv
  rw [hk] at hdr
  have n1 : (if left < g.gravity then left else g.gravity) = m := by rw [← hm]; split <;> omega
  have n2 : (if left < g.speed then left else g.speed) = k := by rw [← hk]; split <;> omega
  have n3 : (if rc < k then rc else k) = dr := by rw [hdr]; split <;> omega
  have HC := Lib.hid (fun W => ceilDiv_any (dr * g.use) 100 W (by omega) (by omega) (by omega))
  generalize advF g s f r left p = adv at *
  have w1 : IntKind.i64.wrap (dr * g.use) = dr * g.use := IntWalk.i64_in _ (by omega)
  clear hm hk hdr hg hs c6 c7
  by_cases h1 : r < f
  · rw [if_pos h1] at hadv
    rw [hadv]
    clear hadv
    cases p
    all_goals
      go_enter Tryz.func186, Tryz.ntmps186
      go_wp2
      go_ret2
      exact ⟨rfl, (by repeat (first | exact Below.refl _ _ | assumption | (refine Below.setCell ?_ (by first | omega | (simp; done) | (simp; omega)) _) | (refine Below.alloc ?_ (by first | omega | (simp; done) | (simp; omega)) _) | refine Below.drew ?_ | (refine below_thru ?_ (by assumption) (by first | omega | (simp; done) | (simp; omega))) | refine below_drewN ?_ _))⟩
  · rw [if_neg h1] at hadv
    cases p
    · rw [if_neg (by simp)] at hadv
      rw [hadv]
      clear hadv
      go_enter Tryz.func186, Tryz.ntmps186
      go_wp2
      go_ret2
      exact ⟨rfl, (by repeat (first | exact Below.refl _ _ | assumption | (refine Below.setCell ?_ (by first | omega | (simp; done) | (simp; omega)) _) | (refine Below.alloc ?_ (by first | omega | (simp; done) | (simp; omega)) _) | refine Below.drew ?_ | (refine below_thru ?_ (by assumption) (by first | omega | (simp; done) | (simp; omega))) | refine below_drewN ?_ _))⟩
    · by_cases h2 : r < f + g.drive
      · rw [if_pos ⟨rfl, h2⟩] at hadv
        rw [hadv]
        clear hadv
        have h2' : decide (r < f + g.drive) = true := by simpa using h2
        go_enter Tryz.func186, Tryz.ntmps186
        go_wp2_with fail
        refine wp_region_split (S := fun w' => Blk w' w.heap.size 107 (mrow g s)) 7 (by kernel_rfl) (by kernel_rfl) (by exact Blk.drew (Blk.new w _ _)) (fun hHeld => ?_)
        refine wpAnyH_take (i := 4) (v := mv g s) rfl (by kernel_rfl) (by kernel_rfl) (by kernel_rfl) (fun _ _ _ h => h) (Or.inl ⟨by rfl, fun w hSw => ld_m rfl rfl hSw⟩) hHeld ?_
        (try simp only [Act.put, List.setIfInBounds_toArray, List.set_cons_zero, List.set_cons_succ])
        refine wpAnyH_take (i := 0) (v := ?_) rfl (by kernel_rfl) (by kernel_rfl) (by kernel_rfl) (fun _ _ _ h => h) (Or.inl ⟨by rfl, ?_⟩) hHeld ?_
        rotate_left
        · intro w hSw; (try dsimp only at hSw); obtain ⟨⟨k0, k1, k2, k3, k4, k5, k6, k7, k8, k9, k10, k11, k12, k13, k14, k15, k16, k17, k18, k19, k20⟩, k21, k22, k23⟩ := mcells_of hSw; go_simp; (try with_reducible rfl)
        (try simp only [Act.put, List.setIfInBounds_toArray, List.set_cons_zero, List.set_cons_succ])
        refine wpAnyH_take (i := 1) (v := ?_) rfl (by kernel_rfl) (by kernel_rfl) (by kernel_rfl) (fun _ _ _ h => h) (Or.inl ⟨by rfl, ?_⟩) hHeld ?_
        rotate_left
        · intro w hSw; (try dsimp only at hSw); obtain ⟨⟨k0, k1, k2, k3, k4, k5, k6, k7, k8, k9, k10, k11, k12, k13, k14, k15, k16, k17, k18, k19, k20⟩, k21, k22, k23⟩ := mcells_of hSw; go_simp; (try with_reducible rfl)
        (try simp only [Act.put, List.setIfInBounds_toArray, List.set_cons_zero, List.set_cons_succ])
        refine wpAnyH_take (i := 2) (v := ?_) rfl (by kernel_rfl) (by kernel_rfl) (by kernel_rfl) (fun _ _ _ h => h) (Or.inl ⟨by rfl, ?_⟩) hHeld ?_
        rotate_left
        · intro w hSw; (try dsimp only at hSw); obtain ⟨⟨k0, k1, k2, k3, k4, k5, k6, k7, k8, k9, k10, k11, k12, k13, k14, k15, k16, k17, k18, k19, k20⟩, k21, k22, k23⟩ := mcells_of hSw; go_simp; (try with_reducible rfl)
        (try simp only [Act.put, List.setIfInBounds_toArray, List.set_cons_zero, List.set_cons_succ])
        refine wpAnyH_take (i := 3) (v := ?_) rfl (by kernel_rfl) (by kernel_rfl) (by kernel_rfl) (fun _ _ _ h => h) (Or.inl ⟨by rfl, ?_⟩) hHeld ?_
        rotate_left
        · intro w hSw; (try dsimp only at hSw); skip; go_simp; (try with_reducible rfl)
        (try simp only [Act.put, List.setIfInBounds_toArray, List.set_cons_zero, List.set_cons_succ])
        refine wpAnyH_ready (rs := [5]) (by kernel_rfl) (by simp) ?_
        refine AllReadyH.cons rfl (fun K hK => ?_) AllReadyH.nil
        go_simp
        refine (HR.out _).mono ?_
        rintro e w2 ⟨rfl, hb2⟩; have hz2 := hb2.size; (try simp at hz2)
        (try dsimp only)
        refine hK.out _ _ (by exact hHeld.thru hb2 hHeld.lt) (fun hHeld => ?_)
        clear hK K
        (try simp only [Act.put, List.setIfInBounds_toArray, List.set_cons_zero, List.set_cons_succ])
        refine wpAnyH_take (i := 6) (v := ?_) rfl (by kernel_rfl) (by kernel_rfl) (by kernel_rfl) (fun _ _ _ h => h) (Or.inl ⟨by rfl, ?_⟩) hHeld ?_
        rotate_left
        · intro w hSw; (try dsimp only at hSw); skip; go_simp; (try with_reducible rfl)
        (try simp only [Act.put, List.setIfInBounds_toArray, List.set_cons_zero, List.set_cons_succ])
        refine wpAnyH_done (by kernel_rfl) ?_ _
        simp only [tailPost, List.drop_succ_cons, List.drop_zero]
        have kc := (mcells_of hHeld).c15
        have hl2 := hHeld.lt
        go_wp2_with fail
        refine (HC.out _).mono ?_
        rintro e w3 ⟨rfl, rfl⟩
        go_wp2
        go_ret2
        exact ⟨rfl, (by repeat (first | exact Below.refl _ _ | assumption | (refine Below.setCell ?_ (by first | omega | (simp; done) | (simp; omega)) _) | (refine Below.alloc ?_ (by first | omega | (simp; done) | (simp; omega)) _) | refine Below.drew ?_ | (refine below_thru ?_ (by assumption) (by first | omega | (simp; done) | (simp; omega))) | refine below_drewN ?_ _))⟩
      · rw [if_neg (by simp [h2])] at hadv
        rw [hadv]
        clear hadv
        have h2' : decide (r < f + g.drive) = false := by simpa using h2
        go_enter Tryz.func186, Tryz.ntmps186
        go_wp2
        go_ret2
        exact ⟨rfl, (by repeat (first | exact Below.refl _ _ | assumption | (refine Below.setCell ?_ (by first | omega | (simp; done) | (simp; omega)) _) | (refine Below.alloc ?_ (by first | omega | (simp; done) | (simp; omega)) _) | refine Below.drew ?_ | (refine below_thru ?_ (by assumption) (by first | omega | (simp; done) | (simp; omega))) | refine below_drewN ?_ _))⟩
end Go.Proofs.YtgdomaddjiggaaaGreat
