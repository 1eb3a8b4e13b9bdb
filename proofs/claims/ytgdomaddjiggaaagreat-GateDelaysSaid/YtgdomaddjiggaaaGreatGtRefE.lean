/- The reference's forces. The reference's forces, between the ends; Force and Falls. -/
import Derived.Test.YtgdomaddjiggaaaGreatGtRefG
import Derived.Test.YtgdomaddjiggaaaGreatGtRow2
namespace Go.Proofs.YtgdomaddjiggaaaGreat
open Go.RowKit
set_option linter.unusedSimpArgs false
set_option linter.unusedVariables false

set_option maxRecDepth 100000 in
theorem rfloor_any (a b : Int) (w : World) (hb : 0 < b) (h0 : -4000000000000000000 ≤ a) (h1 : a ≤ 4000000000000000000) (h2 : b ≤ 4000000000000000000) :
    Calls Tryz.prog 135 #[.int .i64 a, .int .i64 b] w fun e w' => e = .returned (.int .i64 (a / b)) ∧ w = w' := by
  have hd := div_of_t (a := a) hb
  obtain ⟨t0, t1⟩ := tdiv_small hb h0 h1
  have hz : ¬ b = 0 := by omega
  have hm : ¬ b = -1 := by omega
  have he : a.tdiv b * b = a - a.tmod b := by have := Int.mul_tdiv_add_tmod a b; rw [Int.mul_comm]; omega
  have r0 : a.tmod b < b := Int.tmod_lt_of_pos a hb
  have r1 : -b < a.tmod b := Int.lt_tmod_of_pos a hb
  have hw : IntKind.i64.wrap (a.tdiv b * b) = a.tdiv b * b := IntWalk.i64_in _ (by omega)
  by_cases hr : a.tmod b < 0
  · rw [if_pos hr] at hd
    have hc : decide (a < a.tdiv b * b) = true := by rw [decide_eq_true_eq]; omega
    have Hd := Lib.hid hd
    clear hd he
    go_enter Tryz.func135, Tryz.ntmps135
    go_wp2
    go_ret
    exact ⟨by rw [Hd.out]; rfl, rfl⟩
  · rw [if_neg hr] at hd
    have hc : decide (a < a.tdiv b * b) = false := by rw [decide_eq_false_iff_not]; omega
    have Hd := Lib.hid hd
    clear hd he
    go_enter Tryz.func135, Tryz.ntmps135
    go_wp2
    go_ret
    exact ⟨by rw [Hd.out]; rfl, rfl⟩
set_option maxRecDepth 100000 in
theorem rclamp_any (n m : Int) (w : World) : Calls Tryz.prog 136 #[.int .i64 n, .int .i64 m] w fun e w' => e = .returned (.int .i64 (min (max n 0) m)) ∧ w = w' := by
  go_enter Tryz.func136, Tryz.ntmps136
  go_wp2
  all_goals
    go_ret
    exact ⟨by refine ret_int ?_; omega, rfl⟩

set_option maxRecDepth 100000 in
set_option maxHeartbeats 8000000 in
theorem rforces_a (g : Ga) (p a b : Int) (w : World) (ha : g.At w w.heap.size) (hg : g.Ok) (p0 : 0 ≤ p) (p1 : p ≤ g.travel) (hp : p = g.travel) (a0 : -20000 ≤ a) (a1 : a ≤ 20000) (b0 : -20000 ≤ b) (b1 : b ≤ 20000) :
    Calls Tryz.prog 68 #[g.v, .int .i64 p, .int .i64 a, .int .i64 b] w fun e w' => e = .returned (.tuple #[.int .i64 (netF g p a b), .int .i64 (rubF g p a b)]) ∧ Below w.heap.size w w' := by
  have t0 := hg.t0
  have t1 := hg.t1
  have n0 := hg.n0
  have n1 := hg.n1
  have hl := ha.ol
  obtain ⟨o0, o1⟩ := own_in hg hl p0 p1
  obtain ⟨l0, l1, l2, l3⟩ := lift_in hg p a b
  obtain ⟨q0, q1, q2, q3⟩ := push_in hg a0 a1 b0 b1
  obtain ⟨s0, s1, s2, s3⟩ := slide_in hg p a0 a1 b0 b1
  obtain ⟨x0, x1, x2, x3⟩ := edge_in hg p0 p1
  have e0 := hg.seal0
  have e1 := hg.seal1
  have f0 := hg.float0
  have f1 := hg.float1
  have g0 := hg.slide0
  have g1 := hg.slide1
  obtain ⟨u0, u1⟩ := under_in hg p (min a b)
  obtain ⟨v0, v1⟩ := under_in hg p (max a b)
  obtain ⟨lo, hlo⟩ : ∃ lo, min a b = lo := ⟨_, rfl⟩
  obtain ⟨hi, hhi⟩ : ∃ hi, max a b = hi := ⟨_, rfl⟩
  obtain ⟨hd, hhd⟩ : ∃ hd, max (a - b) (-(a - b)) = hd := ⟨_, rfl⟩
  have y1 : (if b < a then b else a) = lo := by rw [← hlo]; split <;> omega
  have y2 : (if a < b then b else a) = hi := by rw [← hhi]; split <;> omega
  have y3 : (if a - b < b - a then b - a else a - b) = hd := by rw [← hhd]; split <;> omega
  have hd0 : 0 ≤ hd := by omega
  have hd1 : hd ≤ 40000 := by omega
  rw [hlo] at l0 l1 u0 u1
  rw [hhi] at s2 s3 v0 v1
  rw [hhd] at s0 s1 s2 s3
  have hnet : netF g p a b = ownF g p + (if g.kind = 3 then g.float * underF g p lo / 1000 else -(g.float * underF g p lo / 1000)) + g.push * (a - b) / 1000 := by unfold netF liftF; rw [hlo]
  have hlift : liftF g p a b = g.float * underF g p lo / 1000 := by unfold liftF; rw [hlo]
  have hrub : rubF g p a b = g.sealN + -(-(g.slide * hd * underF g p hi) / 1000000) := by unfold rubF; rw [hhi, hhd]
  have hul : underF g p lo = min (max (lo - edgeF g p) 0) g.height := rfl
  have huh : underF g p hi = min (max (hi - edgeF g p) 0) g.height := rfl
  rw [hlift] at l2 l3
  generalize netF g p a b = net at *
  generalize rubF g p a b = rub at *
  have lo0 : -20000 ≤ lo := by omega
  have lo1 : lo ≤ 20000 := by omega
  have hi0 : -20000 ≤ hi := by omega
  have hi1 : hi ≤ 20000 := by omega
  -- the edge
  have m1 := mulb (a := g.travel - p) (A := 5000) (b := g.opn) (B := 20000) (by omega) (by omega) hg.open0 hg.open1 (by omega)
  have m2 := mulb (a := p) (A := 5000) (b := g.shut) (B := 20000) (by omega) (by omega) hg.shut0 hg.shut1 (by omega)
  rw [Int.mul_comm (g.travel - p)] at m1
  rw [Int.mul_comm p] at m2
  obtain ⟨m3, m4⟩ := m1
  obtain ⟨m5, m6⟩ := m2
  have HE := Lib.hid (fun W => rfloor_any (g.opn * (g.travel - p) + g.shut * p) g.travel W (by omega) (by omega) (by omega) (by omega))
  have HE : Hid (∀ W : World, Calls Tryz.prog 135 #[.int .i64 (g.opn * (g.travel - p) + g.shut * p), .int .i64 g.travel] W fun e w' => e = .returned (.int .i64 (edgeF g p)) ∧ W = w') := HE.out
  have hed0 := x2
  have hed1 := x3
  generalize edgeF g p = ed at *
  have HUl := Lib.hid (fun W => rclamp_any (lo - ed) g.height W)
  have HUh := Lib.hid (fun W => rclamp_any (hi - ed) g.height W)
  rw [← hul] at HUl
  rw [← huh] at HUh
  generalize underF g p lo = ul at *
  generalize underF g p hi = uh at *
  have hown : ownF g p = ownF g p := rfl
  have Hown := Lib.hid (show ownF g p = if p = g.travel then g.os.getD (g.on - 1) 0 else (g.os.getD (p * (g.on - 1) / g.travel).toNat 0 * (g.travel - p * (g.on - 1) % g.travel) + g.os.getD ((p * (g.on - 1) / g.travel).toNat + 1) 0 * (p * (g.on - 1) % g.travel)) / g.travel from rfl)
  generalize ownF g p = ow at *
  have hs' : -g.slide * hd * uh = -(g.slide * hd * uh) := by rw [Int.neg_mul, Int.neg_mul]
  have hs2' : -g.slide * hd = -(g.slide * hd) := by rw [Int.neg_mul]
  have HD1 := Lib.hid (fun W => rfloor_any (g.float * ul) 1000 W (by omega) (by omega) (by omega) (by omega))
  have HD2 := Lib.hid (fun W => rfloor_any (g.push * (a - b)) 1000 W (by omega) (by omega) (by omega) (by omega))
  have HD3 := Lib.hid (fun W => rfloor_any (-g.slide * hd * uh) 1000000 W (by omega) (by rw [hs']; omega) (by rw [hs']; omega) (by omega))
  have w0 : IntKind.i64.wrap (a - b) = a - b := IntWalk.i64_in _ (by omega)
  have w1 : IntKind.i64.wrap (g.float * ul) = g.float * ul := IntWalk.i64_in _ (by omega)
  have w2 : IntKind.i64.wrap (g.push * (a - b)) = g.push * (a - b) := IntWalk.i64_in _ (by omega)
  have w3 : IntKind.i64.wrap (-g.slide * hd) = -g.slide * hd := IntWalk.i64_in _ (by rw [hs2']; omega)
  have w4 : IntKind.i64.wrap (-g.slide * hd * uh) = -g.slide * hd * uh := IntWalk.i64_in _ (by rw [hs']; omega)
  have w5 : IntKind.i64.wrap (lo - ed) = lo - ed := IntWalk.i64_in _ (by omega)
  have w56 : IntKind.i64.wrap (b - a) = b - a := IntWalk.i64_in _ (by omega)
  have w57 : IntKind.i64.wrap (-g.slide) = -g.slide := IntWalk.i64_in _ (by omega)
  have w55 : IntKind.i64.wrap (hi - ed) = hi - ed := IntWalk.i64_in _ (by omega)
  obtain ⟨lf, hlf⟩ : ∃ lf, g.float * ul / 1000 = lf := ⟨_, rfl⟩
  obtain ⟨pf, hpf⟩ : ∃ pf, g.push * (a - b) / 1000 = pf := ⟨_, rfl⟩
  obtain ⟨rf, hrf⟩ : ∃ rf, -g.slide * hd * uh / 1000000 = rf := ⟨_, rfl⟩
  have hrf2 : -(g.slide * hd * uh) / 1000000 = rf := by rw [← hs']; exact hrf
  have r0 : -12000000 ≤ rf := by omega
  have w58 : IntKind.i64.wrap (-lf) = -lf := IntWalk.i64_in _ (by omega)
  have r1 : rf ≤ 0 := by omega
  rw [hlf] at hnet l2 l3 HD1
  rw [hpf] at hnet q2 q3 HD2
  rw [hrf] at HD3
  rw [hrf2] at hrub
  have hrub' : rub = g.sealN - rf := by omega
  have w6 : IntKind.i64.wrap (g.sealN - rf) = g.sealN - rf := IntWalk.i64_in _ (by omega)
  rw [hrub']
  clear hlo hhi hhd hlift hlf hpf hrf hrf2 hs' hs2' hrub hrub' s2 s3 hul huh hown
  obtain ⟨lv, hlv, hnet'⟩ : ∃ lv, (((g.kind != 3) = false ∧ lv = lf) ∨ ((g.kind != 3) = true ∧ lv = -lf)) ∧ net = ow + lv + pf := by
    by_cases hk : g.kind = 3
    · rw [if_pos hk] at hnet
      exact ⟨lf, .inl ⟨by rw [hk]; rfl, rfl⟩, hnet⟩
    · rw [if_neg hk] at hnet
      exact ⟨-lf, .inr ⟨by rw [bne_iff_ne]; exact hk, rfl⟩, hnet⟩
  have lv0 : -300000 ≤ lv := by omega
  have lv1 : lv ≤ 300000 := by omega
  have w7 : IntKind.i64.wrap (ow + lv) = ow + lv := IntWalk.i64_in _ (by omega)
  have w8 : IntKind.i64.wrap (ow + lv + pf) = ow + lv + pf := IntWalk.i64_in _ (by omega)
  rw [hnet']
  clear hnet hnet'
  -- the place
  obtain ⟨c0, c1⟩ := mul0 (a := p) (A := 5000) (b := (g.on : Int) - 1) (B := 15) p0 (by omega) (by omega) (by omega)
  have c2 : 0 ≤ p * ((g.on : Int) - 1) / g.travel := Int.ediv_nonneg c0 (by omega)
  have e1' := Int.tdiv_eq_ediv_of_nonneg (b := g.travel) c0
  have e2' := Int.tmod_eq_emod_of_nonneg (b := g.travel) c0
  obtain ⟨k, hk⟩ : ∃ k : Nat, p * ((g.on : Int) - 1) / g.travel = k := ⟨(p * ((g.on : Int) - 1) / g.travel).toNat, by omega⟩
  obtain ⟨r, hr⟩ : ∃ r, p * ((g.on : Int) - 1) % g.travel = r := ⟨_, rfl⟩
  have hplace := fun h => place hg p0 h
  rw [hk] at e1' c2 hplace
  rw [hr] at e2' hplace
  rw [hk, hr, Int.toNat_natCast] at Hown
  obtain ⟨ob, off, hA, hb, d0⟩ := own_cell ha (k := g.on - 1) (by omega)
  have z0 : (0 : Int) ≤ (g.on : Int) - 1 := by omega
  have z1 : (g.on : Int) - 1 < (g.on : Int) := by omega
  have z2 : ((g.on : Int) - 1).toNat = g.on - 1 := by omega
  have z5 : ¬ g.travel = 0 := by omega
  have HA := Lib.hid hA
  clear hA hg hl
  · skip
    have Ho := Hown.out
    rw [if_pos hp] at Ho
    subst Ho
    clear hplace Hown
    generalize g.os.getD (g.on - 1) 0 = ow at *
    have hp' : decide (p < g.travel) = false := by rw [decide_eq_false_iff_not]; omega
    clear hp
    unfold Ga.v; rw [HA.out]
    go_enter Tryz.func68, Tryz.ntmps68
    go_wp2_with fail
    go_quiet (fail)
    go_wp2_with fail
    refine (HE.out _).mono ?_
    rintro e w9 ⟨rfl, rfl⟩
    go_wp2_with fail
    go_quiet (first | (go_at_call 136; exact quiet_is2 (fun W => HUl.out W)) | (go_at_call 136; exact quiet_is2 (fun W => HUh.out W)))
    go_wp2_with fail
    refine (HD1.out _).mono ?_
    rintro e w9 ⟨rfl, rfl⟩
    clear hd0 hd1 x0 x1 l0 l1 q0 q1 s0 s1 c0 c1 lo0 lo1 hi0 hi1 m3 m4 m5 m6 u0 u1 v0 v1
    rcases hlv with ⟨hk, rfl⟩ | ⟨hk, rfl⟩
    all_goals
      go_wp2_with fail
      refine wp_region_held (S := fun w' => w'.cell? ⟨w.heap.size, 8, none⟩ = some (.int .i64 g.push) ∧ w'.cell? ⟨w.heap.size, 9, none⟩ = some (.int .i64 g.slide) ∧ w'.cell? ⟨w.heap.size, 10, none⟩ = some (.int .i64 g.sealN)) (by kernel_rfl) (by exact ⟨(Blk.new w _ _).cell 8, (Blk.new w _ _).cell 9, (Blk.new w _ _).cell 10⟩) (fun hHeld => ?_)
      refine wpAnyH_take (i := 0) (v := ?_) rfl (by kernel_rfl) (by kernel_rfl) (by kernel_rfl) (fun _ _ _ h => h) (Or.inl ⟨by rfl, ?_⟩) hHeld ?_
      rotate_left
      · intro w hSw; (try dsimp only at hSw); skip; go_simp; (try with_reducible rfl)
      (try simp only [Act.put, List.setIfInBounds_toArray, List.set_cons_zero, List.set_cons_succ])
      refine wpAnyH_take (i := 1) (v := ?_) rfl (by kernel_rfl) (by kernel_rfl) (by kernel_rfl) (fun _ _ _ h => h) (Or.inl ⟨by rfl, ?_⟩) hHeld ?_
      rotate_left
      · intro w hSw; (try dsimp only at hSw); skip; go_simp; (try with_reducible rfl)
      (try simp only [Act.put, List.setIfInBounds_toArray, List.set_cons_zero, List.set_cons_succ])
      refine wpAnyH_take (i := 2) (v := ?_) rfl (by kernel_rfl) (by kernel_rfl) (by kernel_rfl) (fun _ _ _ h => h) (Or.inl ⟨by rfl, ?_⟩) hHeld ?_
      rotate_left
      · intro w hSw; (try dsimp only at hSw); skip; go_simp; (try with_reducible rfl)
      (try simp only [Act.put, List.setIfInBounds_toArray, List.set_cons_zero, List.set_cons_succ])
      refine wpAnyH_take (i := 3) (v := ?_) rfl (by kernel_rfl) (by kernel_rfl) (by kernel_rfl) (fun _ _ _ h => h) (Or.inl ⟨by rfl, ?_⟩) hHeld ?_
      rotate_left
      · intro w hSw; (try dsimp only at hSw); skip; go_simp; (try with_reducible rfl)
      (try simp only [Act.put, List.setIfInBounds_toArray, List.set_cons_zero, List.set_cons_succ])
      refine wpAnyH_take (i := 5) (v := ?_) rfl (by kernel_rfl) (by kernel_rfl) (by kernel_rfl) (fun _ _ _ h => h) (Or.inl ⟨by rfl, ?_⟩) hHeld ?_
      rotate_left
      · intro w hSw; (try dsimp only at hSw); skip; go_simp; (try with_reducible rfl)
      (try simp only [Act.put, List.setIfInBounds_toArray, List.set_cons_zero, List.set_cons_succ])
      refine wpAnyH_take (i := 6) (v := ?_) rfl (by kernel_rfl) (by kernel_rfl) (by kernel_rfl) (fun _ _ _ h => h) (Or.inl ⟨by rfl, ?_⟩) hHeld ?_
      rotate_left
      · intro w hSw; (try dsimp only at hSw); skip; go_simp; (try with_reducible rfl)
      (try simp only [Act.put, List.setIfInBounds_toArray, List.set_cons_zero, List.set_cons_succ])
      refine wpAnyH_take (i := 7) (v := ?_) rfl (by kernel_rfl) (by kernel_rfl) (by kernel_rfl) (fun _ _ _ h => h) (Or.inl ⟨by rfl, ?_⟩) hHeld ?_
      rotate_left
      · intro w hSw; (try dsimp only at hSw); skip; go_simp; (try with_reducible rfl)
      (try simp only [Act.put, List.setIfInBounds_toArray, List.set_cons_zero, List.set_cons_succ])
      refine wpAnyH_take (i := 11) (v := ?_) rfl (by kernel_rfl) (by kernel_rfl) (by kernel_rfl) (fun _ _ _ h => h) (Or.inl ⟨by rfl, ?_⟩) hHeld ?_
      rotate_left
      · intro w hSw; (try dsimp only at hSw); skip; go_simp; (try with_reducible rfl)
      (try simp only [Act.put, List.setIfInBounds_toArray, List.set_cons_zero, List.set_cons_succ])
      refine wpAnyH_take (i := 13) (v := ?_) rfl (by kernel_rfl) (by kernel_rfl) (by kernel_rfl) (fun _ _ _ h => h) (Or.inl ⟨by rfl, ?_⟩) hHeld ?_
      rotate_left
      · intro w hSw; (try dsimp only at hSw); skip; go_simp; (try with_reducible rfl)
      (try simp only [Act.put, List.setIfInBounds_toArray, List.set_cons_zero, List.set_cons_succ])
      refine wpAnyH_take (i := 16) (v := ?_) rfl (by kernel_rfl) (by kernel_rfl) (by kernel_rfl) (fun _ _ _ h => h) (Or.inl ⟨by rfl, ?_⟩) hHeld ?_
      rotate_left
      · intro w hSw; (try dsimp only at hSw); skip; go_simp; (try with_reducible rfl)
      (try simp only [Act.put, List.setIfInBounds_toArray, List.set_cons_zero, List.set_cons_succ])
      refine wpAnyH_take (i := 18) (v := ?_) rfl (by kernel_rfl) (by kernel_rfl) (by kernel_rfl) (fun _ _ _ h => h) (Or.inl ⟨by rfl, ?_⟩) hHeld ?_
      rotate_left
      · intro w hSw; (try dsimp only at hSw); skip; go_simp; (try with_reducible rfl)
      (try simp only [Act.put, List.setIfInBounds_toArray, List.set_cons_zero, List.set_cons_succ])
      refine wpAnyH_take (i := 4) (v := ?_) rfl (by kernel_rfl) (by kernel_rfl) (by kernel_rfl) (fun _ _ _ h => h) (Or.inl ⟨by rfl, ?_⟩) hHeld ?_
      rotate_left
      · intro w hSw; (try dsimp only at hSw); obtain ⟨k8, k9, k10⟩ := hSw; go_simp; (try with_reducible rfl)
      (try simp only [Act.put, List.setIfInBounds_toArray, List.set_cons_zero, List.set_cons_succ])
      refine wpAnyH_take (i := 8) (v := ?_) rfl (by kernel_rfl) (by kernel_rfl) (by kernel_rfl) (fun _ _ _ h => h) (Or.inl ⟨by rfl, ?_⟩) hHeld ?_
      rotate_left
      · intro w hSw; (try dsimp only at hSw); obtain ⟨k8, k9, k10⟩ := hSw; go_simp; (try with_reducible rfl)
      (try simp only [Act.put, List.setIfInBounds_toArray, List.set_cons_zero, List.set_cons_succ])
      refine wpAnyH_take (i := 12) (v := ?_) rfl (by kernel_rfl) (by kernel_rfl) (by kernel_rfl) (fun _ _ _ h => h) (Or.inl ⟨by rfl, ?_⟩) hHeld ?_
      rotate_left
      · intro w hSw; (try dsimp only at hSw); obtain ⟨k8, k9, k10⟩ := hSw; go_simp; (try with_reducible rfl)
      (try simp only [Act.put, List.setIfInBounds_toArray, List.set_cons_zero, List.set_cons_succ])
      refine wpAnyH_take (i := 14) (v := ?_) rfl (by kernel_rfl) (by kernel_rfl) (by kernel_rfl) (fun _ _ _ h => h) (Or.inl ⟨by rfl, ?_⟩) hHeld ?_
      rotate_left
      · intro w hSw; (try dsimp only at hSw); obtain ⟨k8, k9, k10⟩ := hSw; go_simp; (try with_reducible rfl)
      (try simp only [Act.put, List.setIfInBounds_toArray, List.set_cons_zero, List.set_cons_succ])
      refine wpAnyH_take (i := 15) (v := ?_) rfl (by kernel_rfl) (by kernel_rfl) (by kernel_rfl) (fun _ _ _ h => h) (Or.inl ⟨by rfl, ?_⟩) hHeld ?_
      rotate_left
      · intro w hSw; (try dsimp only at hSw); obtain ⟨k8, k9, k10⟩ := hSw; go_simp; (try with_reducible rfl)
      (try simp only [Act.put, List.setIfInBounds_toArray, List.set_cons_zero, List.set_cons_succ])
      refine wpAnyH_take (i := 17) (v := ?_) rfl (by kernel_rfl) (by kernel_rfl) (by kernel_rfl) (fun _ _ _ h => h) (Or.inl ⟨by rfl, ?_⟩) hHeld ?_
      rotate_left
      · intro w hSw; (try dsimp only at hSw); obtain ⟨k8, k9, k10⟩ := hSw; go_simp; (try with_reducible rfl)
      (try simp only [Act.put, List.setIfInBounds_toArray, List.set_cons_zero, List.set_cons_succ])
      refine wpAnyH_take (i := 19) (v := ?_) rfl (by kernel_rfl) (by kernel_rfl) (by kernel_rfl) (fun _ _ _ h => h) (Or.inl ⟨by rfl, ?_⟩) hHeld ?_
      rotate_left
      · intro w hSw; (try dsimp only at hSw); obtain ⟨k8, k9, k10⟩ := hSw; go_simp; (try with_reducible rfl)
      (try simp only [Act.put, List.setIfInBounds_toArray, List.set_cons_zero, List.set_cons_succ])
      refine wpAnyH_ready (rs := [9]) (by kernel_rfl) (by simp) ?_
      refine AllReadyH.cons rfl (fun K hK => ?_) AllReadyH.nil
      go_simp
      refine (HD2.out _).mono ?_
      rintro e w5 ⟨rfl, rfl⟩
      (try dsimp only)
      refine hK.out _ _ (by exact hHeld) (fun hHeld => ?_)
      clear hK K
      (try simp only [Act.put, List.setIfInBounds_toArray, List.set_cons_zero, List.set_cons_succ])
      refine wpAnyH_take (i := 10) (v := ?_) rfl (by kernel_rfl) (by kernel_rfl) (by kernel_rfl) (fun _ _ _ h => h) (Or.inl ⟨by rfl, ?_⟩) hHeld ?_
      rotate_left
      · intro w hSw; (try dsimp only at hSw); skip; go_simp; (try with_reducible rfl)
      (try simp only [Act.put, List.setIfInBounds_toArray, List.set_cons_zero, List.set_cons_succ])
      refine wpAnyH_ready (rs := [20]) (by kernel_rfl) (by simp) ?_
      refine AllReadyH.cons rfl (fun K hK => ?_) AllReadyH.nil
      go_simp
      refine (HD3.out _).mono ?_
      rintro e w6 ⟨rfl, rfl⟩
      (try dsimp only)
      refine hK.out _ _ (by exact hHeld) (fun hHeld => ?_)
      clear hK K
      (try simp only [Act.put, List.setIfInBounds_toArray, List.set_cons_zero, List.set_cons_succ])
      refine wpAnyH_take (i := 21) (v := ?_) rfl (by kernel_rfl) (by kernel_rfl) (by kernel_rfl) (fun _ _ _ h => h) (Or.inl ⟨by rfl, ?_⟩) hHeld ?_
      rotate_left
      · intro w hSw; (try dsimp only at hSw); skip; go_simp; (try with_reducible rfl)
      (try simp only [Act.put, List.setIfInBounds_toArray, List.set_cons_zero, List.set_cons_succ])
      refine wpAnyH_take (i := 22) (v := ?_) rfl (by kernel_rfl) (by kernel_rfl) (by kernel_rfl) (fun _ _ _ h => h) (Or.inl ⟨by rfl, ?_⟩) hHeld ?_
      rotate_left
      · intro w hSw; (try dsimp only at hSw); skip; go_simp; (try with_reducible rfl)
      (try simp only [Act.put, List.setIfInBounds_toArray, List.set_cons_zero, List.set_cons_succ])
      refine wpAnyH_take (i := 23) (v := ?_) rfl (by kernel_rfl) (by kernel_rfl) (by kernel_rfl) (fun _ _ _ h => h) (Or.inl ⟨by rfl, ?_⟩) hHeld ?_
      rotate_left
      · intro w hSw; (try dsimp only at hSw); skip; go_simp; (try with_reducible rfl)
      (try simp only [Act.put, List.setIfInBounds_toArray, List.set_cons_zero, List.set_cons_succ])
      refine wpAnyH_done (by kernel_rfl) ?_ _
      (try simp only [List.getElem_toArray, List.getElem_cons_zero, List.getElem_cons_succ, Act.put, List.setIfInBounds_toArray, List.set_cons_zero, List.set_cons_succ])
      go_wp2
      go_ret2
      exact ⟨rfl, (by repeat (first | exact Below.refl _ _ | assumption | (refine Below.setCell ?_ (by first | omega | (simp; done) | (simp; omega)) _) | (refine Below.alloc ?_ (by first | omega | (simp; done) | (simp; omega)) _) | refine Below.drew ?_ | (refine below_thru ?_ (by assumption) (by first | omega | (simp; done) | (simp; omega))) | refine below_drewN ?_ _))⟩
end Go.Proofs.YtgdomaddjiggaaaGreat

namespace Go.Proofs.YtgdomaddjiggaaaGreat
open Go.RowKit
set_option linter.unusedSimpArgs false
set_option linter.unusedVariables false

set_option maxRecDepth 100000 in
set_option maxHeartbeats 8000000 in
theorem rforces_b (g : Ga) (p a b : Int) (w : World) (ha : g.At w w.heap.size) (hg : g.Ok) (p0 : 0 ≤ p) (p1 : p ≤ g.travel) (hp : p ≠ g.travel) (a0 : -20000 ≤ a) (a1 : a ≤ 20000) (b0 : -20000 ≤ b) (b1 : b ≤ 20000) :
    Calls Tryz.prog 68 #[g.v, .int .i64 p, .int .i64 a, .int .i64 b] w fun e w' => e = .returned (.tuple #[.int .i64 (netF g p a b), .int .i64 (rubF g p a b)]) ∧ Below w.heap.size w w' := by
  have t0 := hg.t0
  have t1 := hg.t1
  have n0 := hg.n0
  have n1 := hg.n1
  have hl := ha.ol
  obtain ⟨o0, o1⟩ := own_in hg hl p0 p1
  obtain ⟨l0, l1, l2, l3⟩ := lift_in hg p a b
  obtain ⟨q0, q1, q2, q3⟩ := push_in hg a0 a1 b0 b1
  obtain ⟨s0, s1, s2, s3⟩ := slide_in hg p a0 a1 b0 b1
  obtain ⟨x0, x1, x2, x3⟩ := edge_in hg p0 p1
  have e0 := hg.seal0
  have e1 := hg.seal1
  have f0 := hg.float0
  have f1 := hg.float1
  have g0 := hg.slide0
  have g1 := hg.slide1
  obtain ⟨u0, u1⟩ := under_in hg p (min a b)
  obtain ⟨v0, v1⟩ := under_in hg p (max a b)
  obtain ⟨lo, hlo⟩ : ∃ lo, min a b = lo := ⟨_, rfl⟩
  obtain ⟨hi, hhi⟩ : ∃ hi, max a b = hi := ⟨_, rfl⟩
  obtain ⟨hd, hhd⟩ : ∃ hd, max (a - b) (-(a - b)) = hd := ⟨_, rfl⟩
  have y1 : (if b < a then b else a) = lo := by rw [← hlo]; split <;> omega
  have y2 : (if a < b then b else a) = hi := by rw [← hhi]; split <;> omega
  have y3 : (if a - b < b - a then b - a else a - b) = hd := by rw [← hhd]; split <;> omega
  have hd0 : 0 ≤ hd := by omega
  have hd1 : hd ≤ 40000 := by omega
  rw [hlo] at l0 l1 u0 u1
  rw [hhi] at s2 s3 v0 v1
  rw [hhd] at s0 s1 s2 s3
  have hnet : netF g p a b = ownF g p + (if g.kind = 3 then g.float * underF g p lo / 1000 else -(g.float * underF g p lo / 1000)) + g.push * (a - b) / 1000 := by unfold netF liftF; rw [hlo]
  have hlift : liftF g p a b = g.float * underF g p lo / 1000 := by unfold liftF; rw [hlo]
  have hrub : rubF g p a b = g.sealN + -(-(g.slide * hd * underF g p hi) / 1000000) := by unfold rubF; rw [hhi, hhd]
  have hul : underF g p lo = min (max (lo - edgeF g p) 0) g.height := rfl
  have huh : underF g p hi = min (max (hi - edgeF g p) 0) g.height := rfl
  rw [hlift] at l2 l3
  generalize netF g p a b = net at *
  generalize rubF g p a b = rub at *
  have lo0 : -20000 ≤ lo := by omega
  have lo1 : lo ≤ 20000 := by omega
  have hi0 : -20000 ≤ hi := by omega
  have hi1 : hi ≤ 20000 := by omega
  -- the edge
  have m1 := mulb (a := g.travel - p) (A := 5000) (b := g.opn) (B := 20000) (by omega) (by omega) hg.open0 hg.open1 (by omega)
  have m2 := mulb (a := p) (A := 5000) (b := g.shut) (B := 20000) (by omega) (by omega) hg.shut0 hg.shut1 (by omega)
  rw [Int.mul_comm (g.travel - p)] at m1
  rw [Int.mul_comm p] at m2
  obtain ⟨m3, m4⟩ := m1
  obtain ⟨m5, m6⟩ := m2
  have HE := Lib.hid (fun W => rfloor_any (g.opn * (g.travel - p) + g.shut * p) g.travel W (by omega) (by omega) (by omega) (by omega))
  have HE : Hid (∀ W : World, Calls Tryz.prog 135 #[.int .i64 (g.opn * (g.travel - p) + g.shut * p), .int .i64 g.travel] W fun e w' => e = .returned (.int .i64 (edgeF g p)) ∧ W = w') := HE.out
  have hed0 := x2
  have hed1 := x3
  generalize edgeF g p = ed at *
  have HUl := Lib.hid (fun W => rclamp_any (lo - ed) g.height W)
  have HUh := Lib.hid (fun W => rclamp_any (hi - ed) g.height W)
  rw [← hul] at HUl
  rw [← huh] at HUh
  generalize underF g p lo = ul at *
  generalize underF g p hi = uh at *
  have hown : ownF g p = ownF g p := rfl
  have Hown := Lib.hid (show ownF g p = if p = g.travel then g.os.getD (g.on - 1) 0 else (g.os.getD (p * (g.on - 1) / g.travel).toNat 0 * (g.travel - p * (g.on - 1) % g.travel) + g.os.getD ((p * (g.on - 1) / g.travel).toNat + 1) 0 * (p * (g.on - 1) % g.travel)) / g.travel from rfl)
  generalize ownF g p = ow at *
  have hs' : -g.slide * hd * uh = -(g.slide * hd * uh) := by rw [Int.neg_mul, Int.neg_mul]
  have hs2' : -g.slide * hd = -(g.slide * hd) := by rw [Int.neg_mul]
  have HD1 := Lib.hid (fun W => rfloor_any (g.float * ul) 1000 W (by omega) (by omega) (by omega) (by omega))
  have HD2 := Lib.hid (fun W => rfloor_any (g.push * (a - b)) 1000 W (by omega) (by omega) (by omega) (by omega))
  have HD3 := Lib.hid (fun W => rfloor_any (-g.slide * hd * uh) 1000000 W (by omega) (by rw [hs']; omega) (by rw [hs']; omega) (by omega))
  have w0 : IntKind.i64.wrap (a - b) = a - b := IntWalk.i64_in _ (by omega)
  have w1 : IntKind.i64.wrap (g.float * ul) = g.float * ul := IntWalk.i64_in _ (by omega)
  have w2 : IntKind.i64.wrap (g.push * (a - b)) = g.push * (a - b) := IntWalk.i64_in _ (by omega)
  have w3 : IntKind.i64.wrap (-g.slide * hd) = -g.slide * hd := IntWalk.i64_in _ (by rw [hs2']; omega)
  have w4 : IntKind.i64.wrap (-g.slide * hd * uh) = -g.slide * hd * uh := IntWalk.i64_in _ (by rw [hs']; omega)
  have w5 : IntKind.i64.wrap (lo - ed) = lo - ed := IntWalk.i64_in _ (by omega)
  have w56 : IntKind.i64.wrap (b - a) = b - a := IntWalk.i64_in _ (by omega)
  have w57 : IntKind.i64.wrap (-g.slide) = -g.slide := IntWalk.i64_in _ (by omega)
  have w55 : IntKind.i64.wrap (hi - ed) = hi - ed := IntWalk.i64_in _ (by omega)
  obtain ⟨lf, hlf⟩ : ∃ lf, g.float * ul / 1000 = lf := ⟨_, rfl⟩
  obtain ⟨pf, hpf⟩ : ∃ pf, g.push * (a - b) / 1000 = pf := ⟨_, rfl⟩
  obtain ⟨rf, hrf⟩ : ∃ rf, -g.slide * hd * uh / 1000000 = rf := ⟨_, rfl⟩
  have hrf2 : -(g.slide * hd * uh) / 1000000 = rf := by rw [← hs']; exact hrf
  have r0 : -12000000 ≤ rf := by omega
  have w58 : IntKind.i64.wrap (-lf) = -lf := IntWalk.i64_in _ (by omega)
  have r1 : rf ≤ 0 := by omega
  rw [hlf] at hnet l2 l3 HD1
  rw [hpf] at hnet q2 q3 HD2
  rw [hrf] at HD3
  rw [hrf2] at hrub
  have hrub' : rub = g.sealN - rf := by omega
  have w6 : IntKind.i64.wrap (g.sealN - rf) = g.sealN - rf := IntWalk.i64_in _ (by omega)
  rw [hrub']
  clear hlo hhi hhd hlift hlf hpf hrf hrf2 hs' hs2' hrub hrub' s2 s3 hul huh hown
  obtain ⟨lv, hlv, hnet'⟩ : ∃ lv, (((g.kind != 3) = false ∧ lv = lf) ∨ ((g.kind != 3) = true ∧ lv = -lf)) ∧ net = ow + lv + pf := by
    by_cases hk : g.kind = 3
    · rw [if_pos hk] at hnet
      exact ⟨lf, .inl ⟨by rw [hk]; rfl, rfl⟩, hnet⟩
    · rw [if_neg hk] at hnet
      exact ⟨-lf, .inr ⟨by rw [bne_iff_ne]; exact hk, rfl⟩, hnet⟩
  have lv0 : -300000 ≤ lv := by omega
  have lv1 : lv ≤ 300000 := by omega
  have w7 : IntKind.i64.wrap (ow + lv) = ow + lv := IntWalk.i64_in _ (by omega)
  have w8 : IntKind.i64.wrap (ow + lv + pf) = ow + lv + pf := IntWalk.i64_in _ (by omega)
  rw [hnet']
  clear hnet hnet'
  -- the place
  obtain ⟨c0, c1⟩ := mul0 (a := p) (A := 5000) (b := (g.on : Int) - 1) (B := 15) p0 (by omega) (by omega) (by omega)
  have c2 : 0 ≤ p * ((g.on : Int) - 1) / g.travel := Int.ediv_nonneg c0 (by omega)
  have e1' := Int.tdiv_eq_ediv_of_nonneg (b := g.travel) c0
  have e2' := Int.tmod_eq_emod_of_nonneg (b := g.travel) c0
  obtain ⟨k, hk⟩ : ∃ k : Nat, p * ((g.on : Int) - 1) / g.travel = k := ⟨(p * ((g.on : Int) - 1) / g.travel).toNat, by omega⟩
  obtain ⟨r, hr⟩ : ∃ r, p * ((g.on : Int) - 1) % g.travel = r := ⟨_, rfl⟩
  have hplace := fun h => place hg p0 h
  rw [hk] at e1' c2 hplace
  rw [hr] at e2' hplace
  rw [hk, hr, Int.toNat_natCast] at Hown
  obtain ⟨ob, off, hA, hb, d0⟩ := own_cell ha (k := g.on - 1) (by omega)
  have z0 : (0 : Int) ≤ (g.on : Int) - 1 := by omega
  have z1 : (g.on : Int) - 1 < (g.on : Int) := by omega
  have z2 : ((g.on : Int) - 1).toNat = g.on - 1 := by omega
  have z5 : ¬ g.travel = 0 := by omega
  have HA := Lib.hid hA
  have hgO := hg
  have hlO := hl
  clear hA hg hl
  · skip
    have Ho := Hown.out
    rw [if_neg hp] at Ho
    have hpl : p < g.travel := by omega
    obtain ⟨_, _, a2, a3, a4, a5⟩ := hplace hpl
    obtain ⟨ob1, off1, hA1, hb1, d1⟩ := own_cell ha (k := k) (by omega)
    obtain ⟨ob2, off2, hA2, hb2, d2⟩ := own_cell ha (k := k + 1) (by omega)
    rw [HA.out] at hA1 hA2
    cases hA1
    cases hA2
    obtain ⟨i0, i1⟩ := own_get hgO hlO (k := k) (by omega)
    obtain ⟨i2, i3⟩ := own_get hgO hlO (k := k + 1) (by omega)
    obtain ⟨j0, j1, j2, j3⟩ := mid (T := g.travel) (r := r) i0 i1 i2 i3 (by omega) a4 (Int.le_of_lt a5) (by omega)
    have q1' := mulb (a := g.travel - r) (A := 5000) (b := g.os.getD k 0) (B := 200000) (by omega) (by omega) i0 i1 (by omega)
    have q2' := mulb (a := r) (A := 5000) (b := g.os.getD (k + 1) 0) (B := 200000) a4 (by omega) i2 i3 (by omega)
    rw [Int.mul_comm (g.travel - r)] at q1'
    rw [Int.mul_comm r] at q2'
    clear Hown
    generalize g.os.getD (g.on - 1) 0 = fl at *
    generalize g.os.getD k 0 = f0' at *
    generalize g.os.getD (k + 1) 0 = f1' at *
    have HO := Lib.hid (fun W => rfloor_any (f0' * (g.travel - r) + f1' * r) g.travel W (by omega) (by omega) (by omega) (by omega))
    rw [← Ho] at HO
    have v1' : IntKind.i64.wrap (g.travel - r) = g.travel - r := IntWalk.i64_in _ (by omega)
    have v2' : IntKind.i64.wrap (f0' * (g.travel - r)) = f0' * (g.travel - r) := IntWalk.i64_in _ (by omega)
    have v3' : IntKind.i64.wrap (f1' * r) = f1' * r := IntWalk.i64_in _ (by omega)
    have v4' : IntKind.i64.wrap (f0' * (g.travel - r) + f1' * r) = f0' * (g.travel - r) + f1' * r := IntWalk.i64_in _ (by omega)
    have v5' : IntKind.i64.wrap ((k : Int) + 1) = (k : Int) + 1 := IntWalk.i64_in _ (by omega)
    have z6 : (0 : Int) ≤ (k : Int) := Int.natCast_nonneg _
    have z7 : (k : Int) < (g.on : Int) := by omega
    have z8 : (0 : Int) ≤ (k : Int) + 1 := by omega
    have z9 : (k : Int) + 1 < (g.on : Int) := by omega
    have z10 : ((k : Int) + 1).toNat = k + 1 := by omega
    have hp' : decide (p < g.travel) = true := by rw [decide_eq_true_eq]; omega
    clear hp Ho hplace q1' q2' j0 j1 j2 j3 hgO hlO
    unfold Ga.v; rw [HA.out]
    go_enter Tryz.func68, Tryz.ntmps68
    go_wp2_with fail
    go_quiet (fail)
    go_wp2_with fail
    go_quiet (first | (go_at_call 135; exact quiet_is2 (fun W => HO.out W)))
    go_wp2_with fail
    refine (HE.out _).mono ?_
    rintro e w9 ⟨rfl, rfl⟩
    go_wp2_with fail
    go_quiet (first | (go_at_call 136; exact quiet_is2 (fun W => HUl.out W)) | (go_at_call 136; exact quiet_is2 (fun W => HUh.out W)))
    go_wp2_with fail
    refine (HD1.out _).mono ?_
    rintro e w9 ⟨rfl, rfl⟩
    clear hd0 hd1 x0 x1 l0 l1 q0 q1 s0 s1 c0 c1 lo0 lo1 hi0 hi1 m3 m4 m5 m6 u0 u1 v0 v1
    rcases hlv with ⟨hk, rfl⟩ | ⟨hk, rfl⟩
    all_goals
      go_wp2_with fail
      refine wp_region_held (S := fun w' => w'.cell? ⟨w.heap.size, 8, none⟩ = some (.int .i64 g.push) ∧ w'.cell? ⟨w.heap.size, 9, none⟩ = some (.int .i64 g.slide) ∧ w'.cell? ⟨w.heap.size, 10, none⟩ = some (.int .i64 g.sealN)) (by kernel_rfl) (by exact ⟨(Blk.new w _ _).cell 8, (Blk.new w _ _).cell 9, (Blk.new w _ _).cell 10⟩) (fun hHeld => ?_)
      refine wpAnyH_take (i := 0) (v := ?_) rfl (by kernel_rfl) (by kernel_rfl) (by kernel_rfl) (fun _ _ _ h => h) (Or.inl ⟨by rfl, ?_⟩) hHeld ?_
      rotate_left
      · intro w hSw; (try dsimp only at hSw); skip; go_simp; (try with_reducible rfl)
      (try simp only [Act.put, List.setIfInBounds_toArray, List.set_cons_zero, List.set_cons_succ])
      refine wpAnyH_take (i := 1) (v := ?_) rfl (by kernel_rfl) (by kernel_rfl) (by kernel_rfl) (fun _ _ _ h => h) (Or.inl ⟨by rfl, ?_⟩) hHeld ?_
      rotate_left
      · intro w hSw; (try dsimp only at hSw); skip; go_simp; (try with_reducible rfl)
      (try simp only [Act.put, List.setIfInBounds_toArray, List.set_cons_zero, List.set_cons_succ])
      refine wpAnyH_take (i := 2) (v := ?_) rfl (by kernel_rfl) (by kernel_rfl) (by kernel_rfl) (fun _ _ _ h => h) (Or.inl ⟨by rfl, ?_⟩) hHeld ?_
      rotate_left
      · intro w hSw; (try dsimp only at hSw); skip; go_simp; (try with_reducible rfl)
      (try simp only [Act.put, List.setIfInBounds_toArray, List.set_cons_zero, List.set_cons_succ])
      refine wpAnyH_take (i := 3) (v := ?_) rfl (by kernel_rfl) (by kernel_rfl) (by kernel_rfl) (fun _ _ _ h => h) (Or.inl ⟨by rfl, ?_⟩) hHeld ?_
      rotate_left
      · intro w hSw; (try dsimp only at hSw); skip; go_simp; (try with_reducible rfl)
      (try simp only [Act.put, List.setIfInBounds_toArray, List.set_cons_zero, List.set_cons_succ])
      refine wpAnyH_take (i := 5) (v := ?_) rfl (by kernel_rfl) (by kernel_rfl) (by kernel_rfl) (fun _ _ _ h => h) (Or.inl ⟨by rfl, ?_⟩) hHeld ?_
      rotate_left
      · intro w hSw; (try dsimp only at hSw); skip; go_simp; (try with_reducible rfl)
      (try simp only [Act.put, List.setIfInBounds_toArray, List.set_cons_zero, List.set_cons_succ])
      refine wpAnyH_take (i := 6) (v := ?_) rfl (by kernel_rfl) (by kernel_rfl) (by kernel_rfl) (fun _ _ _ h => h) (Or.inl ⟨by rfl, ?_⟩) hHeld ?_
      rotate_left
      · intro w hSw; (try dsimp only at hSw); skip; go_simp; (try with_reducible rfl)
      (try simp only [Act.put, List.setIfInBounds_toArray, List.set_cons_zero, List.set_cons_succ])
      refine wpAnyH_take (i := 7) (v := ?_) rfl (by kernel_rfl) (by kernel_rfl) (by kernel_rfl) (fun _ _ _ h => h) (Or.inl ⟨by rfl, ?_⟩) hHeld ?_
      rotate_left
      · intro w hSw; (try dsimp only at hSw); skip; go_simp; (try with_reducible rfl)
      (try simp only [Act.put, List.setIfInBounds_toArray, List.set_cons_zero, List.set_cons_succ])
      refine wpAnyH_take (i := 11) (v := ?_) rfl (by kernel_rfl) (by kernel_rfl) (by kernel_rfl) (fun _ _ _ h => h) (Or.inl ⟨by rfl, ?_⟩) hHeld ?_
      rotate_left
      · intro w hSw; (try dsimp only at hSw); skip; go_simp; (try with_reducible rfl)
      (try simp only [Act.put, List.setIfInBounds_toArray, List.set_cons_zero, List.set_cons_succ])
      refine wpAnyH_take (i := 13) (v := ?_) rfl (by kernel_rfl) (by kernel_rfl) (by kernel_rfl) (fun _ _ _ h => h) (Or.inl ⟨by rfl, ?_⟩) hHeld ?_
      rotate_left
      · intro w hSw; (try dsimp only at hSw); skip; go_simp; (try with_reducible rfl)
      (try simp only [Act.put, List.setIfInBounds_toArray, List.set_cons_zero, List.set_cons_succ])
      refine wpAnyH_take (i := 16) (v := ?_) rfl (by kernel_rfl) (by kernel_rfl) (by kernel_rfl) (fun _ _ _ h => h) (Or.inl ⟨by rfl, ?_⟩) hHeld ?_
      rotate_left
      · intro w hSw; (try dsimp only at hSw); skip; go_simp; (try with_reducible rfl)
      (try simp only [Act.put, List.setIfInBounds_toArray, List.set_cons_zero, List.set_cons_succ])
      refine wpAnyH_take (i := 18) (v := ?_) rfl (by kernel_rfl) (by kernel_rfl) (by kernel_rfl) (fun _ _ _ h => h) (Or.inl ⟨by rfl, ?_⟩) hHeld ?_
      rotate_left
      · intro w hSw; (try dsimp only at hSw); skip; go_simp; (try with_reducible rfl)
      (try simp only [Act.put, List.setIfInBounds_toArray, List.set_cons_zero, List.set_cons_succ])
      refine wpAnyH_take (i := 4) (v := ?_) rfl (by kernel_rfl) (by kernel_rfl) (by kernel_rfl) (fun _ _ _ h => h) (Or.inl ⟨by rfl, ?_⟩) hHeld ?_
      rotate_left
      · intro w hSw; (try dsimp only at hSw); obtain ⟨k8, k9, k10⟩ := hSw; go_simp; (try with_reducible rfl)
      (try simp only [Act.put, List.setIfInBounds_toArray, List.set_cons_zero, List.set_cons_succ])
      refine wpAnyH_take (i := 8) (v := ?_) rfl (by kernel_rfl) (by kernel_rfl) (by kernel_rfl) (fun _ _ _ h => h) (Or.inl ⟨by rfl, ?_⟩) hHeld ?_
      rotate_left
      · intro w hSw; (try dsimp only at hSw); obtain ⟨k8, k9, k10⟩ := hSw; go_simp; (try with_reducible rfl)
      (try simp only [Act.put, List.setIfInBounds_toArray, List.set_cons_zero, List.set_cons_succ])
      refine wpAnyH_take (i := 12) (v := ?_) rfl (by kernel_rfl) (by kernel_rfl) (by kernel_rfl) (fun _ _ _ h => h) (Or.inl ⟨by rfl, ?_⟩) hHeld ?_
      rotate_left
      · intro w hSw; (try dsimp only at hSw); obtain ⟨k8, k9, k10⟩ := hSw; go_simp; (try with_reducible rfl)
      (try simp only [Act.put, List.setIfInBounds_toArray, List.set_cons_zero, List.set_cons_succ])
      refine wpAnyH_take (i := 14) (v := ?_) rfl (by kernel_rfl) (by kernel_rfl) (by kernel_rfl) (fun _ _ _ h => h) (Or.inl ⟨by rfl, ?_⟩) hHeld ?_
      rotate_left
      · intro w hSw; (try dsimp only at hSw); obtain ⟨k8, k9, k10⟩ := hSw; go_simp; (try with_reducible rfl)
      (try simp only [Act.put, List.setIfInBounds_toArray, List.set_cons_zero, List.set_cons_succ])
      refine wpAnyH_take (i := 15) (v := ?_) rfl (by kernel_rfl) (by kernel_rfl) (by kernel_rfl) (fun _ _ _ h => h) (Or.inl ⟨by rfl, ?_⟩) hHeld ?_
      rotate_left
      · intro w hSw; (try dsimp only at hSw); obtain ⟨k8, k9, k10⟩ := hSw; go_simp; (try with_reducible rfl)
      (try simp only [Act.put, List.setIfInBounds_toArray, List.set_cons_zero, List.set_cons_succ])
      refine wpAnyH_take (i := 17) (v := ?_) rfl (by kernel_rfl) (by kernel_rfl) (by kernel_rfl) (fun _ _ _ h => h) (Or.inl ⟨by rfl, ?_⟩) hHeld ?_
      rotate_left
      · intro w hSw; (try dsimp only at hSw); obtain ⟨k8, k9, k10⟩ := hSw; go_simp; (try with_reducible rfl)
      (try simp only [Act.put, List.setIfInBounds_toArray, List.set_cons_zero, List.set_cons_succ])
      refine wpAnyH_take (i := 19) (v := ?_) rfl (by kernel_rfl) (by kernel_rfl) (by kernel_rfl) (fun _ _ _ h => h) (Or.inl ⟨by rfl, ?_⟩) hHeld ?_
      rotate_left
      · intro w hSw; (try dsimp only at hSw); obtain ⟨k8, k9, k10⟩ := hSw; go_simp; (try with_reducible rfl)
      (try simp only [Act.put, List.setIfInBounds_toArray, List.set_cons_zero, List.set_cons_succ])
      refine wpAnyH_ready (rs := [9]) (by kernel_rfl) (by simp) ?_
      refine AllReadyH.cons rfl (fun K hK => ?_) AllReadyH.nil
      go_simp
      refine (HD2.out _).mono ?_
      rintro e w5 ⟨rfl, rfl⟩
      (try dsimp only)
      refine hK.out _ _ (by exact hHeld) (fun hHeld => ?_)
      clear hK K
      (try simp only [Act.put, List.setIfInBounds_toArray, List.set_cons_zero, List.set_cons_succ])
      refine wpAnyH_take (i := 10) (v := ?_) rfl (by kernel_rfl) (by kernel_rfl) (by kernel_rfl) (fun _ _ _ h => h) (Or.inl ⟨by rfl, ?_⟩) hHeld ?_
      rotate_left
      · intro w hSw; (try dsimp only at hSw); skip; go_simp; (try with_reducible rfl)
      (try simp only [Act.put, List.setIfInBounds_toArray, List.set_cons_zero, List.set_cons_succ])
      refine wpAnyH_ready (rs := [20]) (by kernel_rfl) (by simp) ?_
      refine AllReadyH.cons rfl (fun K hK => ?_) AllReadyH.nil
      go_simp
      refine (HD3.out _).mono ?_
      rintro e w6 ⟨rfl, rfl⟩
      (try dsimp only)
      refine hK.out _ _ (by exact hHeld) (fun hHeld => ?_)
      clear hK K
      (try simp only [Act.put, List.setIfInBounds_toArray, List.set_cons_zero, List.set_cons_succ])
      refine wpAnyH_take (i := 21) (v := ?_) rfl (by kernel_rfl) (by kernel_rfl) (by kernel_rfl) (fun _ _ _ h => h) (Or.inl ⟨by rfl, ?_⟩) hHeld ?_
      rotate_left
      · intro w hSw; (try dsimp only at hSw); skip; go_simp; (try with_reducible rfl)
      (try simp only [Act.put, List.setIfInBounds_toArray, List.set_cons_zero, List.set_cons_succ])
      refine wpAnyH_take (i := 22) (v := ?_) rfl (by kernel_rfl) (by kernel_rfl) (by kernel_rfl) (fun _ _ _ h => h) (Or.inl ⟨by rfl, ?_⟩) hHeld ?_
      rotate_left
      · intro w hSw; (try dsimp only at hSw); skip; go_simp; (try with_reducible rfl)
      (try simp only [Act.put, List.setIfInBounds_toArray, List.set_cons_zero, List.set_cons_succ])
      refine wpAnyH_take (i := 23) (v := ?_) rfl (by kernel_rfl) (by kernel_rfl) (by kernel_rfl) (fun _ _ _ h => h) (Or.inl ⟨by rfl, ?_⟩) hHeld ?_
      rotate_left
      · intro w hSw; (try dsimp only at hSw); skip; go_simp; (try with_reducible rfl)
      (try simp only [Act.put, List.setIfInBounds_toArray, List.set_cons_zero, List.set_cons_succ])
      refine wpAnyH_done (by kernel_rfl) ?_ _
      (try simp only [List.getElem_toArray, List.getElem_cons_zero, List.getElem_cons_succ, Act.put, List.setIfInBounds_toArray, List.set_cons_zero, List.set_cons_succ])
      go_wp2
      go_ret2
      exact ⟨rfl, (by repeat (first | exact Below.refl _ _ | assumption | (refine Below.setCell ?_ (by first | omega | (simp; done) | (simp; omega)) _) | (refine Below.alloc ?_ (by first | omega | (simp; done) | (simp; omega)) _) | refine Below.drew ?_ | (refine below_thru ?_ (by assumption) (by first | omega | (simp; done) | (simp; omega))) | refine below_drewN ?_ _))⟩

theorem rforces_any (g : Ga) (p a b : Int) (w : World) (ha : g.At w w.heap.size) (hg : g.Ok) (p0 : 0 ≤ p) (p1 : p ≤ g.travel) (a0 : -20000 ≤ a) (a1 : a ≤ 20000) (b0 : -20000 ≤ b) (b1 : b ≤ 20000) :
    Calls Tryz.prog 68 #[g.v, .int .i64 p, .int .i64 a, .int .i64 b] w fun e w' => e = .returned (.tuple #[.int .i64 (netF g p a b), .int .i64 (rubF g p a b)]) ∧ Below w.heap.size w w' := by
  by_cases hp : p = g.travel
  · exact rforces_a g p a b w ha hg p0 p1 hp a0 a1 b0 b1
  · exact rforces_b g p a b w ha hg p0 p1 hp a0 a1 b0 b1
end Go.Proofs.YtgdomaddjiggaaaGreat
