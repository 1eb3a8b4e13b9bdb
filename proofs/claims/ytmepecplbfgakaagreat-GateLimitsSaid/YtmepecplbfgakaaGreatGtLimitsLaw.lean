/- GateLimits: what a step does to a gate is within its limits. -/
import Derived.Test.YtmepecplbfgakaaGreatGtLimB
import Derived.Test.YtmepecplbfgakaaGreatGtLimC
namespace Go.Proofs.YtmepecplbfgakaaGreat
open Go.RowKit
set_option linter.unusedSimpArgs false
set_option linter.unusedVariables false

set_option maxRecDepth 100000 in
set_option maxHeartbeats 8000000 in
theorem limA (g : Ga) (s : Gs) (t : Gt) (w : World) (hg : g.At w w.heap.size) (h0 : (stepFt g s t).e = 0) (hw : t.power = false) :
    Calls Tryz.prog 11 #[g.v, s.v, t.v] w fun e w' => e = .returned (.bool true) ∧ Below w.heap.size w w' := by
  have Hg := Lib.hid hg
  have Hw := Lib.hid hw
  clear hw
  have hS := fun W h => Step_any g s t W h
  obtain ⟨hgo, hso, hto⟩ := step_ok hg h0
  have hu : stepU g s t = afterF g s t (lockF s t) := by unfold stepU; rw [if_pos h0]
  have hd : stepD g s t = cameF g s t (lockF s t) := by unfold stepD; rw [if_pos h0]
  rw [hu, hd, h0] at hS
  have hL := limits_any hgo hso t
  have hk := lock_is2 s t
  have hdir : t.order = 0 ∨ t.order = 1 ∨ t.order = 2 := by have := hto.o0; have := hto.o1; omega
  have haf : afterF g s t (lockF s t) = ⟨s.pos + (doneF g s t (lockF s t)).1, (afterF g s t (lockF s t)).charge, s.bolted⟩ := rfl
  have hcm : cameF g s t (lockF s t) = ⟨lockF s t, (doneF g s t (lockF s t)).1, (doneF g s t (lockF s t)).2⟩ := rfl
  rw [haf, hcm] at hS
  generalize (doneF g s t (lockF s t)).1 = mo at *
  generalize (doneF g s t (lockF s t)).2 = oi at *
  generalize (afterF g s t (lockF s t)).charge = ch at *
  generalize lockF s t = r at *
  obtain ⟨p0, p1, c0, c1, m0, b0, b1, o0, o1, hch, huse, dir1, dir2⟩ := hL
  obtain ⟨u, hu'⟩ : ∃ u, s.pos + mo = u := ⟨_, rfl⟩
  rw [hu'] at hS p0 p1
  have hS' : ∀ W, g.At W W.heap.size → Calls Tryz.prog 29 #[g.v, s.v, t.v] W fun e w' => e = .returned (.tuple #[.agg #[.int .i64 u, .int .i64 ch, .bool s.bolted], .agg #[.int .i64 r, .int .i64 mo, .int .i64 oi], .int .i64 0]) ∧ Below W.heap.size W w' := hS
  have HS := Lib.hid hS'
  clear hu hd hS hS' h0 hg haf hcm
  have HZ := Lib.hid (fun W => lsize_any mo W (by omega) (by omega))
  have am0 : 0 ≤ absI mo := by unfold absI; omega
  have am1 : absI mo ≤ 100 := by unfold absI; omega
  generalize absI mo = am at *
  obtain ⟨mx, hmx⟩ : ∃ mx, max g.speed g.gravity = mx := ⟨_, rfl⟩
  rw [hmx] at m0
  have hmx1 : (if g.speed < g.gravity then g.gravity else g.speed) = mx := by rw [← hmx]; split <;> omega
  have hmx2 : (if g.gravity < g.speed then g.speed else g.gravity) = mx := by rw [← hmx]; split <;> omega
  have gt0 := hgo.t0
  have gt1 := hgo.t1
  have gs0 := hgo.speed0
  have gs1 := hgo.speed1
  have gg0 := hgo.gravity0
  have gg1 := hgo.gravity1
  have gp0 := hgo.pump0
  have gp1 := hgo.pump1
  have gc0 := hgo.cap0
  have gc1 := hgo.cap1
  have hso_use0 := hgo.use0
  have hso_use1 := hgo.use1
  have sp0 := hso.p0
  have sp1 := hso.p1
  have sc0 := hso.c0
  have sc1 := hso.c1
  have Hk : Hid ((t.order = 0 ∧ s.bolted = true ∧ r = 0) ∨ (t.order = 0 ∧ s.bolted = false ∧ r = 0) ∨ (t.order = 1 ∧ 0 ≤ mo ∧ s.bolted = true ∧ r = 130) ∨ (t.order = 1 ∧ 0 ≤ mo ∧ s.bolted = false ∧ r = 0) ∨ (t.order = 2 ∧ mo ≤ 0 ∧ s.bolted = true ∧ r = 130) ∨ (t.order = 2 ∧ mo ≤ 0 ∧ s.bolted = false ∧ r = 0)) := by
    rcases hk with ⟨h1, h2⟩ | ⟨h1, h2, h3⟩
    · cases hb : s.bolted
      · rcases hdir with h | h | h
        · exact .inr (.inl ⟨h, rfl, h1⟩)
        · exact .inr (.inr (.inr (.inl ⟨h, dir1 h, rfl, h1⟩)))
        · exact .inr (.inr (.inr (.inr (.inr ⟨h, dir2 h, rfl, h1⟩))))
      · rcases h2 with h2 | h2
        · exact .inl ⟨h2, rfl, h1⟩
        · rw [hb] at h2; cases h2
    · rcases hdir with h | h | h
      · exact absurd h h3
      · exact .inr (.inr (.inl ⟨h, dir1 h, h2, h1⟩))
      · exact .inr (.inr (.inr (.inr (.inl ⟨h, dir2 h, h2, h1⟩))))
  have hway : (t.power = false ∧ oi = 0 ∧ ch = s.charge) ∨ (t.power = true ∧ oi = 0 ∧ ((g.capacity < s.charge + g.pump ∧ ch = g.capacity) ∨ (¬ g.capacity < s.charge + g.pump ∧ ch = s.charge + g.pump))) ∨
      (t.power = true ∧ 0 < oi ∧ t.order ≠ 0 ∧ am ≤ g.speed ∧ oi = (am * g.use + 99) / 100 ∧ ((g.capacity < s.charge - oi + g.pump ∧ ch = g.capacity) ∨ (¬ g.capacity < s.charge - oi + g.pump ∧ ch = s.charge - oi + g.pump))) := by
    rcases (show oi = 0 ∨ 0 < oi by omega) with h | h
    · cases hp : t.power
      · rw [hp] at hch
        refine .inl ⟨rfl, h, ?_⟩
        simp at hch
        omega
      · rw [hp, if_pos rfl] at hch
        exact .inr (.inl ⟨rfl, h, by omega⟩)
    · obtain ⟨h1, h2, h3, h4⟩ := huse h
      rw [h1, if_pos rfl] at hch
      exact .inr (.inr ⟨h1, h, h2, h3, h4, by omega⟩)
  have hmul : 0 ≤ am * g.use ∧ am * g.use ≤ 100 * 100000 := mul0 am0 am1 hso_use0 hso_use1
  have Hmul := Lib.hid hmul
  clear hgo hso hto hmx huse dir1 dir2 hch hk hdir hmul hso_use0 hso_use1
  have hw2 : IntKind.i64.wrap u = u := IntWalk.i64_in _ (by omega)
  have hw1 : IntKind.i64.wrap (s.pos + mo) = u := by rw [IntWalk.i64_in _ (by omega)]; exact hu'
  have hne2 : (s.bolted != s.bolted) = false := by simp
  have Hway := Lib.hid hway
  have y0 : IntKind.i64.wrap s.charge = s.charge := IntWalk.i64_in _ (by omega)
  have y1 : IntKind.i64.wrap (s.charge - oi) = s.charge - oi := IntWalk.i64_in _ (by omega)
  have y2 : IntKind.i64.wrap (s.charge - oi + g.pump) = s.charge - oi + g.pump := IntWalk.i64_in _ (by omega)
  have y3 : IntKind.i64.wrap (s.charge + g.pump) = s.charge + g.pump := IntWalk.i64_in _ (by omega)
  clear hway
  go_enter Tryz.func11, Tryz.ntmps11
  go_wp2_with (with_reducible refine wpl_g (g := g) ((((Blk.new w _ _).alloc _).alloc _)) rfl rfl rfl ?_)
  refine (HS.out _ (Hg.out.grow (by repeat (first | exact Below.refl _ _ | assumption | (refine Below.setCell ?_ (by first | omega | (simp; done) | (simp; omega)) _) | (refine Below.alloc ?_ (by first | omega | (simp; done) | (simp; omega)) _) | refine Below.drew ?_ | (refine below_thru ?_ (by assumption) (by first | omega | (simp; done) | (simp; omega))) | refine below_drewN ?_ _)))).mono ?_
  rintro e w1 ⟨rfl, hb1⟩
  obtain ⟨hc1, hf1⟩ := bcell hb1; have hz1 := hb1.size; (try simp at hz1)
  have hl0 : w.heap.size < w1.heap.size := by omega
  have hl1 : w.heap.size + 1 < w1.heap.size := by omega
  have hl2 : w.heap.size + 1 + 1 < w1.heap.size := by omega
  clear HS
  go_wp2_with fail
  go_quiet ((go_at_call 48; exact quiet_is (fun W => HZ.out W)))
  have hw := Hw.out
  obtain ⟨ho, hc⟩ : oi = 0 ∧ ch = s.charge := by
    rcases Hway.out with ⟨_, h⟩ | ⟨h, _⟩ | ⟨h, _⟩
    · exact h
    · rw [hw] at h; cases h
    · rw [hw] at h; cases h
  have x3 : ¬ g.capacity < s.charge := by omega
  subst ho hc
  go_wp2_with fail
  go_quiet ((go_at_call 48; exact quiet_is (fun W => HZ.out W)))
  rcases Hk.out with ⟨h1, h2, h3⟩ | ⟨h1, h2, h3⟩ | ⟨h1, hd, h2, h3⟩ | ⟨h1, hd, h2, h3⟩ | ⟨h1, hd, h2, h3⟩ | ⟨h1, hd, h2, h3⟩
  all_goals
    subst h3
    go_wp2_with fail
    refine (Awake_any _).mono ?_
    rintro e w2 ⟨rfl, hb2⟩
    go_wp2
    go_ret
    exact ⟨rfl, (by repeat (first | exact Below.refl _ _ | assumption | (refine Below.setCell ?_ (by first | omega | (simp; done) | (simp; omega)) _) | (refine Below.alloc ?_ (by first | omega | (simp; done) | (simp; omega)) _) | refine Below.drew ?_ | (refine below_thru ?_ (by assumption) (by first | omega | (simp; done) | (simp; omega))) | refine below_drewN ?_ _))⟩
set_option maxRecDepth 100000 in
set_option maxHeartbeats 8000000 in
theorem GateLimits_any (g : Ga) (s : Gs) (t : Gt) (w : World) (hg : g.At w w.heap.size) :
    Calls Tryz.prog 11 #[g.v, s.v, t.v] w fun e w' => e = .returned (.bool true) ∧ Below w.heap.size w w' := by
  have Hg := Lib.hid hg
  have hS := fun W h => Step_any g s t W h
  by_cases h0 : (stepFt g s t).e = 0
  · have hoo := (limits_any (step_ok hg h0).1 (step_ok hg h0).2.1 t).o0
    rcases (show (doneF g s t (lockF s t)).2 = 0 ∨ 0 < (doneF g s t (lockF s t)).2 by omega) with h | h
    · cases hp : t.power
      · exact limA g s t w hg h0 hp
      · exact limB g s t w hg h0 hp h
    · exact limC g s t w hg h0 h
  · have hu : stepU g s t = ⟨0, 0, false⟩ := by unfold stepU; rw [if_neg h0]
    have hd : stepD g s t = ⟨0, 0, 0⟩ := by unfold stepD; rw [if_neg h0]
    rw [hu, hd] at hS
    generalize (stepFt g s t).e = fe at *
    have hS' : ∀ W, g.At W W.heap.size → Calls Tryz.prog 29 #[g.v, s.v, t.v] W fun e w' => e = .returned (.tuple #[.agg #[.int .i64 0, .int .i64 0, .bool false], .agg #[.int .i64 0, .int .i64 0, .int .i64 0], .int .i64 fe]) ∧ Below W.heap.size W w' := hS
    have HS := Lib.hid hS'
    have h0' : (fe != 0) = true := by rw [bne_iff_ne]; exact h0
    clear hu hd hS hS' h0 hg
    go_enter Tryz.func11, Tryz.ntmps11
    go_wp2_with (with_reducible refine wpl_g (g := g) ((((Blk.new w _ _).alloc _).alloc _)) rfl rfl rfl ?_)
    refine (HS.out _ (Hg.out.grow (by repeat (first | exact Below.refl _ _ | assumption | (refine Below.setCell ?_ (by first | omega | (simp; done) | (simp; omega)) _) | (refine Below.alloc ?_ (by first | omega | (simp; done) | (simp; omega)) _) | refine Below.drew ?_ | (refine below_thru ?_ (by assumption) (by first | omega | (simp; done) | (simp; omega))) | refine below_drewN ?_ _)))).mono ?_
    rintro e w1 ⟨rfl, hb1⟩
    obtain ⟨hc1, hf1⟩ := bcell hb1; have hz1 := hb1.size; (try simp at hz1)
    have hl0 : w.heap.size < w1.heap.size := by omega
    go_wp2_with fail
    refine (Awake_any _).mono ?_
    rintro e w2 ⟨rfl, hb2⟩
    go_wp2
    go_ret
    exact ⟨rfl, (by repeat (first | exact Below.refl _ _ | assumption | (refine Below.setCell ?_ (by first | omega | (simp; done) | (simp; omega)) _) | (refine Below.alloc ?_ (by first | omega | (simp; done) | (simp; omega)) _) | refine Below.drew ?_ | (refine below_thru ?_ (by assumption) (by first | omega | (simp; done) | (simp; omega))) | refine below_drewN ?_ _))⟩
end Go.Proofs.YtmepecplbfgakaaGreat
