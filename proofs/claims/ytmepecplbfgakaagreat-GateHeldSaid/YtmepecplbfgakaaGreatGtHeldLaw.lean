/- GateHeld: what a gate that is held, or bolted, does in a step. -/
import Derived.Test.YtmepecplbfgakaaGreatGtLimitsM
import Derived.Test.YtmepecplbfgakaaGreatGtForce
namespace Go.Proofs.YtmepecplbfgakaaGreat
open Go.RowKit
set_option linter.unusedSimpArgs false
set_option linter.unusedVariables false

theorem force_of_step {g : Ga} {s : Gs} {t : Gt} (h : (stepFt g s t).e = 0) : (forceFt g s.pos t.outer t.inner).e = 0 := by
  have h1 := first0 _ h _ (by simp : stateFt g s ∈ [stateFt g s, orderFt t])
  have h2 := first0 _ h _ (by simp : orderFt t ∈ [stateFt g s, orderFt t])
  have h3 := first0 _ h1 _ (by simp : gateF g ∈ [gateF g, need (stateB g s) 7])
  have h4 := need_e (b := stateB g s) (c := 7) (by omega) (first0 _ h1 (need (stateB g s) 7) (by simp))
  have h5 := need_e (b := levels2B t.outer t.inner) (c := 7) (by omega) (first0 _ h2 (need (levels2B t.outer t.inner) 7) (by simp))
  simp only [stateB, Bool.and_eq_true] at h4
  have h6 : levelsFt g t.outer t.inner = ⟨0, 0, 0⟩ := firstF_all _ fun j f hj => by
    match j, hj with
    | 0, hj => cases hj; exact h3
    | 1, hj => cases hj; rw [h5]; rfl
    | j + 2, hj => simp at hj
  have h7 : forceFt g s.pos t.outer t.inner = ⟨0, 0, 0⟩ := firstF_all _ fun j f hj => by
    match j, hj with
    | 0, hj => cases hj; rw [h6]
    | 1, hj => cases hj; rw [h4.1]; rfl
    | j + 2, hj => simp at hj
  rw [h7]

set_option maxRecDepth 100000 in
set_option maxHeartbeats 8000000 in
theorem GateHeld_any (g : Ga) (s : Gs) (t : Gt) (w : World) (hg : g.At w w.heap.size) :
    Calls Tryz.prog 13 #[g.v, s.v, t.v] w fun e w' => e = .returned (.bool true) ∧ Below w.heap.size w w' := by
  have Hg := Lib.hid hg
  have hS := fun W h => Step_any g s t W h
  have hF := fun W h => Force_any g s.pos t.outer t.inner W h
  by_cases h0 : (stepFt g s t).e = 0
  · obtain ⟨hgo, hso, hto⟩ := step_ok hg h0
    have hu : stepU g s t = afterF g s t (lockF s t) := by unfold stepU; rw [if_pos h0]
    have hd : stepD g s t = cameF g s t (lockF s t) := by unfold stepD; rw [if_pos h0]
    rw [hu, hd, h0] at hS
    have hff : forceR g s.pos t.outer t.inner = (netF g s.pos t.outer t.inner, rubF g s.pos t.outer t.inner, 0) := by unfold forceR; rw [if_pos (force_of_step h0)]
    rw [hff] at hF
    obtain ⟨k1, k2, k3, k4⟩ := held_any hgo hso t
    have hdir : t.order = 0 ∨ t.order ≠ 0 := by omega
    obtain ⟨n0, n1⟩ := net_in hgo hg.ol hso.p0 hso.p1 hto.a0 hto.a1 hto.b0 hto.b1
    obtain ⟨r0, r1⟩ := rub_in hgo s.pos hto.a0 hto.a1 hto.b0 hto.b1
    have haf : afterF g s t (lockF s t) = ⟨s.pos + (doneF g s t (lockF s t)).1, (afterF g s t (lockF s t)).charge, s.bolted⟩ := rfl
    have hcm : cameF g s t (lockF s t) = ⟨lockF s t, (doneF g s t (lockF s t)).1, (doneF g s t (lockF s t)).2⟩ := rfl
    rw [haf, hcm] at hS
    generalize (doneF g s t (lockF s t)).1 = mo at *
    generalize (doneF g s t (lockF s t)).2 = oi at *
    generalize (afterF g s t (lockF s t)).charge = ch at *
    generalize lockF s t = r at *
    generalize netF g s.pos t.outer t.inner = nt at *
    generalize rubF g s.pos t.outer t.inner = rb at *
    have HZ := Lib.hid (fun W => lsize_any nt W (by omega) (by omega))
    have am0 : absI nt ≤ 900000 := by unfold absI; omega
    generalize absI nt = am at *
    obtain ⟨u, hu'⟩ : ∃ u, s.pos + mo = u := ⟨_, rfl⟩
    rw [hu'] at hS
    have hS' : ∀ W, g.At W W.heap.size → Calls Tryz.prog 29 #[g.v, s.v, t.v] W fun e w' => e = .returned (.tuple #[.agg #[.int .i64 u, .int .i64 ch, .bool s.bolted], .agg #[.int .i64 r, .int .i64 mo, .int .i64 oi], .int .i64 0]) ∧ Below W.heap.size W w' := hS
    have hF' : ∀ W, g.At W W.heap.size → Calls Tryz.prog 25 #[g.v, .int .i64 s.pos, .int .i64 t.outer, .int .i64 t.inner] W fun e w' => e = .returned (.tuple #[.int .i64 nt, .int .i64 rb, .int .i64 0]) ∧ Below W.heap.size W w' := hF
    have HS := Lib.hid hS'
    have HF := Lib.hid hF'
    have hways : (s.bolted = true ∧ mo = 0 ∧ u = s.pos) ∨ (s.bolted = false ∧ t.order ≠ 0) ∨ (s.bolted = false ∧ t.order = 0 ∧ ¬ g.brake + rb < am ∧ mo = 0) ∨
        (s.bolted = false ∧ t.order = 0 ∧ g.brake + rb < am ∧ 0 < nt ∧ g.travel - s.pos < g.gravity ∧ mo = g.travel - s.pos) ∨ (s.bolted = false ∧ t.order = 0 ∧ g.brake + rb < am ∧ 0 < nt ∧ ¬ g.travel - s.pos < g.gravity ∧ mo = g.gravity) ∨
        (s.bolted = false ∧ t.order = 0 ∧ g.brake + rb < am ∧ ¬ 0 < nt ∧ s.pos < g.gravity ∧ mo = -s.pos) ∨ (s.bolted = false ∧ t.order = 0 ∧ g.brake + rb < am ∧ ¬ 0 < nt ∧ ¬ s.pos < g.gravity ∧ mo = -g.gravity) := by
      cases hb : s.bolted
      · rcases hdir with h | h
        · by_cases ha : g.brake + rb < am
          · by_cases hp : 0 < nt
            · have := k3 hb h ha hp
              by_cases hm : g.travel - s.pos < g.gravity
              · exact .inr (.inr (.inr (.inl ⟨rfl, h, ha, hp, hm, by omega⟩)))
              · exact .inr (.inr (.inr (.inr (.inl ⟨rfl, h, ha, hp, hm, by omega⟩))))
            · have := k4 hb h r0 ha hp
              by_cases hm : s.pos < g.gravity
              · exact .inr (.inr (.inr (.inr (.inr (.inl ⟨rfl, h, ha, hp, hm, by omega⟩)))))
              · exact .inr (.inr (.inr (.inr (.inr (.inr ⟨rfl, h, ha, hp, hm, by omega⟩)))))
          · exact .inr (.inr (.inl ⟨rfl, h, ha, k2 hb h (by omega)⟩))
        · exact .inr (.inl ⟨rfl, h⟩)
      · have := k1 hb
        exact .inl ⟨rfl, this, by omega⟩
    have Hways := Lib.hid hways
    have gt0 := hgo.t0
    have gt1 := hgo.t1
    have gg0 := hgo.gravity0
    have gg1 := hgo.gravity1
    have gb0 := hgo.brake0
    have gb1 := hgo.brake1
    have sp0 := hso.p0
    have sp1 := hso.p1
    have y0 : IntKind.i64.wrap (g.brake + rb) = g.brake + rb := IntWalk.i64_in _ (by omega)
    have y1 : IntKind.i64.wrap (g.travel - s.pos) = g.travel - s.pos := IntWalk.i64_in _ (by omega)
    have y2 : IntKind.i64.wrap (-s.pos) = -s.pos := IntWalk.i64_in _ (by omega)
    have y3 : IntKind.i64.wrap (-g.gravity) = -g.gravity := IntWalk.i64_in _ (by omega)
    clear hu hd hS hS' hF hF' h0 hg haf hcm hff k1 k2 k3 k4 hdir hways hgo hso hto
    go_enter Tryz.func13, Tryz.ntmps13
    go_wp2_with (with_reducible refine wpl_g (g := g) ((((Blk.new w _ _).alloc _).alloc _)) rfl rfl rfl ?_)
    refine (HS.out _ (Hg.out.grow (by repeat (first | exact Below.refl _ _ | assumption | (refine Below.setCell ?_ (by first | omega | (simp; done) | (simp; omega)) _) | (refine Below.alloc ?_ (by first | omega | (simp; done) | (simp; omega)) _) | refine Below.drew ?_ | (refine below_thru ?_ (by assumption) (by first | omega | (simp; done) | (simp; omega))) | refine below_drewN ?_ _)))).mono ?_
    rintro e w1 ⟨rfl, hb1⟩
    obtain ⟨hc1, hf1⟩ := bcell hb1; have hz1 := hb1.size; (try simp at hz1)
    have hB1 : Blk w1 w.heap.size 33 (grow g) := Blk.thru (by (repeat (first | assumption | exact Blk.new _ _ _ | (refine Blk.new' _ _ _ ?_; (simp; done)) | refine Blk.drew ?_ | refine Blk.alloc ?_ _ | (refine Blk.fars ?_ ?_ _ _; rotate_left; (dsimp only; omega)) | (refine Blk.far ?_ ?_ _; rotate_left; (first | (dsimp only; omega) | (simp; done) | (simp; omega) | omega))))) hb1 (by simp <;> omega)
    have hBw1 : Below w.heap.size w w1 := (by repeat (first | exact Below.refl _ _ | assumption | (refine Below.setCell ?_ (by first | omega | (simp; done) | (simp; omega)) _) | (refine Below.alloc ?_ (by first | omega | (simp; done) | (simp; omega)) _) | refine Below.drew ?_ | (refine below_thru ?_ (by assumption) (by first | omega | (simp; done) | (simp; omega))) | refine below_drewN ?_ _))
    have hl0 : w.heap.size < w1.heap.size := by omega
    have hl1 : w.heap.size + 1 < w1.heap.size := by omega
    have hl2 : w.heap.size + 1 + 1 < w1.heap.size := by omega
    go_wp2_with (with_reducible refine wpl_g (g := g) (b := w.heap.size) (t := 33) (by (repeat (first | assumption | exact Blk.new _ _ _ | (refine Blk.new' _ _ _ ?_; (simp; done)) | refine Blk.drew ?_ | refine Blk.alloc ?_ _ | (refine Blk.fars ?_ ?_ _ _; rotate_left; (dsimp only; omega)) | (refine Blk.far ?_ ?_ _; rotate_left; (first | (dsimp only; omega) | (simp; done) | (simp; omega) | omega))))) rfl rfl rfl ?_)
    refine (HF.out _ (Hg.out.grow (by repeat (first | exact Below.refl _ _ | assumption | (refine Below.setCell ?_ (by first | omega | (simp; done) | (simp; omega)) _) | (refine Below.alloc ?_ (by first | omega | (simp; done) | (simp; omega)) _) | refine Below.drew ?_ | (refine below_thru ?_ (by assumption) (by first | omega | (simp; done) | (simp; omega))) | refine below_drewN ?_ _)))).mono ?_
    rintro e w2 ⟨rfl, hb2⟩
    obtain ⟨hc2, hf2⟩ := bcell hb2; have hz2 := hb2.size; (try simp at hz2)
    have hl3 : w1.heap.size + 1 < w2.heap.size := by omega
    have hl4 : w1.heap.size < w2.heap.size := by omega
    have hl5 : w.heap.size < w2.heap.size := by omega
    have hl6 : w.heap.size + 1 < w2.heap.size := by omega
    have hl7 : w.heap.size + 1 + 1 < w2.heap.size := by omega
    have hB2 : Blk w2 w.heap.size 33 (grow g) := Blk.thru (by (repeat (first | assumption | exact Blk.new _ _ _ | (refine Blk.new' _ _ _ ?_; (simp; done)) | refine Blk.drew ?_ | refine Blk.alloc ?_ _ | (refine Blk.fars ?_ ?_ _ _; rotate_left; (dsimp only; omega)) | (refine Blk.far ?_ ?_ _; rotate_left; (first | (dsimp only; omega) | (simp; done) | (simp; omega) | omega))))) hb2 (by simp <;> omega)
    have k2 : w2.cell? ⟨w.heap.size, 2, none⟩ = some (.int .i64 g.travel) := hB2.cell 2
    have k12 : w2.cell? ⟨w.heap.size, 12, none⟩ = some (.int .i64 g.brake) := hB2.cell 12
    have k14 : w2.cell? ⟨w.heap.size, 14, none⟩ = some (.int .i64 g.gravity) := hB2.cell 14
    rcases Hways.out with ⟨hbo, hm, hup⟩ | ⟨hbo, ho⟩ | ⟨hbo, ho, ha, hm⟩ | ⟨hbo, ho, ha, hp, hc, hm⟩ | ⟨hbo, ho, ha, hp, hc, hm⟩ | ⟨hbo, ho, ha, hp, hc, hm⟩ | ⟨hbo, ho, ha, hp, hc, hm⟩
    · subst hm hup
      go_wp2_with fail
      refine (Awake_any _).mono ?_
      rintro e w3 ⟨rfl, hb3⟩
      go_wp2
      go_ret
      exact ⟨rfl, (by repeat (first | exact Below.refl _ _ | assumption | (refine Below.setCell ?_ (by first | omega | (simp; done) | (simp; omega)) _) | (refine Below.alloc ?_ (by first | omega | (simp; done) | (simp; omega)) _) | refine Below.drew ?_ | (refine below_thru ?_ (by assumption) (by first | omega | (simp; done) | (simp; omega))) | refine below_drewN ?_ _))⟩
    · have hob : (t.order == 0) = false := by rw [beq_eq_false_iff_ne]; exact ho
      have hob2 : (t.order != 0) = true := by rw [bne_iff_ne]; exact ho
      go_wp2_with fail
      refine (Awake_any _).mono ?_
      rintro e w3 ⟨rfl, hb3⟩
      go_wp2
      go_ret
      exact ⟨rfl, (by repeat (first | exact Below.refl _ _ | assumption | (refine Below.setCell ?_ (by first | omega | (simp; done) | (simp; omega)) _) | (refine Below.alloc ?_ (by first | omega | (simp; done) | (simp; omega)) _) | refine Below.drew ?_ | (refine below_thru ?_ (by assumption) (by first | omega | (simp; done) | (simp; omega))) | refine below_drewN ?_ _))⟩
    all_goals
      subst hm
      go_wp2_with fail
      go_quiet ((go_at_call 48; first | exact quiet_is (fun W => HZ.out W) | exact quiet_is2 (fun W => HZ.out W)))
      go_wp2_with fail
      refine (Awake_any _).mono ?_
      rintro e w3 ⟨rfl, hb3⟩
      go_wp2
      go_ret
      exact ⟨rfl, (by repeat (first | exact Below.refl _ _ | assumption | (refine Below.setCell ?_ (by first | omega | (simp; done) | (simp; omega)) _) | (refine Below.alloc ?_ (by first | omega | (simp; done) | (simp; omega)) _) | refine Below.drew ?_ | (refine below_thru ?_ (by assumption) (by first | omega | (simp; done) | (simp; omega))) | refine below_drewN ?_ _))⟩
  · generalize stepU g s t = u at *
    generalize stepD g s t = d at *
    generalize (stepFt g s t).e = fe at *
    generalize forceR g s.pos t.outer t.inner = fr at *
    obtain ⟨up, uc, ub⟩ := u
    obtain ⟨dr, dm, di⟩ := d
    obtain ⟨nt, rb, ff⟩ := fr
    have hS' : ∀ W, g.At W W.heap.size → Calls Tryz.prog 29 #[g.v, s.v, t.v] W fun e w' => e = .returned (.tuple #[.agg #[.int .i64 up, .int .i64 uc, .bool ub], .agg #[.int .i64 dr, .int .i64 dm, .int .i64 di], .int .i64 fe]) ∧ Below W.heap.size W w' := hS
    have hF' : ∀ W, g.At W W.heap.size → Calls Tryz.prog 25 #[g.v, .int .i64 s.pos, .int .i64 t.outer, .int .i64 t.inner] W fun e w' => e = .returned (.tuple #[.int .i64 nt, .int .i64 rb, .int .i64 ff]) ∧ Below W.heap.size W w' := hF
    have HS := Lib.hid hS'
    have HF := Lib.hid hF'
    have h0' : (fe != 0) = true := by rw [bne_iff_ne]; exact h0
    clear hS hS' hF hF' h0 hg
    go_enter Tryz.func13, Tryz.ntmps13
    go_wp2_with (with_reducible refine wpl_g (g := g) ((((Blk.new w _ _).alloc _).alloc _)) rfl rfl rfl ?_)
    refine (HS.out _ (Hg.out.grow (by repeat (first | exact Below.refl _ _ | assumption | (refine Below.setCell ?_ (by first | omega | (simp; done) | (simp; omega)) _) | (refine Below.alloc ?_ (by first | omega | (simp; done) | (simp; omega)) _) | refine Below.drew ?_ | (refine below_thru ?_ (by assumption) (by first | omega | (simp; done) | (simp; omega))) | refine below_drewN ?_ _)))).mono ?_
    rintro e w1 ⟨rfl, hb1⟩
    obtain ⟨hc1, hf1⟩ := bcell hb1; have hz1 := hb1.size; (try simp at hz1)
    have hB1 : Blk w1 w.heap.size 33 (grow g) := Blk.thru (by (repeat (first | assumption | exact Blk.new _ _ _ | (refine Blk.new' _ _ _ ?_; (simp; done)) | refine Blk.drew ?_ | refine Blk.alloc ?_ _ | (refine Blk.fars ?_ ?_ _ _; rotate_left; (dsimp only; omega)) | (refine Blk.far ?_ ?_ _; rotate_left; (first | (dsimp only; omega) | (simp; done) | (simp; omega) | omega))))) hb1 (by simp <;> omega)
    have hl0 : w.heap.size < w1.heap.size := by omega
    have hl1 : w.heap.size + 1 < w1.heap.size := by omega
    have hl2 : w.heap.size + 1 + 1 < w1.heap.size := by omega
    go_wp2_with (with_reducible refine wpl_g (g := g) (b := w.heap.size) (t := 33) (by (repeat (first | assumption | exact Blk.new _ _ _ | (refine Blk.new' _ _ _ ?_; (simp; done)) | refine Blk.drew ?_ | refine Blk.alloc ?_ _ | (refine Blk.fars ?_ ?_ _ _; rotate_left; (dsimp only; omega)) | (refine Blk.far ?_ ?_ _; rotate_left; (first | (dsimp only; omega) | (simp; done) | (simp; omega) | omega))))) rfl rfl rfl ?_)
    refine (HF.out _ (Hg.out.grow (by repeat (first | exact Below.refl _ _ | assumption | (refine Below.setCell ?_ (by first | omega | (simp; done) | (simp; omega)) _) | (refine Below.alloc ?_ (by first | omega | (simp; done) | (simp; omega)) _) | refine Below.drew ?_ | (refine below_thru ?_ (by assumption) (by first | omega | (simp; done) | (simp; omega))) | refine below_drewN ?_ _)))).mono ?_
    rintro e w2 ⟨rfl, hb2⟩
    obtain ⟨hc2, hf2⟩ := bcell hb2; have hz2 := hb2.size; (try simp at hz2)
    go_wp2_with fail
    refine (Awake_any _).mono ?_
    rintro e w3 ⟨rfl, hb3⟩
    go_wp2
    go_ret
    exact ⟨rfl, (by repeat (first | exact Below.refl _ _ | assumption | (refine Below.setCell ?_ (by first | omega | (simp; done) | (simp; omega)) _) | (refine Below.alloc ?_ (by first | omega | (simp; done) | (simp; omega)) _) | refine Below.drew ?_ | (refine below_thru ?_ (by assumption) (by first | omega | (simp; done) | (simp; omega))) | refine below_drewN ?_ _))⟩
end Go.Proofs.YtmepecplbfgakaaGreat
