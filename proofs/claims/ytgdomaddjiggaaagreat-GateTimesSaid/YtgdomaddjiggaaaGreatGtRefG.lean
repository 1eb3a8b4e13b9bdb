/- The reference's small parts of a step: states, steps, oil, how far a gate is driven. The reference: how far a gate is driven. -/
import Derived.Test.YtgdomaddjiggaaaGreatGtRefA
import Derived.Test.YtgdomaddjiggaaaGreatGtFaults
import Derived.Test.YtgdomaddjiggaaaGreatGtStepT
import Derived.Test.YtgdomaddjiggaaaGreatGtSetOf
namespace Go.Proofs.YtgdomaddjiggaaaGreat
open Go.RowKit
set_option linter.unusedSimpArgs false
set_option linter.unusedVariables false

def stateR (g : Ga) (s : Gs) : Int := if stateB g s = true then 0 else 7
def validR (g : Ga) (s : Gs) (t : Gt) : Int := if stateB g s = true then (if betw t.order 0 2 = true then (if levels2B t.outer t.inner = true then 0 else 7) else 2) else 7
theorem step_valid (g : Ga) (s : Gs) (t : Gt) : (stepFt g s t).e = if (gateF g).e = 0 then validR g s t else (gateF g).e := by
  unfold stepFt stateFt orderFt validR
  by_cases h : (gateF g).e = 0
  · cases h1 : stateB g s <;> cases h2 : betw t.order 0 2 <;> cases h3 : levels2B t.outer t.inner <;> simp [firstF, need, h]
  · simp [firstF, h]

set_option maxRecDepth 100000 in
set_option maxHeartbeats 1000000 in
theorem rstate_any (g : Ga) (s : Gs) (w : World) : Calls Tryz.prog 84 #[g.v, s.v] w fun e w' => e = .returned (.int .i64 (stateR g s)) ∧ Below w.heap.size w w' := by
  have H1 := Lib.hid (rin_is s.pos 0 g.travel _ rfl)
  have H2 := Lib.hid (rin_is s.charge 0 g.capacity _ rfl)
  have hf : stateR g s = if (betw s.pos 0 g.travel && betw s.charge 0 g.capacity) = true then 0 else 7 := rfl
  rw [hf]
  clear hf
  cases h1 : betw s.pos 0 g.travel
  · rw [h1] at H1
    clear h1
    go_enter Tryz.func84, Tryz.ntmps84
    go_wp2_with fail
    refine (H1.out _).mono ?_
    rintro e w' ⟨rfl, rfl⟩
    go_wp2
    go_ret
    exact ⟨rfl, (by repeat (first | exact Below.refl _ _ | assumption | (refine Below.setCell ?_ (by first | omega | (simp; done) | (simp; omega)) _) | (refine Below.alloc ?_ (by first | omega | (simp; done) | (simp; omega)) _) | refine Below.drew ?_ | (refine below_thru ?_ (by assumption) (by first | omega | (simp; done) | (simp; omega))) | refine below_drewN ?_ _))⟩
  · rw [h1] at H1
    cases h2 : betw s.charge 0 g.capacity
    all_goals
      rw [h2] at H2
      clear h1 h2
      go_enter Tryz.func84, Tryz.ntmps84
      go_wp2_with fail
      refine (H1.out _).mono ?_
      rintro e w' ⟨rfl, rfl⟩
      go_wp2_with fail
      refine (H2.out _).mono ?_
      rintro e w' ⟨rfl, rfl⟩
      go_wp2
      go_ret
      exact ⟨rfl, (by repeat (first | exact Below.refl _ _ | assumption | (refine Below.setCell ?_ (by first | omega | (simp; done) | (simp; omega)) _) | (refine Below.alloc ?_ (by first | omega | (simp; done) | (simp; omega)) _) | refine Below.drew ?_ | (refine below_thru ?_ (by assumption) (by first | omega | (simp; done) | (simp; omega))) | refine below_drewN ?_ _))⟩

set_option maxRecDepth 100000 in
set_option maxHeartbeats 1000000 in
theorem rvalid_any (g : Ga) (s : Gs) (t : Gt) (w : World) : Calls Tryz.prog 73 #[g.v, s.v, t.v] w fun e w' => e = .returned (.int .i64 (validR g s t)) ∧ Below w.heap.size w w' := by
  have HS := Lib.hid (fun W => rstate_any g s W)
  have H1 := Lib.hid (rin_is t.order 0 2 _ rfl)
  have H2 := Lib.hid (rlevel_is t.outer _ rfl)
  have H3 := Lib.hid (rlevel_is t.inner _ rfl)
  unfold validR
  rw [show levels2B t.outer t.inner = (levelB t.outer && levelB t.inner) from rfl]
  unfold stateR at HS
  cases h0 : stateB g s
  · rw [h0] at HS
    have HS := Lib.hid (show ∀ W : World, Calls Tryz.prog 84 #[g.v, s.v] W fun e w' => e = .returned (.int .i64 7) ∧ Below W.heap.size W w' from HS.out)
    clear h0
    go_enter Tryz.func73, Tryz.ntmps73
    go_wp2_with (with_reducible refine wpl_g (g := g) (((Blk.new w _ _).alloc _).alloc _) rfl rfl rfl ?_)
    refine (HS.out _).mono ?_
    rintro e w1 ⟨rfl, hb1⟩
    obtain ⟨hc1, hf1⟩ := bcell hb1; have hz1 := hb1.size; (try simp at hz1)
    go_wp2
    go_ret
    exact ⟨rfl, (by repeat (first | exact Below.refl _ _ | assumption | (refine Below.setCell ?_ (by first | omega | (simp; done) | (simp; omega)) _) | (refine Below.alloc ?_ (by first | omega | (simp; done) | (simp; omega)) _) | refine Below.drew ?_ | (refine below_thru ?_ (by assumption) (by first | omega | (simp; done) | (simp; omega))) | refine below_drewN ?_ _))⟩
  · rw [h0] at HS
    have HS := Lib.hid (show ∀ W : World, Calls Tryz.prog 84 #[g.v, s.v] W fun e w' => e = .returned (.int .i64 0) ∧ Below W.heap.size W w' from HS.out)
    clear h0
    generalize betw t.order 0 2 = b1 at *
    generalize levelB t.outer = b2 at *
    generalize levelB t.inner = b3 at *
    cases b1
    · go_enter Tryz.func73, Tryz.ntmps73
      go_wp2_with (with_reducible refine wpl_g (g := g) (((Blk.new w _ _).alloc _).alloc _) rfl rfl rfl ?_)
      refine (HS.out _).mono ?_
      rintro e w1 ⟨rfl, hb1⟩
      obtain ⟨hc1, hf1⟩ := bcell hb1; have hz1 := hb1.size; (try simp at hz1)
      have hl2 : w.heap.size + 1 + 1 < w1.heap.size := by omega
      go_wp2_with fail
      refine (H1.out _).mono ?_
      rintro e w' ⟨rfl, rfl⟩
      go_wp2
      go_ret
      exact ⟨rfl, (by repeat (first | exact Below.refl _ _ | assumption | (refine Below.setCell ?_ (by first | omega | (simp; done) | (simp; omega)) _) | (refine Below.alloc ?_ (by first | omega | (simp; done) | (simp; omega)) _) | refine Below.drew ?_ | (refine below_thru ?_ (by assumption) (by first | omega | (simp; done) | (simp; omega))) | refine below_drewN ?_ _))⟩
    · cases b2
      · go_enter Tryz.func73, Tryz.ntmps73
        go_wp2_with (with_reducible refine wpl_g (g := g) (((Blk.new w _ _).alloc _).alloc _) rfl rfl rfl ?_)
        refine (HS.out _).mono ?_
        rintro e w1 ⟨rfl, hb1⟩
        obtain ⟨hc1, hf1⟩ := bcell hb1; have hz1 := hb1.size; (try simp at hz1)
        have hl2 : w.heap.size + 1 + 1 < w1.heap.size := by omega
        go_wp2_with fail
        refine (H1.out _).mono ?_
        rintro e w' ⟨rfl, rfl⟩
        go_wp2_with fail
        refine (H2.out _).mono ?_
        rintro e w' ⟨rfl, rfl⟩
        go_wp2
        go_ret
        exact ⟨rfl, (by repeat (first | exact Below.refl _ _ | assumption | (refine Below.setCell ?_ (by first | omega | (simp; done) | (simp; omega)) _) | (refine Below.alloc ?_ (by first | omega | (simp; done) | (simp; omega)) _) | refine Below.drew ?_ | (refine below_thru ?_ (by assumption) (by first | omega | (simp; done) | (simp; omega))) | refine below_drewN ?_ _))⟩
      · cases b3
        all_goals
          go_enter Tryz.func73, Tryz.ntmps73
          go_wp2_with (with_reducible refine wpl_g (g := g) (((Blk.new w _ _).alloc _).alloc _) rfl rfl rfl ?_)
          refine (HS.out _).mono ?_
          rintro e w1 ⟨rfl, hb1⟩
          obtain ⟨hc1, hf1⟩ := bcell hb1; have hz1 := hb1.size; (try simp at hz1)
          have hl2 : w.heap.size + 1 + 1 < w1.heap.size := by omega
          go_wp2_with fail
          refine (H1.out _).mono ?_
          rintro e w' ⟨rfl, rfl⟩
          go_wp2_with fail
          refine (H2.out _).mono ?_
          rintro e w' ⟨rfl, rfl⟩
          go_wp2_with fail
          refine (H3.out _).mono ?_
          rintro e w' ⟨rfl, rfl⟩
          go_wp2
          go_ret
          exact ⟨rfl, (by repeat (first | exact Below.refl _ _ | assumption | (refine Below.setCell ?_ (by first | omega | (simp; done) | (simp; omega)) _) | (refine Below.alloc ?_ (by first | omega | (simp; done) | (simp; omega)) _) | refine Below.drew ?_ | (refine below_thru ?_ (by assumption) (by first | omega | (simp; done) | (simp; omega))) | refine below_drewN ?_ _))⟩
set_option maxRecDepth 100000 in
theorem rbolted_any (s : Gs) (t : Gt) (w : World) : Calls Tryz.prog 75 #[s.v, t.v] w fun e w' => e = .returned (.int .i64 (lockF s t)) ∧ Below w.heap.size w w' := by
  unfold lockF
  obtain ⟨p, c, b⟩ := s
  simp only
  cases b
  · have hf : (if t.order = 0 then (0 : Int) else if false = true then 130 else 0) = 0 := by split <;> simp
    rw [hf]
    clear hf
    go_enter Tryz.func75, Tryz.ntmps75
    go_wp2
    go_ret
    exact ⟨rfl, (by repeat (first | exact Below.refl _ _ | assumption | (refine Below.setCell ?_ (by first | omega | (simp; done) | (simp; omega)) _) | (refine Below.alloc ?_ (by first | omega | (simp; done) | (simp; omega)) _) | refine Below.drew ?_ | (refine below_thru ?_ (by assumption) (by first | omega | (simp; done) | (simp; omega))) | refine below_drewN ?_ _))⟩
  · by_cases h : t.order = 0
    · have q : (t.order != 0) = false := by rw [bne_eq_false_iff_eq]; exact h
      rw [if_pos h]
      clear h
      go_enter Tryz.func75, Tryz.ntmps75
      go_wp2
      go_ret
      exact ⟨rfl, (by repeat (first | exact Below.refl _ _ | assumption | (refine Below.setCell ?_ (by first | omega | (simp; done) | (simp; omega)) _) | (refine Below.alloc ?_ (by first | omega | (simp; done) | (simp; omega)) _) | refine Below.drew ?_ | (refine below_thru ?_ (by assumption) (by first | omega | (simp; done) | (simp; omega))) | refine below_drewN ?_ _))⟩
    · have q : (t.order != 0) = true := by rw [bne_iff_ne]; exact h
      rw [if_neg h, if_pos rfl]
      clear h
      go_enter Tryz.func75, Tryz.ntmps75
      go_wp2
      go_ret
      exact ⟨rfl, (by repeat (first | exact Below.refl _ _ | assumption | (refine Below.setCell ?_ (by first | omega | (simp; done) | (simp; omega)) _) | (refine Below.alloc ?_ (by first | omega | (simp; done) | (simp; omega)) _) | refine Below.drew ?_ | (refine below_thru ?_ (by assumption) (by first | omega | (simp; done) | (simp; omega))) | refine below_drewN ?_ _))⟩
/-- The oil for so many cm. -/
def oilF (g : Ga) (d : Int) : Int := (d * g.use + 99) / 100
set_option maxRecDepth 100000 in
theorem rused_any (g : Ga) (d : Int) (w : World) (hg : g.Ok) (d0 : 0 ≤ d) (d1 : d ≤ 5000) : Calls Tryz.prog 170 #[g.v, .int .i64 d] w fun e w' => e = .returned (.int .i64 (oilF g d)) ∧ Below w.heap.size w w' := by
  obtain ⟨m0, m1⟩ := mul0 (a := d) (A := 5000) (b := g.use) (B := 100000) d0 d1 hg.use0 hg.use1
  have w0 : IntKind.i64.wrap (d * g.use) = d * g.use := IntWalk.i64_in _ (by omega)
  have Hf := Lib.hid (show oilF g d = (d * g.use + 99) / 100 from rfl)
  clear hg
  go_enter Tryz.func170, Tryz.ntmps170
  go_wp2
  go_ret
  exact ⟨by rw [Hf.out]; first | rfl | (refine ret_int ?_; omega), (by repeat (first | exact Below.refl _ _ | assumption | (refine Below.setCell ?_ (by first | omega | (simp; done) | (simp; omega)) _) | (refine Below.alloc ?_ (by first | omega | (simp; done) | (simp; omega)) _) | refine Below.drew ?_ | (refine below_thru ?_ (by assumption) (by first | omega | (simp; done) | (simp; omega))) | refine below_drewN ?_ _))⟩
end Go.Proofs.YtgdomaddjiggaaaGreat

namespace Go.Proofs.YtgdomaddjiggaaaGreat
open Go.RowKit
set_option linter.unusedSimpArgs false
set_option linter.unusedVariables false

theorem oil_more {g : Ga} {s : Gs} (hg : g.Ok) (hs : s.Ok g) {d : Int} (d0 : 0 ≤ d) (d1 : d ≤ g.travel) : s.charge < oilF g d ↔ reachF g s < d := by
  have u0 := hg.use0
  have c0 := hs.c0
  unfold oilF reachF
  by_cases hu : g.use = 0
  · rw [if_pos hu, hu, Int.mul_zero]
    omega
  · rw [if_neg hu, Int.ediv_lt_iff_lt_mul (by omega)]
    generalize d * g.use = x
    omega
/-- What the loop reads. -/
structure DvR (W : World) (gb : Nat) (g : Ga) (sb : Nat) (s : Gs) : Prop where
  g : Blk W gb 33 (grow g)
  s : Blk W sb 42 #[.int .i64 s.pos, .int .i64 s.charge, .bool s.bolted]
section
variable {W W' : World} {gb sb : Nat} {g : Ga} {s : Gs}
theorem DvR.below (h : DvR W gb g sb s) (hb : Below W.heap.size W W') : DvR W' gb g sb s := ⟨h.g.thru hb h.g.lt, h.s.thru hb h.s.lt⟩
theorem DvR.drew (h : DvR W gb g sb s) : DvR W.drew gb g sb s := ⟨h.g, h.s⟩
end

set_option maxRecDepth 100000 in
set_option maxHeartbeats 4000000 in
theorem rdriven_any (g : Ga) (s : Gs) (left : Int) (w : World) (hg : g.Ok) (hs : s.Ok g) (l0 : 0 ≤ left) (l1 : left ≤ g.travel) :
    Calls Tryz.prog 169 #[g.v, s.v, .int .i64 left] w fun e w' => e = .returned (.int .i64 (driveF g s left)) ∧ Below w.heap.size w w' := by
  obtain ⟨d0, d1, d2, d3, _⟩ := drive_in hg hs l0
  have sp0 := hg.speed0
  have sp1 := hg.speed1
  have t1 := hg.t1
  obtain ⟨mx, hmx⟩ : ∃ mx, min g.speed left = mx := ⟨_, rfl⟩
  have y1 : (if left < g.speed then left else g.speed) = mx := by rw [← hmx]; split <;> omega
  have hmx1 : mx ≤ 100 := by omega
  have hmx2 : driveF g s left ≤ mx := by omega
  have hmx3 : mx ≤ g.travel := by omega
  have Hd := Lib.hid (show driveF g s left = min mx (reachF g s) from by unfold driveF; rw [hmx])
  have HO := Lib.hid (fun d h0 h1 => oil_more (d := d) hg hs h0 h1)
  have HU := Lib.hid (fun d W h0 h1 => rused_any g d W hg h0 h1)
  generalize driveF g s left = dr at *
  clear hmx d1 d2 d3 hg hs
  go_enter Tryz.func169, Tryz.ntmps169
  go_wp2_with fail
  go_loopw [7] (fun v wr => ∃ m : Int, v = .int .i64 m ∧ dr ≤ m ∧ m ≤ mx ∧ Hid (DvR wr w.heap.size g (w.heap.size + 1) s) ∧ Below w.heap.size w wr)
    (fun v _ => (intOf v).toNat)
  case atStart => exact ⟨mx, rfl, hmx2, Int.le_refl _, ⟨(Blk.new w _ _).alloc _, Blk.new' (w.alloc _) _ _ (by simp)⟩, (by repeat (first | exact Below.refl _ _ | assumption | (refine Below.setCell ?_ (by first | omega | (simp; done) | (simp; omega)) _) | (refine Below.alloc ?_ (by first | omega | (simp; done) | (simp; omega)) _) | refine Below.drew ?_ | (refine below_thru ?_ (by assumption) (by first | omega | (simp; done) | (simp; omega))) | refine below_drewN ?_ _))⟩
  case round =>
    obtain ⟨m, rfl, m0, m1, hdv, hbr⟩ := hrel
    have hzr := hbr.size
    have hR1 := hdv.out.drew
    have ho := HO.out m (by omega) (by omega)
    have HU := Lib.hid (fun W => HU.out m W (by omega) (by omega))
    have Ho := Lib.hid ho
    generalize oilF g m = om at *
    clear ho
    go_wp2_with fail
    refine wp_region_held (S := fun W' => DvR W' w.heap.size g (w.heap.size + 1) s) (by kernel_rfl) (by exact hR1) (fun hHeld => ?_)
    refine wpAnyH_take (i := 0) (v := g.v) rfl (by kernel_rfl) (by kernel_rfl) (by kernel_rfl) (fun _ _ _ h => h) (Or.inl ⟨by rfl, fun w hSw => ld_g rfl rfl hSw.g⟩) hHeld ?_
    (try simp only [Act.put, List.setIfInBounds_toArray, List.set_cons_zero, List.set_cons_succ])
    refine wpAnyH_take (i := 1) (v := ?_) rfl (by kernel_rfl) (by kernel_rfl) (by kernel_rfl) (fun _ _ _ h => h) (Or.inl ⟨by rfl, ?_⟩) hHeld ?_
    rotate_left
    · intro w hSw; (try dsimp only at hSw); obtain ⟨x1, x2⟩ := hSw; have s0 := x2.cell 0; have s1 := x2.cell 1; have s2 := x2.cell 2; simp only [List.getElem?_toArray, List.getElem?_cons_zero, List.getElem?_cons_succ] at s0 s1 s2; go_simp; (try with_reducible rfl)
    (try simp only [Act.put, List.setIfInBounds_toArray, List.set_cons_zero, List.set_cons_succ])
    refine wpAnyH_take (i := 3) (v := ?_) rfl (by kernel_rfl) (by kernel_rfl) (by kernel_rfl) (fun _ _ _ h => h) (Or.inl ⟨by rfl, ?_⟩) hHeld ?_
    rotate_left
    · intro w hSw; (try dsimp only at hSw); obtain ⟨x1, x2⟩ := hSw; have s0 := x2.cell 0; have s1 := x2.cell 1; have s2 := x2.cell 2; simp only [List.getElem?_toArray, List.getElem?_cons_zero, List.getElem?_cons_succ] at s0 s1 s2; go_simp; (try with_reducible rfl)
    (try simp only [Act.put, List.setIfInBounds_toArray, List.set_cons_zero, List.set_cons_succ])
    refine wpAnyH_take (i := 4) (v := ?_) rfl (by kernel_rfl) (by kernel_rfl) (by kernel_rfl) (fun _ _ _ h => h) (Or.inl ⟨by rfl, ?_⟩) hHeld ?_
    rotate_left
    · intro w hSw; (try dsimp only at hSw); obtain ⟨x1, x2⟩ := hSw; have s0 := x2.cell 0; have s1 := x2.cell 1; have s2 := x2.cell 2; simp only [List.getElem?_toArray, List.getElem?_cons_zero, List.getElem?_cons_succ] at s0 s1 s2; go_simp; (try with_reducible rfl)
    (try simp only [Act.put, List.setIfInBounds_toArray, List.set_cons_zero, List.set_cons_succ])
    (try simp only [List.getElem_toArray, List.getElem_cons_zero, List.getElem_cons_succ, Act.put, List.setIfInBounds_toArray, List.set_cons_zero, List.set_cons_succ])
    refine wpAnyH_ready (rs := [2]) (by kernel_rfl) (by simp) ?_
    refine AllReadyH.cons rfl (fun K hK => ?_) AllReadyH.nil
    go_simp
    refine (HU.out _).mono ?_
    rintro e w2 ⟨rfl, hb2⟩; have hz2 := hb2.size; (try simp at hz2)
    (try dsimp only)
    refine hK.out _ _ (by exact hHeld.below hb2) (fun hHeld => ?_)
    clear hK K
    (try simp only [Act.put, List.setIfInBounds_toArray, List.set_cons_zero, List.set_cons_succ])
    refine wpAnyH_take (i := 5) (v := ?_) rfl (by kernel_rfl) (by kernel_rfl) (by kernel_rfl) (fun _ _ _ h => h) (Or.inl ⟨by rfl, ?_⟩) hHeld ?_
    rotate_left
    · intro w hSw; (try dsimp only at hSw); skip; go_simp; (try with_reducible rfl)
    (try simp only [Act.put, List.setIfInBounds_toArray, List.set_cons_zero, List.set_cons_succ])
    refine wpAnyH_done (by kernel_rfl) ?_ _
    (try simp only [List.getElem_toArray, List.getElem_cons_zero, List.getElem_cons_succ, Act.put, List.setIfInBounds_toArray, List.set_cons_zero, List.set_cons_succ])
    have hw2 : Below w.heap.size w w2 := (by repeat (first | exact Below.refl _ _ | assumption | (refine Below.setCell ?_ (by first | omega | (simp; done) | (simp; omega)) _) | (refine Below.alloc ?_ (by first | omega | (simp; done) | (simp; omega)) _) | refine Below.drew ?_ | (refine below_thru ?_ (by assumption) (by first | omega | (simp; done) | (simp; omega))) | refine below_drewN ?_ _))
    have hdv2 := Lib.hid (hR1.below hb2)
    clear hb2 hR1 hdv hbr HU
    by_cases hmore : s.charge < om
    · have hr := Ho.out.1 hmore
      have hdr : dr ≤ m - 1 := by have := Hd.out; omega
      have hdr1 := hdr
      clear hr hdr1
      go_wp2
      go_roundw
      case rel => exact ⟨m - 1, by go_num, hdr, by omega, hdv2.out, hw2⟩
      case measure => simp [intOf]; omega
    · have hr : ¬ reachF g s < m := fun h => hmore (Ho.out.2 h)
      have hdm : m = dr := by have := Hd.out; omega
      have Hdm := Lib.hid hdm
      clear hr hdm
      go_wp2
      go_ret
      exact ⟨by rw [Hdm.out]; rfl, hw2⟩
end Go.Proofs.YtgdomaddjiggaaaGreat
