/- GateFalls: a gate that falls from each position is shut in as many steps as Gravity goes into what is left. -/
import Derived.Test.YtmepecplbfgakaaGreatGtAwake
import Derived.Test.YtmepecplbfgakaaGreatGtShutM
namespace Go.Proofs.YtmepecplbfgakaaGreat
open Go.RowKit
set_option linter.unusedSimpArgs false
set_option linter.unusedVariables false

/-- What Falls says without an error: the gate's numbers. -/
theorem falls_ok {g : Ga} {a b : Int} {w : World} {B : Nat} (hg : g.At w B) (h : (levelsFt g a b).e = 0) : g.Ok := 
  gateF_ok g w B hg (first0 _ h _ (by simp : gateF g ∈ [gateF g, need (levels2B a b) 7]))
/-- A step with an order to close, at a position of the gate, has no fault. -/
theorem close_fine {g : Ga} {a b : Int} (h : (levelsFt g a b).e = 0) {p : Int} (h0 : 0 ≤ p) (h1 : p ≤ g.travel) (hc : 0 ≤ g.capacity) (power : Bool) : (stepFt g ⟨p, 0, false⟩ ⟨1, power, a, b⟩).e = 0 := by
  have h2 := first0 _ h _ (by simp : gateF g ∈ [gateF g, need (levels2B a b) 7])
  have h3 := need_e (b := levels2B a b) (c := 7) (by omega) (first0 _ h (need (levels2B a b) 7) (by simp))
  have e1 : stateFt g ⟨p, 0, false⟩ = ⟨0, 0, 0⟩ := firstF_all _ fun j f hj => by
    match j, hj with
    | 0, hj => cases hj; exact h2
    | 1, hj =>
      cases hj
      rw [show stateB g ⟨p, 0, false⟩ = true by simp [stateB, betw, h0, h1, hc]]; rfl
    | j + 2, hj => simp at hj
  have e2 : orderFt ⟨1, power, a, b⟩ = ⟨0, 0, 0⟩ := firstF_all _ fun j f hj => by
    match j, hj with
    | 0, hj => cases hj; rfl
    | 1, hj => cases hj; rw [show levels2B (Gt.outer ⟨1, power, a, b⟩) (Gt.inner ⟨1, power, a, b⟩) = true from h3]; rfl
    | j + 2, hj => simp at hj
  have e3 : stepFt g ⟨p, 0, false⟩ ⟨1, power, a, b⟩ = ⟨0, 0, 0⟩ := firstF_all _ fun j f hj => by
    match j, hj with
    | 0, hj => cases hj; rw [e1]
    | 1, hj => cases hj; rw [e2]
    | j + 2, hj => simp at hj
  rw [e3]
/-- Where a gate does not fall, it does not go on without power and oil. -/
theorem stays_put {g : Ga} {a b p : Int} (hf : netF g p a b ≤ rubF g p a b) : (afterF g ⟨p, 0, false⟩ ⟨1, false, a, b⟩ (lockF ⟨p, 0, false⟩ ⟨1, false, a, b⟩)).pos = p := by
  have hd := done_alone g ⟨p, 0, false⟩ ⟨1, false, a, b⟩
  have ho : orderF g ⟨p, 0, false⟩ ⟨1, false, a, b⟩ = (0, 0) := by
    unfold orderF
    rw [if_pos rfl]
    unfold closeF advF
    simp only
    rw [if_neg (by omega), if_neg (by simp)]
  have hd' : doneF g ⟨p, 0, false⟩ ⟨1, false, a, b⟩ (lockF ⟨p, 0, false⟩ ⟨1, false, a, b⟩) = (0, 0) := by
    rw [hd]
    simp only [Bool.false_eq_true, if_false]
    exact ho
  unfold afterF
  rw [hd']
  simp

set_option maxRecDepth 100000 in
set_option maxHeartbeats 8000000 in
theorem GateFalls_any (g : Ga) (a b : Int) (pw : Bool) (from_ : Int) (w : World) (hg : g.At w w.heap.size) (f0 : 0 ≤ from_) (f1 : from_ ≤ 65535) :
    Calls Tryz.prog 12 #[g.v, .agg #[.int .i64 a, .int .i64 b, .bool pw], .int .u16 from_] w fun e w' => e = .returned (.bool true) ∧ Below w.heap.size w w' := by
  have Hg := Lib.hid hg
  by_cases h0 : (levelsFt g a b).e = 0
  · have hgo := falls_ok hg h0
    have hr : fallsR g a b = (fallsF g a b, 0) := by unfold fallsR; rw [if_pos h0]
    have gt0 := hgo.t0
    have gt1 := hgo.t1
    have gg0 := hgo.gravity0
    have gg1 := hgo.gravity1
    rcases fallsN_at g a b g.travel.toNat 0 with hm | ⟨q0, q1, q2⟩
    · have hm' : fallsF g a b = -1 := hm
      have hF' : ∀ W, g.At W W.heap.size → Calls Tryz.prog 27 #[g.v, .int .i64 a, .int .i64 b] W fun e w' => e = .returned (.tuple #[.int .i64 (-1), .int .i64 0]) ∧ Below W.heap.size W w' := fun W h => by
        have := Falls_any g a b W h
        rwa [hr, hm'] at this
      have hall := fun p (h1 : 0 ≤ p) (h2 : p < g.travel) => fallsF_all hm' h1 h2
      obtain ⟨at_, hat⟩ : ∃ at_, from_ % (g.travel + 1) = at_ := ⟨_, rfl⟩
      have a0 : 0 ≤ at_ := by rw [← hat]; exact Int.emod_nonneg _ (by omega)
      have a1 : at_ ≤ g.travel := by have := Int.emod_lt_of_pos from_ (show 0 < g.travel + 1 by omega); omega
      have hT : ∀ (power : Bool) W, g.At W W.heap.size → Calls Tryz.prog 34 #[g.v, .agg #[.int .i64 at_, .int .i64 0, .bool false], .int .i64 a, .int .i64 b, .bool power] W fun e w' => e = .returned (pairV (if needF g at_ ≤ 2000 then (needF g at_, 0) else (0, 9))) ∧ Below W.heap.size W w' := fun power W h => by
        have := Time_any g ⟨at_, 0, false⟩ a b power W h
        have e1 : timeR g ⟨at_, 0, false⟩ ⟨1, power, a, b⟩ = if needF g at_ ≤ 2000 then (needF g at_, 0) else (0, 9) := by
          unfold timeR
          rw [if_pos (close_fine h0 a0 a1 hgo.cap0 power), shut_falls (by omega) hall 2000 0 at_ 0 a0 a1]
          simp
        rwa [e1] at this
      have hn0 := needF_nonneg (g := g) (by omega) a1
      have hn1 : needF g at_ ≤ 5000 := by
        unfold needF
        have : (g.travel - at_ + g.gravity - 1) / g.gravity ≤ g.travel - at_ + g.gravity - 1 := Int.ediv_le_self _ (by omega)
        have h2 : (g.travel - at_ + g.gravity - 1) / g.gravity < 5000 + 1 := by
          rw [Int.ediv_lt_iff_lt_mul (by omega)]
          have : (5000 + 1) * g.gravity = 5000 * g.gravity + g.gravity := by omega
          omega
        omega
      have hq : (g.travel - at_ + g.gravity - 1).tdiv g.gravity = needF g at_ := by rw [Int.tdiv_eq_ediv_of_nonneg (by omega)]; rfl
      have hrm : from_.tmod (g.travel + 1) = at_ := by rw [Int.tmod_eq_emod_of_nonneg f0]; exact hat
      generalize needF g at_ = nd at *
      have z0 : ¬ g.gravity = 0 := by omega
      have z1 : ¬ g.travel + 1 = 0 := by omega
      have HF := Lib.hid hF'
      have Hat := Lib.hid hat
      by_cases hmany : nd ≤ 2000
      · have hT' : ∀ (power : Bool) W, g.At W W.heap.size → Calls Tryz.prog 34 #[g.v, .agg #[.int .i64 at_, .int .i64 0, .bool false], .int .i64 a, .int .i64 b, .bool power] W fun e w' => e = .returned (.tuple #[.int .i64 nd, .int .i64 0]) ∧ Below W.heap.size W w' := fun power W h => by
          have := hT power W h
          rwa [if_pos hmany] at this
        have HT := Lib.hid hT'
        clear hF' hall hT hT' hg hgo h0 hr hm hm' hat
        go_enter Tryz.func12, Tryz.ntmps12
        go_wp2_with (with_reducible refine wpl_g (g := g) ((Blk.new w _ _).alloc _) rfl rfl rfl ?_)
        refine (HF.out _ (Hg.out.grow (by repeat (first | exact Below.refl _ _ | assumption | (refine Below.setCell ?_ (by first | omega | (simp; done) | (simp; omega)) _) | (refine Below.alloc ?_ (by first | omega | (simp; done) | (simp; omega)) _) | refine Below.drew ?_ | (refine below_thru ?_ (by assumption) (by first | omega | (simp; done) | (simp; omega))) | refine below_drewN ?_ _)))).mono ?_
        rintro e w1 ⟨rfl, hb1⟩
        obtain ⟨hc1, hf1⟩ := bcell hb1; have hz1 := hb1.size; (try simp at hz1)
        have hB1 : Blk w1 w.heap.size 33 (grow g) := Blk.thru (by (repeat (first | assumption | exact Blk.new _ _ _ | (refine Blk.new' _ _ _ ?_; (simp; done)) | refine Blk.drew ?_ | refine Blk.alloc ?_ _ | (refine Blk.fars ?_ ?_ _ _; rotate_left; (dsimp only; omega)) | (refine Blk.far ?_ ?_ _; rotate_left; (first | (dsimp only; omega) | (simp; done) | (simp; omega) | omega))))) hb1 (by simp <;> omega)
        have hl0 : w.heap.size < w1.heap.size := by omega
        have hl1 : w.heap.size + 1 < w1.heap.size := by omega
        have k2 : w1.cell? ⟨w.heap.size, 2, none⟩ = some (.int .i64 g.travel) := hB1.cell 2
        have k14 : w1.cell? ⟨w.heap.size, 14, none⟩ = some (.int .i64 g.gravity) := hB1.cell 14
        go_wp2_with (with_reducible refine wpl_g (g := g) (b := w.heap.size) (t := 33) (by (repeat (first | assumption | exact Blk.new _ _ _ | (refine Blk.new' _ _ _ ?_; (simp; done)) | refine Blk.drew ?_ | refine Blk.alloc ?_ _ | (refine Blk.fars ?_ ?_ _ _; rotate_left; (dsimp only; omega)) | (refine Blk.far ?_ ?_ _; rotate_left; (first | (dsimp only; omega) | (simp; done) | (simp; omega) | omega))))) rfl rfl rfl ?_)
        refine (HT.out false _ (Hg.out.grow (by repeat (first | exact Below.refl _ _ | assumption | (refine Below.setCell ?_ (by first | omega | (simp; done) | (simp; omega)) _) | (refine Below.alloc ?_ (by first | omega | (simp; done) | (simp; omega)) _) | refine Below.drew ?_ | (refine below_thru ?_ (by assumption) (by first | omega | (simp; done) | (simp; omega))) | refine below_drewN ?_ _)))).mono ?_
        rintro e w2 ⟨rfl, hb2⟩
        obtain ⟨hc2, hf2⟩ := bcell hb2; have hz2 := hb2.size; (try simp at hz2)
        have hB2 : Blk w2 w.heap.size 33 (grow g) := Blk.thru (by (repeat (first | assumption | exact Blk.new _ _ _ | (refine Blk.new' _ _ _ ?_; (simp; done)) | refine Blk.drew ?_ | refine Blk.alloc ?_ _ | (refine Blk.fars ?_ ?_ _ _; rotate_left; (dsimp only; omega)) | (refine Blk.far ?_ ?_ _; rotate_left; (first | (dsimp only; omega) | (simp; done) | (simp; omega) | omega))))) hb2 (by simp <;> omega)
        have hl2 : w.heap.size < w2.heap.size := by omega
        have hl3 : w.heap.size + 1 < w2.heap.size := by omega
        have m2 : w2.cell? ⟨w.heap.size, 2, none⟩ = some (.int .i64 g.travel) := hB2.cell 2
        have m14 : w2.cell? ⟨w.heap.size, 14, none⟩ = some (.int .i64 g.gravity) := hB2.cell 14
        go_wp2_with (with_reducible refine wpl_g (g := g) (b := w.heap.size) (t := 33) hB2 rfl rfl rfl ?_)
        refine (HT.out true _ (Hg.out.grow (by repeat (first | exact Below.refl _ _ | assumption | (refine Below.setCell ?_ (by first | omega | (simp; done) | (simp; omega)) _) | (refine Below.alloc ?_ (by first | omega | (simp; done) | (simp; omega)) _) | refine Below.drew ?_ | (refine below_thru ?_ (by assumption) (by first | omega | (simp; done) | (simp; omega))) | refine below_drewN ?_ _)))).mono ?_
        rintro e w3 ⟨rfl, hb3⟩
        obtain ⟨hc3, hf3⟩ := bcell hb3; have hz3 := hb3.size; (try simp at hz3)
        go_wp2_with fail
        refine (Awake_any _).mono ?_
        rintro e w4 ⟨rfl, hb4⟩
        go_wp2
        go_ret
        exact ⟨rfl, (by repeat (first | exact Below.refl _ _ | assumption | (refine Below.setCell ?_ (by first | omega | (simp; done) | (simp; omega)) _) | (refine Below.alloc ?_ (by first | omega | (simp; done) | (simp; omega)) _) | refine Below.drew ?_ | (refine below_thru ?_ (by assumption) (by first | omega | (simp; done) | (simp; omega))) | refine below_drewN ?_ _))⟩
      · have hT' : ∀ (power : Bool) W, g.At W W.heap.size → Calls Tryz.prog 34 #[g.v, .agg #[.int .i64 at_, .int .i64 0, .bool false], .int .i64 a, .int .i64 b, .bool power] W fun e w' => e = .returned (.tuple #[.int .i64 0, .int .i64 9]) ∧ Below W.heap.size W w' := fun power W h => by
          have := hT power W h
          rwa [if_neg hmany] at this
        have HT := Lib.hid hT'
        clear hF' hall hT hT' hg hgo h0 hr hm hm' hat
        go_enter Tryz.func12, Tryz.ntmps12
        go_wp2_with (with_reducible refine wpl_g (g := g) ((Blk.new w _ _).alloc _) rfl rfl rfl ?_)
        refine (HF.out _ (Hg.out.grow (by repeat (first | exact Below.refl _ _ | assumption | (refine Below.setCell ?_ (by first | omega | (simp; done) | (simp; omega)) _) | (refine Below.alloc ?_ (by first | omega | (simp; done) | (simp; omega)) _) | refine Below.drew ?_ | (refine below_thru ?_ (by assumption) (by first | omega | (simp; done) | (simp; omega))) | refine below_drewN ?_ _)))).mono ?_
        rintro e w1 ⟨rfl, hb1⟩
        obtain ⟨hc1, hf1⟩ := bcell hb1; have hz1 := hb1.size; (try simp at hz1)
        have hB1 : Blk w1 w.heap.size 33 (grow g) := Blk.thru (by (repeat (first | assumption | exact Blk.new _ _ _ | (refine Blk.new' _ _ _ ?_; (simp; done)) | refine Blk.drew ?_ | refine Blk.alloc ?_ _ | (refine Blk.fars ?_ ?_ _ _; rotate_left; (dsimp only; omega)) | (refine Blk.far ?_ ?_ _; rotate_left; (first | (dsimp only; omega) | (simp; done) | (simp; omega) | omega))))) hb1 (by simp <;> omega)
        have hl0 : w.heap.size < w1.heap.size := by omega
        have hl1 : w.heap.size + 1 < w1.heap.size := by omega
        have k2 : w1.cell? ⟨w.heap.size, 2, none⟩ = some (.int .i64 g.travel) := hB1.cell 2
        have k14 : w1.cell? ⟨w.heap.size, 14, none⟩ = some (.int .i64 g.gravity) := hB1.cell 14
        go_wp2_with (with_reducible refine wpl_g (g := g) (b := w.heap.size) (t := 33) (by (repeat (first | assumption | exact Blk.new _ _ _ | (refine Blk.new' _ _ _ ?_; (simp; done)) | refine Blk.drew ?_ | refine Blk.alloc ?_ _ | (refine Blk.fars ?_ ?_ _ _; rotate_left; (dsimp only; omega)) | (refine Blk.far ?_ ?_ _; rotate_left; (first | (dsimp only; omega) | (simp; done) | (simp; omega) | omega))))) rfl rfl rfl ?_)
        refine (HT.out false _ (Hg.out.grow (by repeat (first | exact Below.refl _ _ | assumption | (refine Below.setCell ?_ (by first | omega | (simp; done) | (simp; omega)) _) | (refine Below.alloc ?_ (by first | omega | (simp; done) | (simp; omega)) _) | refine Below.drew ?_ | (refine below_thru ?_ (by assumption) (by first | omega | (simp; done) | (simp; omega))) | refine below_drewN ?_ _)))).mono ?_
        rintro e w2 ⟨rfl, hb2⟩
        obtain ⟨hc2, hf2⟩ := bcell hb2; have hz2 := hb2.size; (try simp at hz2)
        have hB2 : Blk w2 w.heap.size 33 (grow g) := Blk.thru (by (repeat (first | assumption | exact Blk.new _ _ _ | (refine Blk.new' _ _ _ ?_; (simp; done)) | refine Blk.drew ?_ | refine Blk.alloc ?_ _ | (refine Blk.fars ?_ ?_ _ _; rotate_left; (dsimp only; omega)) | (refine Blk.far ?_ ?_ _; rotate_left; (first | (dsimp only; omega) | (simp; done) | (simp; omega) | omega))))) hb2 (by simp <;> omega)
        have hl2 : w.heap.size < w2.heap.size := by omega
        have m2 : w2.cell? ⟨w.heap.size, 2, none⟩ = some (.int .i64 g.travel) := hB2.cell 2
        have m14 : w2.cell? ⟨w.heap.size, 14, none⟩ = some (.int .i64 g.gravity) := hB2.cell 14
        go_wp2_with fail
        refine (Awake_any _).mono ?_
        rintro e w4 ⟨rfl, hb4⟩
        go_wp2
        go_ret
        exact ⟨rfl, (by repeat (first | exact Below.refl _ _ | assumption | (refine Below.setCell ?_ (by first | omega | (simp; done) | (simp; omega)) _) | (refine Below.alloc ?_ (by first | omega | (simp; done) | (simp; omega)) _) | refine Below.drew ?_ | (refine below_thru ?_ (by assumption) (by first | omega | (simp; done) | (simp; omega))) | refine below_drewN ?_ _))⟩
    · have hF' : ∀ W, g.At W W.heap.size → Calls Tryz.prog 27 #[g.v, .int .i64 a, .int .i64 b] W fun e w' => e = .returned (.tuple #[.int .i64 (fallsF g a b), .int .i64 0]) ∧ Below W.heap.size W w' := fun W h => by
        have := Falls_any g a b W h
        rwa [hr] at this
      have q3 : fallsF g a b < g.travel := by have : fallsF g a b < (0 : Nat) + g.travel.toNat := q1; omega
      have q4 : 0 ≤ fallsF g a b := q0
      have q5 : netF g (fallsF g a b) a b ≤ rubF g (fallsF g a b) a b := q2
      have hst := close_fine h0 q4 (by omega) hgo.cap0 false
      have hS' : ∀ W, g.At W W.heap.size → ∃ (ch : Int) (d : Gm), Calls Tryz.prog 29 #[g.v, .agg #[.int .i64 (fallsF g a b), .int .i64 0, .bool false], .agg #[.int .i64 1, .bool false, .int .i64 a, .int .i64 b]] W fun e w' => e = .returned (.tuple #[.agg #[.int .i64 (fallsF g a b), .int .i64 ch, .bool false], .agg #[.int .i64 d.refused, .int .i64 d.moved, .int .i64 d.oil], .int .i64 0]) ∧ Below W.heap.size W w' := fun W h => by
        have hc := Step_any g ⟨fallsF g a b, 0, false⟩ ⟨1, false, a, b⟩ W h
        have hu : stepU g ⟨fallsF g a b, 0, false⟩ ⟨1, false, a, b⟩ = ⟨fallsF g a b, (afterF g ⟨fallsF g a b, 0, false⟩ ⟨1, false, a, b⟩ (lockF ⟨fallsF g a b, 0, false⟩ ⟨1, false, a, b⟩)).charge, false⟩ := by
          unfold stepU
          rw [if_pos hst]
          have := stays_put q5
          generalize hx : afterF g ⟨fallsF g a b, 0, false⟩ ⟨1, false, a, b⟩ (lockF ⟨fallsF g a b, 0, false⟩ ⟨1, false, a, b⟩) = x at *
          have hb : x.bolted = false := by rw [← hx]; rfl
          obtain ⟨x1, x2, x3⟩ := x
          simp only at this hb
          subst this hb
          rfl
        rw [hu, hst] at hc
        exact ⟨_, _, hc⟩
      generalize fallsF g a b = p at *
      have HF := Lib.hid hF'
      have HS := Lib.hid hS'
      clear hF' hS' hst q0 q1 q2 q5 hr hgo hg h0
      · skip
        go_enter Tryz.func12, Tryz.ntmps12
        go_wp2_with (with_reducible refine wpl_g (g := g) ((Blk.new w _ _).alloc _) rfl rfl rfl ?_)
        refine (HF.out _ (Hg.out.grow (by repeat (first | exact Below.refl _ _ | assumption | (refine Below.setCell ?_ (by first | omega | (simp; done) | (simp; omega)) _) | (refine Below.alloc ?_ (by first | omega | (simp; done) | (simp; omega)) _) | refine Below.drew ?_ | (refine below_thru ?_ (by assumption) (by first | omega | (simp; done) | (simp; omega))) | refine below_drewN ?_ _)))).mono ?_
        rintro e w1 ⟨rfl, hb1⟩
        obtain ⟨hc1, hf1⟩ := bcell hb1; have hz1 := hb1.size; (try simp at hz1)
        have hB1 : Blk w1 w.heap.size 33 (grow g) := Blk.thru (by (repeat (first | assumption | exact Blk.new _ _ _ | (refine Blk.new' _ _ _ ?_; (simp; done)) | refine Blk.drew ?_ | refine Blk.alloc ?_ _ | (refine Blk.fars ?_ ?_ _ _; rotate_left; (dsimp only; omega)) | (refine Blk.far ?_ ?_ _; rotate_left; (first | (dsimp only; omega) | (simp; done) | (simp; omega) | omega))))) hb1 (by simp <;> omega)
        have hl0 : w.heap.size < w1.heap.size := by omega
        have hl1 : w.heap.size + 1 < w1.heap.size := by omega
        have k2 : w1.cell? ⟨w.heap.size, 2, none⟩ = some (.int .i64 g.travel) := hB1.cell 2
        have k14 : w1.cell? ⟨w.heap.size, 14, none⟩ = some (.int .i64 g.gravity) := hB1.cell 14
        go_wp2_with (with_reducible refine wpl_g (g := g) (b := w.heap.size) (t := 33) (by (repeat (first | assumption | exact Blk.new _ _ _ | (refine Blk.new' _ _ _ ?_; (simp; done)) | refine Blk.drew ?_ | refine Blk.alloc ?_ _ | (refine Blk.fars ?_ ?_ _ _; rotate_left; (dsimp only; omega)) | (refine Blk.far ?_ ?_ _; rotate_left; (first | (dsimp only; omega) | (simp; done) | (simp; omega) | omega))))) rfl rfl rfl ?_)
        obtain ⟨ch, d, hcall⟩ := HS.out _ (Hg.out.grow (show Below w.heap.size w (w1.alloc (.cells #[.int .i64 1, .bool false, .int .i64 a, .int .i64 b] 49)) from (by repeat (first | exact Below.refl _ _ | assumption | (refine Below.setCell ?_ (by first | omega | (simp; done) | (simp; omega)) _) | (refine Below.alloc ?_ (by first | omega | (simp; done) | (simp; omega)) _) | refine Below.drew ?_ | (refine below_thru ?_ (by assumption) (by first | omega | (simp; done) | (simp; omega))) | refine below_drewN ?_ _))))
        refine hcall.mono ?_
        rintro e w2 ⟨rfl, hb2⟩
        obtain ⟨hc2, hf2⟩ := bcell hb2; have hz2 := hb2.size; (try simp at hz2)
        go_wp2_with fail
        refine (Awake_any _).mono ?_
        rintro e w4 ⟨rfl, hb4⟩
        go_wp2
        go_ret
        exact ⟨rfl, (by repeat (first | exact Below.refl _ _ | assumption | (refine Below.setCell ?_ (by first | omega | (simp; done) | (simp; omega)) _) | (refine Below.alloc ?_ (by first | omega | (simp; done) | (simp; omega)) _) | refine Below.drew ?_ | (refine below_thru ?_ (by assumption) (by first | omega | (simp; done) | (simp; omega))) | refine below_drewN ?_ _))⟩
  · have hF' : ∀ W, g.At W W.heap.size → Calls Tryz.prog 27 #[g.v, .int .i64 a, .int .i64 b] W fun e w' => e = .returned (.tuple #[.int .i64 0, .int .i64 (levelsFt g a b).e]) ∧ Below W.heap.size W w' := fun W h => by
      have := Falls_any g a b W h
      rwa [show fallsR g a b = (0, (levelsFt g a b).e) by unfold fallsR; rw [if_neg h0]] at this
    generalize (levelsFt g a b).e = fe at *
    have HF := Lib.hid hF'
    have h0' : (fe != 0) = true := by rw [bne_iff_ne]; exact h0
    clear hF' hg h0
    go_enter Tryz.func12, Tryz.ntmps12
    go_wp2_with (with_reducible refine wpl_g (g := g) ((Blk.new w _ _).alloc _) rfl rfl rfl ?_)
    refine (HF.out _ (Hg.out.grow (by repeat (first | exact Below.refl _ _ | assumption | (refine Below.setCell ?_ (by first | omega | (simp; done) | (simp; omega)) _) | (refine Below.alloc ?_ (by first | omega | (simp; done) | (simp; omega)) _) | refine Below.drew ?_ | (refine below_thru ?_ (by assumption) (by first | omega | (simp; done) | (simp; omega))) | refine below_drewN ?_ _)))).mono ?_
    rintro e w1 ⟨rfl, hb1⟩
    obtain ⟨hc1, hf1⟩ := bcell hb1; have hz1 := hb1.size; (try simp at hz1)
    go_wp2_with fail
    refine (Awake_any _).mono ?_
    rintro e w2 ⟨rfl, hb2⟩
    go_wp2
    go_ret
    exact ⟨rfl, (by repeat (first | exact Below.refl _ _ | assumption | (refine Below.setCell ?_ (by first | omega | (simp; done) | (simp; omega)) _) | (refine Below.alloc ?_ (by first | omega | (simp; done) | (simp; omega)) _) | refine Below.drew ?_ | (refine below_thru ?_ (by assumption) (by first | omega | (simp; done) | (simp; omega))) | refine below_drewN ?_ _))⟩
end Go.Proofs.YtmepecplbfgakaaGreat
