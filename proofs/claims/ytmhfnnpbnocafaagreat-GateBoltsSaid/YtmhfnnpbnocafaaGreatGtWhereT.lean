/- The reference's Bolt. -/
import Derived.Test.YtmhfnnpbnocafaaGreatGtWhereS
namespace Go.Proofs.YtmhfnnpbnocafaaGreat
open Go.RowKit
set_option linter.unusedSimpArgs false
set_option linter.unusedVariables false

theorem bolt_gate {g : Ga} {s : Gs} {on : Bool} (h : (gateF g).e ≠ 0) : (boltFt g s on).e = (gateF g).e := by
  have : stateFt g s = gateF g := by simp [stateFt, firstF, h]
  simp [boltFt, boltL, firstF, this, h]
theorem bolt_state {g : Ga} {s : Gs} {on : Bool} (h : (gateF g).e = 0) (h2 : stateR g s = 7) : (boltFt g s on).e = 7 := by
  have hb : stateB g s = false := by
    cases hx : stateB g s
    · rfl
    · unfold stateR at h2; rw [hx, if_pos rfl] at h2; omega
  have : (stateFt g s).e = 7 := by simp [stateFt, firstF, h, hb, need]
  simp [boltFt, boltL, firstF, this]
theorem bolt_rest {g : Ga} {s : Gs} {on : Bool} (h : (gateF g).e = 0) (h2 : stateR g s = 0) : (boltFt g s on).e = (need (!on || !s.bolted) 5).e + (need (on || s.bolted) 4).e := by
  have hb : stateB g s = true := by
    cases hx : stateB g s
    · unfold stateR at h2; rw [hx, if_neg (by decide)] at h2; omega
    · rfl
  have : stateFt g s = ⟨0, 0, 0⟩ ∨ (stateFt g s).e = 0 := by right; simp [stateFt, firstF, h, hb, need]
  have h3 : (stateFt g s).e = 0 := by rcases this with h | h; rw [h]; exact h
  cases on <;> cases hc : s.bolted <;> simp [boltFt, boltL, firstF, h3, need, hc]
theorem stateR_ways (g : Ga) (s : Gs) : stateR g s = 0 ∨ stateR g s = 7 := by unfold stateR; split; exact .inl rfl; exact .inr rfl

set_option maxRecDepth 100000 in
set_option maxHeartbeats 4000000 in
theorem rbolt_gate (g : Ga) (s : Gs) (rA : Option Addr) (rn rc : Nat) (w : World) (on : Bool) (Fp Fa FE : Int)
    (HF : Hid (∀ W, Below w.heap.size w W → Calls Tryz.prog 28 #[g.v] W fun e w' => e = .returned (.tuple #[.int .i64 Fp, .int .i64 Fa, .int .i64 FE]) ∧ Below W.heap.size W w')) (hfe : (FE != 0) = true) (hfq : (FE == 0) = false) :
    Calls Tryz.prog 13 #[g.v, .agg #[.int .i64 s.pos, .int .i64 s.charge, .bool s.bolted], .bool on, .slice rA rn rc] w fun e w' => e = .returned (boltV (⟨0, 0, false⟩, FE)) ∧ Below w.heap.size w w' := by
  go_enter Tryz.func13, Tryz.ntmps13
  go_wp2_with (with_reducible refine wpl_g (g := g) (b := w.heap.size) (t := 25) (by (repeat (first | assumption | exact Blk.new _ _ _ | (refine Blk.new' _ _ _ ?_; (simp; done)) | refine Blk.drew ?_ | refine Blk.alloc ?_ _ | (refine Blk.fars ?_ ?_ _ _; rotate_left; (dsimp only; omega)) | (refine Blk.far ?_ ?_ _; rotate_left; (first | (dsimp only; omega) | (simp; done) | (simp; omega) | omega))))) rfl rfl rfl ?_)
  refine (HF.out _ (by repeat (first | exact Below.refl _ _ | assumption | (refine Below.setCell ?_ (by first | omega | (simp; done) | (simp; omega)) _) | (refine Below.alloc ?_ (by first | omega | (simp; done) | (simp; omega)) _) | refine Below.drew ?_ | (refine below_thru ?_ (by assumption) (by first | omega | (simp; done) | (simp; omega))) | refine below_drewN ?_ _))).mono ?_
  rintro e w1 ⟨rfl, hb1⟩
  obtain ⟨hc1, hf1⟩ := bcell hb1; have hz1 := hb1.size; (try simp at hz1)
  have hB1 : Blk w1 w.heap.size 25 (grow g) := Blk.thru (by (repeat (first | assumption | exact Blk.new _ _ _ | (refine Blk.new' _ _ _ ?_; (simp; done)) | refine Blk.drew ?_ | refine Blk.alloc ?_ _ | (refine Blk.fars ?_ ?_ _ _; rotate_left; (dsimp only; omega)) | (refine Blk.far ?_ ?_ _; rotate_left; (first | (dsimp only; omega) | (simp; done) | (simp; omega) | omega))))) hb1 (by simp <;> omega)
  have hS1 : Blk w1 (w.heap.size + 1) 27 #[.int .i64 s.pos, .int .i64 s.charge, .bool s.bolted] := Blk.thru (by (repeat (first | assumption | exact Blk.new _ _ _ | (refine Blk.new' _ _ _ ?_; (simp; done)) | refine Blk.drew ?_ | refine Blk.alloc ?_ _ | (refine Blk.fars ?_ ?_ _ _; rotate_left; (dsimp only; omega)) | (refine Blk.far ?_ ?_ _; rotate_left; (first | (dsimp only; omega) | (simp; done) | (simp; omega) | omega))))) hb1 (by simp <;> omega)
  have hR1 : Blk w1 (w.heap.size + 1 + 1) 27 #[.int .i64 0, .int .i64 0, .bool false] := Blk.thru (by (repeat (first | assumption | exact Blk.new _ _ _ | (refine Blk.new' _ _ _ ?_; (simp; done)) | refine Blk.drew ?_ | refine Blk.alloc ?_ _ | (refine Blk.fars ?_ ?_ _ _; rotate_left; (dsimp only; omega)) | (refine Blk.far ?_ ?_ _; rotate_left; (first | (dsimp only; omega) | (simp; done) | (simp; omega) | omega))))) hb1 (by simp <;> omega)
  have hw1 : Below w.heap.size w w1 := (by repeat (first | exact Below.refl _ _ | assumption | (refine Below.setCell ?_ (by first | omega | (simp; done) | (simp; omega)) _) | (refine Below.alloc ?_ (by first | omega | (simp; done) | (simp; omega)) _) | refine Below.drew ?_ | (refine below_thru ?_ (by assumption) (by first | omega | (simp; done) | (simp; omega))) | refine below_drewN ?_ _))
  clear hc1 hf1 hb1
  obtain ⟨sz0, sz1, sz2, _⟩ := hS1.three
  obtain ⟨rz0, rz1, rz2, _⟩ := hR1.three
  have sz4 := hS1.frozen 0
  have sz5 := hS1.frozen 1
  have sz6 := hS1.frozen 2
  have rz4 := hR1.frozen 0
  have rz5 := hR1.frozen 1
  have rz6 := hR1.frozen 2
  have hl12 : w.heap.size + 1 + 1 < w1.heap.size := hR1.lt
  have hl11 : w.heap.size + 1 < w1.heap.size := by omega
  have hl10 : w.heap.size < w1.heap.size := by omega
  clear hB1 hS1 hR1
  go_wp2
  exact bodyPost_ret (v := boltV (⟨0, 0, false⟩, FE)) (by simp [results, Tryz.results13, go_sem, rz0, rz1, rz2, hl12] <;> omega) rfl ⟨rfl, (by repeat (first | exact Below.refl _ _ | assumption | (refine Below.setCell ?_ (by first | omega | (simp; done) | (simp; omega)) _) | (refine Below.alloc ?_ (by first | omega | (simp; done) | (simp; omega)) _) | refine Below.drew ?_ | (refine below_thru ?_ (by assumption) (by first | omega | (simp; done) | (simp; omega))) | refine below_drewN ?_ _))⟩
set_option maxRecDepth 100000 in
set_option maxHeartbeats 4000000 in
theorem rbolt_state (g : Ga) (s : Gs) (rA : Option Addr) (rn rc : Nat) (w : World) (on : Bool) (Fp Fa : Int)
    (HF : Hid (∀ W, Below w.heap.size w W → Calls Tryz.prog 28 #[g.v] W fun e w' => e = .returned (.tuple #[.int .i64 Fp, .int .i64 Fa, .int .i64 0]) ∧ Below W.heap.size W w'))
    (HS : Hid (∀ W, Calls Tryz.prog 37 #[g.v, .agg #[.int .i64 s.pos, .int .i64 s.charge, .bool s.bolted]] W fun e w' => e = .returned (.int .i64 7) ∧ Below W.heap.size W w')) :
    Calls Tryz.prog 13 #[g.v, .agg #[.int .i64 s.pos, .int .i64 s.charge, .bool s.bolted], .bool on, .slice rA rn rc] w fun e w' => e = .returned (boltV (⟨0, 0, false⟩, 7)) ∧ Below w.heap.size w w' := by
  go_enter Tryz.func13, Tryz.ntmps13
  go_wp2_with (with_reducible refine wpl_g (g := g) (b := w.heap.size) (t := 25) (by (repeat (first | assumption | exact Blk.new _ _ _ | (refine Blk.new' _ _ _ ?_; (simp; done)) | refine Blk.drew ?_ | refine Blk.alloc ?_ _ | (refine Blk.fars ?_ ?_ _ _; rotate_left; (dsimp only; omega)) | (refine Blk.far ?_ ?_ _; rotate_left; (first | (dsimp only; omega) | (simp; done) | (simp; omega) | omega))))) rfl rfl rfl ?_)
  refine (HF.out _ (by repeat (first | exact Below.refl _ _ | assumption | (refine Below.setCell ?_ (by first | omega | (simp; done) | (simp; omega)) _) | (refine Below.alloc ?_ (by first | omega | (simp; done) | (simp; omega)) _) | refine Below.drew ?_ | (refine below_thru ?_ (by assumption) (by first | omega | (simp; done) | (simp; omega))) | refine below_drewN ?_ _))).mono ?_
  rintro e w1 ⟨rfl, hb1⟩
  obtain ⟨hc1, hf1⟩ := bcell hb1; have hz1 := hb1.size; (try simp at hz1)
  have hB1 : Blk w1 w.heap.size 25 (grow g) := Blk.thru (by (repeat (first | assumption | exact Blk.new _ _ _ | (refine Blk.new' _ _ _ ?_; (simp; done)) | refine Blk.drew ?_ | refine Blk.alloc ?_ _ | (refine Blk.fars ?_ ?_ _ _; rotate_left; (dsimp only; omega)) | (refine Blk.far ?_ ?_ _; rotate_left; (first | (dsimp only; omega) | (simp; done) | (simp; omega) | omega))))) hb1 (by simp <;> omega)
  have hS1 : Blk w1 (w.heap.size + 1) 27 #[.int .i64 s.pos, .int .i64 s.charge, .bool s.bolted] := Blk.thru (by (repeat (first | assumption | exact Blk.new _ _ _ | (refine Blk.new' _ _ _ ?_; (simp; done)) | refine Blk.drew ?_ | refine Blk.alloc ?_ _ | (refine Blk.fars ?_ ?_ _ _; rotate_left; (dsimp only; omega)) | (refine Blk.far ?_ ?_ _; rotate_left; (first | (dsimp only; omega) | (simp; done) | (simp; omega) | omega))))) hb1 (by simp <;> omega)
  have hR1 : Blk w1 (w.heap.size + 1 + 1) 27 #[.int .i64 0, .int .i64 0, .bool false] := Blk.thru (by (repeat (first | assumption | exact Blk.new _ _ _ | (refine Blk.new' _ _ _ ?_; (simp; done)) | refine Blk.drew ?_ | refine Blk.alloc ?_ _ | (refine Blk.fars ?_ ?_ _ _; rotate_left; (dsimp only; omega)) | (refine Blk.far ?_ ?_ _; rotate_left; (first | (dsimp only; omega) | (simp; done) | (simp; omega) | omega))))) hb1 (by simp <;> omega)
  have hw1 : Below w.heap.size w w1 := (by repeat (first | exact Below.refl _ _ | assumption | (refine Below.setCell ?_ (by first | omega | (simp; done) | (simp; omega)) _) | (refine Below.alloc ?_ (by first | omega | (simp; done) | (simp; omega)) _) | refine Below.drew ?_ | (refine below_thru ?_ (by assumption) (by first | omega | (simp; done) | (simp; omega))) | refine below_drewN ?_ _))
  clear hc1 hf1 hb1
  obtain ⟨sp0, sp1, sp2, _⟩ := hS1.three
  obtain ⟨rp0, rp1, rp2, _⟩ := hR1.three
  have sp4 := hS1.frozen 0
  have sp5 := hS1.frozen 1
  have sp6 := hS1.frozen 2
  have rp4 := hR1.frozen 0
  have rp5 := hR1.frozen 1
  have rp6 := hR1.frozen 2
  have hl12 : w.heap.size + 1 + 1 < w1.heap.size := hR1.lt
  have hl11 : w.heap.size + 1 < w1.heap.size := by omega
  have hl10 : w.heap.size < w1.heap.size := by omega
  go_wp2_with (with_reducible refine wpl_g (g := g) (b := w.heap.size) (t := 25) (by (repeat (first | assumption | exact Blk.new _ _ _ | (refine Blk.new' _ _ _ ?_; (simp; done)) | refine Blk.drew ?_ | refine Blk.alloc ?_ _ | (refine Blk.fars ?_ ?_ _ _; rotate_left; (dsimp only; omega)) | (refine Blk.far ?_ ?_ _; rotate_left; (first | (dsimp only; omega) | (simp; done) | (simp; omega) | omega))))) rfl rfl rfl ?_)
  refine (HS.out _).mono ?_
  rintro e w2 ⟨rfl, hb2⟩
  have hw2 : Below w.heap.size w w2 := hw1.trans (hb2.mono hw1.size)
  have hB2 : Blk w2 w.heap.size 25 (grow g) := hB1.thru hb2 hB1.lt
  have hS2 : Blk w2 (w.heap.size + 1) 27 #[.int .i64 s.pos, .int .i64 s.charge, .bool s.bolted] := hS1.thru hb2 hS1.lt
  have hR2 : Blk w2 (w.heap.size + 1 + 1) 27 #[.int .i64 0, .int .i64 0, .bool false] := hR1.thru hb2 hR1.lt
  clear hb2
  clear sp0 sp1 sp2 sp4 sp5 sp6 rp0 rp1 rp2 rp4 rp5 rp6 hB1 hS1 hR1 hl12 hl11 hl10
  obtain ⟨sz0, sz1, sz2, _⟩ := hS2.three
  obtain ⟨rz0, rz1, rz2, _⟩ := hR2.three
  have sz4 := hS2.frozen 0
  have sz5 := hS2.frozen 1
  have sz6 := hS2.frozen 2
  have rz4 := hR2.frozen 0
  have rz5 := hR2.frozen 1
  have rz6 := hR2.frozen 2
  have hl22 : w.heap.size + 1 + 1 < w2.heap.size := hR2.lt
  have hl21 : w.heap.size + 1 < w2.heap.size := by omega
  have hl20 : w.heap.size < w2.heap.size := by omega
  clear hB2 hS2 hR2
  go_wp2
  exact bodyPost_ret (v := boltV (⟨0, 0, false⟩, 7)) (by simp [results, Tryz.results13, go_sem, rz0, rz1, rz2, hl22] <;> omega) rfl ⟨rfl, (by repeat (first | exact Below.refl _ _ | assumption | (refine Below.setCell ?_ (by first | omega | (simp; done) | (simp; omega)) _) | (refine Below.alloc ?_ (by first | omega | (simp; done) | (simp; omega)) _) | refine Below.drew ?_ | (refine below_thru ?_ (by assumption) (by first | omega | (simp; done) | (simp; omega))) | refine below_drewN ?_ _))⟩
set_option maxRecDepth 100000 in
set_option maxHeartbeats 4000000 in
theorem rbolt_twice (g : Ga) (s : Gs) (rA : Option Addr) (rn rc : Nat) (w : World) (Fp Fa : Int)
    (HF : Hid (∀ W, Below w.heap.size w W → Calls Tryz.prog 28 #[g.v] W fun e w' => e = .returned (.tuple #[.int .i64 Fp, .int .i64 Fa, .int .i64 0]) ∧ Below W.heap.size W w'))
    (HS : Hid (∀ W, Calls Tryz.prog 37 #[g.v, .agg #[.int .i64 s.pos, .int .i64 s.charge, .bool true]] W fun e w' => e = .returned (.int .i64 0) ∧ Below W.heap.size W w')) :
    Calls Tryz.prog 13 #[g.v, .agg #[.int .i64 s.pos, .int .i64 s.charge, .bool true], .bool true, .slice rA rn rc] w fun e w' => e = .returned (boltV (⟨0, 0, false⟩, 5)) ∧ Below w.heap.size w w' := by
  go_enter Tryz.func13, Tryz.ntmps13
  go_wp2_with (with_reducible refine wpl_g (g := g) (b := w.heap.size) (t := 25) (by (repeat (first | assumption | exact Blk.new _ _ _ | (refine Blk.new' _ _ _ ?_; (simp; done)) | refine Blk.drew ?_ | refine Blk.alloc ?_ _ | (refine Blk.fars ?_ ?_ _ _; rotate_left; (dsimp only; omega)) | (refine Blk.far ?_ ?_ _; rotate_left; (first | (dsimp only; omega) | (simp; done) | (simp; omega) | omega))))) rfl rfl rfl ?_)
  refine (HF.out _ (by repeat (first | exact Below.refl _ _ | assumption | (refine Below.setCell ?_ (by first | omega | (simp; done) | (simp; omega)) _) | (refine Below.alloc ?_ (by first | omega | (simp; done) | (simp; omega)) _) | refine Below.drew ?_ | (refine below_thru ?_ (by assumption) (by first | omega | (simp; done) | (simp; omega))) | refine below_drewN ?_ _))).mono ?_
  rintro e w1 ⟨rfl, hb1⟩
  obtain ⟨hc1, hf1⟩ := bcell hb1; have hz1 := hb1.size; (try simp at hz1)
  have hB1 : Blk w1 w.heap.size 25 (grow g) := Blk.thru (by (repeat (first | assumption | exact Blk.new _ _ _ | (refine Blk.new' _ _ _ ?_; (simp; done)) | refine Blk.drew ?_ | refine Blk.alloc ?_ _ | (refine Blk.fars ?_ ?_ _ _; rotate_left; (dsimp only; omega)) | (refine Blk.far ?_ ?_ _; rotate_left; (first | (dsimp only; omega) | (simp; done) | (simp; omega) | omega))))) hb1 (by simp <;> omega)
  have hS1 : Blk w1 (w.heap.size + 1) 27 #[.int .i64 s.pos, .int .i64 s.charge, .bool true] := Blk.thru (by (repeat (first | assumption | exact Blk.new _ _ _ | (refine Blk.new' _ _ _ ?_; (simp; done)) | refine Blk.drew ?_ | refine Blk.alloc ?_ _ | (refine Blk.fars ?_ ?_ _ _; rotate_left; (dsimp only; omega)) | (refine Blk.far ?_ ?_ _; rotate_left; (first | (dsimp only; omega) | (simp; done) | (simp; omega) | omega))))) hb1 (by simp <;> omega)
  have hR1 : Blk w1 (w.heap.size + 1 + 1) 27 #[.int .i64 0, .int .i64 0, .bool false] := Blk.thru (by (repeat (first | assumption | exact Blk.new _ _ _ | (refine Blk.new' _ _ _ ?_; (simp; done)) | refine Blk.drew ?_ | refine Blk.alloc ?_ _ | (refine Blk.fars ?_ ?_ _ _; rotate_left; (dsimp only; omega)) | (refine Blk.far ?_ ?_ _; rotate_left; (first | (dsimp only; omega) | (simp; done) | (simp; omega) | omega))))) hb1 (by simp <;> omega)
  have hw1 : Below w.heap.size w w1 := (by repeat (first | exact Below.refl _ _ | assumption | (refine Below.setCell ?_ (by first | omega | (simp; done) | (simp; omega)) _) | (refine Below.alloc ?_ (by first | omega | (simp; done) | (simp; omega)) _) | refine Below.drew ?_ | (refine below_thru ?_ (by assumption) (by first | omega | (simp; done) | (simp; omega))) | refine below_drewN ?_ _))
  clear hc1 hf1 hb1
  obtain ⟨sp0, sp1, sp2, _⟩ := hS1.three
  obtain ⟨rp0, rp1, rp2, _⟩ := hR1.three
  have sp4 := hS1.frozen 0
  have sp5 := hS1.frozen 1
  have sp6 := hS1.frozen 2
  have rp4 := hR1.frozen 0
  have rp5 := hR1.frozen 1
  have rp6 := hR1.frozen 2
  have hl12 : w.heap.size + 1 + 1 < w1.heap.size := hR1.lt
  have hl11 : w.heap.size + 1 < w1.heap.size := by omega
  have hl10 : w.heap.size < w1.heap.size := by omega
  go_wp2_with (with_reducible refine wpl_g (g := g) (b := w.heap.size) (t := 25) (by (repeat (first | assumption | exact Blk.new _ _ _ | (refine Blk.new' _ _ _ ?_; (simp; done)) | refine Blk.drew ?_ | refine Blk.alloc ?_ _ | (refine Blk.fars ?_ ?_ _ _; rotate_left; (dsimp only; omega)) | (refine Blk.far ?_ ?_ _; rotate_left; (first | (dsimp only; omega) | (simp; done) | (simp; omega) | omega))))) rfl rfl rfl ?_)
  refine (HS.out _).mono ?_
  rintro e w2 ⟨rfl, hb2⟩
  have hw2 : Below w.heap.size w w2 := hw1.trans (hb2.mono hw1.size)
  have hB2 : Blk w2 w.heap.size 25 (grow g) := hB1.thru hb2 hB1.lt
  have hS2 : Blk w2 (w.heap.size + 1) 27 #[.int .i64 s.pos, .int .i64 s.charge, .bool true] := hS1.thru hb2 hS1.lt
  have hR2 : Blk w2 (w.heap.size + 1 + 1) 27 #[.int .i64 0, .int .i64 0, .bool false] := hR1.thru hb2 hR1.lt
  clear hb2
  clear sp0 sp1 sp2 sp4 sp5 sp6 rp0 rp1 rp2 rp4 rp5 rp6 hB1 hS1 hR1 hl12 hl11 hl10
  obtain ⟨sz0, sz1, sz2, _⟩ := hS2.three
  obtain ⟨rz0, rz1, rz2, _⟩ := hR2.three
  have sz4 := hS2.frozen 0
  have sz5 := hS2.frozen 1
  have sz6 := hS2.frozen 2
  have rz4 := hR2.frozen 0
  have rz5 := hR2.frozen 1
  have rz6 := hR2.frozen 2
  have hl22 : w.heap.size + 1 + 1 < w2.heap.size := hR2.lt
  have hl21 : w.heap.size + 1 < w2.heap.size := by omega
  have hl20 : w.heap.size < w2.heap.size := by omega
  clear hB2 hS2 hR2
  go_wp2
  exact bodyPost_ret (v := boltV (⟨0, 0, false⟩, 5)) (by simp [results, Tryz.results13, go_sem, rz0, rz1, rz2, hl22] <;> omega) rfl ⟨rfl, (by repeat (first | exact Below.refl _ _ | assumption | (refine Below.setCell ?_ (by first | omega | (simp; done) | (simp; omega)) _) | (refine Below.alloc ?_ (by first | omega | (simp; done) | (simp; omega)) _) | refine Below.drew ?_ | (refine below_thru ?_ (by assumption) (by first | omega | (simp; done) | (simp; omega))) | refine below_drewN ?_ _))⟩
set_option maxRecDepth 100000 in
set_option maxHeartbeats 4000000 in
theorem rbolt_none (g : Ga) (s : Gs) (rA : Option Addr) (rn rc : Nat) (w : World) (Fp Fa : Int)
    (HF : Hid (∀ W, Below w.heap.size w W → Calls Tryz.prog 28 #[g.v] W fun e w' => e = .returned (.tuple #[.int .i64 Fp, .int .i64 Fa, .int .i64 0]) ∧ Below W.heap.size W w'))
    (HS : Hid (∀ W, Calls Tryz.prog 37 #[g.v, .agg #[.int .i64 s.pos, .int .i64 s.charge, .bool false]] W fun e w' => e = .returned (.int .i64 0) ∧ Below W.heap.size W w')) :
    Calls Tryz.prog 13 #[g.v, .agg #[.int .i64 s.pos, .int .i64 s.charge, .bool false], .bool false, .slice rA rn rc] w fun e w' => e = .returned (boltV (⟨0, 0, false⟩, 4)) ∧ Below w.heap.size w w' := by
  go_enter Tryz.func13, Tryz.ntmps13
  go_wp2_with (with_reducible refine wpl_g (g := g) (b := w.heap.size) (t := 25) (by (repeat (first | assumption | exact Blk.new _ _ _ | (refine Blk.new' _ _ _ ?_; (simp; done)) | refine Blk.drew ?_ | refine Blk.alloc ?_ _ | (refine Blk.fars ?_ ?_ _ _; rotate_left; (dsimp only; omega)) | (refine Blk.far ?_ ?_ _; rotate_left; (first | (dsimp only; omega) | (simp; done) | (simp; omega) | omega))))) rfl rfl rfl ?_)
  refine (HF.out _ (by repeat (first | exact Below.refl _ _ | assumption | (refine Below.setCell ?_ (by first | omega | (simp; done) | (simp; omega)) _) | (refine Below.alloc ?_ (by first | omega | (simp; done) | (simp; omega)) _) | refine Below.drew ?_ | (refine below_thru ?_ (by assumption) (by first | omega | (simp; done) | (simp; omega))) | refine below_drewN ?_ _))).mono ?_
  rintro e w1 ⟨rfl, hb1⟩
  obtain ⟨hc1, hf1⟩ := bcell hb1; have hz1 := hb1.size; (try simp at hz1)
  have hB1 : Blk w1 w.heap.size 25 (grow g) := Blk.thru (by (repeat (first | assumption | exact Blk.new _ _ _ | (refine Blk.new' _ _ _ ?_; (simp; done)) | refine Blk.drew ?_ | refine Blk.alloc ?_ _ | (refine Blk.fars ?_ ?_ _ _; rotate_left; (dsimp only; omega)) | (refine Blk.far ?_ ?_ _; rotate_left; (first | (dsimp only; omega) | (simp; done) | (simp; omega) | omega))))) hb1 (by simp <;> omega)
  have hS1 : Blk w1 (w.heap.size + 1) 27 #[.int .i64 s.pos, .int .i64 s.charge, .bool false] := Blk.thru (by (repeat (first | assumption | exact Blk.new _ _ _ | (refine Blk.new' _ _ _ ?_; (simp; done)) | refine Blk.drew ?_ | refine Blk.alloc ?_ _ | (refine Blk.fars ?_ ?_ _ _; rotate_left; (dsimp only; omega)) | (refine Blk.far ?_ ?_ _; rotate_left; (first | (dsimp only; omega) | (simp; done) | (simp; omega) | omega))))) hb1 (by simp <;> omega)
  have hR1 : Blk w1 (w.heap.size + 1 + 1) 27 #[.int .i64 0, .int .i64 0, .bool false] := Blk.thru (by (repeat (first | assumption | exact Blk.new _ _ _ | (refine Blk.new' _ _ _ ?_; (simp; done)) | refine Blk.drew ?_ | refine Blk.alloc ?_ _ | (refine Blk.fars ?_ ?_ _ _; rotate_left; (dsimp only; omega)) | (refine Blk.far ?_ ?_ _; rotate_left; (first | (dsimp only; omega) | (simp; done) | (simp; omega) | omega))))) hb1 (by simp <;> omega)
  have hw1 : Below w.heap.size w w1 := (by repeat (first | exact Below.refl _ _ | assumption | (refine Below.setCell ?_ (by first | omega | (simp; done) | (simp; omega)) _) | (refine Below.alloc ?_ (by first | omega | (simp; done) | (simp; omega)) _) | refine Below.drew ?_ | (refine below_thru ?_ (by assumption) (by first | omega | (simp; done) | (simp; omega))) | refine below_drewN ?_ _))
  clear hc1 hf1 hb1
  obtain ⟨sp0, sp1, sp2, _⟩ := hS1.three
  obtain ⟨rp0, rp1, rp2, _⟩ := hR1.three
  have sp4 := hS1.frozen 0
  have sp5 := hS1.frozen 1
  have sp6 := hS1.frozen 2
  have rp4 := hR1.frozen 0
  have rp5 := hR1.frozen 1
  have rp6 := hR1.frozen 2
  have hl12 : w.heap.size + 1 + 1 < w1.heap.size := hR1.lt
  have hl11 : w.heap.size + 1 < w1.heap.size := by omega
  have hl10 : w.heap.size < w1.heap.size := by omega
  go_wp2_with (with_reducible refine wpl_g (g := g) (b := w.heap.size) (t := 25) (by (repeat (first | assumption | exact Blk.new _ _ _ | (refine Blk.new' _ _ _ ?_; (simp; done)) | refine Blk.drew ?_ | refine Blk.alloc ?_ _ | (refine Blk.fars ?_ ?_ _ _; rotate_left; (dsimp only; omega)) | (refine Blk.far ?_ ?_ _; rotate_left; (first | (dsimp only; omega) | (simp; done) | (simp; omega) | omega))))) rfl rfl rfl ?_)
  refine (HS.out _).mono ?_
  rintro e w2 ⟨rfl, hb2⟩
  have hw2 : Below w.heap.size w w2 := hw1.trans (hb2.mono hw1.size)
  have hB2 : Blk w2 w.heap.size 25 (grow g) := hB1.thru hb2 hB1.lt
  have hS2 : Blk w2 (w.heap.size + 1) 27 #[.int .i64 s.pos, .int .i64 s.charge, .bool false] := hS1.thru hb2 hS1.lt
  have hR2 : Blk w2 (w.heap.size + 1 + 1) 27 #[.int .i64 0, .int .i64 0, .bool false] := hR1.thru hb2 hR1.lt
  clear hb2
  clear sp0 sp1 sp2 sp4 sp5 sp6 rp0 rp1 rp2 rp4 rp5 rp6 hB1 hS1 hR1 hl12 hl11 hl10
  obtain ⟨sz0, sz1, sz2, _⟩ := hS2.three
  obtain ⟨rz0, rz1, rz2, _⟩ := hR2.three
  have sz4 := hS2.frozen 0
  have sz5 := hS2.frozen 1
  have sz6 := hS2.frozen 2
  have rz4 := hR2.frozen 0
  have rz5 := hR2.frozen 1
  have rz6 := hR2.frozen 2
  have hl22 : w.heap.size + 1 + 1 < w2.heap.size := hR2.lt
  have hl21 : w.heap.size + 1 < w2.heap.size := by omega
  have hl20 : w.heap.size < w2.heap.size := by omega
  clear hB2 hS2 hR2
  go_wp2
  exact bodyPost_ret (v := boltV (⟨0, 0, false⟩, 4)) (by simp [results, Tryz.results13, go_sem, rz0, rz1, rz2, hl22] <;> omega) rfl ⟨rfl, (by repeat (first | exact Below.refl _ _ | assumption | (refine Below.setCell ?_ (by first | omega | (simp; done) | (simp; omega)) _) | (refine Below.alloc ?_ (by first | omega | (simp; done) | (simp; omega)) _) | refine Below.drew ?_ | (refine below_thru ?_ (by assumption) (by first | omega | (simp; done) | (simp; omega))) | refine below_drewN ?_ _))⟩
set_option maxRecDepth 100000 in
set_option maxHeartbeats 4000000 in
theorem rbolt_off (g : Ga) (s : Gs) (rA : Option Addr) (rn rc : Nat) (w : World) (Fp Fa : Int)
    (HF : Hid (∀ W, Below w.heap.size w W → Calls Tryz.prog 28 #[g.v] W fun e w' => e = .returned (.tuple #[.int .i64 Fp, .int .i64 Fa, .int .i64 0]) ∧ Below W.heap.size W w'))
    (HS : Hid (∀ W, Calls Tryz.prog 37 #[g.v, .agg #[.int .i64 s.pos, .int .i64 s.charge, .bool true]] W fun e w' => e = .returned (.int .i64 0) ∧ Below W.heap.size W w')) :
    Calls Tryz.prog 13 #[g.v, .agg #[.int .i64 s.pos, .int .i64 s.charge, .bool true], .bool false, .slice rA rn rc] w fun e w' => e = .returned (boltV (⟨s.pos, s.charge, false⟩, 0)) ∧ Below w.heap.size w w' := by
  go_enter Tryz.func13, Tryz.ntmps13
  go_wp2_with (with_reducible refine wpl_g (g := g) (b := w.heap.size) (t := 25) (by (repeat (first | assumption | exact Blk.new _ _ _ | (refine Blk.new' _ _ _ ?_; (simp; done)) | refine Blk.drew ?_ | refine Blk.alloc ?_ _ | (refine Blk.fars ?_ ?_ _ _; rotate_left; (dsimp only; omega)) | (refine Blk.far ?_ ?_ _; rotate_left; (first | (dsimp only; omega) | (simp; done) | (simp; omega) | omega))))) rfl rfl rfl ?_)
  refine (HF.out _ (by repeat (first | exact Below.refl _ _ | assumption | (refine Below.setCell ?_ (by first | omega | (simp; done) | (simp; omega)) _) | (refine Below.alloc ?_ (by first | omega | (simp; done) | (simp; omega)) _) | refine Below.drew ?_ | (refine below_thru ?_ (by assumption) (by first | omega | (simp; done) | (simp; omega))) | refine below_drewN ?_ _))).mono ?_
  rintro e w1 ⟨rfl, hb1⟩
  obtain ⟨hc1, hf1⟩ := bcell hb1; have hz1 := hb1.size; (try simp at hz1)
  have hB1 : Blk w1 w.heap.size 25 (grow g) := Blk.thru (by (repeat (first | assumption | exact Blk.new _ _ _ | (refine Blk.new' _ _ _ ?_; (simp; done)) | refine Blk.drew ?_ | refine Blk.alloc ?_ _ | (refine Blk.fars ?_ ?_ _ _; rotate_left; (dsimp only; omega)) | (refine Blk.far ?_ ?_ _; rotate_left; (first | (dsimp only; omega) | (simp; done) | (simp; omega) | omega))))) hb1 (by simp <;> omega)
  have hS1 : Blk w1 (w.heap.size + 1) 27 #[.int .i64 s.pos, .int .i64 s.charge, .bool true] := Blk.thru (by (repeat (first | assumption | exact Blk.new _ _ _ | (refine Blk.new' _ _ _ ?_; (simp; done)) | refine Blk.drew ?_ | refine Blk.alloc ?_ _ | (refine Blk.fars ?_ ?_ _ _; rotate_left; (dsimp only; omega)) | (refine Blk.far ?_ ?_ _; rotate_left; (first | (dsimp only; omega) | (simp; done) | (simp; omega) | omega))))) hb1 (by simp <;> omega)
  have hR1 : Blk w1 (w.heap.size + 1 + 1) 27 #[.int .i64 0, .int .i64 0, .bool false] := Blk.thru (by (repeat (first | assumption | exact Blk.new _ _ _ | (refine Blk.new' _ _ _ ?_; (simp; done)) | refine Blk.drew ?_ | refine Blk.alloc ?_ _ | (refine Blk.fars ?_ ?_ _ _; rotate_left; (dsimp only; omega)) | (refine Blk.far ?_ ?_ _; rotate_left; (first | (dsimp only; omega) | (simp; done) | (simp; omega) | omega))))) hb1 (by simp <;> omega)
  have hw1 : Below w.heap.size w w1 := (by repeat (first | exact Below.refl _ _ | assumption | (refine Below.setCell ?_ (by first | omega | (simp; done) | (simp; omega)) _) | (refine Below.alloc ?_ (by first | omega | (simp; done) | (simp; omega)) _) | refine Below.drew ?_ | (refine below_thru ?_ (by assumption) (by first | omega | (simp; done) | (simp; omega))) | refine below_drewN ?_ _))
  clear hc1 hf1 hb1
  obtain ⟨sp0, sp1, sp2, _⟩ := hS1.three
  obtain ⟨rp0, rp1, rp2, _⟩ := hR1.three
  have sp4 := hS1.frozen 0
  have sp5 := hS1.frozen 1
  have sp6 := hS1.frozen 2
  have rp4 := hR1.frozen 0
  have rp5 := hR1.frozen 1
  have rp6 := hR1.frozen 2
  have hl12 : w.heap.size + 1 + 1 < w1.heap.size := hR1.lt
  have hl11 : w.heap.size + 1 < w1.heap.size := by omega
  have hl10 : w.heap.size < w1.heap.size := by omega
  go_wp2_with (with_reducible refine wpl_g (g := g) (b := w.heap.size) (t := 25) (by (repeat (first | assumption | exact Blk.new _ _ _ | (refine Blk.new' _ _ _ ?_; (simp; done)) | refine Blk.drew ?_ | refine Blk.alloc ?_ _ | (refine Blk.fars ?_ ?_ _ _; rotate_left; (dsimp only; omega)) | (refine Blk.far ?_ ?_ _; rotate_left; (first | (dsimp only; omega) | (simp; done) | (simp; omega) | omega))))) rfl rfl rfl ?_)
  refine (HS.out _).mono ?_
  rintro e w2 ⟨rfl, hb2⟩
  have hw2 : Below w.heap.size w w2 := hw1.trans (hb2.mono hw1.size)
  have hB2 : Blk w2 w.heap.size 25 (grow g) := hB1.thru hb2 hB1.lt
  have hS2 : Blk w2 (w.heap.size + 1) 27 #[.int .i64 s.pos, .int .i64 s.charge, .bool true] := hS1.thru hb2 hS1.lt
  have hR2 : Blk w2 (w.heap.size + 1 + 1) 27 #[.int .i64 0, .int .i64 0, .bool false] := hR1.thru hb2 hR1.lt
  clear hb2
  clear sp0 sp1 sp2 sp4 sp5 sp6 rp0 rp1 rp2 rp4 rp5 rp6 hB1 hS1 hR1 hl12 hl11 hl10
  obtain ⟨sz0, sz1, sz2, _⟩ := hS2.three
  obtain ⟨rz0, rz1, rz2, _⟩ := hR2.three
  have sz4 := hS2.frozen 0
  have sz5 := hS2.frozen 1
  have sz6 := hS2.frozen 2
  have rz4 := hR2.frozen 0
  have rz5 := hR2.frozen 1
  have rz6 := hR2.frozen 2
  have hl22 : w.heap.size + 1 + 1 < w2.heap.size := hR2.lt
  have hl21 : w.heap.size + 1 < w2.heap.size := by omega
  have hl20 : w.heap.size < w2.heap.size := by omega
  clear hB2 hS2 hR2
  go_wp2
  exact bodyPost_ret (v := boltV (⟨s.pos, s.charge, false⟩, 0)) (by simp [results, Tryz.results13, go_sem, rz0, rz1, rz2, hl22] <;> omega) rfl ⟨rfl, (by repeat (first | exact Below.refl _ _ | assumption | (refine Below.setCell ?_ (by first | omega | (simp; done) | (simp; omega)) _) | (refine Below.alloc ?_ (by first | omega | (simp; done) | (simp; omega)) _) | refine Below.drew ?_ | (refine below_thru ?_ (by assumption) (by first | omega | (simp; done) | (simp; omega))) | refine below_drewN ?_ _))⟩
set_option maxRecDepth 100000 in
set_option maxHeartbeats 4000000 in
theorem rbolt_down (g : Ga) (s : Gs) (rA : Option Addr) (rn rc : Nat) (w : World) (Fp Fa : Int)
    (HF : Hid (∀ W, Below w.heap.size w W → Calls Tryz.prog 28 #[g.v] W fun e w' => e = .returned (.tuple #[.int .i64 Fp, .int .i64 Fa, .int .i64 0]) ∧ Below W.heap.size W w'))
    (HS : Hid (∀ W, Calls Tryz.prog 37 #[g.v, .agg #[.int .i64 s.pos, .int .i64 s.charge, .bool false]] W fun e w' => e = .returned (.int .i64 0) ∧ Below W.heap.size W w')) (sa se : Int) (q1 : (se == 0) = false) (q1' : (se != 0) = true)
    (HU : Hid (∀ W, Below w.heap.size w W → Calls Tryz.prog 11 #[g.v, .slice rA rn rc] W fun e w' => e = .returned (.tuple #[.int .i64 sa, .int .i64 se]) ∧ Below W.heap.size W w')) :
    Calls Tryz.prog 13 #[g.v, .agg #[.int .i64 s.pos, .int .i64 s.charge, .bool false], .bool true, .slice rA rn rc] w fun e w' => e = .returned (boltV (⟨0, 0, false⟩, se)) ∧ Below w.heap.size w w' := by
  go_enter Tryz.func13, Tryz.ntmps13
  go_wp2_with (with_reducible refine wpl_g (g := g) (b := w.heap.size) (t := 25) (by (repeat (first | assumption | exact Blk.new _ _ _ | (refine Blk.new' _ _ _ ?_; (simp; done)) | refine Blk.drew ?_ | refine Blk.alloc ?_ _ | (refine Blk.fars ?_ ?_ _ _; rotate_left; (dsimp only; omega)) | (refine Blk.far ?_ ?_ _; rotate_left; (first | (dsimp only; omega) | (simp; done) | (simp; omega) | omega))))) rfl rfl rfl ?_)
  refine (HF.out _ (by repeat (first | exact Below.refl _ _ | assumption | (refine Below.setCell ?_ (by first | omega | (simp; done) | (simp; omega)) _) | (refine Below.alloc ?_ (by first | omega | (simp; done) | (simp; omega)) _) | refine Below.drew ?_ | (refine below_thru ?_ (by assumption) (by first | omega | (simp; done) | (simp; omega))) | refine below_drewN ?_ _))).mono ?_
  rintro e w1 ⟨rfl, hb1⟩
  obtain ⟨hc1, hf1⟩ := bcell hb1; have hz1 := hb1.size; (try simp at hz1)
  have hB1 : Blk w1 w.heap.size 25 (grow g) := Blk.thru (by (repeat (first | assumption | exact Blk.new _ _ _ | (refine Blk.new' _ _ _ ?_; (simp; done)) | refine Blk.drew ?_ | refine Blk.alloc ?_ _ | (refine Blk.fars ?_ ?_ _ _; rotate_left; (dsimp only; omega)) | (refine Blk.far ?_ ?_ _; rotate_left; (first | (dsimp only; omega) | (simp; done) | (simp; omega) | omega))))) hb1 (by simp <;> omega)
  have hS1 : Blk w1 (w.heap.size + 1) 27 #[.int .i64 s.pos, .int .i64 s.charge, .bool false] := Blk.thru (by (repeat (first | assumption | exact Blk.new _ _ _ | (refine Blk.new' _ _ _ ?_; (simp; done)) | refine Blk.drew ?_ | refine Blk.alloc ?_ _ | (refine Blk.fars ?_ ?_ _ _; rotate_left; (dsimp only; omega)) | (refine Blk.far ?_ ?_ _; rotate_left; (first | (dsimp only; omega) | (simp; done) | (simp; omega) | omega))))) hb1 (by simp <;> omega)
  have hR1 : Blk w1 (w.heap.size + 1 + 1) 27 #[.int .i64 0, .int .i64 0, .bool false] := Blk.thru (by (repeat (first | assumption | exact Blk.new _ _ _ | (refine Blk.new' _ _ _ ?_; (simp; done)) | refine Blk.drew ?_ | refine Blk.alloc ?_ _ | (refine Blk.fars ?_ ?_ _ _; rotate_left; (dsimp only; omega)) | (refine Blk.far ?_ ?_ _; rotate_left; (first | (dsimp only; omega) | (simp; done) | (simp; omega) | omega))))) hb1 (by simp <;> omega)
  have hw1 : Below w.heap.size w w1 := (by repeat (first | exact Below.refl _ _ | assumption | (refine Below.setCell ?_ (by first | omega | (simp; done) | (simp; omega)) _) | (refine Below.alloc ?_ (by first | omega | (simp; done) | (simp; omega)) _) | refine Below.drew ?_ | (refine below_thru ?_ (by assumption) (by first | omega | (simp; done) | (simp; omega))) | refine below_drewN ?_ _))
  clear hc1 hf1 hb1
  obtain ⟨sp0, sp1, sp2, _⟩ := hS1.three
  obtain ⟨rp0, rp1, rp2, _⟩ := hR1.three
  have sp4 := hS1.frozen 0
  have sp5 := hS1.frozen 1
  have sp6 := hS1.frozen 2
  have rp4 := hR1.frozen 0
  have rp5 := hR1.frozen 1
  have rp6 := hR1.frozen 2
  have hl12 : w.heap.size + 1 + 1 < w1.heap.size := hR1.lt
  have hl11 : w.heap.size + 1 < w1.heap.size := by omega
  have hl10 : w.heap.size < w1.heap.size := by omega
  go_wp2_with (with_reducible refine wpl_g (g := g) (b := w.heap.size) (t := 25) (by (repeat (first | assumption | exact Blk.new _ _ _ | (refine Blk.new' _ _ _ ?_; (simp; done)) | refine Blk.drew ?_ | refine Blk.alloc ?_ _ | (refine Blk.fars ?_ ?_ _ _; rotate_left; (dsimp only; omega)) | (refine Blk.far ?_ ?_ _; rotate_left; (first | (dsimp only; omega) | (simp; done) | (simp; omega) | omega))))) rfl rfl rfl ?_)
  refine (HS.out _).mono ?_
  rintro e w2 ⟨rfl, hb2⟩
  have hw2 : Below w.heap.size w w2 := hw1.trans (hb2.mono hw1.size)
  have hB2 : Blk w2 w.heap.size 25 (grow g) := hB1.thru hb2 hB1.lt
  have hS2 : Blk w2 (w.heap.size + 1) 27 #[.int .i64 s.pos, .int .i64 s.charge, .bool false] := hS1.thru hb2 hS1.lt
  have hR2 : Blk w2 (w.heap.size + 1 + 1) 27 #[.int .i64 0, .int .i64 0, .bool false] := hR1.thru hb2 hR1.lt
  clear hb2
  clear sp0 sp1 sp2 sp4 sp5 sp6 rp0 rp1 rp2 rp4 rp5 rp6 hB1 hS1 hR1 hl12 hl11 hl10
  obtain ⟨sq0, sq1, sq2, _⟩ := hS2.three
  obtain ⟨rq0, rq1, rq2, _⟩ := hR2.three
  have sq4 := hS2.frozen 0
  have sq5 := hS2.frozen 1
  have sq6 := hS2.frozen 2
  have rq4 := hR2.frozen 0
  have rq5 := hR2.frozen 1
  have rq6 := hR2.frozen 2
  have hl22 : w.heap.size + 1 + 1 < w2.heap.size := hR2.lt
  have hl21 : w.heap.size + 1 < w2.heap.size := by omega
  have hl20 : w.heap.size < w2.heap.size := by omega
  go_wp2_with (with_reducible refine wpl_g (g := g) (b := w.heap.size) (t := 25) (by (repeat (first | assumption | exact Blk.new _ _ _ | (refine Blk.new' _ _ _ ?_; (simp; done)) | refine Blk.drew ?_ | refine Blk.alloc ?_ _ | (refine Blk.fars ?_ ?_ _ _; rotate_left; (dsimp only; omega)) | (refine Blk.far ?_ ?_ _; rotate_left; (first | (dsimp only; omega) | (simp; done) | (simp; omega) | omega))))) rfl rfl rfl ?_)
  refine (HU.out _ (by repeat (first | exact Below.refl _ _ | assumption | (refine Below.setCell ?_ (by first | omega | (simp; done) | (simp; omega)) _) | (refine Below.alloc ?_ (by first | omega | (simp; done) | (simp; omega)) _) | refine Below.drew ?_ | (refine below_thru ?_ (by assumption) (by first | omega | (simp; done) | (simp; omega))) | refine below_drewN ?_ _))).mono ?_
  rintro e w3 ⟨rfl, hb3⟩
  have hw3 : Below w.heap.size w w3 := hw2.trans (hb3.mono hw2.size)
  have hB3 : Blk w3 w.heap.size 25 (grow g) := hB2.thru hb3 hB2.lt
  have hS3 : Blk w3 (w.heap.size + 1) 27 #[.int .i64 s.pos, .int .i64 s.charge, .bool false] := hS2.thru hb3 hS2.lt
  have hR3 : Blk w3 (w.heap.size + 1 + 1) 27 #[.int .i64 0, .int .i64 0, .bool false] := hR2.thru hb3 hR2.lt
  clear hb3
  clear sq0 sq1 sq2 sq4 sq5 sq6 rq0 rq1 rq2 rq4 rq5 rq6 hB2 hS2 hR2 hl22 hl21 hl20
  obtain ⟨sz0, sz1, sz2, _⟩ := hS3.three
  obtain ⟨rz0, rz1, rz2, _⟩ := hR3.three
  have sz4 := hS3.frozen 0
  have sz5 := hS3.frozen 1
  have sz6 := hS3.frozen 2
  have rz4 := hR3.frozen 0
  have rz5 := hR3.frozen 1
  have rz6 := hR3.frozen 2
  have hl32 : w.heap.size + 1 + 1 < w3.heap.size := hR3.lt
  have hl31 : w.heap.size + 1 < w3.heap.size := by omega
  have hl30 : w.heap.size < w3.heap.size := by omega
  clear hB3 hS3 hR3
  go_wp2
  exact bodyPost_ret (v := boltV (⟨0, 0, false⟩, se)) (by simp [results, Tryz.results13, go_sem, rz0, rz1, rz2, hl32] <;> omega) rfl ⟨rfl, (by repeat (first | exact Below.refl _ _ | assumption | (refine Below.setCell ?_ (by first | omega | (simp; done) | (simp; omega)) _) | (refine Below.alloc ?_ (by first | omega | (simp; done) | (simp; omega)) _) | refine Below.drew ?_ | (refine below_thru ?_ (by assumption) (by first | omega | (simp; done) | (simp; omega))) | refine below_drewN ?_ _))⟩
set_option maxRecDepth 100000 in
set_option maxHeartbeats 4000000 in
theorem rbolt_mid (g : Ga) (s : Gs) (rA : Option Addr) (rn rc : Nat) (w : World) (Fp Fa : Int)
    (HF : Hid (∀ W, Below w.heap.size w W → Calls Tryz.prog 28 #[g.v] W fun e w' => e = .returned (.tuple #[.int .i64 Fp, .int .i64 Fa, .int .i64 0]) ∧ Below W.heap.size W w'))
    (HS : Hid (∀ W, Calls Tryz.prog 37 #[g.v, .agg #[.int .i64 s.pos, .int .i64 s.charge, .bool false]] W fun e w' => e = .returned (.int .i64 0) ∧ Below W.heap.size W w')) 
    (HU : Hid (∀ W, Below w.heap.size w W → Calls Tryz.prog 11 #[g.v, .slice rA rn rc] W fun e w' => e = .returned (.tuple #[.int .i64 0, .int .i64 0]) ∧ Below W.heap.size W w')) :
    Calls Tryz.prog 13 #[g.v, .agg #[.int .i64 s.pos, .int .i64 s.charge, .bool false], .bool true, .slice rA rn rc] w fun e w' => e = .returned (boltV (⟨0, 0, false⟩, 9)) ∧ Below w.heap.size w w' := by
  go_enter Tryz.func13, Tryz.ntmps13
  go_wp2_with (with_reducible refine wpl_g (g := g) (b := w.heap.size) (t := 25) (by (repeat (first | assumption | exact Blk.new _ _ _ | (refine Blk.new' _ _ _ ?_; (simp; done)) | refine Blk.drew ?_ | refine Blk.alloc ?_ _ | (refine Blk.fars ?_ ?_ _ _; rotate_left; (dsimp only; omega)) | (refine Blk.far ?_ ?_ _; rotate_left; (first | (dsimp only; omega) | (simp; done) | (simp; omega) | omega))))) rfl rfl rfl ?_)
  refine (HF.out _ (by repeat (first | exact Below.refl _ _ | assumption | (refine Below.setCell ?_ (by first | omega | (simp; done) | (simp; omega)) _) | (refine Below.alloc ?_ (by first | omega | (simp; done) | (simp; omega)) _) | refine Below.drew ?_ | (refine below_thru ?_ (by assumption) (by first | omega | (simp; done) | (simp; omega))) | refine below_drewN ?_ _))).mono ?_
  rintro e w1 ⟨rfl, hb1⟩
  obtain ⟨hc1, hf1⟩ := bcell hb1; have hz1 := hb1.size; (try simp at hz1)
  have hB1 : Blk w1 w.heap.size 25 (grow g) := Blk.thru (by (repeat (first | assumption | exact Blk.new _ _ _ | (refine Blk.new' _ _ _ ?_; (simp; done)) | refine Blk.drew ?_ | refine Blk.alloc ?_ _ | (refine Blk.fars ?_ ?_ _ _; rotate_left; (dsimp only; omega)) | (refine Blk.far ?_ ?_ _; rotate_left; (first | (dsimp only; omega) | (simp; done) | (simp; omega) | omega))))) hb1 (by simp <;> omega)
  have hS1 : Blk w1 (w.heap.size + 1) 27 #[.int .i64 s.pos, .int .i64 s.charge, .bool false] := Blk.thru (by (repeat (first | assumption | exact Blk.new _ _ _ | (refine Blk.new' _ _ _ ?_; (simp; done)) | refine Blk.drew ?_ | refine Blk.alloc ?_ _ | (refine Blk.fars ?_ ?_ _ _; rotate_left; (dsimp only; omega)) | (refine Blk.far ?_ ?_ _; rotate_left; (first | (dsimp only; omega) | (simp; done) | (simp; omega) | omega))))) hb1 (by simp <;> omega)
  have hR1 : Blk w1 (w.heap.size + 1 + 1) 27 #[.int .i64 0, .int .i64 0, .bool false] := Blk.thru (by (repeat (first | assumption | exact Blk.new _ _ _ | (refine Blk.new' _ _ _ ?_; (simp; done)) | refine Blk.drew ?_ | refine Blk.alloc ?_ _ | (refine Blk.fars ?_ ?_ _ _; rotate_left; (dsimp only; omega)) | (refine Blk.far ?_ ?_ _; rotate_left; (first | (dsimp only; omega) | (simp; done) | (simp; omega) | omega))))) hb1 (by simp <;> omega)
  have hw1 : Below w.heap.size w w1 := (by repeat (first | exact Below.refl _ _ | assumption | (refine Below.setCell ?_ (by first | omega | (simp; done) | (simp; omega)) _) | (refine Below.alloc ?_ (by first | omega | (simp; done) | (simp; omega)) _) | refine Below.drew ?_ | (refine below_thru ?_ (by assumption) (by first | omega | (simp; done) | (simp; omega))) | refine below_drewN ?_ _))
  clear hc1 hf1 hb1
  obtain ⟨sp0, sp1, sp2, _⟩ := hS1.three
  obtain ⟨rp0, rp1, rp2, _⟩ := hR1.three
  have sp4 := hS1.frozen 0
  have sp5 := hS1.frozen 1
  have sp6 := hS1.frozen 2
  have rp4 := hR1.frozen 0
  have rp5 := hR1.frozen 1
  have rp6 := hR1.frozen 2
  have hl12 : w.heap.size + 1 + 1 < w1.heap.size := hR1.lt
  have hl11 : w.heap.size + 1 < w1.heap.size := by omega
  have hl10 : w.heap.size < w1.heap.size := by omega
  go_wp2_with (with_reducible refine wpl_g (g := g) (b := w.heap.size) (t := 25) (by (repeat (first | assumption | exact Blk.new _ _ _ | (refine Blk.new' _ _ _ ?_; (simp; done)) | refine Blk.drew ?_ | refine Blk.alloc ?_ _ | (refine Blk.fars ?_ ?_ _ _; rotate_left; (dsimp only; omega)) | (refine Blk.far ?_ ?_ _; rotate_left; (first | (dsimp only; omega) | (simp; done) | (simp; omega) | omega))))) rfl rfl rfl ?_)
  refine (HS.out _).mono ?_
  rintro e w2 ⟨rfl, hb2⟩
  have hw2 : Below w.heap.size w w2 := hw1.trans (hb2.mono hw1.size)
  have hB2 : Blk w2 w.heap.size 25 (grow g) := hB1.thru hb2 hB1.lt
  have hS2 : Blk w2 (w.heap.size + 1) 27 #[.int .i64 s.pos, .int .i64 s.charge, .bool false] := hS1.thru hb2 hS1.lt
  have hR2 : Blk w2 (w.heap.size + 1 + 1) 27 #[.int .i64 0, .int .i64 0, .bool false] := hR1.thru hb2 hR1.lt
  clear hb2
  clear sp0 sp1 sp2 sp4 sp5 sp6 rp0 rp1 rp2 rp4 rp5 rp6 hB1 hS1 hR1 hl12 hl11 hl10
  obtain ⟨sq0, sq1, sq2, _⟩ := hS2.three
  obtain ⟨rq0, rq1, rq2, _⟩ := hR2.three
  have sq4 := hS2.frozen 0
  have sq5 := hS2.frozen 1
  have sq6 := hS2.frozen 2
  have rq4 := hR2.frozen 0
  have rq5 := hR2.frozen 1
  have rq6 := hR2.frozen 2
  have hl22 : w.heap.size + 1 + 1 < w2.heap.size := hR2.lt
  have hl21 : w.heap.size + 1 < w2.heap.size := by omega
  have hl20 : w.heap.size < w2.heap.size := by omega
  go_wp2_with (with_reducible refine wpl_g (g := g) (b := w.heap.size) (t := 25) (by (repeat (first | assumption | exact Blk.new _ _ _ | (refine Blk.new' _ _ _ ?_; (simp; done)) | refine Blk.drew ?_ | refine Blk.alloc ?_ _ | (refine Blk.fars ?_ ?_ _ _; rotate_left; (dsimp only; omega)) | (refine Blk.far ?_ ?_ _; rotate_left; (first | (dsimp only; omega) | (simp; done) | (simp; omega) | omega))))) rfl rfl rfl ?_)
  refine (HU.out _ (by repeat (first | exact Below.refl _ _ | assumption | (refine Below.setCell ?_ (by first | omega | (simp; done) | (simp; omega)) _) | (refine Below.alloc ?_ (by first | omega | (simp; done) | (simp; omega)) _) | refine Below.drew ?_ | (refine below_thru ?_ (by assumption) (by first | omega | (simp; done) | (simp; omega))) | refine below_drewN ?_ _))).mono ?_
  rintro e w3 ⟨rfl, hb3⟩
  have hw3 : Below w.heap.size w w3 := hw2.trans (hb3.mono hw2.size)
  have hB3 : Blk w3 w.heap.size 25 (grow g) := hB2.thru hb3 hB2.lt
  have hS3 : Blk w3 (w.heap.size + 1) 27 #[.int .i64 s.pos, .int .i64 s.charge, .bool false] := hS2.thru hb3 hS2.lt
  have hR3 : Blk w3 (w.heap.size + 1 + 1) 27 #[.int .i64 0, .int .i64 0, .bool false] := hR2.thru hb3 hR2.lt
  clear hb3
  clear sq0 sq1 sq2 sq4 sq5 sq6 rq0 rq1 rq2 rq4 rq5 rq6 hB2 hS2 hR2 hl22 hl21 hl20
  obtain ⟨sz0, sz1, sz2, _⟩ := hS3.three
  obtain ⟨rz0, rz1, rz2, _⟩ := hR3.three
  have sz4 := hS3.frozen 0
  have sz5 := hS3.frozen 1
  have sz6 := hS3.frozen 2
  have rz4 := hR3.frozen 0
  have rz5 := hR3.frozen 1
  have rz6 := hR3.frozen 2
  have hl32 : w.heap.size + 1 + 1 < w3.heap.size := hR3.lt
  have hl31 : w.heap.size + 1 < w3.heap.size := by omega
  have hl30 : w.heap.size < w3.heap.size := by omega
  clear hB3 hS3 hR3
  go_wp2
  exact bodyPost_ret (v := boltV (⟨0, 0, false⟩, 9)) (by simp [results, Tryz.results13, go_sem, rz0, rz1, rz2, hl32] <;> omega) rfl ⟨rfl, (by repeat (first | exact Below.refl _ _ | assumption | (refine Below.setCell ?_ (by first | omega | (simp; done) | (simp; omega)) _) | (refine Below.alloc ?_ (by first | omega | (simp; done) | (simp; omega)) _) | refine Below.drew ?_ | (refine below_thru ?_ (by assumption) (by first | omega | (simp; done) | (simp; omega))) | refine below_drewN ?_ _))⟩
set_option maxRecDepth 100000 in
set_option maxHeartbeats 4000000 in
theorem rbolt_on (g : Ga) (s : Gs) (rA : Option Addr) (rn rc : Nat) (w : World) (Fp Fa : Int)
    (HF : Hid (∀ W, Below w.heap.size w W → Calls Tryz.prog 28 #[g.v] W fun e w' => e = .returned (.tuple #[.int .i64 Fp, .int .i64 Fa, .int .i64 0]) ∧ Below W.heap.size W w'))
    (HS : Hid (∀ W, Calls Tryz.prog 37 #[g.v, .agg #[.int .i64 s.pos, .int .i64 s.charge, .bool false]] W fun e w' => e = .returned (.int .i64 0) ∧ Below W.heap.size W w')) (sa : Int) (q2 : (sa == 0) = false)
    (HU : Hid (∀ W, Below w.heap.size w W → Calls Tryz.prog 11 #[g.v, .slice rA rn rc] W fun e w' => e = .returned (.tuple #[.int .i64 sa, .int .i64 0]) ∧ Below W.heap.size W w')) :
    Calls Tryz.prog 13 #[g.v, .agg #[.int .i64 s.pos, .int .i64 s.charge, .bool false], .bool true, .slice rA rn rc] w fun e w' => e = .returned (boltV (⟨s.pos, s.charge, true⟩, 0)) ∧ Below w.heap.size w w' := by
  go_enter Tryz.func13, Tryz.ntmps13
  go_wp2_with (with_reducible refine wpl_g (g := g) (b := w.heap.size) (t := 25) (by (repeat (first | assumption | exact Blk.new _ _ _ | (refine Blk.new' _ _ _ ?_; (simp; done)) | refine Blk.drew ?_ | refine Blk.alloc ?_ _ | (refine Blk.fars ?_ ?_ _ _; rotate_left; (dsimp only; omega)) | (refine Blk.far ?_ ?_ _; rotate_left; (first | (dsimp only; omega) | (simp; done) | (simp; omega) | omega))))) rfl rfl rfl ?_)
  refine (HF.out _ (by repeat (first | exact Below.refl _ _ | assumption | (refine Below.setCell ?_ (by first | omega | (simp; done) | (simp; omega)) _) | (refine Below.alloc ?_ (by first | omega | (simp; done) | (simp; omega)) _) | refine Below.drew ?_ | (refine below_thru ?_ (by assumption) (by first | omega | (simp; done) | (simp; omega))) | refine below_drewN ?_ _))).mono ?_
  rintro e w1 ⟨rfl, hb1⟩
  obtain ⟨hc1, hf1⟩ := bcell hb1; have hz1 := hb1.size; (try simp at hz1)
  have hB1 : Blk w1 w.heap.size 25 (grow g) := Blk.thru (by (repeat (first | assumption | exact Blk.new _ _ _ | (refine Blk.new' _ _ _ ?_; (simp; done)) | refine Blk.drew ?_ | refine Blk.alloc ?_ _ | (refine Blk.fars ?_ ?_ _ _; rotate_left; (dsimp only; omega)) | (refine Blk.far ?_ ?_ _; rotate_left; (first | (dsimp only; omega) | (simp; done) | (simp; omega) | omega))))) hb1 (by simp <;> omega)
  have hS1 : Blk w1 (w.heap.size + 1) 27 #[.int .i64 s.pos, .int .i64 s.charge, .bool false] := Blk.thru (by (repeat (first | assumption | exact Blk.new _ _ _ | (refine Blk.new' _ _ _ ?_; (simp; done)) | refine Blk.drew ?_ | refine Blk.alloc ?_ _ | (refine Blk.fars ?_ ?_ _ _; rotate_left; (dsimp only; omega)) | (refine Blk.far ?_ ?_ _; rotate_left; (first | (dsimp only; omega) | (simp; done) | (simp; omega) | omega))))) hb1 (by simp <;> omega)
  have hR1 : Blk w1 (w.heap.size + 1 + 1) 27 #[.int .i64 0, .int .i64 0, .bool false] := Blk.thru (by (repeat (first | assumption | exact Blk.new _ _ _ | (refine Blk.new' _ _ _ ?_; (simp; done)) | refine Blk.drew ?_ | refine Blk.alloc ?_ _ | (refine Blk.fars ?_ ?_ _ _; rotate_left; (dsimp only; omega)) | (refine Blk.far ?_ ?_ _; rotate_left; (first | (dsimp only; omega) | (simp; done) | (simp; omega) | omega))))) hb1 (by simp <;> omega)
  have hw1 : Below w.heap.size w w1 := (by repeat (first | exact Below.refl _ _ | assumption | (refine Below.setCell ?_ (by first | omega | (simp; done) | (simp; omega)) _) | (refine Below.alloc ?_ (by first | omega | (simp; done) | (simp; omega)) _) | refine Below.drew ?_ | (refine below_thru ?_ (by assumption) (by first | omega | (simp; done) | (simp; omega))) | refine below_drewN ?_ _))
  clear hc1 hf1 hb1
  obtain ⟨sp0, sp1, sp2, _⟩ := hS1.three
  obtain ⟨rp0, rp1, rp2, _⟩ := hR1.three
  have sp4 := hS1.frozen 0
  have sp5 := hS1.frozen 1
  have sp6 := hS1.frozen 2
  have rp4 := hR1.frozen 0
  have rp5 := hR1.frozen 1
  have rp6 := hR1.frozen 2
  have hl12 : w.heap.size + 1 + 1 < w1.heap.size := hR1.lt
  have hl11 : w.heap.size + 1 < w1.heap.size := by omega
  have hl10 : w.heap.size < w1.heap.size := by omega
  go_wp2_with (with_reducible refine wpl_g (g := g) (b := w.heap.size) (t := 25) (by (repeat (first | assumption | exact Blk.new _ _ _ | (refine Blk.new' _ _ _ ?_; (simp; done)) | refine Blk.drew ?_ | refine Blk.alloc ?_ _ | (refine Blk.fars ?_ ?_ _ _; rotate_left; (dsimp only; omega)) | (refine Blk.far ?_ ?_ _; rotate_left; (first | (dsimp only; omega) | (simp; done) | (simp; omega) | omega))))) rfl rfl rfl ?_)
  refine (HS.out _).mono ?_
  rintro e w2 ⟨rfl, hb2⟩
  have hw2 : Below w.heap.size w w2 := hw1.trans (hb2.mono hw1.size)
  have hB2 : Blk w2 w.heap.size 25 (grow g) := hB1.thru hb2 hB1.lt
  have hS2 : Blk w2 (w.heap.size + 1) 27 #[.int .i64 s.pos, .int .i64 s.charge, .bool false] := hS1.thru hb2 hS1.lt
  have hR2 : Blk w2 (w.heap.size + 1 + 1) 27 #[.int .i64 0, .int .i64 0, .bool false] := hR1.thru hb2 hR1.lt
  clear hb2
  clear sp0 sp1 sp2 sp4 sp5 sp6 rp0 rp1 rp2 rp4 rp5 rp6 hB1 hS1 hR1 hl12 hl11 hl10
  obtain ⟨sq0, sq1, sq2, _⟩ := hS2.three
  obtain ⟨rq0, rq1, rq2, _⟩ := hR2.three
  have sq4 := hS2.frozen 0
  have sq5 := hS2.frozen 1
  have sq6 := hS2.frozen 2
  have rq4 := hR2.frozen 0
  have rq5 := hR2.frozen 1
  have rq6 := hR2.frozen 2
  have hl22 : w.heap.size + 1 + 1 < w2.heap.size := hR2.lt
  have hl21 : w.heap.size + 1 < w2.heap.size := by omega
  have hl20 : w.heap.size < w2.heap.size := by omega
  go_wp2_with (with_reducible refine wpl_g (g := g) (b := w.heap.size) (t := 25) (by (repeat (first | assumption | exact Blk.new _ _ _ | (refine Blk.new' _ _ _ ?_; (simp; done)) | refine Blk.drew ?_ | refine Blk.alloc ?_ _ | (refine Blk.fars ?_ ?_ _ _; rotate_left; (dsimp only; omega)) | (refine Blk.far ?_ ?_ _; rotate_left; (first | (dsimp only; omega) | (simp; done) | (simp; omega) | omega))))) rfl rfl rfl ?_)
  refine (HU.out _ (by repeat (first | exact Below.refl _ _ | assumption | (refine Below.setCell ?_ (by first | omega | (simp; done) | (simp; omega)) _) | (refine Below.alloc ?_ (by first | omega | (simp; done) | (simp; omega)) _) | refine Below.drew ?_ | (refine below_thru ?_ (by assumption) (by first | omega | (simp; done) | (simp; omega))) | refine below_drewN ?_ _))).mono ?_
  rintro e w3 ⟨rfl, hb3⟩
  have hw3 : Below w.heap.size w w3 := hw2.trans (hb3.mono hw2.size)
  have hB3 : Blk w3 w.heap.size 25 (grow g) := hB2.thru hb3 hB2.lt
  have hS3 : Blk w3 (w.heap.size + 1) 27 #[.int .i64 s.pos, .int .i64 s.charge, .bool false] := hS2.thru hb3 hS2.lt
  have hR3 : Blk w3 (w.heap.size + 1 + 1) 27 #[.int .i64 0, .int .i64 0, .bool false] := hR2.thru hb3 hR2.lt
  clear hb3
  clear sq0 sq1 sq2 sq4 sq5 sq6 rq0 rq1 rq2 rq4 rq5 rq6 hB2 hS2 hR2 hl22 hl21 hl20
  obtain ⟨sz0, sz1, sz2, _⟩ := hS3.three
  obtain ⟨rz0, rz1, rz2, _⟩ := hR3.three
  have sz4 := hS3.frozen 0
  have sz5 := hS3.frozen 1
  have sz6 := hS3.frozen 2
  have rz4 := hR3.frozen 0
  have rz5 := hR3.frozen 1
  have rz6 := hR3.frozen 2
  have hl32 : w.heap.size + 1 + 1 < w3.heap.size := hR3.lt
  have hl31 : w.heap.size + 1 < w3.heap.size := by omega
  have hl30 : w.heap.size < w3.heap.size := by omega
  clear hB3 hS3 hR3
  go_wp2
  exact bodyPost_ret (v := boltV (⟨s.pos, s.charge, true⟩, 0)) (by simp [results, Tryz.results13, go_sem, rz0, rz1, rz2, hl32] <;> omega) rfl ⟨rfl, (by repeat (first | exact Below.refl _ _ | assumption | (refine Below.setCell ?_ (by first | omega | (simp; done) | (simp; omega)) _) | (refine Below.alloc ?_ (by first | omega | (simp; done) | (simp; omega)) _) | refine Below.drew ?_ | (refine below_thru ?_ (by assumption) (by first | omega | (simp; done) | (simp; omega))) | refine below_drewN ?_ _))⟩

theorem rBolt_any (g : Ga) (s : Gs) (on : Bool) (rs : List Int) (rA : Option Addr) (rn rc : Nat) (w : World) (hg : g.At w w.heap.size) (hr : Tab w w.heap.size rA rn 1 (rs.map fun i => [Value.int .i64 i])) :
    Calls Tryz.prog 13 #[g.v, s.v, .bool on, .slice rA rn rc] w fun e w' => e = .returned (boltV (boltF g s on rs rn)) ∧ Below w.heap.size w w' := by
  have HF : Hid (∀ W, Below w.heap.size w W → Calls Tryz.prog 28 #[g.v] W fun e w' => e = .returned (.tuple #[.int .i64 (gateF g).part, .int .i64 (gateF g).at_, .int .i64 (gateF g).e]) ∧ Below W.heap.size W w') := fun (W : World) (hW : Below w.heap.size w W) => rCheck_any g W (hg.grow hW)
  have HS := fun W => rstate_any g s W
  have HU := fun (W : World) (hW : Below w.heap.size w W) => rSure_any g rs rA rn rc W (hg.grow hW) (hr.grow hW)
  by_cases h : (gateF g).e = 0
  · rw [h] at HF
    rcases stateR_ways g s with h7 | h7
    · have hr7 := bolt_rest (on := on) h h7
      rw [h7] at HS
      obtain ⟨sp, sq, sb⟩ := s
      cases on <;> cases sb
      · have hv : boltF g ⟨sp, sq, false⟩ false rs rn = (⟨0, 0, false⟩, 4) := by unfold boltF; rw [hr7]; rfl
        rw [hv]
        exact rbolt_none g ⟨sp, sq, false⟩ rA rn rc w _ _ HF HS
      · have hv : boltF g ⟨sp, sq, true⟩ false rs rn = (⟨sp, sq, false⟩, 0) := by unfold boltF; rw [hr7]; rfl
        rw [hv]
        exact rbolt_off g ⟨sp, sq, true⟩ rA rn rc w _ _ HF HS
      · have h0 : (boltFt g ⟨sp, sq, false⟩ true).e = 0 := by rw [hr7]; rfl
        by_cases h1 : (sureF g rs rn).2 = 0
        · by_cases h2 : (sureF g rs rn).1 = 0
          · have hv : boltF g ⟨sp, sq, false⟩ true rs rn = (⟨0, 0, false⟩, 9) := (if_pos h0).trans ((if_pos rfl).trans ((if_pos h1).trans (if_pos h2)))
            rw [hv]
            rw [h1, h2] at HU
            exact rbolt_mid g ⟨sp, sq, false⟩ rA rn rc w _ _ HF HS HU
          · have hv : boltF g ⟨sp, sq, false⟩ true rs rn = (⟨sp, sq, true⟩, 0) := (if_pos h0).trans ((if_pos rfl).trans ((if_pos h1).trans (if_neg h2)))
            rw [hv]
            rw [h1] at HU
            exact rbolt_on g ⟨sp, sq, false⟩ rA rn rc w _ _ HF HS _ (by rw [beq_eq_false_iff_ne]; exact h2) HU
        · have hv : boltF g ⟨sp, sq, false⟩ true rs rn = (⟨0, 0, false⟩, (sureF g rs rn).2) := (if_pos h0).trans ((if_pos rfl).trans (if_neg h1))
          rw [hv]
          exact rbolt_down g ⟨sp, sq, false⟩ rA rn rc w _ _ HF HS _ _ (by rw [beq_eq_false_iff_ne]; exact h1) (by rw [bne_iff_ne]; exact h1) HU
      · have hv : boltF g ⟨sp, sq, true⟩ true rs rn = (⟨0, 0, false⟩, 5) := by unfold boltF; rw [hr7]; rfl
        rw [hv]
        exact rbolt_twice g ⟨sp, sq, true⟩ rA rn rc w _ _ HF HS
    · have hv : boltF g s on rs rn = (⟨0, 0, false⟩, 7) := by unfold boltF; rw [bolt_state h h7]; rfl
      rw [hv]
      rw [h7] at HS
      exact rbolt_state g s rA rn rc w on _ _ HF HS
  · have hv : boltF g s on rs rn = (⟨0, 0, false⟩, (gateF g).e) := by unfold boltF; rw [bolt_gate h, if_neg h]
    rw [hv]
    exact rbolt_gate g s rA rn rc w on _ _ _ HF (by rw [bne_iff_ne]; exact h) (by rw [beq_eq_false_iff_ne]; exact h)
end Go.Proofs.YtmhfnnpbnocafaaGreat
