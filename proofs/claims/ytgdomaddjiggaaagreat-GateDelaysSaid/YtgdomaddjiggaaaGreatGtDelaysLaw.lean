/- GateDelays: Delay returns what the document says. -/
import Derived.Test.YtgdomaddjiggaaaGreatGtAwake
import Derived.Test.YtgdomaddjiggaaaGreatGtRefW
namespace Go.Proofs.YtgdomaddjiggaaaGreat
open Go.RowKit
set_option linter.unusedSimpArgs false
set_option linter.unusedVariables false

set_option maxRecDepth 100000 in
set_option maxHeartbeats 4000000 in
theorem GateDelays_any (l : St) (A : Option Addr) (n c : Nat) (ss : List Gs) (a b : Int) (p : Bool) (w : World) (hl : l.At w w.heap.size) (hs : Tab w w.heap.size A n 3 (ss.map Gs.cells)) (hn : n ≤ maxLen) (hc : n ≤ c) :
    Calls Tryz.prog 9 #[l.v, .slice A n c, .agg #[.int .i64 a, .int .i64 b, .bool p]] w fun e w' => e = .returned (.bool true) ∧ Below w.heap.size w w' := by
  have H1 := Lib.hid (fun (W : World) (hW : Below w.heap.size w W) => Delay_any l ss A n c a b p W (hl.grow hW) (hs.grow hW) hn)
  have H2 := Lib.hid (fun (W : World) (hW : Below w.heap.size w W) => rDelay_any l ss A n c a b p W (hl.grow hW) (hs.grow hW) hn)
  obtain ⟨d, f, h6⟩ : ∃ d f, delayR l ss n ⟨1, p, a, b⟩ = (d, f) := ⟨_, _, rfl⟩
  rw [h6] at H1 H2
  have G1 := Lib.hid (show ∀ W, Below w.heap.size w W → Calls Tryz.prog 44 #[.agg #[.slice l.gA l.gn l.gc, .slice l.rA l.rn l.rc], .slice A n c, .int .i64 a, .int .i64 b, .bool p] W fun e w' => e = .returned (.tuple #[.int .i64 d, .int .i64 f]) ∧ Below W.heap.size W w' from H1.out)
  have G2 := Lib.hid (show ∀ W, Below w.heap.size w W → Calls Tryz.prog 45 #[.agg #[.slice l.gA l.gn l.gc, .slice l.rA l.rn l.rc], .slice A n c, .int .i64 a, .int .i64 b, .bool p] W fun e w' => e = .returned (.tuple #[.int .i64 d, .int .i64 f]) ∧ Below W.heap.size W w' from H2.out)
  have q1 : (d == d) = true := beq_self_eq_true d
  have q2 : (f == f) = true := beq_self_eq_true f
  clear H1 H2 hl hs h6
  go_enter Tryz.func9, Tryz.ntmps9
  go_wp2_with fail
  refine (G1.out _ (by repeat (first | exact Below.refl _ _ | assumption | (refine Below.setCell ?_ (by first | omega | (simp; done) | (simp; omega)) _) | (refine Below.alloc ?_ (by first | omega | (simp; done) | (simp; omega)) _) | refine Below.drew ?_ | (refine below_thru ?_ (by assumption) (by first | omega | (simp; done) | (simp; omega))) | refine below_drewN ?_ _))).mono ?_
  rintro e w1 ⟨rfl, hb1⟩
  have hS1 : Blk w1 w.heap.size 25 #[.slice l.gA l.gn l.gc, .slice l.rA l.rn l.rc] := Blk.thru (by (repeat (first | assumption | exact Blk.new _ _ _ | (refine Blk.new' _ _ _ ?_; (simp; done)) | refine Blk.drew ?_ | refine Blk.alloc ?_ _ | (refine Blk.fars ?_ ?_ _ _; rotate_left; (dsimp only; omega)) | (refine Blk.far ?_ ?_ _; rotate_left; (first | (dsimp only; omega) | (simp; done) | (simp; omega) | omega))))) hb1 (by simp <;> omega)
  have hX1 : Blk w1 (w.heap.size + 1) 56 #[.int .i64 a, .int .i64 b, .bool p] := Blk.thru (by (repeat (first | assumption | exact Blk.new _ _ _ | (refine Blk.new' _ _ _ ?_; (simp; done)) | refine Blk.drew ?_ | refine Blk.alloc ?_ _ | (refine Blk.fars ?_ ?_ _ _; rotate_left; (dsimp only; omega)) | (refine Blk.far ?_ ?_ _; rotate_left; (first | (dsimp only; omega) | (simp; done) | (simp; omega) | omega))))) hb1 (by simp <;> omega)
  have hw1 : Below w.heap.size w w1 := (by repeat (first | exact Below.refl _ _ | assumption | (refine Below.setCell ?_ (by first | omega | (simp; done) | (simp; omega)) _) | (refine Below.alloc ?_ (by first | omega | (simp; done) | (simp; omega)) _) | refine Below.drew ?_ | (refine below_thru ?_ (by assumption) (by first | omega | (simp; done) | (simp; omega))) | refine below_drewN ?_ _))
  obtain ⟨s0, s1, _, _⟩ := hS1.two
  obtain ⟨x0, x1, x2, _⟩ := hX1.three
  have hl1 := hX1.lt
  have hl2 := hS1.lt
  clear hb1 hS1 hX1
  go_wp2_with fail
  refine (G2.out _ hw1).mono ?_
  rintro e w2 ⟨rfl, hb2⟩
  have hw2 : Below w.heap.size w w2 := hw1.trans (hb2.mono hw1.size)
  clear hb2 x0 x1 x2 s0 s1
  go_wp2_with fail
  refine (Awake_any _).mono ?_
  rintro e w5 ⟨rfl, hb5⟩
  go_wp2
  go_ret
  exact ⟨rfl, hw2.trans (hb5.mono hw2.size)⟩
end Go.Proofs.YtgdomaddjiggaaaGreat
