/- GateWhere: the law. -/
import Derived.Test.YtmhfnnpbnocafaaGreatGtWhereC
import Derived.Test.YtmhfnnpbnocafaaGreatGtEnough
import Derived.Test.YtmhfnnpbnocafaaGreatGtChecks
namespace Go.Proofs.YtmhfnnpbnocafaaGreat
open Go.RowKit
set_option linter.unusedSimpArgs false
set_option linter.unusedVariables false

/-- A gate is loaded whole behind a guard that holds. -/
theorem wpl_gg {ops : Array Oper} {rest : List Oper} {o : Oper} {a : Act} {w : World} {Q : Exit → Act → World → Prop} {x : Operand} {b : Nat} {t : TypeId} {g : Ga} (h : Blk w b t (grow g)) (ho : o.op = .load 25 x) (hx : a.eval x = .pointer (some ⟨b, 0, none⟩)) (hw : Region.wanted o (yielded ops a.tmps) = true)
    (hk : wpList Tryz.prog ops Q rest (a.put o.dst g.v) w) : wpList Tryz.prog ops Q (o :: rest) a w := by
  unfold wpList
  rw [if_pos hw]
  refine .inl ?_
  unfold Oper.wp
  rw [ld_g ho hx h]
  exact hk

set_option maxRecDepth 100000 in
set_option maxHeartbeats 8000000 in
theorem gwhere_bad (g : Ga) (p : Int) (A : Option Addr) (rn rc : Nat) (w : World) (Fp Fa lo hi : Int) (Fe : Int) (E : Int)
    (HW : Hid (∀ W, Below w.heap.size w W → Calls Tryz.prog 8 #[g.v, .slice A rn rc] W fun e w' => e = .returned (.tuple #[.agg #[.int .i64 lo, .int .i64 hi], .int .i64 E]) ∧ Below W.heap.size W w'))
    (HC : Hid (∀ W, Below w.heap.size w W → Calls Tryz.prog 23 #[g.v] W fun e w' => e = .returned (.tuple #[.int .i64 Fp, .int .i64 Fa, .int .i64 Fe]) ∧ Below W.heap.size W w'))
    (hfe : (Fe != 0) = true)
    (hE : (E != 0) = true) :
    Calls Tryz.prog 5 #[g.v, .int .i64 p, .slice A rn rc] w fun e w' => e = .returned (.bool true) ∧ Below w.heap.size w w' := by
  go_enter Tryz.func5, Tryz.ntmps5
  go_wp2_with (with_reducible refine wpl_g (g := g) (Blk.new w _ _) rfl rfl rfl ?_)
  refine (HW.out _ (by repeat (first | exact Below.refl _ _ | assumption | (refine Below.setCell ?_ (by first | omega | (simp; done) | (simp; omega)) _) | (refine Below.alloc ?_ (by first | omega | (simp; done) | (simp; omega)) _) | refine Below.drew ?_ | (refine below_thru ?_ (by assumption) (by first | omega | (simp; done) | (simp; omega))) | refine below_drewN ?_ _))).mono ?_
  rintro e w1 ⟨rfl, hb1⟩
  have hG1 : Blk w1 w.heap.size 25 (grow g) := Blk.thru (by (repeat (first | assumption | exact Blk.new _ _ _ | (refine Blk.new' _ _ _ ?_; (simp; done)) | refine Blk.drew ?_ | refine Blk.alloc ?_ _ | (refine Blk.fars ?_ ?_ _ _; rotate_left; (dsimp only; omega)) | (refine Blk.far ?_ ?_ _; rotate_left; (first | (dsimp only; omega) | (simp; done) | (simp; omega) | omega))))) hb1 (by simp <;> omega)
  have hz1 := hb1.size
  (try simp at hz1)
  have hw1 : Below w.heap.size w w1 := (by repeat (first | exact Below.refl _ _ | assumption | (refine Below.setCell ?_ (by first | omega | (simp; done) | (simp; omega)) _) | (refine Below.alloc ?_ (by first | omega | (simp; done) | (simp; omega)) _) | refine Below.drew ?_ | (refine below_thru ?_ (by assumption) (by first | omega | (simp; done) | (simp; omega))) | refine below_drewN ?_ _))
  have hl10 : w.heap.size < w1.heap.size := hG1.lt
  clear hb1
  go_wp2_with (with_reducible refine wpl_g (g := g) (b := w.heap.size) (t := 25) (by (repeat (first | assumption | exact Blk.new _ _ _ | (refine Blk.new' _ _ _ ?_; (simp; done)) | refine Blk.drew ?_ | refine Blk.alloc ?_ _ | (refine Blk.fars ?_ ?_ _ _; rotate_left; (dsimp only; omega)) | (refine Blk.far ?_ ?_ _; rotate_left; (first | (dsimp only; omega) | (simp; done) | (simp; omega) | omega))))) rfl rfl rfl ?_)
  refine (HC.out _ (by repeat (first | exact Below.refl _ _ | assumption | (refine Below.setCell ?_ (by first | omega | (simp; done) | (simp; omega)) _) | (refine Below.alloc ?_ (by first | omega | (simp; done) | (simp; omega)) _) | refine Below.drew ?_ | (refine below_thru ?_ (by assumption) (by first | omega | (simp; done) | (simp; omega))) | refine below_drewN ?_ _))).mono ?_
  rintro e w2 ⟨rfl, hb2⟩
  have hG2 : Blk w2 w.heap.size 25 (grow g) := Blk.thru (by (repeat (first | assumption | exact Blk.new _ _ _ | (refine Blk.new' _ _ _ ?_; (simp; done)) | refine Blk.drew ?_ | refine Blk.alloc ?_ _ | (refine Blk.fars ?_ ?_ _ _; rotate_left; (dsimp only; omega)) | (refine Blk.far ?_ ?_ _; rotate_left; (first | (dsimp only; omega) | (simp; done) | (simp; omega) | omega))))) hb2 (by first | omega | (simp; done) | (simp; omega))
  have hA2 : Blk w2 w1.heap.size 31 #[.int .i64 lo, .int .i64 hi] := Blk.thru (by (repeat (first | assumption | exact Blk.new _ _ _ | (refine Blk.new' _ _ _ ?_; (simp; done)) | refine Blk.drew ?_ | refine Blk.alloc ?_ _ | (refine Blk.fars ?_ ?_ _ _; rotate_left; (dsimp only; omega)) | (refine Blk.far ?_ ?_ _; rotate_left; (first | (dsimp only; omega) | (simp; done) | (simp; omega) | omega))))) hb2 (by first | omega | (simp; done) | (simp; omega))
  have hz2 := hb2.size
  (try simp at hz2)
  have hw2 : Below w.heap.size w w2 := (by repeat (first | exact Below.refl _ _ | assumption | (refine Below.setCell ?_ (by first | omega | (simp; done) | (simp; omega)) _) | (refine Below.alloc ?_ (by first | omega | (simp; done) | (simp; omega)) _) | refine Below.drew ?_ | (refine below_thru ?_ (by assumption) (by first | omega | (simp; done) | (simp; omega))) | refine below_drewN ?_ _))
  have hl20 : w.heap.size < w2.heap.size := hG2.lt
  have hl21 : w1.heap.size < w2.heap.size := hA2.lt
  clear hb2 hG1
  obtain ⟨a20, a21, _, _⟩ := hA2.two
  have g22 := hG2.cell 2
  have g219 := hG2.cell 19
  simp only [grow, List.getElem?_toArray, List.getElem?_cons_zero, List.getElem?_cons_succ] at g22 g219
  go_wp2_with fail
  refine (Awake_any _).mono ?_
  rintro e w9 ⟨rfl, hb9⟩
  have hw9 : Below w.heap.size w w9 := (by repeat (first | exact Below.refl _ _ | assumption | (refine Below.setCell ?_ (by first | omega | (simp; done) | (simp; omega)) _) | (refine Below.alloc ?_ (by first | omega | (simp; done) | (simp; omega)) _) | refine Below.drew ?_ | (refine below_thru ?_ (by assumption) (by first | omega | (simp; done) | (simp; omega))) | refine below_drewN ?_ _))
  go_wp2
  go_ret
  exact ⟨rfl, hw9⟩
set_option maxRecDepth 100000 in
set_option maxHeartbeats 8000000 in
theorem gwhere_len (g : Ga) (p : Int) (A : Option Addr) (rn rc : Nat) (w : World) (Fp Fa lo hi : Int) (E : Int)
    (HW : Hid (∀ W, Below w.heap.size w W → Calls Tryz.prog 8 #[g.v, .slice A rn rc] W fun e w' => e = .returned (.tuple #[.agg #[.int .i64 lo, .int .i64 hi], .int .i64 E]) ∧ Below W.heap.size W w'))
    (HC : Hid (∀ W, Below w.heap.size w W → Calls Tryz.prog 23 #[g.v] W fun e w' => e = .returned (.tuple #[.int .i64 Fp, .int .i64 Fa, .int .i64 0]) ∧ Below W.heap.size W w'))
    (hE : (E != 0) = true)
    (hne : ((rn : Int) != (g.sn : Int)) = true) (hne' : ((rn : Int) == (g.sn : Int)) = false) :
    Calls Tryz.prog 5 #[g.v, .int .i64 p, .slice A rn rc] w fun e w' => e = .returned (.bool true) ∧ Below w.heap.size w w' := by
  go_enter Tryz.func5, Tryz.ntmps5
  go_wp2_with (with_reducible refine wpl_g (g := g) (Blk.new w _ _) rfl rfl rfl ?_)
  refine (HW.out _ (by repeat (first | exact Below.refl _ _ | assumption | (refine Below.setCell ?_ (by first | omega | (simp; done) | (simp; omega)) _) | (refine Below.alloc ?_ (by first | omega | (simp; done) | (simp; omega)) _) | refine Below.drew ?_ | (refine below_thru ?_ (by assumption) (by first | omega | (simp; done) | (simp; omega))) | refine below_drewN ?_ _))).mono ?_
  rintro e w1 ⟨rfl, hb1⟩
  have hG1 : Blk w1 w.heap.size 25 (grow g) := Blk.thru (by (repeat (first | assumption | exact Blk.new _ _ _ | (refine Blk.new' _ _ _ ?_; (simp; done)) | refine Blk.drew ?_ | refine Blk.alloc ?_ _ | (refine Blk.fars ?_ ?_ _ _; rotate_left; (dsimp only; omega)) | (refine Blk.far ?_ ?_ _; rotate_left; (first | (dsimp only; omega) | (simp; done) | (simp; omega) | omega))))) hb1 (by simp <;> omega)
  have hz1 := hb1.size
  (try simp at hz1)
  have hw1 : Below w.heap.size w w1 := (by repeat (first | exact Below.refl _ _ | assumption | (refine Below.setCell ?_ (by first | omega | (simp; done) | (simp; omega)) _) | (refine Below.alloc ?_ (by first | omega | (simp; done) | (simp; omega)) _) | refine Below.drew ?_ | (refine below_thru ?_ (by assumption) (by first | omega | (simp; done) | (simp; omega))) | refine below_drewN ?_ _))
  have hl10 : w.heap.size < w1.heap.size := hG1.lt
  clear hb1
  go_wp2_with (with_reducible refine wpl_g (g := g) (b := w.heap.size) (t := 25) (by (repeat (first | assumption | exact Blk.new _ _ _ | (refine Blk.new' _ _ _ ?_; (simp; done)) | refine Blk.drew ?_ | refine Blk.alloc ?_ _ | (refine Blk.fars ?_ ?_ _ _; rotate_left; (dsimp only; omega)) | (refine Blk.far ?_ ?_ _; rotate_left; (first | (dsimp only; omega) | (simp; done) | (simp; omega) | omega))))) rfl rfl rfl ?_)
  refine (HC.out _ (by repeat (first | exact Below.refl _ _ | assumption | (refine Below.setCell ?_ (by first | omega | (simp; done) | (simp; omega)) _) | (refine Below.alloc ?_ (by first | omega | (simp; done) | (simp; omega)) _) | refine Below.drew ?_ | (refine below_thru ?_ (by assumption) (by first | omega | (simp; done) | (simp; omega))) | refine below_drewN ?_ _))).mono ?_
  rintro e w2 ⟨rfl, hb2⟩
  have hG2 : Blk w2 w.heap.size 25 (grow g) := Blk.thru (by (repeat (first | assumption | exact Blk.new _ _ _ | (refine Blk.new' _ _ _ ?_; (simp; done)) | refine Blk.drew ?_ | refine Blk.alloc ?_ _ | (refine Blk.fars ?_ ?_ _ _; rotate_left; (dsimp only; omega)) | (refine Blk.far ?_ ?_ _; rotate_left; (first | (dsimp only; omega) | (simp; done) | (simp; omega) | omega))))) hb2 (by first | omega | (simp; done) | (simp; omega))
  have hA2 : Blk w2 w1.heap.size 31 #[.int .i64 lo, .int .i64 hi] := Blk.thru (by (repeat (first | assumption | exact Blk.new _ _ _ | (refine Blk.new' _ _ _ ?_; (simp; done)) | refine Blk.drew ?_ | refine Blk.alloc ?_ _ | (refine Blk.fars ?_ ?_ _ _; rotate_left; (dsimp only; omega)) | (refine Blk.far ?_ ?_ _; rotate_left; (first | (dsimp only; omega) | (simp; done) | (simp; omega) | omega))))) hb2 (by first | omega | (simp; done) | (simp; omega))
  have hz2 := hb2.size
  (try simp at hz2)
  have hw2 : Below w.heap.size w w2 := (by repeat (first | exact Below.refl _ _ | assumption | (refine Below.setCell ?_ (by first | omega | (simp; done) | (simp; omega)) _) | (refine Below.alloc ?_ (by first | omega | (simp; done) | (simp; omega)) _) | refine Below.drew ?_ | (refine below_thru ?_ (by assumption) (by first | omega | (simp; done) | (simp; omega))) | refine below_drewN ?_ _))
  have hl20 : w.heap.size < w2.heap.size := hG2.lt
  have hl21 : w1.heap.size < w2.heap.size := hA2.lt
  clear hb2 hG1
  obtain ⟨a20, a21, _, _⟩ := hA2.two
  have g22 := hG2.cell 2
  have g219 := hG2.cell 19
  simp only [grow, List.getElem?_toArray, List.getElem?_cons_zero, List.getElem?_cons_succ] at g22 g219
  go_wp2_with fail
  refine (Awake_any _).mono ?_
  rintro e w9 ⟨rfl, hb9⟩
  have hw9 : Below w.heap.size w w9 := (by repeat (first | exact Below.refl _ _ | assumption | (refine Below.setCell ?_ (by first | omega | (simp; done) | (simp; omega)) _) | (refine Below.alloc ?_ (by first | omega | (simp; done) | (simp; omega)) _) | refine Below.drew ?_ | (refine below_thru ?_ (by assumption) (by first | omega | (simp; done) | (simp; omega))) | refine below_drewN ?_ _))
  go_wp2
  go_ret
  exact ⟨rfl, hw9⟩
set_option maxRecDepth 100000 in
set_option maxHeartbeats 8000000 in
theorem gwhere_down_a (g : Ga) (p : Int) (A : Option Addr) (rn rc : Nat) (w : World) (Fp Fa lo hi : Int)
    (HW : Hid (∀ W, Below w.heap.size w W → Calls Tryz.prog 8 #[g.v, .slice A rn rc] W fun e w' => e = .returned (.tuple #[.agg #[.int .i64 lo, .int .i64 hi], .int .i64 9]) ∧ Below W.heap.size W w'))
    (HC : Hid (∀ W, Below w.heap.size w W → Calls Tryz.prog 23 #[g.v] W fun e w' => e = .returned (.tuple #[.int .i64 Fp, .int .i64 Fa, .int .i64 0]) ∧ Below W.heap.size W w'))
    (hne : ((rn : Int) != (g.sn : Int)) = false) (hne' : ((rn : Int) == (g.sn : Int)) = true)
    (p0 : ¬ 0 ≤ p) :
    Calls Tryz.prog 5 #[g.v, .int .i64 p, .slice A rn rc] w fun e w' => e = .returned (.bool true) ∧ Below w.heap.size w w' := by
  go_enter Tryz.func5, Tryz.ntmps5
  go_wp2_with (with_reducible refine wpl_g (g := g) (Blk.new w _ _) rfl rfl rfl ?_)
  refine (HW.out _ (by repeat (first | exact Below.refl _ _ | assumption | (refine Below.setCell ?_ (by first | omega | (simp; done) | (simp; omega)) _) | (refine Below.alloc ?_ (by first | omega | (simp; done) | (simp; omega)) _) | refine Below.drew ?_ | (refine below_thru ?_ (by assumption) (by first | omega | (simp; done) | (simp; omega))) | refine below_drewN ?_ _))).mono ?_
  rintro e w1 ⟨rfl, hb1⟩
  have hG1 : Blk w1 w.heap.size 25 (grow g) := Blk.thru (by (repeat (first | assumption | exact Blk.new _ _ _ | (refine Blk.new' _ _ _ ?_; (simp; done)) | refine Blk.drew ?_ | refine Blk.alloc ?_ _ | (refine Blk.fars ?_ ?_ _ _; rotate_left; (dsimp only; omega)) | (refine Blk.far ?_ ?_ _; rotate_left; (first | (dsimp only; omega) | (simp; done) | (simp; omega) | omega))))) hb1 (by simp <;> omega)
  have hz1 := hb1.size
  (try simp at hz1)
  have hw1 : Below w.heap.size w w1 := (by repeat (first | exact Below.refl _ _ | assumption | (refine Below.setCell ?_ (by first | omega | (simp; done) | (simp; omega)) _) | (refine Below.alloc ?_ (by first | omega | (simp; done) | (simp; omega)) _) | refine Below.drew ?_ | (refine below_thru ?_ (by assumption) (by first | omega | (simp; done) | (simp; omega))) | refine below_drewN ?_ _))
  have hl10 : w.heap.size < w1.heap.size := hG1.lt
  clear hb1
  go_wp2_with (with_reducible refine wpl_g (g := g) (b := w.heap.size) (t := 25) (by (repeat (first | assumption | exact Blk.new _ _ _ | (refine Blk.new' _ _ _ ?_; (simp; done)) | refine Blk.drew ?_ | refine Blk.alloc ?_ _ | (refine Blk.fars ?_ ?_ _ _; rotate_left; (dsimp only; omega)) | (refine Blk.far ?_ ?_ _; rotate_left; (first | (dsimp only; omega) | (simp; done) | (simp; omega) | omega))))) rfl rfl rfl ?_)
  refine (HC.out _ (by repeat (first | exact Below.refl _ _ | assumption | (refine Below.setCell ?_ (by first | omega | (simp; done) | (simp; omega)) _) | (refine Below.alloc ?_ (by first | omega | (simp; done) | (simp; omega)) _) | refine Below.drew ?_ | (refine below_thru ?_ (by assumption) (by first | omega | (simp; done) | (simp; omega))) | refine below_drewN ?_ _))).mono ?_
  rintro e w2 ⟨rfl, hb2⟩
  have hG2 : Blk w2 w.heap.size 25 (grow g) := Blk.thru (by (repeat (first | assumption | exact Blk.new _ _ _ | (refine Blk.new' _ _ _ ?_; (simp; done)) | refine Blk.drew ?_ | refine Blk.alloc ?_ _ | (refine Blk.fars ?_ ?_ _ _; rotate_left; (dsimp only; omega)) | (refine Blk.far ?_ ?_ _; rotate_left; (first | (dsimp only; omega) | (simp; done) | (simp; omega) | omega))))) hb2 (by first | omega | (simp; done) | (simp; omega))
  have hA2 : Blk w2 w1.heap.size 31 #[.int .i64 lo, .int .i64 hi] := Blk.thru (by (repeat (first | assumption | exact Blk.new _ _ _ | (refine Blk.new' _ _ _ ?_; (simp; done)) | refine Blk.drew ?_ | refine Blk.alloc ?_ _ | (refine Blk.fars ?_ ?_ _ _; rotate_left; (dsimp only; omega)) | (refine Blk.far ?_ ?_ _; rotate_left; (first | (dsimp only; omega) | (simp; done) | (simp; omega) | omega))))) hb2 (by first | omega | (simp; done) | (simp; omega))
  have hz2 := hb2.size
  (try simp at hz2)
  have hw2 : Below w.heap.size w w2 := (by repeat (first | exact Below.refl _ _ | assumption | (refine Below.setCell ?_ (by first | omega | (simp; done) | (simp; omega)) _) | (refine Below.alloc ?_ (by first | omega | (simp; done) | (simp; omega)) _) | refine Below.drew ?_ | (refine below_thru ?_ (by assumption) (by first | omega | (simp; done) | (simp; omega))) | refine below_drewN ?_ _))
  have hl20 : w.heap.size < w2.heap.size := hG2.lt
  have hl21 : w1.heap.size < w2.heap.size := hA2.lt
  clear hb2 hG1
  obtain ⟨a20, a21, _, _⟩ := hA2.two
  have g22 := hG2.cell 2
  have g219 := hG2.cell 19
  simp only [grow, List.getElem?_toArray, List.getElem?_cons_zero, List.getElem?_cons_succ] at g22 g219
  go_wp2_with fail
  refine (Awake_any _).mono ?_
  rintro e w9 ⟨rfl, hb9⟩
  have hw9 : Below w.heap.size w w9 := (by repeat (first | exact Below.refl _ _ | assumption | (refine Below.setCell ?_ (by first | omega | (simp; done) | (simp; omega)) _) | (refine Below.alloc ?_ (by first | omega | (simp; done) | (simp; omega)) _) | refine Below.drew ?_ | (refine below_thru ?_ (by assumption) (by first | omega | (simp; done) | (simp; omega))) | refine below_drewN ?_ _))
  go_wp2
  go_ret
  exact ⟨rfl, hw9⟩
set_option maxRecDepth 100000 in
set_option maxHeartbeats 8000000 in
theorem gwhere_down_b (g : Ga) (p : Int) (A : Option Addr) (rn rc : Nat) (w : World) (Fp Fa lo hi : Int)
    (HW : Hid (∀ W, Below w.heap.size w W → Calls Tryz.prog 8 #[g.v, .slice A rn rc] W fun e w' => e = .returned (.tuple #[.agg #[.int .i64 lo, .int .i64 hi], .int .i64 9]) ∧ Below W.heap.size W w'))
    (HC : Hid (∀ W, Below w.heap.size w W → Calls Tryz.prog 23 #[g.v] W fun e w' => e = .returned (.tuple #[.int .i64 Fp, .int .i64 Fa, .int .i64 0]) ∧ Below W.heap.size W w'))
    (hne : ((rn : Int) != (g.sn : Int)) = false) (hne' : ((rn : Int) == (g.sn : Int)) = true)
    (p0 : 0 ≤ p) (p1 : ¬ p ≤ g.travel) :
    Calls Tryz.prog 5 #[g.v, .int .i64 p, .slice A rn rc] w fun e w' => e = .returned (.bool true) ∧ Below w.heap.size w w' := by
  go_enter Tryz.func5, Tryz.ntmps5
  go_wp2_with (with_reducible refine wpl_g (g := g) (Blk.new w _ _) rfl rfl rfl ?_)
  refine (HW.out _ (by repeat (first | exact Below.refl _ _ | assumption | (refine Below.setCell ?_ (by first | omega | (simp; done) | (simp; omega)) _) | (refine Below.alloc ?_ (by first | omega | (simp; done) | (simp; omega)) _) | refine Below.drew ?_ | (refine below_thru ?_ (by assumption) (by first | omega | (simp; done) | (simp; omega))) | refine below_drewN ?_ _))).mono ?_
  rintro e w1 ⟨rfl, hb1⟩
  have hG1 : Blk w1 w.heap.size 25 (grow g) := Blk.thru (by (repeat (first | assumption | exact Blk.new _ _ _ | (refine Blk.new' _ _ _ ?_; (simp; done)) | refine Blk.drew ?_ | refine Blk.alloc ?_ _ | (refine Blk.fars ?_ ?_ _ _; rotate_left; (dsimp only; omega)) | (refine Blk.far ?_ ?_ _; rotate_left; (first | (dsimp only; omega) | (simp; done) | (simp; omega) | omega))))) hb1 (by simp <;> omega)
  have hz1 := hb1.size
  (try simp at hz1)
  have hw1 : Below w.heap.size w w1 := (by repeat (first | exact Below.refl _ _ | assumption | (refine Below.setCell ?_ (by first | omega | (simp; done) | (simp; omega)) _) | (refine Below.alloc ?_ (by first | omega | (simp; done) | (simp; omega)) _) | refine Below.drew ?_ | (refine below_thru ?_ (by assumption) (by first | omega | (simp; done) | (simp; omega))) | refine below_drewN ?_ _))
  have hl10 : w.heap.size < w1.heap.size := hG1.lt
  clear hb1
  go_wp2_with (with_reducible refine wpl_g (g := g) (b := w.heap.size) (t := 25) (by (repeat (first | assumption | exact Blk.new _ _ _ | (refine Blk.new' _ _ _ ?_; (simp; done)) | refine Blk.drew ?_ | refine Blk.alloc ?_ _ | (refine Blk.fars ?_ ?_ _ _; rotate_left; (dsimp only; omega)) | (refine Blk.far ?_ ?_ _; rotate_left; (first | (dsimp only; omega) | (simp; done) | (simp; omega) | omega))))) rfl rfl rfl ?_)
  refine (HC.out _ (by repeat (first | exact Below.refl _ _ | assumption | (refine Below.setCell ?_ (by first | omega | (simp; done) | (simp; omega)) _) | (refine Below.alloc ?_ (by first | omega | (simp; done) | (simp; omega)) _) | refine Below.drew ?_ | (refine below_thru ?_ (by assumption) (by first | omega | (simp; done) | (simp; omega))) | refine below_drewN ?_ _))).mono ?_
  rintro e w2 ⟨rfl, hb2⟩
  have hG2 : Blk w2 w.heap.size 25 (grow g) := Blk.thru (by (repeat (first | assumption | exact Blk.new _ _ _ | (refine Blk.new' _ _ _ ?_; (simp; done)) | refine Blk.drew ?_ | refine Blk.alloc ?_ _ | (refine Blk.fars ?_ ?_ _ _; rotate_left; (dsimp only; omega)) | (refine Blk.far ?_ ?_ _; rotate_left; (first | (dsimp only; omega) | (simp; done) | (simp; omega) | omega))))) hb2 (by first | omega | (simp; done) | (simp; omega))
  have hA2 : Blk w2 w1.heap.size 31 #[.int .i64 lo, .int .i64 hi] := Blk.thru (by (repeat (first | assumption | exact Blk.new _ _ _ | (refine Blk.new' _ _ _ ?_; (simp; done)) | refine Blk.drew ?_ | refine Blk.alloc ?_ _ | (refine Blk.fars ?_ ?_ _ _; rotate_left; (dsimp only; omega)) | (refine Blk.far ?_ ?_ _; rotate_left; (first | (dsimp only; omega) | (simp; done) | (simp; omega) | omega))))) hb2 (by first | omega | (simp; done) | (simp; omega))
  have hz2 := hb2.size
  (try simp at hz2)
  have hw2 : Below w.heap.size w w2 := (by repeat (first | exact Below.refl _ _ | assumption | (refine Below.setCell ?_ (by first | omega | (simp; done) | (simp; omega)) _) | (refine Below.alloc ?_ (by first | omega | (simp; done) | (simp; omega)) _) | refine Below.drew ?_ | (refine below_thru ?_ (by assumption) (by first | omega | (simp; done) | (simp; omega))) | refine below_drewN ?_ _))
  have hl20 : w.heap.size < w2.heap.size := hG2.lt
  have hl21 : w1.heap.size < w2.heap.size := hA2.lt
  clear hb2 hG1
  obtain ⟨a20, a21, _, _⟩ := hA2.two
  have g22 := hG2.cell 2
  have g219 := hG2.cell 19
  simp only [grow, List.getElem?_toArray, List.getElem?_cons_zero, List.getElem?_cons_succ] at g22 g219
  go_wp2_with fail
  refine (Awake_any _).mono ?_
  rintro e w9 ⟨rfl, hb9⟩
  have hw9 : Below w.heap.size w w9 := (by repeat (first | exact Below.refl _ _ | assumption | (refine Below.setCell ?_ (by first | omega | (simp; done) | (simp; omega)) _) | (refine Below.alloc ?_ (by first | omega | (simp; done) | (simp; omega)) _) | refine Below.drew ?_ | (refine below_thru ?_ (by assumption) (by first | omega | (simp; done) | (simp; omega))) | refine below_drewN ?_ _))
  go_wp2
  go_ret
  exact ⟨rfl, hw9⟩
set_option maxRecDepth 100000 in
set_option maxHeartbeats 8000000 in
theorem gwhere_down_f (g : Ga) (p : Int) (A : Option Addr) (rn rc : Nat) (w : World) (Fp Fa lo hi : Int)
    (HW : Hid (∀ W, Below w.heap.size w W → Calls Tryz.prog 8 #[g.v, .slice A rn rc] W fun e w' => e = .returned (.tuple #[.agg #[.int .i64 lo, .int .i64 hi], .int .i64 9]) ∧ Below W.heap.size W w'))
    (HC : Hid (∀ W, Below w.heap.size w W → Calls Tryz.prog 23 #[g.v] W fun e w' => e = .returned (.tuple #[.int .i64 Fp, .int .i64 Fa, .int .i64 0]) ∧ Below W.heap.size W w'))
    (hne : ((rn : Int) != (g.sn : Int)) = false) (hne' : ((rn : Int) == (g.sn : Int)) = true)
    (p0 : 0 ≤ p) (p1 : p ≤ g.travel)
    (HP : Hid (∀ W, Below w.heap.size w W → Calls Tryz.prog 24 #[g.v, .slice A rn rc, .int .i64 p] W fun e w' => e = .returned (.bool false) ∧ Below W.heap.size W w')) :
    Calls Tryz.prog 5 #[g.v, .int .i64 p, .slice A rn rc] w fun e w' => e = .returned (.bool true) ∧ Below w.heap.size w w' := by
  go_enter Tryz.func5, Tryz.ntmps5
  go_wp2_with (with_reducible refine wpl_g (g := g) (Blk.new w _ _) rfl rfl rfl ?_)
  refine (HW.out _ (by repeat (first | exact Below.refl _ _ | assumption | (refine Below.setCell ?_ (by first | omega | (simp; done) | (simp; omega)) _) | (refine Below.alloc ?_ (by first | omega | (simp; done) | (simp; omega)) _) | refine Below.drew ?_ | (refine below_thru ?_ (by assumption) (by first | omega | (simp; done) | (simp; omega))) | refine below_drewN ?_ _))).mono ?_
  rintro e w1 ⟨rfl, hb1⟩
  have hG1 : Blk w1 w.heap.size 25 (grow g) := Blk.thru (by (repeat (first | assumption | exact Blk.new _ _ _ | (refine Blk.new' _ _ _ ?_; (simp; done)) | refine Blk.drew ?_ | refine Blk.alloc ?_ _ | (refine Blk.fars ?_ ?_ _ _; rotate_left; (dsimp only; omega)) | (refine Blk.far ?_ ?_ _; rotate_left; (first | (dsimp only; omega) | (simp; done) | (simp; omega) | omega))))) hb1 (by simp <;> omega)
  have hz1 := hb1.size
  (try simp at hz1)
  have hw1 : Below w.heap.size w w1 := (by repeat (first | exact Below.refl _ _ | assumption | (refine Below.setCell ?_ (by first | omega | (simp; done) | (simp; omega)) _) | (refine Below.alloc ?_ (by first | omega | (simp; done) | (simp; omega)) _) | refine Below.drew ?_ | (refine below_thru ?_ (by assumption) (by first | omega | (simp; done) | (simp; omega))) | refine below_drewN ?_ _))
  have hl10 : w.heap.size < w1.heap.size := hG1.lt
  clear hb1
  go_wp2_with (with_reducible refine wpl_g (g := g) (b := w.heap.size) (t := 25) (by (repeat (first | assumption | exact Blk.new _ _ _ | (refine Blk.new' _ _ _ ?_; (simp; done)) | refine Blk.drew ?_ | refine Blk.alloc ?_ _ | (refine Blk.fars ?_ ?_ _ _; rotate_left; (dsimp only; omega)) | (refine Blk.far ?_ ?_ _; rotate_left; (first | (dsimp only; omega) | (simp; done) | (simp; omega) | omega))))) rfl rfl rfl ?_)
  refine (HC.out _ (by repeat (first | exact Below.refl _ _ | assumption | (refine Below.setCell ?_ (by first | omega | (simp; done) | (simp; omega)) _) | (refine Below.alloc ?_ (by first | omega | (simp; done) | (simp; omega)) _) | refine Below.drew ?_ | (refine below_thru ?_ (by assumption) (by first | omega | (simp; done) | (simp; omega))) | refine below_drewN ?_ _))).mono ?_
  rintro e w2 ⟨rfl, hb2⟩
  have hG2 : Blk w2 w.heap.size 25 (grow g) := Blk.thru (by (repeat (first | assumption | exact Blk.new _ _ _ | (refine Blk.new' _ _ _ ?_; (simp; done)) | refine Blk.drew ?_ | refine Blk.alloc ?_ _ | (refine Blk.fars ?_ ?_ _ _; rotate_left; (dsimp only; omega)) | (refine Blk.far ?_ ?_ _; rotate_left; (first | (dsimp only; omega) | (simp; done) | (simp; omega) | omega))))) hb2 (by first | omega | (simp; done) | (simp; omega))
  have hA2 : Blk w2 w1.heap.size 31 #[.int .i64 lo, .int .i64 hi] := Blk.thru (by (repeat (first | assumption | exact Blk.new _ _ _ | (refine Blk.new' _ _ _ ?_; (simp; done)) | refine Blk.drew ?_ | refine Blk.alloc ?_ _ | (refine Blk.fars ?_ ?_ _ _; rotate_left; (dsimp only; omega)) | (refine Blk.far ?_ ?_ _; rotate_left; (first | (dsimp only; omega) | (simp; done) | (simp; omega) | omega))))) hb2 (by first | omega | (simp; done) | (simp; omega))
  have hz2 := hb2.size
  (try simp at hz2)
  have hw2 : Below w.heap.size w w2 := (by repeat (first | exact Below.refl _ _ | assumption | (refine Below.setCell ?_ (by first | omega | (simp; done) | (simp; omega)) _) | (refine Below.alloc ?_ (by first | omega | (simp; done) | (simp; omega)) _) | refine Below.drew ?_ | (refine below_thru ?_ (by assumption) (by first | omega | (simp; done) | (simp; omega))) | refine below_drewN ?_ _))
  have hl20 : w.heap.size < w2.heap.size := hG2.lt
  have hl21 : w1.heap.size < w2.heap.size := hA2.lt
  clear hb2 hG1
  obtain ⟨a20, a21, _, _⟩ := hA2.two
  have g22 := hG2.cell 2
  have g219 := hG2.cell 19
  simp only [grow, List.getElem?_toArray, List.getElem?_cons_zero, List.getElem?_cons_succ] at g22 g219
  go_wp2_with (with_reducible refine wpl_gg (g := g) (b := w.heap.size) (t := 25) (by assumption) rfl rfl ?hw ?_; case hw => (go_simp; done))
  refine (HP.out _ (by repeat (first | exact Below.refl _ _ | assumption | (refine Below.setCell ?_ (by first | omega | (simp; done) | (simp; omega)) _) | (refine Below.alloc ?_ (by first | omega | (simp; done) | (simp; omega)) _) | refine Below.drew ?_ | (refine below_thru ?_ (by assumption) (by first | omega | (simp; done) | (simp; omega))) | refine below_drewN ?_ _))).mono ?_
  rintro e w3 ⟨rfl, hb3⟩
  have hG3 : Blk w3 w.heap.size 25 (grow g) := Blk.thru (by (repeat (first | assumption | exact Blk.new _ _ _ | (refine Blk.new' _ _ _ ?_; (simp; done)) | refine Blk.drew ?_ | refine Blk.alloc ?_ _ | (refine Blk.fars ?_ ?_ _ _; rotate_left; (dsimp only; omega)) | (refine Blk.far ?_ ?_ _; rotate_left; (first | (dsimp only; omega) | (simp; done) | (simp; omega) | omega))))) hb3 (by first | omega | (simp; done) | (simp; omega))
  have hA3 : Blk w3 w1.heap.size 31 #[.int .i64 lo, .int .i64 hi] := Blk.thru (by (repeat (first | assumption | exact Blk.new _ _ _ | (refine Blk.new' _ _ _ ?_; (simp; done)) | refine Blk.drew ?_ | refine Blk.alloc ?_ _ | (refine Blk.fars ?_ ?_ _ _; rotate_left; (dsimp only; omega)) | (refine Blk.far ?_ ?_ _; rotate_left; (first | (dsimp only; omega) | (simp; done) | (simp; omega) | omega))))) hb3 (by first | omega | (simp; done) | (simp; omega))
  have hz3 := hb3.size
  (try simp at hz3)
  have hw3 : Below w.heap.size w w3 := (by repeat (first | exact Below.refl _ _ | assumption | (refine Below.setCell ?_ (by first | omega | (simp; done) | (simp; omega)) _) | (refine Below.alloc ?_ (by first | omega | (simp; done) | (simp; omega)) _) | refine Below.drew ?_ | (refine below_thru ?_ (by assumption) (by first | omega | (simp; done) | (simp; omega))) | refine below_drewN ?_ _))
  have hl30 : w.heap.size < w3.heap.size := hG3.lt
  have hl31 : w1.heap.size < w3.heap.size := hA3.lt
  clear hb3 hG2 hA2 a20 a21 g22 g219 hl20 hl21
  obtain ⟨a30, a31, _, _⟩ := hA3.two
  have g32 := hG3.cell 2
  have g319 := hG3.cell 19
  simp only [grow, List.getElem?_toArray, List.getElem?_cons_zero, List.getElem?_cons_succ] at g32 g319
  go_wp2_with fail
  refine (Awake_any _).mono ?_
  rintro e w9 ⟨rfl, hb9⟩
  have hw9 : Below w.heap.size w w9 := (by repeat (first | exact Below.refl _ _ | assumption | (refine Below.setCell ?_ (by first | omega | (simp; done) | (simp; omega)) _) | (refine Below.alloc ?_ (by first | omega | (simp; done) | (simp; omega)) _) | refine Below.drew ?_ | (refine below_thru ?_ (by assumption) (by first | omega | (simp; done) | (simp; omega))) | refine below_drewN ?_ _))
  go_wp2
  go_ret
  exact ⟨rfl, hw9⟩
set_option maxRecDepth 100000 in
set_option maxHeartbeats 8000000 in
theorem gwhere_some_a (g : Ga) (p : Int) (A : Option Addr) (rn rc : Nat) (w : World) (Fp Fa lo hi : Int)
    (HW : Hid (∀ W, Below w.heap.size w W → Calls Tryz.prog 8 #[g.v, .slice A rn rc] W fun e w' => e = .returned (.tuple #[.agg #[.int .i64 lo, .int .i64 hi], .int .i64 0]) ∧ Below W.heap.size W w'))
    (HC : Hid (∀ W, Below w.heap.size w W → Calls Tryz.prog 23 #[g.v] W fun e w' => e = .returned (.tuple #[.int .i64 Fp, .int .i64 Fa, .int .i64 0]) ∧ Below W.heap.size W w'))
    (hne : ((rn : Int) != (g.sn : Int)) = false) (hne' : ((rn : Int) == (g.sn : Int)) = true)
    (p0 : ¬ 0 ≤ p)
    (HL : Hid (∀ W, Below w.heap.size w W → Calls Tryz.prog 24 #[g.v, .slice A rn rc, .int .i64 lo] W fun e w' => e = .returned (.bool true) ∧ Below W.heap.size W w'))
    (HH : Hid (∀ W, Below w.heap.size w W → Calls Tryz.prog 24 #[g.v, .slice A rn rc, .int .i64 hi] W fun e w' => e = .returned (.bool true) ∧ Below W.heap.size W w'))
    (b0 : 0 ≤ lo) (b1 : hi ≤ g.travel) :
    Calls Tryz.prog 5 #[g.v, .int .i64 p, .slice A rn rc] w fun e w' => e = .returned (.bool true) ∧ Below w.heap.size w w' := by
  go_enter Tryz.func5, Tryz.ntmps5
  go_wp2_with (with_reducible refine wpl_g (g := g) (Blk.new w _ _) rfl rfl rfl ?_)
  refine (HW.out _ (by repeat (first | exact Below.refl _ _ | assumption | (refine Below.setCell ?_ (by first | omega | (simp; done) | (simp; omega)) _) | (refine Below.alloc ?_ (by first | omega | (simp; done) | (simp; omega)) _) | refine Below.drew ?_ | (refine below_thru ?_ (by assumption) (by first | omega | (simp; done) | (simp; omega))) | refine below_drewN ?_ _))).mono ?_
  rintro e w1 ⟨rfl, hb1⟩
  have hG1 : Blk w1 w.heap.size 25 (grow g) := Blk.thru (by (repeat (first | assumption | exact Blk.new _ _ _ | (refine Blk.new' _ _ _ ?_; (simp; done)) | refine Blk.drew ?_ | refine Blk.alloc ?_ _ | (refine Blk.fars ?_ ?_ _ _; rotate_left; (dsimp only; omega)) | (refine Blk.far ?_ ?_ _; rotate_left; (first | (dsimp only; omega) | (simp; done) | (simp; omega) | omega))))) hb1 (by simp <;> omega)
  have hz1 := hb1.size
  (try simp at hz1)
  have hw1 : Below w.heap.size w w1 := (by repeat (first | exact Below.refl _ _ | assumption | (refine Below.setCell ?_ (by first | omega | (simp; done) | (simp; omega)) _) | (refine Below.alloc ?_ (by first | omega | (simp; done) | (simp; omega)) _) | refine Below.drew ?_ | (refine below_thru ?_ (by assumption) (by first | omega | (simp; done) | (simp; omega))) | refine below_drewN ?_ _))
  have hl10 : w.heap.size < w1.heap.size := hG1.lt
  clear hb1
  go_wp2_with (with_reducible refine wpl_g (g := g) (b := w.heap.size) (t := 25) (by (repeat (first | assumption | exact Blk.new _ _ _ | (refine Blk.new' _ _ _ ?_; (simp; done)) | refine Blk.drew ?_ | refine Blk.alloc ?_ _ | (refine Blk.fars ?_ ?_ _ _; rotate_left; (dsimp only; omega)) | (refine Blk.far ?_ ?_ _; rotate_left; (first | (dsimp only; omega) | (simp; done) | (simp; omega) | omega))))) rfl rfl rfl ?_)
  refine (HC.out _ (by repeat (first | exact Below.refl _ _ | assumption | (refine Below.setCell ?_ (by first | omega | (simp; done) | (simp; omega)) _) | (refine Below.alloc ?_ (by first | omega | (simp; done) | (simp; omega)) _) | refine Below.drew ?_ | (refine below_thru ?_ (by assumption) (by first | omega | (simp; done) | (simp; omega))) | refine below_drewN ?_ _))).mono ?_
  rintro e w2 ⟨rfl, hb2⟩
  have hG2 : Blk w2 w.heap.size 25 (grow g) := Blk.thru (by (repeat (first | assumption | exact Blk.new _ _ _ | (refine Blk.new' _ _ _ ?_; (simp; done)) | refine Blk.drew ?_ | refine Blk.alloc ?_ _ | (refine Blk.fars ?_ ?_ _ _; rotate_left; (dsimp only; omega)) | (refine Blk.far ?_ ?_ _; rotate_left; (first | (dsimp only; omega) | (simp; done) | (simp; omega) | omega))))) hb2 (by first | omega | (simp; done) | (simp; omega))
  have hA2 : Blk w2 w1.heap.size 31 #[.int .i64 lo, .int .i64 hi] := Blk.thru (by (repeat (first | assumption | exact Blk.new _ _ _ | (refine Blk.new' _ _ _ ?_; (simp; done)) | refine Blk.drew ?_ | refine Blk.alloc ?_ _ | (refine Blk.fars ?_ ?_ _ _; rotate_left; (dsimp only; omega)) | (refine Blk.far ?_ ?_ _; rotate_left; (first | (dsimp only; omega) | (simp; done) | (simp; omega) | omega))))) hb2 (by first | omega | (simp; done) | (simp; omega))
  have hz2 := hb2.size
  (try simp at hz2)
  have hw2 : Below w.heap.size w w2 := (by repeat (first | exact Below.refl _ _ | assumption | (refine Below.setCell ?_ (by first | omega | (simp; done) | (simp; omega)) _) | (refine Below.alloc ?_ (by first | omega | (simp; done) | (simp; omega)) _) | refine Below.drew ?_ | (refine below_thru ?_ (by assumption) (by first | omega | (simp; done) | (simp; omega))) | refine below_drewN ?_ _))
  have hl20 : w.heap.size < w2.heap.size := hG2.lt
  have hl21 : w1.heap.size < w2.heap.size := hA2.lt
  clear hb2 hG1
  obtain ⟨a20, a21, _, _⟩ := hA2.two
  have g22 := hG2.cell 2
  have g219 := hG2.cell 19
  simp only [grow, List.getElem?_toArray, List.getElem?_cons_zero, List.getElem?_cons_succ] at g22 g219
  go_wp2_with (with_reducible refine wpl_gg (g := g) (b := w.heap.size) (t := 25) (by assumption) rfl rfl ?hw ?_; case hw => (go_simp; done))
  refine (HL.out _ (by repeat (first | exact Below.refl _ _ | assumption | (refine Below.setCell ?_ (by first | omega | (simp; done) | (simp; omega)) _) | (refine Below.alloc ?_ (by first | omega | (simp; done) | (simp; omega)) _) | refine Below.drew ?_ | (refine below_thru ?_ (by assumption) (by first | omega | (simp; done) | (simp; omega))) | refine below_drewN ?_ _))).mono ?_
  rintro e w3 ⟨rfl, hb3⟩
  have hG3 : Blk w3 w.heap.size 25 (grow g) := Blk.thru (by (repeat (first | assumption | exact Blk.new _ _ _ | (refine Blk.new' _ _ _ ?_; (simp; done)) | refine Blk.drew ?_ | refine Blk.alloc ?_ _ | (refine Blk.fars ?_ ?_ _ _; rotate_left; (dsimp only; omega)) | (refine Blk.far ?_ ?_ _; rotate_left; (first | (dsimp only; omega) | (simp; done) | (simp; omega) | omega))))) hb3 (by first | omega | (simp; done) | (simp; omega))
  have hA3 : Blk w3 w1.heap.size 31 #[.int .i64 lo, .int .i64 hi] := Blk.thru (by (repeat (first | assumption | exact Blk.new _ _ _ | (refine Blk.new' _ _ _ ?_; (simp; done)) | refine Blk.drew ?_ | refine Blk.alloc ?_ _ | (refine Blk.fars ?_ ?_ _ _; rotate_left; (dsimp only; omega)) | (refine Blk.far ?_ ?_ _; rotate_left; (first | (dsimp only; omega) | (simp; done) | (simp; omega) | omega))))) hb3 (by first | omega | (simp; done) | (simp; omega))
  have hz3 := hb3.size
  (try simp at hz3)
  have hw3 : Below w.heap.size w w3 := (by repeat (first | exact Below.refl _ _ | assumption | (refine Below.setCell ?_ (by first | omega | (simp; done) | (simp; omega)) _) | (refine Below.alloc ?_ (by first | omega | (simp; done) | (simp; omega)) _) | refine Below.drew ?_ | (refine below_thru ?_ (by assumption) (by first | omega | (simp; done) | (simp; omega))) | refine below_drewN ?_ _))
  have hl30 : w.heap.size < w3.heap.size := hG3.lt
  have hl31 : w1.heap.size < w3.heap.size := hA3.lt
  clear hb3 hG2 hA2 a20 a21 g22 g219 hl20 hl21
  obtain ⟨a30, a31, _, _⟩ := hA3.two
  have g32 := hG3.cell 2
  have g319 := hG3.cell 19
  simp only [grow, List.getElem?_toArray, List.getElem?_cons_zero, List.getElem?_cons_succ] at g32 g319
  go_wp2_with (with_reducible refine wpl_gg (g := g) (b := w.heap.size) (t := 25) (by assumption) rfl rfl ?hw ?_; case hw => (go_simp; done))
  refine (HH.out _ (by repeat (first | exact Below.refl _ _ | assumption | (refine Below.setCell ?_ (by first | omega | (simp; done) | (simp; omega)) _) | (refine Below.alloc ?_ (by first | omega | (simp; done) | (simp; omega)) _) | refine Below.drew ?_ | (refine below_thru ?_ (by assumption) (by first | omega | (simp; done) | (simp; omega))) | refine below_drewN ?_ _))).mono ?_
  rintro e w4 ⟨rfl, hb4⟩
  have hG4 : Blk w4 w.heap.size 25 (grow g) := Blk.thru (by (repeat (first | assumption | exact Blk.new _ _ _ | (refine Blk.new' _ _ _ ?_; (simp; done)) | refine Blk.drew ?_ | refine Blk.alloc ?_ _ | (refine Blk.fars ?_ ?_ _ _; rotate_left; (dsimp only; omega)) | (refine Blk.far ?_ ?_ _; rotate_left; (first | (dsimp only; omega) | (simp; done) | (simp; omega) | omega))))) hb4 (by first | omega | (simp; done) | (simp; omega))
  have hA4 : Blk w4 w1.heap.size 31 #[.int .i64 lo, .int .i64 hi] := Blk.thru (by (repeat (first | assumption | exact Blk.new _ _ _ | (refine Blk.new' _ _ _ ?_; (simp; done)) | refine Blk.drew ?_ | refine Blk.alloc ?_ _ | (refine Blk.fars ?_ ?_ _ _; rotate_left; (dsimp only; omega)) | (refine Blk.far ?_ ?_ _; rotate_left; (first | (dsimp only; omega) | (simp; done) | (simp; omega) | omega))))) hb4 (by first | omega | (simp; done) | (simp; omega))
  have hz4 := hb4.size
  (try simp at hz4)
  have hw4 : Below w.heap.size w w4 := (by repeat (first | exact Below.refl _ _ | assumption | (refine Below.setCell ?_ (by first | omega | (simp; done) | (simp; omega)) _) | (refine Below.alloc ?_ (by first | omega | (simp; done) | (simp; omega)) _) | refine Below.drew ?_ | (refine below_thru ?_ (by assumption) (by first | omega | (simp; done) | (simp; omega))) | refine below_drewN ?_ _))
  have hl40 : w.heap.size < w4.heap.size := hG4.lt
  have hl41 : w1.heap.size < w4.heap.size := hA4.lt
  clear hb4 hG3 hA3 a30 a31 g32 g319 hl30 hl31
  obtain ⟨a40, a41, _, _⟩ := hA4.two
  have g42 := hG4.cell 2
  have g419 := hG4.cell 19
  simp only [grow, List.getElem?_toArray, List.getElem?_cons_zero, List.getElem?_cons_succ] at g42 g419
  go_wp2_with fail
  refine (Awake_any _).mono ?_
  rintro e w9 ⟨rfl, hb9⟩
  have hw9 : Below w.heap.size w w9 := (by repeat (first | exact Below.refl _ _ | assumption | (refine Below.setCell ?_ (by first | omega | (simp; done) | (simp; omega)) _) | (refine Below.alloc ?_ (by first | omega | (simp; done) | (simp; omega)) _) | refine Below.drew ?_ | (refine below_thru ?_ (by assumption) (by first | omega | (simp; done) | (simp; omega))) | refine below_drewN ?_ _))
  go_wp2
  go_ret
  exact ⟨rfl, hw9⟩
set_option maxRecDepth 100000 in
set_option maxHeartbeats 8000000 in
theorem gwhere_some_b (g : Ga) (p : Int) (A : Option Addr) (rn rc : Nat) (w : World) (Fp Fa lo hi : Int)
    (HW : Hid (∀ W, Below w.heap.size w W → Calls Tryz.prog 8 #[g.v, .slice A rn rc] W fun e w' => e = .returned (.tuple #[.agg #[.int .i64 lo, .int .i64 hi], .int .i64 0]) ∧ Below W.heap.size W w'))
    (HC : Hid (∀ W, Below w.heap.size w W → Calls Tryz.prog 23 #[g.v] W fun e w' => e = .returned (.tuple #[.int .i64 Fp, .int .i64 Fa, .int .i64 0]) ∧ Below W.heap.size W w'))
    (hne : ((rn : Int) != (g.sn : Int)) = false) (hne' : ((rn : Int) == (g.sn : Int)) = true)
    (p0 : 0 ≤ p) (p1 : ¬ p ≤ g.travel)
    (HL : Hid (∀ W, Below w.heap.size w W → Calls Tryz.prog 24 #[g.v, .slice A rn rc, .int .i64 lo] W fun e w' => e = .returned (.bool true) ∧ Below W.heap.size W w'))
    (HH : Hid (∀ W, Below w.heap.size w W → Calls Tryz.prog 24 #[g.v, .slice A rn rc, .int .i64 hi] W fun e w' => e = .returned (.bool true) ∧ Below W.heap.size W w'))
    (b0 : 0 ≤ lo) (b1 : hi ≤ g.travel) :
    Calls Tryz.prog 5 #[g.v, .int .i64 p, .slice A rn rc] w fun e w' => e = .returned (.bool true) ∧ Below w.heap.size w w' := by
  go_enter Tryz.func5, Tryz.ntmps5
  go_wp2_with (with_reducible refine wpl_g (g := g) (Blk.new w _ _) rfl rfl rfl ?_)
  refine (HW.out _ (by repeat (first | exact Below.refl _ _ | assumption | (refine Below.setCell ?_ (by first | omega | (simp; done) | (simp; omega)) _) | (refine Below.alloc ?_ (by first | omega | (simp; done) | (simp; omega)) _) | refine Below.drew ?_ | (refine below_thru ?_ (by assumption) (by first | omega | (simp; done) | (simp; omega))) | refine below_drewN ?_ _))).mono ?_
  rintro e w1 ⟨rfl, hb1⟩
  have hG1 : Blk w1 w.heap.size 25 (grow g) := Blk.thru (by (repeat (first | assumption | exact Blk.new _ _ _ | (refine Blk.new' _ _ _ ?_; (simp; done)) | refine Blk.drew ?_ | refine Blk.alloc ?_ _ | (refine Blk.fars ?_ ?_ _ _; rotate_left; (dsimp only; omega)) | (refine Blk.far ?_ ?_ _; rotate_left; (first | (dsimp only; omega) | (simp; done) | (simp; omega) | omega))))) hb1 (by simp <;> omega)
  have hz1 := hb1.size
  (try simp at hz1)
  have hw1 : Below w.heap.size w w1 := (by repeat (first | exact Below.refl _ _ | assumption | (refine Below.setCell ?_ (by first | omega | (simp; done) | (simp; omega)) _) | (refine Below.alloc ?_ (by first | omega | (simp; done) | (simp; omega)) _) | refine Below.drew ?_ | (refine below_thru ?_ (by assumption) (by first | omega | (simp; done) | (simp; omega))) | refine below_drewN ?_ _))
  have hl10 : w.heap.size < w1.heap.size := hG1.lt
  clear hb1
  go_wp2_with (with_reducible refine wpl_g (g := g) (b := w.heap.size) (t := 25) (by (repeat (first | assumption | exact Blk.new _ _ _ | (refine Blk.new' _ _ _ ?_; (simp; done)) | refine Blk.drew ?_ | refine Blk.alloc ?_ _ | (refine Blk.fars ?_ ?_ _ _; rotate_left; (dsimp only; omega)) | (refine Blk.far ?_ ?_ _; rotate_left; (first | (dsimp only; omega) | (simp; done) | (simp; omega) | omega))))) rfl rfl rfl ?_)
  refine (HC.out _ (by repeat (first | exact Below.refl _ _ | assumption | (refine Below.setCell ?_ (by first | omega | (simp; done) | (simp; omega)) _) | (refine Below.alloc ?_ (by first | omega | (simp; done) | (simp; omega)) _) | refine Below.drew ?_ | (refine below_thru ?_ (by assumption) (by first | omega | (simp; done) | (simp; omega))) | refine below_drewN ?_ _))).mono ?_
  rintro e w2 ⟨rfl, hb2⟩
  have hG2 : Blk w2 w.heap.size 25 (grow g) := Blk.thru (by (repeat (first | assumption | exact Blk.new _ _ _ | (refine Blk.new' _ _ _ ?_; (simp; done)) | refine Blk.drew ?_ | refine Blk.alloc ?_ _ | (refine Blk.fars ?_ ?_ _ _; rotate_left; (dsimp only; omega)) | (refine Blk.far ?_ ?_ _; rotate_left; (first | (dsimp only; omega) | (simp; done) | (simp; omega) | omega))))) hb2 (by first | omega | (simp; done) | (simp; omega))
  have hA2 : Blk w2 w1.heap.size 31 #[.int .i64 lo, .int .i64 hi] := Blk.thru (by (repeat (first | assumption | exact Blk.new _ _ _ | (refine Blk.new' _ _ _ ?_; (simp; done)) | refine Blk.drew ?_ | refine Blk.alloc ?_ _ | (refine Blk.fars ?_ ?_ _ _; rotate_left; (dsimp only; omega)) | (refine Blk.far ?_ ?_ _; rotate_left; (first | (dsimp only; omega) | (simp; done) | (simp; omega) | omega))))) hb2 (by first | omega | (simp; done) | (simp; omega))
  have hz2 := hb2.size
  (try simp at hz2)
  have hw2 : Below w.heap.size w w2 := (by repeat (first | exact Below.refl _ _ | assumption | (refine Below.setCell ?_ (by first | omega | (simp; done) | (simp; omega)) _) | (refine Below.alloc ?_ (by first | omega | (simp; done) | (simp; omega)) _) | refine Below.drew ?_ | (refine below_thru ?_ (by assumption) (by first | omega | (simp; done) | (simp; omega))) | refine below_drewN ?_ _))
  have hl20 : w.heap.size < w2.heap.size := hG2.lt
  have hl21 : w1.heap.size < w2.heap.size := hA2.lt
  clear hb2 hG1
  obtain ⟨a20, a21, _, _⟩ := hA2.two
  have g22 := hG2.cell 2
  have g219 := hG2.cell 19
  simp only [grow, List.getElem?_toArray, List.getElem?_cons_zero, List.getElem?_cons_succ] at g22 g219
  go_wp2_with (with_reducible refine wpl_gg (g := g) (b := w.heap.size) (t := 25) (by assumption) rfl rfl ?hw ?_; case hw => (go_simp; done))
  refine (HL.out _ (by repeat (first | exact Below.refl _ _ | assumption | (refine Below.setCell ?_ (by first | omega | (simp; done) | (simp; omega)) _) | (refine Below.alloc ?_ (by first | omega | (simp; done) | (simp; omega)) _) | refine Below.drew ?_ | (refine below_thru ?_ (by assumption) (by first | omega | (simp; done) | (simp; omega))) | refine below_drewN ?_ _))).mono ?_
  rintro e w3 ⟨rfl, hb3⟩
  have hG3 : Blk w3 w.heap.size 25 (grow g) := Blk.thru (by (repeat (first | assumption | exact Blk.new _ _ _ | (refine Blk.new' _ _ _ ?_; (simp; done)) | refine Blk.drew ?_ | refine Blk.alloc ?_ _ | (refine Blk.fars ?_ ?_ _ _; rotate_left; (dsimp only; omega)) | (refine Blk.far ?_ ?_ _; rotate_left; (first | (dsimp only; omega) | (simp; done) | (simp; omega) | omega))))) hb3 (by first | omega | (simp; done) | (simp; omega))
  have hA3 : Blk w3 w1.heap.size 31 #[.int .i64 lo, .int .i64 hi] := Blk.thru (by (repeat (first | assumption | exact Blk.new _ _ _ | (refine Blk.new' _ _ _ ?_; (simp; done)) | refine Blk.drew ?_ | refine Blk.alloc ?_ _ | (refine Blk.fars ?_ ?_ _ _; rotate_left; (dsimp only; omega)) | (refine Blk.far ?_ ?_ _; rotate_left; (first | (dsimp only; omega) | (simp; done) | (simp; omega) | omega))))) hb3 (by first | omega | (simp; done) | (simp; omega))
  have hz3 := hb3.size
  (try simp at hz3)
  have hw3 : Below w.heap.size w w3 := (by repeat (first | exact Below.refl _ _ | assumption | (refine Below.setCell ?_ (by first | omega | (simp; done) | (simp; omega)) _) | (refine Below.alloc ?_ (by first | omega | (simp; done) | (simp; omega)) _) | refine Below.drew ?_ | (refine below_thru ?_ (by assumption) (by first | omega | (simp; done) | (simp; omega))) | refine below_drewN ?_ _))
  have hl30 : w.heap.size < w3.heap.size := hG3.lt
  have hl31 : w1.heap.size < w3.heap.size := hA3.lt
  clear hb3 hG2 hA2 a20 a21 g22 g219 hl20 hl21
  obtain ⟨a30, a31, _, _⟩ := hA3.two
  have g32 := hG3.cell 2
  have g319 := hG3.cell 19
  simp only [grow, List.getElem?_toArray, List.getElem?_cons_zero, List.getElem?_cons_succ] at g32 g319
  go_wp2_with (with_reducible refine wpl_gg (g := g) (b := w.heap.size) (t := 25) (by assumption) rfl rfl ?hw ?_; case hw => (go_simp; done))
  refine (HH.out _ (by repeat (first | exact Below.refl _ _ | assumption | (refine Below.setCell ?_ (by first | omega | (simp; done) | (simp; omega)) _) | (refine Below.alloc ?_ (by first | omega | (simp; done) | (simp; omega)) _) | refine Below.drew ?_ | (refine below_thru ?_ (by assumption) (by first | omega | (simp; done) | (simp; omega))) | refine below_drewN ?_ _))).mono ?_
  rintro e w4 ⟨rfl, hb4⟩
  have hG4 : Blk w4 w.heap.size 25 (grow g) := Blk.thru (by (repeat (first | assumption | exact Blk.new _ _ _ | (refine Blk.new' _ _ _ ?_; (simp; done)) | refine Blk.drew ?_ | refine Blk.alloc ?_ _ | (refine Blk.fars ?_ ?_ _ _; rotate_left; (dsimp only; omega)) | (refine Blk.far ?_ ?_ _; rotate_left; (first | (dsimp only; omega) | (simp; done) | (simp; omega) | omega))))) hb4 (by first | omega | (simp; done) | (simp; omega))
  have hA4 : Blk w4 w1.heap.size 31 #[.int .i64 lo, .int .i64 hi] := Blk.thru (by (repeat (first | assumption | exact Blk.new _ _ _ | (refine Blk.new' _ _ _ ?_; (simp; done)) | refine Blk.drew ?_ | refine Blk.alloc ?_ _ | (refine Blk.fars ?_ ?_ _ _; rotate_left; (dsimp only; omega)) | (refine Blk.far ?_ ?_ _; rotate_left; (first | (dsimp only; omega) | (simp; done) | (simp; omega) | omega))))) hb4 (by first | omega | (simp; done) | (simp; omega))
  have hz4 := hb4.size
  (try simp at hz4)
  have hw4 : Below w.heap.size w w4 := (by repeat (first | exact Below.refl _ _ | assumption | (refine Below.setCell ?_ (by first | omega | (simp; done) | (simp; omega)) _) | (refine Below.alloc ?_ (by first | omega | (simp; done) | (simp; omega)) _) | refine Below.drew ?_ | (refine below_thru ?_ (by assumption) (by first | omega | (simp; done) | (simp; omega))) | refine below_drewN ?_ _))
  have hl40 : w.heap.size < w4.heap.size := hG4.lt
  have hl41 : w1.heap.size < w4.heap.size := hA4.lt
  clear hb4 hG3 hA3 a30 a31 g32 g319 hl30 hl31
  obtain ⟨a40, a41, _, _⟩ := hA4.two
  have g42 := hG4.cell 2
  have g419 := hG4.cell 19
  simp only [grow, List.getElem?_toArray, List.getElem?_cons_zero, List.getElem?_cons_succ] at g42 g419
  go_wp2_with fail
  refine (Awake_any _).mono ?_
  rintro e w9 ⟨rfl, hb9⟩
  have hw9 : Below w.heap.size w w9 := (by repeat (first | exact Below.refl _ _ | assumption | (refine Below.setCell ?_ (by first | omega | (simp; done) | (simp; omega)) _) | (refine Below.alloc ?_ (by first | omega | (simp; done) | (simp; omega)) _) | refine Below.drew ?_ | (refine below_thru ?_ (by assumption) (by first | omega | (simp; done) | (simp; omega))) | refine below_drewN ?_ _))
  go_wp2
  go_ret
  exact ⟨rfl, hw9⟩
set_option maxRecDepth 100000 in
set_option maxHeartbeats 8000000 in
theorem gwhere_some_f (g : Ga) (p : Int) (A : Option Addr) (rn rc : Nat) (w : World) (Fp Fa lo hi : Int)
    (HW : Hid (∀ W, Below w.heap.size w W → Calls Tryz.prog 8 #[g.v, .slice A rn rc] W fun e w' => e = .returned (.tuple #[.agg #[.int .i64 lo, .int .i64 hi], .int .i64 0]) ∧ Below W.heap.size W w'))
    (HC : Hid (∀ W, Below w.heap.size w W → Calls Tryz.prog 23 #[g.v] W fun e w' => e = .returned (.tuple #[.int .i64 Fp, .int .i64 Fa, .int .i64 0]) ∧ Below W.heap.size W w'))
    (hne : ((rn : Int) != (g.sn : Int)) = false) (hne' : ((rn : Int) == (g.sn : Int)) = true)
    (p0 : 0 ≤ p) (p1 : p ≤ g.travel)
    (HP : Hid (∀ W, Below w.heap.size w W → Calls Tryz.prog 24 #[g.v, .slice A rn rc, .int .i64 p] W fun e w' => e = .returned (.bool false) ∧ Below W.heap.size W w'))
    (HL : Hid (∀ W, Below w.heap.size w W → Calls Tryz.prog 24 #[g.v, .slice A rn rc, .int .i64 lo] W fun e w' => e = .returned (.bool true) ∧ Below W.heap.size W w'))
    (HH : Hid (∀ W, Below w.heap.size w W → Calls Tryz.prog 24 #[g.v, .slice A rn rc, .int .i64 hi] W fun e w' => e = .returned (.bool true) ∧ Below W.heap.size W w'))
    (b0 : 0 ≤ lo) (b1 : hi ≤ g.travel) :
    Calls Tryz.prog 5 #[g.v, .int .i64 p, .slice A rn rc] w fun e w' => e = .returned (.bool true) ∧ Below w.heap.size w w' := by
  go_enter Tryz.func5, Tryz.ntmps5
  go_wp2_with (with_reducible refine wpl_g (g := g) (Blk.new w _ _) rfl rfl rfl ?_)
  refine (HW.out _ (by repeat (first | exact Below.refl _ _ | assumption | (refine Below.setCell ?_ (by first | omega | (simp; done) | (simp; omega)) _) | (refine Below.alloc ?_ (by first | omega | (simp; done) | (simp; omega)) _) | refine Below.drew ?_ | (refine below_thru ?_ (by assumption) (by first | omega | (simp; done) | (simp; omega))) | refine below_drewN ?_ _))).mono ?_
  rintro e w1 ⟨rfl, hb1⟩
  have hG1 : Blk w1 w.heap.size 25 (grow g) := Blk.thru (by (repeat (first | assumption | exact Blk.new _ _ _ | (refine Blk.new' _ _ _ ?_; (simp; done)) | refine Blk.drew ?_ | refine Blk.alloc ?_ _ | (refine Blk.fars ?_ ?_ _ _; rotate_left; (dsimp only; omega)) | (refine Blk.far ?_ ?_ _; rotate_left; (first | (dsimp only; omega) | (simp; done) | (simp; omega) | omega))))) hb1 (by simp <;> omega)
  have hz1 := hb1.size
  (try simp at hz1)
  have hw1 : Below w.heap.size w w1 := (by repeat (first | exact Below.refl _ _ | assumption | (refine Below.setCell ?_ (by first | omega | (simp; done) | (simp; omega)) _) | (refine Below.alloc ?_ (by first | omega | (simp; done) | (simp; omega)) _) | refine Below.drew ?_ | (refine below_thru ?_ (by assumption) (by first | omega | (simp; done) | (simp; omega))) | refine below_drewN ?_ _))
  have hl10 : w.heap.size < w1.heap.size := hG1.lt
  clear hb1
  go_wp2_with (with_reducible refine wpl_g (g := g) (b := w.heap.size) (t := 25) (by (repeat (first | assumption | exact Blk.new _ _ _ | (refine Blk.new' _ _ _ ?_; (simp; done)) | refine Blk.drew ?_ | refine Blk.alloc ?_ _ | (refine Blk.fars ?_ ?_ _ _; rotate_left; (dsimp only; omega)) | (refine Blk.far ?_ ?_ _; rotate_left; (first | (dsimp only; omega) | (simp; done) | (simp; omega) | omega))))) rfl rfl rfl ?_)
  refine (HC.out _ (by repeat (first | exact Below.refl _ _ | assumption | (refine Below.setCell ?_ (by first | omega | (simp; done) | (simp; omega)) _) | (refine Below.alloc ?_ (by first | omega | (simp; done) | (simp; omega)) _) | refine Below.drew ?_ | (refine below_thru ?_ (by assumption) (by first | omega | (simp; done) | (simp; omega))) | refine below_drewN ?_ _))).mono ?_
  rintro e w2 ⟨rfl, hb2⟩
  have hG2 : Blk w2 w.heap.size 25 (grow g) := Blk.thru (by (repeat (first | assumption | exact Blk.new _ _ _ | (refine Blk.new' _ _ _ ?_; (simp; done)) | refine Blk.drew ?_ | refine Blk.alloc ?_ _ | (refine Blk.fars ?_ ?_ _ _; rotate_left; (dsimp only; omega)) | (refine Blk.far ?_ ?_ _; rotate_left; (first | (dsimp only; omega) | (simp; done) | (simp; omega) | omega))))) hb2 (by first | omega | (simp; done) | (simp; omega))
  have hA2 : Blk w2 w1.heap.size 31 #[.int .i64 lo, .int .i64 hi] := Blk.thru (by (repeat (first | assumption | exact Blk.new _ _ _ | (refine Blk.new' _ _ _ ?_; (simp; done)) | refine Blk.drew ?_ | refine Blk.alloc ?_ _ | (refine Blk.fars ?_ ?_ _ _; rotate_left; (dsimp only; omega)) | (refine Blk.far ?_ ?_ _; rotate_left; (first | (dsimp only; omega) | (simp; done) | (simp; omega) | omega))))) hb2 (by first | omega | (simp; done) | (simp; omega))
  have hz2 := hb2.size
  (try simp at hz2)
  have hw2 : Below w.heap.size w w2 := (by repeat (first | exact Below.refl _ _ | assumption | (refine Below.setCell ?_ (by first | omega | (simp; done) | (simp; omega)) _) | (refine Below.alloc ?_ (by first | omega | (simp; done) | (simp; omega)) _) | refine Below.drew ?_ | (refine below_thru ?_ (by assumption) (by first | omega | (simp; done) | (simp; omega))) | refine below_drewN ?_ _))
  have hl20 : w.heap.size < w2.heap.size := hG2.lt
  have hl21 : w1.heap.size < w2.heap.size := hA2.lt
  clear hb2 hG1
  obtain ⟨a20, a21, _, _⟩ := hA2.two
  have g22 := hG2.cell 2
  have g219 := hG2.cell 19
  simp only [grow, List.getElem?_toArray, List.getElem?_cons_zero, List.getElem?_cons_succ] at g22 g219
  go_wp2_with (with_reducible refine wpl_gg (g := g) (b := w.heap.size) (t := 25) (by assumption) rfl rfl ?hw ?_; case hw => (go_simp; done))
  refine (HP.out _ (by repeat (first | exact Below.refl _ _ | assumption | (refine Below.setCell ?_ (by first | omega | (simp; done) | (simp; omega)) _) | (refine Below.alloc ?_ (by first | omega | (simp; done) | (simp; omega)) _) | refine Below.drew ?_ | (refine below_thru ?_ (by assumption) (by first | omega | (simp; done) | (simp; omega))) | refine below_drewN ?_ _))).mono ?_
  rintro e w3 ⟨rfl, hb3⟩
  have hG3 : Blk w3 w.heap.size 25 (grow g) := Blk.thru (by (repeat (first | assumption | exact Blk.new _ _ _ | (refine Blk.new' _ _ _ ?_; (simp; done)) | refine Blk.drew ?_ | refine Blk.alloc ?_ _ | (refine Blk.fars ?_ ?_ _ _; rotate_left; (dsimp only; omega)) | (refine Blk.far ?_ ?_ _; rotate_left; (first | (dsimp only; omega) | (simp; done) | (simp; omega) | omega))))) hb3 (by first | omega | (simp; done) | (simp; omega))
  have hA3 : Blk w3 w1.heap.size 31 #[.int .i64 lo, .int .i64 hi] := Blk.thru (by (repeat (first | assumption | exact Blk.new _ _ _ | (refine Blk.new' _ _ _ ?_; (simp; done)) | refine Blk.drew ?_ | refine Blk.alloc ?_ _ | (refine Blk.fars ?_ ?_ _ _; rotate_left; (dsimp only; omega)) | (refine Blk.far ?_ ?_ _; rotate_left; (first | (dsimp only; omega) | (simp; done) | (simp; omega) | omega))))) hb3 (by first | omega | (simp; done) | (simp; omega))
  have hz3 := hb3.size
  (try simp at hz3)
  have hw3 : Below w.heap.size w w3 := (by repeat (first | exact Below.refl _ _ | assumption | (refine Below.setCell ?_ (by first | omega | (simp; done) | (simp; omega)) _) | (refine Below.alloc ?_ (by first | omega | (simp; done) | (simp; omega)) _) | refine Below.drew ?_ | (refine below_thru ?_ (by assumption) (by first | omega | (simp; done) | (simp; omega))) | refine below_drewN ?_ _))
  have hl30 : w.heap.size < w3.heap.size := hG3.lt
  have hl31 : w1.heap.size < w3.heap.size := hA3.lt
  clear hb3 hG2 hA2 a20 a21 g22 g219 hl20 hl21
  obtain ⟨a30, a31, _, _⟩ := hA3.two
  have g32 := hG3.cell 2
  have g319 := hG3.cell 19
  simp only [grow, List.getElem?_toArray, List.getElem?_cons_zero, List.getElem?_cons_succ] at g32 g319
  go_wp2_with (with_reducible refine wpl_gg (g := g) (b := w.heap.size) (t := 25) (by assumption) rfl rfl ?hw ?_; case hw => (go_simp; done))
  refine (HL.out _ (by repeat (first | exact Below.refl _ _ | assumption | (refine Below.setCell ?_ (by first | omega | (simp; done) | (simp; omega)) _) | (refine Below.alloc ?_ (by first | omega | (simp; done) | (simp; omega)) _) | refine Below.drew ?_ | (refine below_thru ?_ (by assumption) (by first | omega | (simp; done) | (simp; omega))) | refine below_drewN ?_ _))).mono ?_
  rintro e w4 ⟨rfl, hb4⟩
  have hG4 : Blk w4 w.heap.size 25 (grow g) := Blk.thru (by (repeat (first | assumption | exact Blk.new _ _ _ | (refine Blk.new' _ _ _ ?_; (simp; done)) | refine Blk.drew ?_ | refine Blk.alloc ?_ _ | (refine Blk.fars ?_ ?_ _ _; rotate_left; (dsimp only; omega)) | (refine Blk.far ?_ ?_ _; rotate_left; (first | (dsimp only; omega) | (simp; done) | (simp; omega) | omega))))) hb4 (by first | omega | (simp; done) | (simp; omega))
  have hA4 : Blk w4 w1.heap.size 31 #[.int .i64 lo, .int .i64 hi] := Blk.thru (by (repeat (first | assumption | exact Blk.new _ _ _ | (refine Blk.new' _ _ _ ?_; (simp; done)) | refine Blk.drew ?_ | refine Blk.alloc ?_ _ | (refine Blk.fars ?_ ?_ _ _; rotate_left; (dsimp only; omega)) | (refine Blk.far ?_ ?_ _; rotate_left; (first | (dsimp only; omega) | (simp; done) | (simp; omega) | omega))))) hb4 (by first | omega | (simp; done) | (simp; omega))
  have hz4 := hb4.size
  (try simp at hz4)
  have hw4 : Below w.heap.size w w4 := (by repeat (first | exact Below.refl _ _ | assumption | (refine Below.setCell ?_ (by first | omega | (simp; done) | (simp; omega)) _) | (refine Below.alloc ?_ (by first | omega | (simp; done) | (simp; omega)) _) | refine Below.drew ?_ | (refine below_thru ?_ (by assumption) (by first | omega | (simp; done) | (simp; omega))) | refine below_drewN ?_ _))
  have hl40 : w.heap.size < w4.heap.size := hG4.lt
  have hl41 : w1.heap.size < w4.heap.size := hA4.lt
  clear hb4 hG3 hA3 a30 a31 g32 g319 hl30 hl31
  obtain ⟨a40, a41, _, _⟩ := hA4.two
  have g42 := hG4.cell 2
  have g419 := hG4.cell 19
  simp only [grow, List.getElem?_toArray, List.getElem?_cons_zero, List.getElem?_cons_succ] at g42 g419
  go_wp2_with (with_reducible refine wpl_gg (g := g) (b := w.heap.size) (t := 25) (by assumption) rfl rfl ?hw ?_; case hw => (go_simp; done))
  refine (HH.out _ (by repeat (first | exact Below.refl _ _ | assumption | (refine Below.setCell ?_ (by first | omega | (simp; done) | (simp; omega)) _) | (refine Below.alloc ?_ (by first | omega | (simp; done) | (simp; omega)) _) | refine Below.drew ?_ | (refine below_thru ?_ (by assumption) (by first | omega | (simp; done) | (simp; omega))) | refine below_drewN ?_ _))).mono ?_
  rintro e w5 ⟨rfl, hb5⟩
  have hG5 : Blk w5 w.heap.size 25 (grow g) := Blk.thru (by (repeat (first | assumption | exact Blk.new _ _ _ | (refine Blk.new' _ _ _ ?_; (simp; done)) | refine Blk.drew ?_ | refine Blk.alloc ?_ _ | (refine Blk.fars ?_ ?_ _ _; rotate_left; (dsimp only; omega)) | (refine Blk.far ?_ ?_ _; rotate_left; (first | (dsimp only; omega) | (simp; done) | (simp; omega) | omega))))) hb5 (by first | omega | (simp; done) | (simp; omega))
  have hA5 : Blk w5 w1.heap.size 31 #[.int .i64 lo, .int .i64 hi] := Blk.thru (by (repeat (first | assumption | exact Blk.new _ _ _ | (refine Blk.new' _ _ _ ?_; (simp; done)) | refine Blk.drew ?_ | refine Blk.alloc ?_ _ | (refine Blk.fars ?_ ?_ _ _; rotate_left; (dsimp only; omega)) | (refine Blk.far ?_ ?_ _; rotate_left; (first | (dsimp only; omega) | (simp; done) | (simp; omega) | omega))))) hb5 (by first | omega | (simp; done) | (simp; omega))
  have hz5 := hb5.size
  (try simp at hz5)
  have hw5 : Below w.heap.size w w5 := (by repeat (first | exact Below.refl _ _ | assumption | (refine Below.setCell ?_ (by first | omega | (simp; done) | (simp; omega)) _) | (refine Below.alloc ?_ (by first | omega | (simp; done) | (simp; omega)) _) | refine Below.drew ?_ | (refine below_thru ?_ (by assumption) (by first | omega | (simp; done) | (simp; omega))) | refine below_drewN ?_ _))
  have hl50 : w.heap.size < w5.heap.size := hG5.lt
  have hl51 : w1.heap.size < w5.heap.size := hA5.lt
  clear hb5 hG4 hA4 a40 a41 g42 g419 hl40 hl41
  obtain ⟨a50, a51, _, _⟩ := hA5.two
  have g52 := hG5.cell 2
  have g519 := hG5.cell 19
  simp only [grow, List.getElem?_toArray, List.getElem?_cons_zero, List.getElem?_cons_succ] at g52 g519
  go_wp2_with fail
  refine (Awake_any _).mono ?_
  rintro e w9 ⟨rfl, hb9⟩
  have hw9 : Below w.heap.size w w9 := (by repeat (first | exact Below.refl _ _ | assumption | (refine Below.setCell ?_ (by first | omega | (simp; done) | (simp; omega)) _) | (refine Below.alloc ?_ (by first | omega | (simp; done) | (simp; omega)) _) | refine Below.drew ?_ | (refine below_thru ?_ (by assumption) (by first | omega | (simp; done) | (simp; omega))) | refine below_drewN ?_ _))
  go_wp2
  go_ret
  exact ⟨rfl, hw9⟩
set_option maxRecDepth 100000 in
set_option maxHeartbeats 8000000 in
theorem gwhere_some_t (g : Ga) (p : Int) (A : Option Addr) (rn rc : Nat) (w : World) (Fp Fa lo hi : Int)
    (HW : Hid (∀ W, Below w.heap.size w W → Calls Tryz.prog 8 #[g.v, .slice A rn rc] W fun e w' => e = .returned (.tuple #[.agg #[.int .i64 lo, .int .i64 hi], .int .i64 0]) ∧ Below W.heap.size W w'))
    (HC : Hid (∀ W, Below w.heap.size w W → Calls Tryz.prog 23 #[g.v] W fun e w' => e = .returned (.tuple #[.int .i64 Fp, .int .i64 Fa, .int .i64 0]) ∧ Below W.heap.size W w'))
    (hne : ((rn : Int) != (g.sn : Int)) = false) (hne' : ((rn : Int) == (g.sn : Int)) = true)
    (p0 : 0 ≤ p) (p1 : p ≤ g.travel)
    (HP : Hid (∀ W, Below w.heap.size w W → Calls Tryz.prog 24 #[g.v, .slice A rn rc, .int .i64 p] W fun e w' => e = .returned (.bool true) ∧ Below W.heap.size W w'))
    (HL : Hid (∀ W, Below w.heap.size w W → Calls Tryz.prog 24 #[g.v, .slice A rn rc, .int .i64 lo] W fun e w' => e = .returned (.bool true) ∧ Below W.heap.size W w'))
    (HH : Hid (∀ W, Below w.heap.size w W → Calls Tryz.prog 24 #[g.v, .slice A rn rc, .int .i64 hi] W fun e w' => e = .returned (.bool true) ∧ Below W.heap.size W w'))
    (b0 : 0 ≤ lo) (b1 : hi ≤ g.travel)
    (b2 : lo ≤ p) (b3 : p ≤ hi) :
    Calls Tryz.prog 5 #[g.v, .int .i64 p, .slice A rn rc] w fun e w' => e = .returned (.bool true) ∧ Below w.heap.size w w' := by
  go_enter Tryz.func5, Tryz.ntmps5
  go_wp2_with (with_reducible refine wpl_g (g := g) (Blk.new w _ _) rfl rfl rfl ?_)
  refine (HW.out _ (by repeat (first | exact Below.refl _ _ | assumption | (refine Below.setCell ?_ (by first | omega | (simp; done) | (simp; omega)) _) | (refine Below.alloc ?_ (by first | omega | (simp; done) | (simp; omega)) _) | refine Below.drew ?_ | (refine below_thru ?_ (by assumption) (by first | omega | (simp; done) | (simp; omega))) | refine below_drewN ?_ _))).mono ?_
  rintro e w1 ⟨rfl, hb1⟩
  have hG1 : Blk w1 w.heap.size 25 (grow g) := Blk.thru (by (repeat (first | assumption | exact Blk.new _ _ _ | (refine Blk.new' _ _ _ ?_; (simp; done)) | refine Blk.drew ?_ | refine Blk.alloc ?_ _ | (refine Blk.fars ?_ ?_ _ _; rotate_left; (dsimp only; omega)) | (refine Blk.far ?_ ?_ _; rotate_left; (first | (dsimp only; omega) | (simp; done) | (simp; omega) | omega))))) hb1 (by simp <;> omega)
  have hz1 := hb1.size
  (try simp at hz1)
  have hw1 : Below w.heap.size w w1 := (by repeat (first | exact Below.refl _ _ | assumption | (refine Below.setCell ?_ (by first | omega | (simp; done) | (simp; omega)) _) | (refine Below.alloc ?_ (by first | omega | (simp; done) | (simp; omega)) _) | refine Below.drew ?_ | (refine below_thru ?_ (by assumption) (by first | omega | (simp; done) | (simp; omega))) | refine below_drewN ?_ _))
  have hl10 : w.heap.size < w1.heap.size := hG1.lt
  clear hb1
  go_wp2_with (with_reducible refine wpl_g (g := g) (b := w.heap.size) (t := 25) (by (repeat (first | assumption | exact Blk.new _ _ _ | (refine Blk.new' _ _ _ ?_; (simp; done)) | refine Blk.drew ?_ | refine Blk.alloc ?_ _ | (refine Blk.fars ?_ ?_ _ _; rotate_left; (dsimp only; omega)) | (refine Blk.far ?_ ?_ _; rotate_left; (first | (dsimp only; omega) | (simp; done) | (simp; omega) | omega))))) rfl rfl rfl ?_)
  refine (HC.out _ (by repeat (first | exact Below.refl _ _ | assumption | (refine Below.setCell ?_ (by first | omega | (simp; done) | (simp; omega)) _) | (refine Below.alloc ?_ (by first | omega | (simp; done) | (simp; omega)) _) | refine Below.drew ?_ | (refine below_thru ?_ (by assumption) (by first | omega | (simp; done) | (simp; omega))) | refine below_drewN ?_ _))).mono ?_
  rintro e w2 ⟨rfl, hb2⟩
  have hG2 : Blk w2 w.heap.size 25 (grow g) := Blk.thru (by (repeat (first | assumption | exact Blk.new _ _ _ | (refine Blk.new' _ _ _ ?_; (simp; done)) | refine Blk.drew ?_ | refine Blk.alloc ?_ _ | (refine Blk.fars ?_ ?_ _ _; rotate_left; (dsimp only; omega)) | (refine Blk.far ?_ ?_ _; rotate_left; (first | (dsimp only; omega) | (simp; done) | (simp; omega) | omega))))) hb2 (by first | omega | (simp; done) | (simp; omega))
  have hA2 : Blk w2 w1.heap.size 31 #[.int .i64 lo, .int .i64 hi] := Blk.thru (by (repeat (first | assumption | exact Blk.new _ _ _ | (refine Blk.new' _ _ _ ?_; (simp; done)) | refine Blk.drew ?_ | refine Blk.alloc ?_ _ | (refine Blk.fars ?_ ?_ _ _; rotate_left; (dsimp only; omega)) | (refine Blk.far ?_ ?_ _; rotate_left; (first | (dsimp only; omega) | (simp; done) | (simp; omega) | omega))))) hb2 (by first | omega | (simp; done) | (simp; omega))
  have hz2 := hb2.size
  (try simp at hz2)
  have hw2 : Below w.heap.size w w2 := (by repeat (first | exact Below.refl _ _ | assumption | (refine Below.setCell ?_ (by first | omega | (simp; done) | (simp; omega)) _) | (refine Below.alloc ?_ (by first | omega | (simp; done) | (simp; omega)) _) | refine Below.drew ?_ | (refine below_thru ?_ (by assumption) (by first | omega | (simp; done) | (simp; omega))) | refine below_drewN ?_ _))
  have hl20 : w.heap.size < w2.heap.size := hG2.lt
  have hl21 : w1.heap.size < w2.heap.size := hA2.lt
  clear hb2 hG1
  obtain ⟨a20, a21, _, _⟩ := hA2.two
  have g22 := hG2.cell 2
  have g219 := hG2.cell 19
  simp only [grow, List.getElem?_toArray, List.getElem?_cons_zero, List.getElem?_cons_succ] at g22 g219
  go_wp2_with (with_reducible refine wpl_gg (g := g) (b := w.heap.size) (t := 25) (by assumption) rfl rfl ?hw ?_; case hw => (go_simp; done))
  refine (HP.out _ (by repeat (first | exact Below.refl _ _ | assumption | (refine Below.setCell ?_ (by first | omega | (simp; done) | (simp; omega)) _) | (refine Below.alloc ?_ (by first | omega | (simp; done) | (simp; omega)) _) | refine Below.drew ?_ | (refine below_thru ?_ (by assumption) (by first | omega | (simp; done) | (simp; omega))) | refine below_drewN ?_ _))).mono ?_
  rintro e w3 ⟨rfl, hb3⟩
  have hG3 : Blk w3 w.heap.size 25 (grow g) := Blk.thru (by (repeat (first | assumption | exact Blk.new _ _ _ | (refine Blk.new' _ _ _ ?_; (simp; done)) | refine Blk.drew ?_ | refine Blk.alloc ?_ _ | (refine Blk.fars ?_ ?_ _ _; rotate_left; (dsimp only; omega)) | (refine Blk.far ?_ ?_ _; rotate_left; (first | (dsimp only; omega) | (simp; done) | (simp; omega) | omega))))) hb3 (by first | omega | (simp; done) | (simp; omega))
  have hA3 : Blk w3 w1.heap.size 31 #[.int .i64 lo, .int .i64 hi] := Blk.thru (by (repeat (first | assumption | exact Blk.new _ _ _ | (refine Blk.new' _ _ _ ?_; (simp; done)) | refine Blk.drew ?_ | refine Blk.alloc ?_ _ | (refine Blk.fars ?_ ?_ _ _; rotate_left; (dsimp only; omega)) | (refine Blk.far ?_ ?_ _; rotate_left; (first | (dsimp only; omega) | (simp; done) | (simp; omega) | omega))))) hb3 (by first | omega | (simp; done) | (simp; omega))
  have hz3 := hb3.size
  (try simp at hz3)
  have hw3 : Below w.heap.size w w3 := (by repeat (first | exact Below.refl _ _ | assumption | (refine Below.setCell ?_ (by first | omega | (simp; done) | (simp; omega)) _) | (refine Below.alloc ?_ (by first | omega | (simp; done) | (simp; omega)) _) | refine Below.drew ?_ | (refine below_thru ?_ (by assumption) (by first | omega | (simp; done) | (simp; omega))) | refine below_drewN ?_ _))
  have hl30 : w.heap.size < w3.heap.size := hG3.lt
  have hl31 : w1.heap.size < w3.heap.size := hA3.lt
  clear hb3 hG2 hA2 a20 a21 g22 g219 hl20 hl21
  obtain ⟨a30, a31, _, _⟩ := hA3.two
  have g32 := hG3.cell 2
  have g319 := hG3.cell 19
  simp only [grow, List.getElem?_toArray, List.getElem?_cons_zero, List.getElem?_cons_succ] at g32 g319
  go_wp2_with (with_reducible refine wpl_gg (g := g) (b := w.heap.size) (t := 25) (by assumption) rfl rfl ?hw ?_; case hw => (go_simp; done))
  refine (HL.out _ (by repeat (first | exact Below.refl _ _ | assumption | (refine Below.setCell ?_ (by first | omega | (simp; done) | (simp; omega)) _) | (refine Below.alloc ?_ (by first | omega | (simp; done) | (simp; omega)) _) | refine Below.drew ?_ | (refine below_thru ?_ (by assumption) (by first | omega | (simp; done) | (simp; omega))) | refine below_drewN ?_ _))).mono ?_
  rintro e w4 ⟨rfl, hb4⟩
  have hG4 : Blk w4 w.heap.size 25 (grow g) := Blk.thru (by (repeat (first | assumption | exact Blk.new _ _ _ | (refine Blk.new' _ _ _ ?_; (simp; done)) | refine Blk.drew ?_ | refine Blk.alloc ?_ _ | (refine Blk.fars ?_ ?_ _ _; rotate_left; (dsimp only; omega)) | (refine Blk.far ?_ ?_ _; rotate_left; (first | (dsimp only; omega) | (simp; done) | (simp; omega) | omega))))) hb4 (by first | omega | (simp; done) | (simp; omega))
  have hA4 : Blk w4 w1.heap.size 31 #[.int .i64 lo, .int .i64 hi] := Blk.thru (by (repeat (first | assumption | exact Blk.new _ _ _ | (refine Blk.new' _ _ _ ?_; (simp; done)) | refine Blk.drew ?_ | refine Blk.alloc ?_ _ | (refine Blk.fars ?_ ?_ _ _; rotate_left; (dsimp only; omega)) | (refine Blk.far ?_ ?_ _; rotate_left; (first | (dsimp only; omega) | (simp; done) | (simp; omega) | omega))))) hb4 (by first | omega | (simp; done) | (simp; omega))
  have hz4 := hb4.size
  (try simp at hz4)
  have hw4 : Below w.heap.size w w4 := (by repeat (first | exact Below.refl _ _ | assumption | (refine Below.setCell ?_ (by first | omega | (simp; done) | (simp; omega)) _) | (refine Below.alloc ?_ (by first | omega | (simp; done) | (simp; omega)) _) | refine Below.drew ?_ | (refine below_thru ?_ (by assumption) (by first | omega | (simp; done) | (simp; omega))) | refine below_drewN ?_ _))
  have hl40 : w.heap.size < w4.heap.size := hG4.lt
  have hl41 : w1.heap.size < w4.heap.size := hA4.lt
  clear hb4 hG3 hA3 a30 a31 g32 g319 hl30 hl31
  obtain ⟨a40, a41, _, _⟩ := hA4.two
  have g42 := hG4.cell 2
  have g419 := hG4.cell 19
  simp only [grow, List.getElem?_toArray, List.getElem?_cons_zero, List.getElem?_cons_succ] at g42 g419
  go_wp2_with (with_reducible refine wpl_gg (g := g) (b := w.heap.size) (t := 25) (by assumption) rfl rfl ?hw ?_; case hw => (go_simp; done))
  refine (HH.out _ (by repeat (first | exact Below.refl _ _ | assumption | (refine Below.setCell ?_ (by first | omega | (simp; done) | (simp; omega)) _) | (refine Below.alloc ?_ (by first | omega | (simp; done) | (simp; omega)) _) | refine Below.drew ?_ | (refine below_thru ?_ (by assumption) (by first | omega | (simp; done) | (simp; omega))) | refine below_drewN ?_ _))).mono ?_
  rintro e w5 ⟨rfl, hb5⟩
  have hG5 : Blk w5 w.heap.size 25 (grow g) := Blk.thru (by (repeat (first | assumption | exact Blk.new _ _ _ | (refine Blk.new' _ _ _ ?_; (simp; done)) | refine Blk.drew ?_ | refine Blk.alloc ?_ _ | (refine Blk.fars ?_ ?_ _ _; rotate_left; (dsimp only; omega)) | (refine Blk.far ?_ ?_ _; rotate_left; (first | (dsimp only; omega) | (simp; done) | (simp; omega) | omega))))) hb5 (by first | omega | (simp; done) | (simp; omega))
  have hA5 : Blk w5 w1.heap.size 31 #[.int .i64 lo, .int .i64 hi] := Blk.thru (by (repeat (first | assumption | exact Blk.new _ _ _ | (refine Blk.new' _ _ _ ?_; (simp; done)) | refine Blk.drew ?_ | refine Blk.alloc ?_ _ | (refine Blk.fars ?_ ?_ _ _; rotate_left; (dsimp only; omega)) | (refine Blk.far ?_ ?_ _; rotate_left; (first | (dsimp only; omega) | (simp; done) | (simp; omega) | omega))))) hb5 (by first | omega | (simp; done) | (simp; omega))
  have hz5 := hb5.size
  (try simp at hz5)
  have hw5 : Below w.heap.size w w5 := (by repeat (first | exact Below.refl _ _ | assumption | (refine Below.setCell ?_ (by first | omega | (simp; done) | (simp; omega)) _) | (refine Below.alloc ?_ (by first | omega | (simp; done) | (simp; omega)) _) | refine Below.drew ?_ | (refine below_thru ?_ (by assumption) (by first | omega | (simp; done) | (simp; omega))) | refine below_drewN ?_ _))
  have hl50 : w.heap.size < w5.heap.size := hG5.lt
  have hl51 : w1.heap.size < w5.heap.size := hA5.lt
  clear hb5 hG4 hA4 a40 a41 g42 g419 hl40 hl41
  obtain ⟨a50, a51, _, _⟩ := hA5.two
  have g52 := hG5.cell 2
  have g519 := hG5.cell 19
  simp only [grow, List.getElem?_toArray, List.getElem?_cons_zero, List.getElem?_cons_succ] at g52 g519
  go_wp2_with fail
  refine (Awake_any _).mono ?_
  rintro e w9 ⟨rfl, hb9⟩
  have hw9 : Below w.heap.size w w9 := (by repeat (first | exact Below.refl _ _ | assumption | (refine Below.setCell ?_ (by first | omega | (simp; done) | (simp; omega)) _) | (refine Below.alloc ?_ (by first | omega | (simp; done) | (simp; omega)) _) | refine Below.drew ?_ | (refine below_thru ?_ (by assumption) (by first | omega | (simp; done) | (simp; omega))) | refine below_drewN ?_ _))
  go_wp2
  go_ret
  exact ⟨rfl, hw9⟩

theorem GateWhere_any (g : Ga) (p : Int) (rs : List Int) (A : Option Addr) (rn rc : Nat) (w : World) (hg : g.At w w.heap.size) (hr : Tab w w.heap.size A rn 1 (rs.map fun i => [Value.int .i64 i])) :
    Calls Tryz.prog 5 #[g.v, .int .i64 p, .slice A rn rc] w fun e w' => e = .returned (.bool true) ∧ Below w.heap.size w w' := by
  have HW := fun (W : World) (hW : Below w.heap.size w W) => Where_any g rs A rn rc W (hg.grow hW) (hr.grow hW)
  have HC : Hid (∀ W, Below w.heap.size w W → Calls Tryz.prog 23 #[g.v] W fun e w' => e = .returned (.tuple #[.int .i64 (gateF g).part, .int .i64 (gateF g).at_, .int .i64 (gateF g).e]) ∧ Below W.heap.size W w') := fun (W : World) (hW : Below w.heap.size w W) => Check_any g W (hg.grow hW)
  by_cases hf : (gateF g).e = 0
  · rw [hf] at HC
    by_cases hn : rn = g.sn
    · have ok := gateF_ok g w _ hg hf
      have HE := fun (q : Int) (q0 : 0 ≤ q) (q1 : q ≤ 5000) (W : World) (hW : Below w.heap.size w W) => enough_any g rs A rn rc q W (hg.grow hW) (hr.grow hW) hn ok q0 q1
      have t0 := ok.t0
      have t1 := ok.t1
      have hne : ((rn : Int) != (g.sn : Int)) = false := by rw [bne_eq_false_iff_eq]; omega
      have hne' : ((rn : Int) == (g.sn : Int)) = true := by rw [beq_iff_eq]; omega
      have hv : whF g rs rn = spanF (posL g rs) := (if_pos hf).trans (if_pos hn)
      obtain ⟨s1, s2⟩ := span_facts g.ss rs g.sn g.wrong (g.travel.toNat + 1)
      have hin : ∀ q : Int, 0 ≤ q → q ≤ g.travel → okP g.ss rs g.sn g.wrong q = true → q.toNat ∈ posL g rs := fun q q0 q1 hq => mem_okL.2 ⟨by omega, by rw [show ((q.toNat : Nat) : Int) = q by omega]; exact hq⟩
      have hof : ∀ a ∈ posL g rs, (a : Int) ≤ g.travel ∧ okP g.ss rs g.sn g.wrong (a : Int) = true := fun a ha => ⟨by have := (mem_okL.1 ha).1; omega, (mem_okL.1 ha).2⟩
      by_cases hl : loW (posL g rs) < 0
      · have he := (loW_neg _).1 hl
        have hv2 : whF g rs rn = ⟨0, 0, 9⟩ := hv.trans (if_pos hl)
        rw [hv2] at HW
        by_cases p0 : 0 ≤ p
        · by_cases p1 : p ≤ g.travel
          · have hP := HE p p0 (by omega)
            have hb : okP g.ss rs g.sn g.wrong p = false := by
              cases hq : okP g.ss rs g.sn g.wrong p
              · rfl
              · have := hin p p0 p1 hq
                rw [he] at this
                cases this
            rw [hb] at hP
            exact gwhere_down_f g p A rn rc w _ _ _ _ HW HC hne hne' p0 p1 hP
          · exact gwhere_down_b g p A rn rc w _ _ _ _ HW HC hne hne' p0 p1
        · exact gwhere_down_a g p A rn rc w _ _ _ _ HW HC hne hne' p0
      · obtain ⟨⟨a, ha, hae⟩, b, hb, hbe⟩ := s2 hl
        have hv2 : whF g rs rn = ⟨(a : Int), (b : Int), 0⟩ := hv.trans ((if_neg hl).trans (by rw [hae, hbe]))
        rw [hv2] at HW
        obtain ⟨a1, a2⟩ := hof a ha
        obtain ⟨b1, b2⟩ := hof b hb
        have HL := HE (a : Int) (Int.natCast_nonneg _) (by omega)
        have HH := HE (b : Int) (Int.natCast_nonneg _) (by omega)
        rw [a2] at HL
        rw [b2] at HH
        by_cases p0 : 0 ≤ p
        · by_cases p1 : p ≤ g.travel
          · have hP := HE p p0 (by omega)
            cases hq : okP g.ss rs g.sn g.wrong p
            · rw [hq] at hP
              exact gwhere_some_f g p A rn rc w _ _ _ _ HW HC hne hne' p0 p1 hP HL HH (Int.natCast_nonneg _) b1
            · rw [hq] at hP
              have hm := s1 _ (hin p p0 p1 hq)
              rw [hae, hbe, show ((p.toNat : Nat) : Int) = p by omega] at hm
              exact gwhere_some_t g p A rn rc w _ _ _ _ HW HC hne hne' p0 p1 hP HL HH (Int.natCast_nonneg _) b1 hm.1 hm.2
          · exact gwhere_some_b g p A rn rc w _ _ _ _ HW HC hne hne' p0 p1 HL HH (Int.natCast_nonneg _) b1
        · exact gwhere_some_a g p A rn rc w _ _ _ _ HW HC hne hne' p0 HL HH (Int.natCast_nonneg _) b1
    · have hv : whF g rs rn = ⟨0, 0, 2⟩ := (if_pos hf).trans (if_neg hn)
      rw [hv] at HW
      exact gwhere_len g p A rn rc w _ _ _ _ _ HW HC (by decide) (by rw [bne_iff_ne]; omega) (by rw [beq_eq_false_iff_ne]; omega)
  · have hv : whF g rs rn = ⟨0, 0, (gateF g).e⟩ := if_neg hf
    rw [hv] at HW
    exact gwhere_bad g p A rn rc w _ _ _ _ _ _ HW HC (by rw [bne_iff_ne]; exact hf) (by rw [bne_iff_ne]; exact hf)
end Go.Proofs.YtmhfnnpbnocafaaGreat
