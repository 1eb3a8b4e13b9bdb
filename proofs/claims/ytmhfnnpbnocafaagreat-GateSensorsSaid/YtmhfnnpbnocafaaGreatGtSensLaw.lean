/- GateSensors: Where, Sure and Bolt return what the document says. -/
import Derived.Test.YtmhfnnpbnocafaaGreatGtWhereT
import Derived.Test.YtmhfnnpbnocafaaGreatGtAwake
namespace Go.Proofs.YtmhfnnpbnocafaaGreat
open Go.RowKit
set_option linter.unusedSimpArgs false
set_option linter.unusedVariables false

set_option maxRecDepth 100000 in
set_option maxHeartbeats 8000000 in
theorem GateSensors_any (g : Ga) (s : Gs) (on : Bool) (rs : List Int) (rA : Option Addr) (rn rc : Nat) (w : World) (hg : g.At w w.heap.size) (hr : Tab w w.heap.size rA rn 1 (rs.map fun i => [Value.int .i64 i])) :
    Calls Tryz.prog 3 #[g.v, s.v, .agg #[.slice rA rn rc, .bool on]] w fun e w' => e = .returned (.bool true) ∧ Below w.heap.size w w' := by
  have H1 := Lib.hid (fun (W : World) (hW : Below w.heap.size w W) => Where_any g rs rA rn rc W (hg.grow hW) (hr.grow hW))
  have H2 := Lib.hid (fun (W : World) (hW : Below w.heap.size w W) => rWhere_any g rs rA rn rc W (hg.grow hW) (hr.grow hW))
  have H3 := Lib.hid (fun (W : World) (hW : Below w.heap.size w W) => Sure_any g rs rA rn rc W (hg.grow hW) (hr.grow hW))
  have H4 := Lib.hid (fun (W : World) (hW : Below w.heap.size w W) => rSure_any g rs rA rn rc W (hg.grow hW) (hr.grow hW))
  have H5 := Lib.hid (fun (W : World) (hW : Below w.heap.size w W) => Bolt_any g s on rs rA rn rc W (hg.grow hW) (hr.grow hW))
  have H6 := Lib.hid (fun (W : World) (hW : Below w.heap.size w W) => rBolt_any g s on rs rA rn rc W (hg.grow hW) (hr.grow hW))
  generalize whF g rs rn = wh at *
  generalize sureF g rs rn = su at *
  generalize boltF g s on rs rn = bo at *
  obtain ⟨lo, hi, we⟩ := wh
  obtain ⟨sa, se⟩ := su
  obtain ⟨⟨bp, bc, bb⟩, be⟩ := bo
  clear hg hr
  go_enter Tryz.func3, Tryz.ntmps3
  go_wp2_with (with_reducible refine wpl_g (g := g) (b := w.heap.size) (t := 25) (by (repeat (first | assumption | exact Blk.new _ _ _ | (refine Blk.new' _ _ _ ?_; (simp; done)) | refine Blk.drew ?_ | refine Blk.alloc ?_ _ | (refine Blk.fars ?_ ?_ _ _; rotate_left; (dsimp only; omega)) | (refine Blk.far ?_ ?_ _; rotate_left; (first | (dsimp only; omega) | (simp; done) | (simp; omega) | omega))))) rfl rfl rfl ?_)
  refine (H1.out _ (by repeat (first | exact Below.refl _ _ | assumption | (refine Below.setCell ?_ (by first | omega | (simp; done) | (simp; omega)) _) | (refine Below.alloc ?_ (by first | omega | (simp; done) | (simp; omega)) _) | refine Below.drew ?_ | (refine below_thru ?_ (by assumption) (by first | omega | (simp; done) | (simp; omega))) | refine below_drewN ?_ _))).mono ?_
  rintro e w1 ⟨rfl, hb1⟩
  have hG1 : Blk w1 w.heap.size 25 (grow g) := Blk.thru (by (repeat (first | assumption | exact Blk.new _ _ _ | (refine Blk.new' _ _ _ ?_; (simp; done)) | refine Blk.drew ?_ | refine Blk.alloc ?_ _ | (refine Blk.fars ?_ ?_ _ _; rotate_left; (dsimp only; omega)) | (refine Blk.far ?_ ?_ _; rotate_left; (first | (dsimp only; omega) | (simp; done) | (simp; omega) | omega))))) hb1 (by first | omega | (simp; done) | (simp; omega))
  have hS1 : Blk w1 (w.heap.size + 1) 27 #[.int .i64 s.pos, .int .i64 s.charge, .bool s.bolted] := Blk.thru (by (repeat (first | assumption | exact Blk.new _ _ _ | (refine Blk.new' _ _ _ ?_; (simp; done)) | refine Blk.drew ?_ | refine Blk.alloc ?_ _ | (refine Blk.fars ?_ ?_ _ _; rotate_left; (dsimp only; omega)) | (refine Blk.far ?_ ?_ _; rotate_left; (first | (dsimp only; omega) | (simp; done) | (simp; omega) | omega))))) hb1 (by first | omega | (simp; done) | (simp; omega))
  have hX1 : Blk w1 (w.heap.size + 1 + 1) 29 #[.slice rA rn rc, .bool on] := Blk.thru (by (repeat (first | assumption | exact Blk.new _ _ _ | (refine Blk.new' _ _ _ ?_; (simp; done)) | refine Blk.drew ?_ | refine Blk.alloc ?_ _ | (refine Blk.fars ?_ ?_ _ _; rotate_left; (dsimp only; omega)) | (refine Blk.far ?_ ?_ _; rotate_left; (first | (dsimp only; omega) | (simp; done) | (simp; omega) | omega))))) hb1 (by first | omega | (simp; done) | (simp; omega))
  have hz1 := hb1.size
  (try simp at hz1)
  have hw1 : Below w.heap.size w w1 := (by repeat (first | exact Below.refl _ _ | assumption | (refine Below.setCell ?_ (by first | omega | (simp; done) | (simp; omega)) _) | (refine Below.alloc ?_ (by first | omega | (simp; done) | (simp; omega)) _) | refine Below.drew ?_ | (refine below_thru ?_ (by assumption) (by first | omega | (simp; done) | (simp; omega))) | refine below_drewN ?_ _))
  have hl12 : w.heap.size + 1 + 1 < w1.heap.size := hX1.lt
  have hl11 : w.heap.size + 1 < w1.heap.size := by omega
  have hl10 : w.heap.size < w1.heap.size := by omega
  obtain ⟨x10, x11, _, _⟩ := hX1.two
  obtain ⟨s10, s11, s12, _⟩ := hS1.three
  have g10 : True := trivial
  go_wp2_with (with_reducible refine wpl_g (g := g) (b := w.heap.size) (t := 25) (by (repeat (first | assumption | exact Blk.new _ _ _ | (refine Blk.new' _ _ _ ?_; (simp; done)) | refine Blk.drew ?_ | refine Blk.alloc ?_ _ | (refine Blk.fars ?_ ?_ _ _; rotate_left; (dsimp only; omega)) | (refine Blk.far ?_ ?_ _; rotate_left; (first | (dsimp only; omega) | (simp; done) | (simp; omega) | omega))))) rfl rfl rfl ?_)
  refine (H2.out _ (by repeat (first | exact Below.refl _ _ | assumption | (refine Below.setCell ?_ (by first | omega | (simp; done) | (simp; omega)) _) | (refine Below.alloc ?_ (by first | omega | (simp; done) | (simp; omega)) _) | refine Below.drew ?_ | (refine below_thru ?_ (by assumption) (by first | omega | (simp; done) | (simp; omega))) | refine below_drewN ?_ _))).mono ?_
  rintro e w2 ⟨rfl, hb2⟩
  have hG2 : Blk w2 w.heap.size 25 (grow g) := Blk.thru (by (repeat (first | assumption | exact Blk.new _ _ _ | (refine Blk.new' _ _ _ ?_; (simp; done)) | refine Blk.drew ?_ | refine Blk.alloc ?_ _ | (refine Blk.fars ?_ ?_ _ _; rotate_left; (dsimp only; omega)) | (refine Blk.far ?_ ?_ _; rotate_left; (first | (dsimp only; omega) | (simp; done) | (simp; omega) | omega))))) hb2 (by first | omega | (simp; done) | (simp; omega))
  have hS2 : Blk w2 (w.heap.size + 1) 27 #[.int .i64 s.pos, .int .i64 s.charge, .bool s.bolted] := Blk.thru (by (repeat (first | assumption | exact Blk.new _ _ _ | (refine Blk.new' _ _ _ ?_; (simp; done)) | refine Blk.drew ?_ | refine Blk.alloc ?_ _ | (refine Blk.fars ?_ ?_ _ _; rotate_left; (dsimp only; omega)) | (refine Blk.far ?_ ?_ _; rotate_left; (first | (dsimp only; omega) | (simp; done) | (simp; omega) | omega))))) hb2 (by first | omega | (simp; done) | (simp; omega))
  have hX2 : Blk w2 (w.heap.size + 1 + 1) 29 #[.slice rA rn rc, .bool on] := Blk.thru (by (repeat (first | assumption | exact Blk.new _ _ _ | (refine Blk.new' _ _ _ ?_; (simp; done)) | refine Blk.drew ?_ | refine Blk.alloc ?_ _ | (refine Blk.fars ?_ ?_ _ _; rotate_left; (dsimp only; omega)) | (refine Blk.far ?_ ?_ _; rotate_left; (first | (dsimp only; omega) | (simp; done) | (simp; omega) | omega))))) hb2 (by first | omega | (simp; done) | (simp; omega))
  have hz2 := hb2.size
  (try simp at hz2)
  have hw2 : Below w.heap.size w w2 := (by repeat (first | exact Below.refl _ _ | assumption | (refine Below.setCell ?_ (by first | omega | (simp; done) | (simp; omega)) _) | (refine Below.alloc ?_ (by first | omega | (simp; done) | (simp; omega)) _) | refine Below.drew ?_ | (refine below_thru ?_ (by assumption) (by first | omega | (simp; done) | (simp; omega))) | refine below_drewN ?_ _))
  clear hG1 hS1 hX1 g10 x10 x11 s10 s11 s12 hl10 hl11 hl12
  have hl22 : w.heap.size + 1 + 1 < w2.heap.size := hX2.lt
  have hl21 : w.heap.size + 1 < w2.heap.size := by omega
  have hl20 : w.heap.size < w2.heap.size := by omega
  have hA2 : Blk w2 w1.heap.size 31 #[.int .i64 lo, .int .i64 hi] := Blk.thru (by (repeat (first | assumption | exact Blk.new _ _ _ | (refine Blk.new' _ _ _ ?_; (simp; done)) | refine Blk.drew ?_ | refine Blk.alloc ?_ _ | (refine Blk.fars ?_ ?_ _ _; rotate_left; (dsimp only; omega)) | (refine Blk.far ?_ ?_ _; rotate_left; (first | (dsimp only; omega) | (simp; done) | (simp; omega) | omega))))) hb2 (by first | omega | (simp; done) | (simp; omega))
  obtain ⟨a0, a1, _, _⟩ := hA2.two
  have hAl : w1.heap.size < w2.heap.size := hA2.lt
  obtain ⟨x20, x21, _, _⟩ := hX2.two
  obtain ⟨s20, s21, s22, _⟩ := hS2.three
  have g20 : True := trivial
  go_wp2_with (with_reducible refine wpl_g (g := g) (b := w.heap.size) (t := 25) (by (repeat (first | assumption | exact Blk.new _ _ _ | (refine Blk.new' _ _ _ ?_; (simp; done)) | refine Blk.drew ?_ | refine Blk.alloc ?_ _ | (refine Blk.fars ?_ ?_ _ _; rotate_left; (dsimp only; omega)) | (refine Blk.far ?_ ?_ _; rotate_left; (first | (dsimp only; omega) | (simp; done) | (simp; omega) | omega))))) rfl rfl rfl ?_)
  refine (H3.out _ (by repeat (first | exact Below.refl _ _ | assumption | (refine Below.setCell ?_ (by first | omega | (simp; done) | (simp; omega)) _) | (refine Below.alloc ?_ (by first | omega | (simp; done) | (simp; omega)) _) | refine Below.drew ?_ | (refine below_thru ?_ (by assumption) (by first | omega | (simp; done) | (simp; omega))) | refine below_drewN ?_ _))).mono ?_
  rintro e w3 ⟨rfl, hb3⟩
  have hG3 : Blk w3 w.heap.size 25 (grow g) := Blk.thru (by (repeat (first | assumption | exact Blk.new _ _ _ | (refine Blk.new' _ _ _ ?_; (simp; done)) | refine Blk.drew ?_ | refine Blk.alloc ?_ _ | (refine Blk.fars ?_ ?_ _ _; rotate_left; (dsimp only; omega)) | (refine Blk.far ?_ ?_ _; rotate_left; (first | (dsimp only; omega) | (simp; done) | (simp; omega) | omega))))) hb3 (by first | omega | (simp; done) | (simp; omega))
  have hS3 : Blk w3 (w.heap.size + 1) 27 #[.int .i64 s.pos, .int .i64 s.charge, .bool s.bolted] := Blk.thru (by (repeat (first | assumption | exact Blk.new _ _ _ | (refine Blk.new' _ _ _ ?_; (simp; done)) | refine Blk.drew ?_ | refine Blk.alloc ?_ _ | (refine Blk.fars ?_ ?_ _ _; rotate_left; (dsimp only; omega)) | (refine Blk.far ?_ ?_ _; rotate_left; (first | (dsimp only; omega) | (simp; done) | (simp; omega) | omega))))) hb3 (by first | omega | (simp; done) | (simp; omega))
  have hX3 : Blk w3 (w.heap.size + 1 + 1) 29 #[.slice rA rn rc, .bool on] := Blk.thru (by (repeat (first | assumption | exact Blk.new _ _ _ | (refine Blk.new' _ _ _ ?_; (simp; done)) | refine Blk.drew ?_ | refine Blk.alloc ?_ _ | (refine Blk.fars ?_ ?_ _ _; rotate_left; (dsimp only; omega)) | (refine Blk.far ?_ ?_ _; rotate_left; (first | (dsimp only; omega) | (simp; done) | (simp; omega) | omega))))) hb3 (by first | omega | (simp; done) | (simp; omega))
  have hz3 := hb3.size
  (try simp at hz3)
  have hw3 : Below w.heap.size w w3 := (by repeat (first | exact Below.refl _ _ | assumption | (refine Below.setCell ?_ (by first | omega | (simp; done) | (simp; omega)) _) | (refine Below.alloc ?_ (by first | omega | (simp; done) | (simp; omega)) _) | refine Below.drew ?_ | (refine below_thru ?_ (by assumption) (by first | omega | (simp; done) | (simp; omega))) | refine below_drewN ?_ _))
  clear hG2 hS2 hX2 g20 x20 x21 s20 s21 s22 hl20 hl21 hl22
  have hl32 : w.heap.size + 1 + 1 < w3.heap.size := hX3.lt
  have hl31 : w.heap.size + 1 < w3.heap.size := by omega
  have hl30 : w.heap.size < w3.heap.size := by omega
  obtain ⟨x30, x31, _, _⟩ := hX3.two
  obtain ⟨s30, s31, s32, _⟩ := hS3.three
  have g30 : True := trivial
  go_wp2_with (with_reducible refine wpl_g (g := g) (b := w.heap.size) (t := 25) (by (repeat (first | assumption | exact Blk.new _ _ _ | (refine Blk.new' _ _ _ ?_; (simp; done)) | refine Blk.drew ?_ | refine Blk.alloc ?_ _ | (refine Blk.fars ?_ ?_ _ _; rotate_left; (dsimp only; omega)) | (refine Blk.far ?_ ?_ _; rotate_left; (first | (dsimp only; omega) | (simp; done) | (simp; omega) | omega))))) rfl rfl rfl ?_)
  refine (H4.out _ (by repeat (first | exact Below.refl _ _ | assumption | (refine Below.setCell ?_ (by first | omega | (simp; done) | (simp; omega)) _) | (refine Below.alloc ?_ (by first | omega | (simp; done) | (simp; omega)) _) | refine Below.drew ?_ | (refine below_thru ?_ (by assumption) (by first | omega | (simp; done) | (simp; omega))) | refine below_drewN ?_ _))).mono ?_
  rintro e w4 ⟨rfl, hb4⟩
  have hG4 : Blk w4 w.heap.size 25 (grow g) := Blk.thru (by (repeat (first | assumption | exact Blk.new _ _ _ | (refine Blk.new' _ _ _ ?_; (simp; done)) | refine Blk.drew ?_ | refine Blk.alloc ?_ _ | (refine Blk.fars ?_ ?_ _ _; rotate_left; (dsimp only; omega)) | (refine Blk.far ?_ ?_ _; rotate_left; (first | (dsimp only; omega) | (simp; done) | (simp; omega) | omega))))) hb4 (by first | omega | (simp; done) | (simp; omega))
  have hS4 : Blk w4 (w.heap.size + 1) 27 #[.int .i64 s.pos, .int .i64 s.charge, .bool s.bolted] := Blk.thru (by (repeat (first | assumption | exact Blk.new _ _ _ | (refine Blk.new' _ _ _ ?_; (simp; done)) | refine Blk.drew ?_ | refine Blk.alloc ?_ _ | (refine Blk.fars ?_ ?_ _ _; rotate_left; (dsimp only; omega)) | (refine Blk.far ?_ ?_ _; rotate_left; (first | (dsimp only; omega) | (simp; done) | (simp; omega) | omega))))) hb4 (by first | omega | (simp; done) | (simp; omega))
  have hX4 : Blk w4 (w.heap.size + 1 + 1) 29 #[.slice rA rn rc, .bool on] := Blk.thru (by (repeat (first | assumption | exact Blk.new _ _ _ | (refine Blk.new' _ _ _ ?_; (simp; done)) | refine Blk.drew ?_ | refine Blk.alloc ?_ _ | (refine Blk.fars ?_ ?_ _ _; rotate_left; (dsimp only; omega)) | (refine Blk.far ?_ ?_ _; rotate_left; (first | (dsimp only; omega) | (simp; done) | (simp; omega) | omega))))) hb4 (by first | omega | (simp; done) | (simp; omega))
  have hz4 := hb4.size
  (try simp at hz4)
  have hw4 : Below w.heap.size w w4 := (by repeat (first | exact Below.refl _ _ | assumption | (refine Below.setCell ?_ (by first | omega | (simp; done) | (simp; omega)) _) | (refine Below.alloc ?_ (by first | omega | (simp; done) | (simp; omega)) _) | refine Below.drew ?_ | (refine below_thru ?_ (by assumption) (by first | omega | (simp; done) | (simp; omega))) | refine below_drewN ?_ _))
  clear hG3 hS3 hX3 g30 x30 x31 s30 s31 s32 hl30 hl31 hl32
  have hl42 : w.heap.size + 1 + 1 < w4.heap.size := hX4.lt
  have hl41 : w.heap.size + 1 < w4.heap.size := by omega
  have hl40 : w.heap.size < w4.heap.size := by omega
  obtain ⟨x40, x41, _, _⟩ := hX4.two
  obtain ⟨s40, s41, s42, _⟩ := hS4.three
  have g40 : True := trivial
  go_wp2_with (with_reducible refine wpl_g (g := g) (b := w.heap.size) (t := 25) (by (repeat (first | assumption | exact Blk.new _ _ _ | (refine Blk.new' _ _ _ ?_; (simp; done)) | refine Blk.drew ?_ | refine Blk.alloc ?_ _ | (refine Blk.fars ?_ ?_ _ _; rotate_left; (dsimp only; omega)) | (refine Blk.far ?_ ?_ _; rotate_left; (first | (dsimp only; omega) | (simp; done) | (simp; omega) | omega))))) rfl rfl rfl ?_)
  refine (H5.out _ (by repeat (first | exact Below.refl _ _ | assumption | (refine Below.setCell ?_ (by first | omega | (simp; done) | (simp; omega)) _) | (refine Below.alloc ?_ (by first | omega | (simp; done) | (simp; omega)) _) | refine Below.drew ?_ | (refine below_thru ?_ (by assumption) (by first | omega | (simp; done) | (simp; omega))) | refine below_drewN ?_ _))).mono ?_
  rintro e w5 ⟨rfl, hb5⟩
  have hG5 : Blk w5 w.heap.size 25 (grow g) := Blk.thru (by (repeat (first | assumption | exact Blk.new _ _ _ | (refine Blk.new' _ _ _ ?_; (simp; done)) | refine Blk.drew ?_ | refine Blk.alloc ?_ _ | (refine Blk.fars ?_ ?_ _ _; rotate_left; (dsimp only; omega)) | (refine Blk.far ?_ ?_ _; rotate_left; (first | (dsimp only; omega) | (simp; done) | (simp; omega) | omega))))) hb5 (by first | omega | (simp; done) | (simp; omega))
  have hS5 : Blk w5 (w.heap.size + 1) 27 #[.int .i64 s.pos, .int .i64 s.charge, .bool s.bolted] := Blk.thru (by (repeat (first | assumption | exact Blk.new _ _ _ | (refine Blk.new' _ _ _ ?_; (simp; done)) | refine Blk.drew ?_ | refine Blk.alloc ?_ _ | (refine Blk.fars ?_ ?_ _ _; rotate_left; (dsimp only; omega)) | (refine Blk.far ?_ ?_ _; rotate_left; (first | (dsimp only; omega) | (simp; done) | (simp; omega) | omega))))) hb5 (by first | omega | (simp; done) | (simp; omega))
  have hX5 : Blk w5 (w.heap.size + 1 + 1) 29 #[.slice rA rn rc, .bool on] := Blk.thru (by (repeat (first | assumption | exact Blk.new _ _ _ | (refine Blk.new' _ _ _ ?_; (simp; done)) | refine Blk.drew ?_ | refine Blk.alloc ?_ _ | (refine Blk.fars ?_ ?_ _ _; rotate_left; (dsimp only; omega)) | (refine Blk.far ?_ ?_ _; rotate_left; (first | (dsimp only; omega) | (simp; done) | (simp; omega) | omega))))) hb5 (by first | omega | (simp; done) | (simp; omega))
  have hz5 := hb5.size
  (try simp at hz5)
  have hw5 : Below w.heap.size w w5 := (by repeat (first | exact Below.refl _ _ | assumption | (refine Below.setCell ?_ (by first | omega | (simp; done) | (simp; omega)) _) | (refine Below.alloc ?_ (by first | omega | (simp; done) | (simp; omega)) _) | refine Below.drew ?_ | (refine below_thru ?_ (by assumption) (by first | omega | (simp; done) | (simp; omega))) | refine below_drewN ?_ _))
  clear hG4 hS4 hX4 g40 x40 x41 s40 s41 s42 hl40 hl41 hl42
  have hl52 : w.heap.size + 1 + 1 < w5.heap.size := hX5.lt
  have hl51 : w.heap.size + 1 < w5.heap.size := by omega
  have hl50 : w.heap.size < w5.heap.size := by omega
  obtain ⟨x50, x51, _, _⟩ := hX5.two
  obtain ⟨s50, s51, s52, _⟩ := hS5.three
  have g50 : True := trivial
  go_wp2_with (with_reducible refine wpl_g (g := g) (b := w.heap.size) (t := 25) (by (repeat (first | assumption | exact Blk.new _ _ _ | (refine Blk.new' _ _ _ ?_; (simp; done)) | refine Blk.drew ?_ | refine Blk.alloc ?_ _ | (refine Blk.fars ?_ ?_ _ _; rotate_left; (dsimp only; omega)) | (refine Blk.far ?_ ?_ _; rotate_left; (first | (dsimp only; omega) | (simp; done) | (simp; omega) | omega))))) rfl rfl rfl ?_)
  refine (H6.out _ (by repeat (first | exact Below.refl _ _ | assumption | (refine Below.setCell ?_ (by first | omega | (simp; done) | (simp; omega)) _) | (refine Below.alloc ?_ (by first | omega | (simp; done) | (simp; omega)) _) | refine Below.drew ?_ | (refine below_thru ?_ (by assumption) (by first | omega | (simp; done) | (simp; omega))) | refine below_drewN ?_ _))).mono ?_
  rintro e w6 ⟨rfl, hb6⟩
  have hG6 : Blk w6 w.heap.size 25 (grow g) := Blk.thru (by (repeat (first | assumption | exact Blk.new _ _ _ | (refine Blk.new' _ _ _ ?_; (simp; done)) | refine Blk.drew ?_ | refine Blk.alloc ?_ _ | (refine Blk.fars ?_ ?_ _ _; rotate_left; (dsimp only; omega)) | (refine Blk.far ?_ ?_ _; rotate_left; (first | (dsimp only; omega) | (simp; done) | (simp; omega) | omega))))) hb6 (by first | omega | (simp; done) | (simp; omega))
  have hS6 : Blk w6 (w.heap.size + 1) 27 #[.int .i64 s.pos, .int .i64 s.charge, .bool s.bolted] := Blk.thru (by (repeat (first | assumption | exact Blk.new _ _ _ | (refine Blk.new' _ _ _ ?_; (simp; done)) | refine Blk.drew ?_ | refine Blk.alloc ?_ _ | (refine Blk.fars ?_ ?_ _ _; rotate_left; (dsimp only; omega)) | (refine Blk.far ?_ ?_ _; rotate_left; (first | (dsimp only; omega) | (simp; done) | (simp; omega) | omega))))) hb6 (by first | omega | (simp; done) | (simp; omega))
  have hX6 : Blk w6 (w.heap.size + 1 + 1) 29 #[.slice rA rn rc, .bool on] := Blk.thru (by (repeat (first | assumption | exact Blk.new _ _ _ | (refine Blk.new' _ _ _ ?_; (simp; done)) | refine Blk.drew ?_ | refine Blk.alloc ?_ _ | (refine Blk.fars ?_ ?_ _ _; rotate_left; (dsimp only; omega)) | (refine Blk.far ?_ ?_ _; rotate_left; (first | (dsimp only; omega) | (simp; done) | (simp; omega) | omega))))) hb6 (by first | omega | (simp; done) | (simp; omega))
  have hz6 := hb6.size
  (try simp at hz6)
  have hw6 : Below w.heap.size w w6 := (by repeat (first | exact Below.refl _ _ | assumption | (refine Below.setCell ?_ (by first | omega | (simp; done) | (simp; omega)) _) | (refine Below.alloc ?_ (by first | omega | (simp; done) | (simp; omega)) _) | refine Below.drew ?_ | (refine below_thru ?_ (by assumption) (by first | omega | (simp; done) | (simp; omega))) | refine below_drewN ?_ _))
  clear hG5 hS5 hX5 g50 x50 x51 s50 s51 s52 hl50 hl51 hl52
  have hl62 : w.heap.size + 1 + 1 < w6.heap.size := hX6.lt
  have hl61 : w.heap.size + 1 < w6.heap.size := by omega
  have hl60 : w.heap.size < w6.heap.size := by omega
  have hC6 : Blk w6 w5.heap.size 27 #[.int .i64 bp, .int .i64 bc, .bool bb] := Blk.thru (by (repeat (first | assumption | exact Blk.new _ _ _ | (refine Blk.new' _ _ _ ?_; (simp; done)) | refine Blk.drew ?_ | refine Blk.alloc ?_ _ | (refine Blk.fars ?_ ?_ _ _; rotate_left; (dsimp only; omega)) | (refine Blk.far ?_ ?_ _; rotate_left; (first | (dsimp only; omega) | (simp; done) | (simp; omega) | omega))))) hb6 (by first | omega | (simp; done) | (simp; omega))
  obtain ⟨c0, c1, c2, _⟩ := hC6.three
  have hCl : w5.heap.size < w6.heap.size := hC6.lt
  obtain ⟨x60, x61, _, _⟩ := hX6.two
  obtain ⟨s60, s61, s62, _⟩ := hS6.three
  have g60 : True := trivial
  go_wp2_with fail
  refine (Awake_any _).mono ?_
  rintro e w7 ⟨rfl, hb7⟩
  have hw7 : Below w.heap.size w w7 := (by repeat (first | exact Below.refl _ _ | assumption | (refine Below.setCell ?_ (by first | omega | (simp; done) | (simp; omega)) _) | (refine Below.alloc ?_ (by first | omega | (simp; done) | (simp; omega)) _) | refine Below.drew ?_ | (refine below_thru ?_ (by assumption) (by first | omega | (simp; done) | (simp; omega))) | refine below_drewN ?_ _))
  go_wp2
  go_ret
  exact ⟨rfl, hw7⟩
end Go.Proofs.YtmhfnnpbnocafaaGreat
