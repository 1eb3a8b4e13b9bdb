/- What the law's last calls are about: the gate and the set of the examples; Where with no readings. The example's delay. Where without readings. -/
import Derived.Test.YtgdomaddjiggaaaGreatGtTime
import Derived.Test.YtgdomaddjiggaaaGreatGtFalls2
namespace Go.Proofs.YtgdomaddjiggaaaGreat
open Go.RowKit
set_option linter.unusedSimpArgs false
set_option linter.unusedVariables false

def eastName : ByteArray := ⟨#[101, 97, 115, 116]⟩
def westName : ByteArray := ⟨#[119, 101, 115, 116]⟩
def exG (nm : ByteArray) (b1 b2 : Nat) : Ga := ⟨nm, 2, 1000, some ⟨b1, 0, none⟩, 2, 2, [600, 400], 8000, -2000, 9000, 40, 0, 5, 20, 900, 700, 25, 40, 100, 30, 200, 10, some ⟨b2, 0, none⟩, 3, 3, [⟨1, 0, 10⟩, ⟨1, 0, 10⟩, ⟨2, 995, 5⟩], 1⟩
theorem ex_far {w w' : World} {B b1 b2 c : Nat} {nm : ByteArray} (h : (exG nm b1 b2).At w B) (hk : ∀ p : Addr, p.block ≠ c → w'.cell? p = w.cell? p) (h1 : b1 ≠ c) (h2 : b2 ≠ c) : (exG nm b1 b2).At w' B := by
  refine ⟨⟨h.o.1, fun hn => ?_⟩, ⟨h.s.1, fun hn => ?_⟩, h.name, h.on, h.sn⟩
  · obtain ⟨b, off, e, hb, hc⟩ := h.o.2 hn
    have e' : b1 = b := by have := e; simp [exG] at this; exact this.1
    exact ⟨b, off, e, hb, fun k r hr j v hv => (hk _ (by show b ≠ c; omega)).trans (hc k r hr j v hv)⟩
  · obtain ⟨b, off, e, hb, hc⟩ := h.s.2 hn
    have e' : b2 = b := by have := e; simp [exG] at this; exact this.1
    exact ⟨b, off, e, hb, fun k r hr j v hv => (hk _ (by show b ≠ c; omega)).trans (hc k r hr j v hv)⟩
def ExAt (w : World) (e : Ending) (w' : World) : Prop := ∃ b1 b2, e = .returned (exG eastName b1 b2).v ∧ (exG eastName b1 b2).At w' w'.heap.size ∧ (w.heap.size ≤ b1 ∧ w.heap.size ≤ b2) ∧ Below w.heap.size w w'

theorem run_build_ex (a b : Nat) (w : World) : (Instr.build 33 #[(0, .string eastName), (1, .int .i64 2), (2, .int .i64 1000), (3, .slice (some ⟨a, 0, none⟩) 2 2), (4, .int .i64 8000), (5, .int .i64 (-2000)), (6, .int .i64 9000), (7, .int .i64 40), (9, .int .i64 5), (10, .int .i64 20), (11, .int .i64 900), (12, .int .i64 700), (13, .int .i64 25), (14, .int .i64 40), (15, .int .i64 100), (16, .int .i64 30), (17, .int .i64 200), (18, .int .i64 10), (19, .slice (some ⟨b, 0, none⟩) 3 3), (20, .int .i64 1)]).run Tryz.prog w = .ok (exG eastName a b).v w := by
  kernel_rfl
set_option maxRecDepth 100000 in
set_option maxHeartbeats 2000000 in
theorem Example_any (w : World) : Calls Tryz.prog 46 #[] w (ExAt w) := by
  have hal := fun W => run_alloc_g W
  have hbd := fun a b W => run_build_ex a b W
  go_enter Tryz.func46, Tryz.ntmps46
  go_wp2_with (with_reducible refine wpl_sg (cs := zgrow) (g := exG eastName (w.heap.size + 1) (w.heap.size + 1 + 1)) (((Blk.new w _ _).alloc _).alloc _) rfl rfl rfl rfl rfl (put_g _) ?_; intro W hW)
  obtain ⟨fs, hu⟩ := uGate
  have hO : Blk W (w.heap.size + 1) 3 #[.int .i64 600, .int .i64 400] := hW.far _ _ _ (by omega) ((Blk.new' (w.alloc _) _ _ (by simp)).alloc _)
  have hS : Blk W (w.heap.size + 1 + 1) 136 #[.int .i64 1, .int .i64 0, .int .i64 10, .int .i64 1, .int .i64 0, .int .i64 10, .int .i64 2, .int .i64 995, .int .i64 5] := hW.far _ _ _ (by omega) (Blk.new' ((w.alloc _).alloc _) _ _ (by simp))
  have hB : Below w.heap.size w W := hW.below _ _ (Nat.le_refl _) (by repeat (first | exact Below.refl _ _ | assumption | (refine Below.setCell ?_ (by first | omega | (simp; done) | (simp; omega)) _) | (refine Below.alloc ?_ (by first | omega | (simp; done) | (simp; omega)) _) | refine Below.drew ?_ | (refine below_thru ?_ (by assumption) (by first | omega | (simp; done) | (simp; omega))) | refine below_drewN ?_ _))
  refine bodyPost_ret (results_cell_row rfl _ _ w.heap.size 33 (grow (exG eastName (w.heap.size + 1) (w.heap.size + 1 + 1))) (0, 0) _ rfl hW.blk hu rfl iGate) rfl ⟨w.heap.size + 1, w.heap.size + 1 + 1, rfl, ⟨?_, ?_, ?_, ?_, ?_⟩, ⟨by omega, by omega⟩, hB⟩
  · exact Tab.of_flat hO hO.lt rfl (by intro r hr; simp [exG] at hr; rcases hr with rfl | rfl <;> rfl) rfl
  · exact Tab.of_flat hS hS.lt rfl (by intro r hr; simp [exG] at hr; rcases hr with rfl | rfl | rfl <;> rfl) rfl
  · simp only [exG, maxLen]; decide
  · simp only [exG, maxLen]; decide
  · simp only [exG, maxLen]; decide

end Go.Proofs.YtgdomaddjiggaaaGreat

namespace Go.Proofs.YtgdomaddjiggaaaGreat
open Go.RowKit
set_option linter.unusedSimpArgs false
set_option linter.unusedVariables false
theorem ex_falls (a b : Nat) : fallsR (exG eastName a b) 9000 8000 = (891, 0) := by kernel_rfl
def exS : Gs := ⟨100, 100, false⟩
def exT : Gt := ⟨2, true, 3000, 1000⟩
theorem ex_stepE (a b : Nat) : (stepFt (exG eastName a b) exS exT).e = 0 := by kernel_rfl
theorem ex_stepU (a b : Nat) : stepU (exG eastName a b) exS exT = ⟨75, 105, false⟩ := by kernel_rfl
theorem ex_stepD (a b : Nat) : stepD (exG eastName a b) exS exT = ⟨0, -25, 25⟩ := by kernel_rfl
theorem ex_gate (a b : Nat) : gateF (exG eastName a b) = ⟨0, 0, 0⟩ := by kernel_rfl
def exSt (a b c d : Nat) (gA rA : Option Addr) (gc rc : Nat) : St := ⟨gA, 2, gc, [exG eastName a b, exG westName c d], rA, 1, rc, [⟨1, 0, 1000, 1000⟩]⟩
def exSs : List Gs := [⟨0, 0, false⟩, ⟨0, 0, false⟩]
theorem ex_names : twiceB [exG eastName 0 0, exG westName 0 0] 1 = false := by kernel_rfl
theorem ex_delayF (a b c d : Nat) (gA rA : Option Addr) (gc rc : Nat) : (delayFt (exSt a b c d gA rA gc rc) exSs 2 ⟨1, false, 3000, 1000⟩).e = 0 := by kernel_rfl
theorem ex_delay (a b c d : Nat) (gA rA : Option Addr) (gc rc : Nat) : delayR (exSt a b c d gA rA gc rc) exSs 2 ⟨1, false, 3000, 1000⟩ = (5, 0) := by kernel_rfl
end Go.Proofs.YtgdomaddjiggaaaGreat

namespace Go.Proofs.YtgdomaddjiggaaaGreat
open Go.RowKit
set_option linter.unusedSimpArgs false
set_option linter.unusedVariables false

set_option maxRecDepth 100000 in
set_option maxHeartbeats 2000000 in
theorem where0_any (g : Ga) (w : World) (h0 : 0 < g.sn) :
    Calls Tryz.prog 86 #[g.v, .slice none 0 0] w fun e w' => e = .returned (.tuple #[.agg #[.int .i64 0, .int .i64 0], .int .i64 2]) ∧ Below w.heap.size w w' := by
  have hne : ((0 : Int) != (g.sn : Int)) = true := by rw [bne_iff_ne]; omega
  have hne2 : ((0 : Int) == (g.sn : Int)) = false := by rw [beq_eq_false_iff_ne]; omega
  clear h0
  go_enter Tryz.func86, Tryz.ntmps86
  go_wp2
  exact bodyPost_ret (v := .tuple #[.agg #[.int .i64 0, .int .i64 0], .int .i64 2]) (by simp [results, Tryz.results86, go_sem] <;> omega) rfl ⟨rfl, (by repeat (first | exact Below.refl _ _ | assumption | (refine Below.setCell ?_ (by first | omega | (simp; done) | (simp; omega)) _) | (refine Below.alloc ?_ (by first | omega | (simp; done) | (simp; omega)) _) | refine Below.drew ?_ | (refine below_thru ?_ (by assumption) (by first | omega | (simp; done) | (simp; omega))) | refine below_drewN ?_ _))⟩
set_option maxRecDepth 100000 in
set_option maxHeartbeats 2000000 in
theorem Where0_any (g : Ga) (w : World) (hg : g.At w w.heap.size) (h0 : 0 < g.sn) (hf : gateF g = ⟨0, 0, 0⟩) :
    Calls Tryz.prog 36 #[g.v, .slice none 0 0] w fun e w' => e = .returned (.tuple #[.agg #[.int .i64 0, .int .i64 0], .int .i64 2]) ∧ Below w.heap.size w w' := by
  have Hg := Lib.hid hg
  have HF := Lib.hid (fun W h => gateFault_any g W h)
  rw [hf] at HF
  have HW := Lib.hid (fun W => where0_any g W h0)
  clear hg h0 hf
  go_enter Tryz.func36, Tryz.ntmps36
  go_wp2_with (with_reducible refine wpl_g (g := g) ((Blk.new w _ _).alloc _) rfl rfl rfl ?_)
  refine (HF.out _ (Hg.out.grow (by repeat (first | exact Below.refl _ _ | assumption | (refine Below.setCell ?_ (by first | omega | (simp; done) | (simp; omega)) _) | (refine Below.alloc ?_ (by first | omega | (simp; done) | (simp; omega)) _) | refine Below.drew ?_ | (refine below_thru ?_ (by assumption) (by first | omega | (simp; done) | (simp; omega))) | refine below_drewN ?_ _)))).mono ?_
  rintro e w1 ⟨rfl, hb1⟩
  obtain ⟨hc1, hf1⟩ := bcell hb1; have hz1 := hb1.size; (try simp at hz1)
  have hB1 : Blk w1 w.heap.size 33 (grow g) := Blk.thru (by (repeat (first | assumption | exact Blk.new _ _ _ | (refine Blk.new' _ _ _ ?_; (simp; done)) | refine Blk.drew ?_ | refine Blk.alloc ?_ _ | (refine Blk.fars ?_ ?_ _ _; rotate_left; (dsimp only; omega)) | (refine Blk.far ?_ ?_ _; rotate_left; (first | (dsimp only; omega) | (simp; done) | (simp; omega) | omega))))) hb1 (by simp <;> omega)
  have hl1 : w.heap.size + 1 < w1.heap.size := by omega
  have hl0 : w.heap.size < w1.heap.size := by omega
  go_wp2_with (with_reducible refine wpl_g (g := g) (b := w.heap.size) (t := 33) (by (repeat (first | assumption | exact Blk.new _ _ _ | (refine Blk.new' _ _ _ ?_; (simp; done)) | refine Blk.drew ?_ | refine Blk.alloc ?_ _ | (refine Blk.fars ?_ ?_ _ _; rotate_left; (dsimp only; omega)) | (refine Blk.far ?_ ?_ _; rotate_left; (first | (dsimp only; omega) | (simp; done) | (simp; omega) | omega))))) rfl rfl rfl ?_)
  refine (HW.out _).mono ?_
  rintro e w2 ⟨rfl, hb2⟩
  obtain ⟨hc2, hf2⟩ := bcell hb2; have hz2 := hb2.size; (try simp at hz2)
  have hR1 : Blk w1 (w.heap.size + 1) 62 #[.int .i64 0, .int .i64 0] := Blk.thru (by (repeat (first | assumption | exact Blk.new _ _ _ | (refine Blk.new' _ _ _ ?_; (simp; done)) | refine Blk.drew ?_ | refine Blk.alloc ?_ _ | (refine Blk.fars ?_ ?_ _ _; rotate_left; (dsimp only; omega)) | (refine Blk.far ?_ ?_ _; rotate_left; (first | (dsimp only; omega) | (simp; done) | (simp; omega) | omega))))) hb1 (by simp <;> omega)
  have hR2 : Blk w2 (w.heap.size + 1) 62 #[.int .i64 0, .int .i64 0] := Blk.thru (by (repeat (first | assumption | exact Blk.new _ _ _ | (refine Blk.new' _ _ _ ?_; (simp; done)) | refine Blk.drew ?_ | refine Blk.alloc ?_ _ | (refine Blk.fars ?_ ?_ _ _; rotate_left; (dsimp only; omega)) | (refine Blk.far ?_ ?_ _; rotate_left; (first | (dsimp only; omega) | (simp; done) | (simp; omega) | omega))))) hb2 (by simp <;> omega)
  obtain ⟨r0, r1, x0, x1⟩ := hR2.two
  clear hR1 hB1
  have hl2 : w.heap.size + 1 < w2.heap.size := by omega
  have hl3 : w.heap.size < w2.heap.size := by omega
  go_wp2
  exact bodyPost_ret (v := .tuple #[.agg #[.int .i64 0, .int .i64 0], .int .i64 2]) (by simp [results, Tryz.results36, go_sem, r0, r1, hl2] <;> omega) rfl ⟨rfl, (by repeat (first | exact Below.refl _ _ | assumption | (refine Below.setCell ?_ (by first | omega | (simp; done) | (simp; omega)) _) | (refine Below.alloc ?_ (by first | omega | (simp; done) | (simp; omega)) _) | refine Below.drew ?_ | (refine below_thru ?_ (by assumption) (by first | omega | (simp; done) | (simp; omega))) | refine below_drewN ?_ _))⟩
end Go.Proofs.YtgdomaddjiggaaaGreat
