/- What the law's last calls are about: the gate and the set of the examples; Where with no readings. -/
import Derived.Test.YtmepecplbfgakaaGreatGtDelay
import Derived.Test.YtmepecplbfgakaaGreatGtFalls2
namespace Go.Proofs.YtmepecplbfgakaaGreat
open Go.RowKit
set_option linter.unusedSimpArgs false
set_option linter.unusedVariables false

def eastName : ByteArray := ⟨#[101, 97, 115, 116]⟩
def westName : ByteArray := ⟨#[119, 101, 115, 116]⟩
def exG (nm : ByteArray) (b1 b2 : Nat) : Ga := ⟨nm, 2, 1000, some ⟨b1, 0, none⟩, 2, 2, [600, 400], 8000, -2000, 9000, 40, 0, 5, 20, 900, 700, 25, 40, 100, 30, 200, 10, some ⟨b2, 0, none⟩, 3, 3, [⟨1, 0, 10⟩, ⟨1, 0, 10⟩, ⟨2, 995, 5⟩], 1⟩
theorem ex_far {w w' : World} {B b1 b2 c : Nat} {nm : ByteArray} (h : (exG nm b1 b2).At w B) (hk : ∀ p : Addr, p.block ≠ c → w'.cell? p = w.cell? p) (h1 : b1 ≠ c) (h2 : b2 ≠ c) : (exG nm b1 b2).At w' B := by
  refine ⟨⟨h.o.1, fun hn => ?_⟩, ⟨h.s.1, fun hn => ?_⟩, h.name, h.on, h.sn⟩
  · obtain ⟨b, off, e, hb, hc⟩ := h.o.2 hn
    have e' : b1 = b := by have := e; simp [exG] at this; exact this.1
    exact ⟨b, off, e, hb, fun k r hr j v hv => (hk _ (by show b ≠ c; omega)).trans (hc k r hr j v hv)⟩
  · obtain ⟨b, off, e, hb, hc⟩ := h.s.2 hn
    have e' : b2 = b := by have := e; simp [exG] at this; exact this.1
    exact ⟨b, off, e, hb, fun k r hr j v hv => (hk _ (by show b ≠ c; omega)).trans (hc k r hr j v hv)⟩
def ExAt (w : World) (e : Ending) (w' : World) : Prop := ∃ b1 b2, e = .returned (exG eastName b1 b2).v ∧ (exG eastName b1 b2).At w' w'.heap.size ∧ (w.heap.size ≤ b1 ∧ w.heap.size ≤ b2) ∧ Below w.heap.size w w'

theorem run_build_ex (a b : Nat) (w : World) : (Instr.build 33 #[(0, .string eastName), (1, .int .i64 2), (2, .int .i64 1000), (3, .slice (some ⟨a, 0, none⟩) 2 2), (4, .int .i64 8000), (5, .int .i64 (-2000)), (6, .int .i64 9000), (7, .int .i64 40), (9, .int .i64 5), (10, .int .i64 20), (11, .int .i64 900), (12, .int .i64 700), (13, .int .i64 25), (14, .int .i64 40), (15, .int .i64 100), (16, .int .i64 30), (17, .int .i64 200), (18, .int .i64 10), (19, .slice (some ⟨b, 0, none⟩) 3 3), (20, .int .i64 1)]).run Tryz.prog w = .ok (exG eastName a b).v w := by
  kernel_rfl
set_option maxRecDepth 100000 in
set_option maxHeartbeats 2000000 in
theorem Example_any (w : World) : Calls Tryz.prog 46 #[] w (ExAt w) := by
  have hal := fun W => run_alloc_g W
  have hbd := fun a b W => run_build_ex a b W
  go_enter Tryz.func46, Tryz.ntmps46
  go_wp2_with (with_reducible refine wpl_sg (cs := zgrow) (g := exG eastName (w.heap.size + 1) (w.heap.size + 1 + 1)) (((Blk.new w _ _).alloc _).alloc _) rfl rfl rfl rfl rfl (put_g _) ?_; intro W hW)
  obtain ⟨fs, hu⟩ := uGate
  have hO : Blk W (w.heap.size + 1) 3 #[.int .i64 600, .int .i64 400] := hW.far _ _ _ (by omega) ((Blk.new' (w.alloc _) _ _ (by simp)).alloc _)
  have hS : Blk W (w.heap.size + 1 + 1) 136 #[.int .i64 1, .int .i64 0, .int .i64 10, .int .i64 1, .int .i64 0, .int .i64 10, .int .i64 2, .int .i64 995, .int .i64 5] := hW.far _ _ _ (by omega) (Blk.new' ((w.alloc _).alloc _) _ _ (by simp))
  have hB : Below w.heap.size w W := hW.below _ _ (Nat.le_refl _) (by repeat (first | exact Below.refl _ _ | assumption | (refine Below.setCell ?_ (by first | omega | (simp; done) | (simp; omega)) _) | (refine Below.alloc ?_ (by first | omega | (simp; done) | (simp; omega)) _) | refine Below.drew ?_ | (refine below_thru ?_ (by assumption) (by first | omega | (simp; done) | (simp; omega))) | refine below_drewN ?_ _))
  refine bodyPost_ret (results_cell_row rfl _ _ w.heap.size 33 (grow (exG eastName (w.heap.size + 1) (w.heap.size + 1 + 1))) (0, 0) _ rfl hW.blk hu rfl iGate) rfl ⟨w.heap.size + 1, w.heap.size + 1 + 1, rfl, ⟨?_, ?_, ?_, ?_, ?_⟩, ⟨by omega, by omega⟩, hB⟩
  · exact Tab.of_flat hO hO.lt rfl (by intro r hr; simp [exG] at hr; rcases hr with rfl | rfl <;> rfl) rfl
  · exact Tab.of_flat hS hS.lt rfl (by intro r hr; simp [exG] at hr; rcases hr with rfl | rfl | rfl <;> rfl) rfl
  · simp only [exG, maxLen]; decide
  · simp only [exG, maxLen]; decide
  · simp only [exG, maxLen]; decide

end Go.Proofs.YtmepecplbfgakaaGreat
