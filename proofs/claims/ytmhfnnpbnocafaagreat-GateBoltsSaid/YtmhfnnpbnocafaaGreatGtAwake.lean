/- What the law's last calls are about: the gate and the set of the examples; Where with no readings. The example's delay. Where without readings. The set of the examples. Awake returns true. -/
import Derived.Test.YtmhfnnpbnocafaaGreatGtTime
import Derived.Test.YtmhfnnpbnocafaaGreatGtSet
namespace Go.Proofs.YtmhfnnpbnocafaaGreat
open Go.RowKit
set_option linter.unusedSimpArgs false
set_option linter.unusedVariables false

def eastName : ByteArray := ⟨#[101, 97, 115, 116]⟩
def westName : ByteArray := ⟨#[119, 101, 115, 116]⟩
def exG (nm : ByteArray) (b1 b2 : Nat) : Ga := ⟨nm, 2, 1000, some ⟨b1, 0, none⟩, 2, 2, [600, 400], 8000, -2000, 9000, 40, 0, 5, 20, 900, 700, 25, 40, 100, 30, 200, 10, some ⟨b2, 0, none⟩, 3, 3, [⟨1, 0, 10⟩, ⟨1, 0, 10⟩, ⟨2, 995, 5⟩], 1⟩
theorem ex_far {w w' : World} {B b1 b2 c : Nat} {nm : ByteArray} (h : (exG nm b1 b2).At w B) (hk : ∀ p : Addr, p.block ≠ c → w'.cell? p = w.cell? p) (h1 : b1 ≠ c) (h2 : b2 ≠ c) : (exG nm b1 b2).At w' B := by
  refine ⟨⟨h.o.1, fun hn => ?_⟩, ⟨h.s.1, fun hn => ?_⟩, h.name, h.on, h.sn⟩
  · obtain ⟨b, off, e, hb, hc⟩ := h.o.2 hn
    have e' : b1 = b := by have := e; simp [exG] at this; exact this.1
    exact ⟨b, off, e, hb, fun k r hr j v hv => (hk _ (by show b ≠ c; omega)).trans (hc k r hr j v hv)⟩
  · obtain ⟨b, off, e, hb, hc⟩ := h.s.2 hn
    have e' : b2 = b := by have := e; simp [exG] at this; exact this.1
    exact ⟨b, off, e, hb, fun k r hr j v hv => (hk _ (by show b ≠ c; omega)).trans (hc k r hr j v hv)⟩
def ExAt (w : World) (e : Ending) (w' : World) : Prop := ∃ b1 b2, e = .returned (exG eastName b1 b2).v ∧ (exG eastName b1 b2).At w' w'.heap.size ∧ (w.heap.size ≤ b1 ∧ w.heap.size ≤ b2) ∧ Below w.heap.size w w'

theorem run_build_ex (a b : Nat) (w : World) : (Instr.build 25 #[(0, .string eastName), (1, .int .i64 2), (2, .int .i64 1000), (3, .slice (some ⟨a, 0, none⟩) 2 2), (4, .int .i64 8000), (5, .int .i64 (-2000)), (6, .int .i64 9000), (7, .int .i64 40), (9, .int .i64 5), (10, .int .i64 20), (11, .int .i64 900), (12, .int .i64 700), (13, .int .i64 25), (14, .int .i64 40), (15, .int .i64 100), (16, .int .i64 30), (17, .int .i64 200), (18, .int .i64 10), (19, .slice (some ⟨b, 0, none⟩) 3 3), (20, .int .i64 1)]).run Tryz.prog w = .ok (exG eastName a b).v w := by
  kernel_rfl
set_option maxRecDepth 100000 in
set_option maxHeartbeats 2000000 in
theorem Example_any (w : World) : Calls Tryz.prog 15 #[] w (ExAt w) := by
  have hal := fun W => run_alloc_g W
  have hbd := fun a b W => run_build_ex a b W
  go_enter Tryz.func15, Tryz.ntmps15
  go_wp2_with (with_reducible refine wpl_sg (cs := zgrow) (g := exG eastName (w.heap.size + 1) (w.heap.size + 1 + 1)) (((Blk.new w _ _).alloc _).alloc _) rfl rfl rfl rfl rfl (put_g _) ?_; intro W hW)
  obtain ⟨fs, hu⟩ := uGate
  have hO : Blk W (w.heap.size + 1) 3 #[.int .i64 600, .int .i64 400] := hW.far _ _ _ (by omega) ((Blk.new' (w.alloc _) _ _ (by simp)).alloc _)
  have hS : Blk W (w.heap.size + 1 + 1) 92 #[.int .i64 1, .int .i64 0, .int .i64 10, .int .i64 1, .int .i64 0, .int .i64 10, .int .i64 2, .int .i64 995, .int .i64 5] := hW.far _ _ _ (by omega) (Blk.new' ((w.alloc _).alloc _) _ _ (by simp))
  have hB : Below w.heap.size w W := hW.below _ _ (Nat.le_refl _) (by repeat (first | exact Below.refl _ _ | assumption | (refine Below.setCell ?_ (by first | omega | (simp; done) | (simp; omega)) _) | (refine Below.alloc ?_ (by first | omega | (simp; done) | (simp; omega)) _) | refine Below.drew ?_ | (refine below_thru ?_ (by assumption) (by first | omega | (simp; done) | (simp; omega))) | refine below_drewN ?_ _))
  refine bodyPost_ret (results_cell_row rfl _ _ w.heap.size 25 (grow (exG eastName (w.heap.size + 1) (w.heap.size + 1 + 1))) (0, 0) _ rfl hW.blk hu rfl iGate) rfl ⟨w.heap.size + 1, w.heap.size + 1 + 1, rfl, ⟨?_, ?_, ?_, ?_, ?_⟩, ⟨by omega, by omega⟩, hB⟩
  · exact Tab.of_flat hO hO.lt rfl (by intro r hr; simp [exG] at hr; rcases hr with rfl | rfl <;> rfl) rfl
  · exact Tab.of_flat hS hS.lt rfl (by intro r hr; simp [exG] at hr; rcases hr with rfl | rfl | rfl <;> rfl) rfl
  · simp only [exG, maxLen]; decide
  · simp only [exG, maxLen]; decide
  · simp only [exG, maxLen]; decide

end Go.Proofs.YtmhfnnpbnocafaaGreat

namespace Go.Proofs.YtmhfnnpbnocafaaGreat
open Go.RowKit
set_option linter.unusedSimpArgs false
set_option linter.unusedVariables false
theorem ex_falls (a b : Nat) : fallsR (exG eastName a b) 9000 8000 = (891, 0) := by kernel_rfl
def exS : Gs := ⟨100, 100, false⟩
def exT : Gt := ⟨2, true, 3000, 1000⟩
theorem ex_stepE (a b : Nat) : (stepFt (exG eastName a b) exS exT).e = 0 := by kernel_rfl
theorem ex_stepU (a b : Nat) : stepU (exG eastName a b) exS exT = ⟨75, 105, false⟩ := by kernel_rfl
theorem ex_stepD (a b : Nat) : stepD (exG eastName a b) exS exT = ⟨0, -25, 25⟩ := by kernel_rfl
theorem ex_gate (a b : Nat) : gateF (exG eastName a b) = ⟨0, 0, 0⟩ := by kernel_rfl
def exSt (a b c d : Nat) (gA rA : Option Addr) (gc rc : Nat) : St := ⟨gA, 2, gc, [exG eastName a b, exG westName c d], rA, 1, rc, [⟨1, 0, 1000, 1000⟩]⟩
def exSs : List Gs := [⟨0, 0, false⟩, ⟨0, 0, false⟩]
theorem ex_names : twiceB [exG eastName 0 0, exG westName 0 0] 1 = false := by kernel_rfl
theorem ex_delayF (a b c d : Nat) (gA rA : Option Addr) (gc rc : Nat) : (delayFt (exSt a b c d gA rA gc rc) exSs 2 ⟨1, false, 3000, 1000⟩).e = 0 := by kernel_rfl
theorem ex_delay (a b c d : Nat) (gA rA : Option Addr) (gc rc : Nat) : delayR (exSt a b c d gA rA gc rc) exSs 2 ⟨1, false, 3000, 1000⟩ = (5, 0) := by kernel_rfl
end Go.Proofs.YtmhfnnpbnocafaaGreat

namespace Go.Proofs.YtmhfnnpbnocafaaGreat
open Go.RowKit
set_option linter.unusedSimpArgs false
set_option linter.unusedVariables false

set_option maxRecDepth 100000 in
set_option maxHeartbeats 2000000 in
theorem where0_any (g : Ga) (w : World) (h0 : 0 < g.sn) :
    Calls Tryz.prog 27 #[g.v, .slice none 0 0] w fun e w' => e = .returned (.tuple #[.agg #[.int .i64 0, .int .i64 0], .int .i64 2]) ∧ Below w.heap.size w w' := by
  have hne : ((0 : Int) != (g.sn : Int)) = true := by rw [bne_iff_ne]; omega
  have hne2 : ((0 : Int) == (g.sn : Int)) = false := by rw [beq_eq_false_iff_ne]; omega
  clear h0
  go_enter Tryz.func27, Tryz.ntmps27
  go_wp2
  exact bodyPost_ret (v := .tuple #[.agg #[.int .i64 0, .int .i64 0], .int .i64 2]) (by simp [results, Tryz.results27, go_sem] <;> omega) rfl ⟨rfl, (by repeat (first | exact Below.refl _ _ | assumption | (refine Below.setCell ?_ (by first | omega | (simp; done) | (simp; omega)) _) | (refine Below.alloc ?_ (by first | omega | (simp; done) | (simp; omega)) _) | refine Below.drew ?_ | (refine below_thru ?_ (by assumption) (by first | omega | (simp; done) | (simp; omega))) | refine below_drewN ?_ _))⟩
set_option maxRecDepth 100000 in
set_option maxHeartbeats 2000000 in
theorem Where0_any (g : Ga) (w : World) (hg : g.At w w.heap.size) (h0 : 0 < g.sn) (hf : gateF g = ⟨0, 0, 0⟩) :
    Calls Tryz.prog 8 #[g.v, .slice none 0 0] w fun e w' => e = .returned (.tuple #[.agg #[.int .i64 0, .int .i64 0], .int .i64 2]) ∧ Below w.heap.size w w' := by
  have Hg := Lib.hid hg
  have HF := Lib.hid (fun W h => gateFault_any g W h)
  rw [hf] at HF
  have HW := Lib.hid (fun W => where0_any g W h0)
  clear hg h0 hf
  go_enter Tryz.func8, Tryz.ntmps8
  go_wp2_with (with_reducible refine wpl_g (g := g) ((Blk.new w _ _).alloc _) rfl rfl rfl ?_)
  refine (HF.out _ (Hg.out.grow (by repeat (first | exact Below.refl _ _ | assumption | (refine Below.setCell ?_ (by first | omega | (simp; done) | (simp; omega)) _) | (refine Below.alloc ?_ (by first | omega | (simp; done) | (simp; omega)) _) | refine Below.drew ?_ | (refine below_thru ?_ (by assumption) (by first | omega | (simp; done) | (simp; omega))) | refine below_drewN ?_ _)))).mono ?_
  rintro e w1 ⟨rfl, hb1⟩
  obtain ⟨hc1, hf1⟩ := bcell hb1; have hz1 := hb1.size; (try simp at hz1)
  have hB1 : Blk w1 w.heap.size 25 (grow g) := Blk.thru (by (repeat (first | assumption | exact Blk.new _ _ _ | (refine Blk.new' _ _ _ ?_; (simp; done)) | refine Blk.drew ?_ | refine Blk.alloc ?_ _ | (refine Blk.fars ?_ ?_ _ _; rotate_left; (dsimp only; omega)) | (refine Blk.far ?_ ?_ _; rotate_left; (first | (dsimp only; omega) | (simp; done) | (simp; omega) | omega))))) hb1 (by simp <;> omega)
  have hl1 : w.heap.size + 1 < w1.heap.size := by omega
  have hl0 : w.heap.size < w1.heap.size := by omega
  go_wp2_with (with_reducible refine wpl_g (g := g) (b := w.heap.size) (t := 25) (by (repeat (first | assumption | exact Blk.new _ _ _ | (refine Blk.new' _ _ _ ?_; (simp; done)) | refine Blk.drew ?_ | refine Blk.alloc ?_ _ | (refine Blk.fars ?_ ?_ _ _; rotate_left; (dsimp only; omega)) | (refine Blk.far ?_ ?_ _; rotate_left; (first | (dsimp only; omega) | (simp; done) | (simp; omega) | omega))))) rfl rfl rfl ?_)
  refine (HW.out _).mono ?_
  rintro e w2 ⟨rfl, hb2⟩
  obtain ⟨hc2, hf2⟩ := bcell hb2; have hz2 := hb2.size; (try simp at hz2)
  have hR1 : Blk w1 (w.heap.size + 1) 31 #[.int .i64 0, .int .i64 0] := Blk.thru (by (repeat (first | assumption | exact Blk.new _ _ _ | (refine Blk.new' _ _ _ ?_; (simp; done)) | refine Blk.drew ?_ | refine Blk.alloc ?_ _ | (refine Blk.fars ?_ ?_ _ _; rotate_left; (dsimp only; omega)) | (refine Blk.far ?_ ?_ _; rotate_left; (first | (dsimp only; omega) | (simp; done) | (simp; omega) | omega))))) hb1 (by simp <;> omega)
  have hR2 : Blk w2 (w.heap.size + 1) 31 #[.int .i64 0, .int .i64 0] := Blk.thru (by (repeat (first | assumption | exact Blk.new _ _ _ | (refine Blk.new' _ _ _ ?_; (simp; done)) | refine Blk.drew ?_ | refine Blk.alloc ?_ _ | (refine Blk.fars ?_ ?_ _ _; rotate_left; (dsimp only; omega)) | (refine Blk.far ?_ ?_ _; rotate_left; (first | (dsimp only; omega) | (simp; done) | (simp; omega) | omega))))) hb2 (by simp <;> omega)
  obtain ⟨r0, r1, x0, x1⟩ := hR2.two
  clear hR1 hB1
  have hl2 : w.heap.size + 1 < w2.heap.size := by omega
  have hl3 : w.heap.size < w2.heap.size := by omega
  go_wp2
  exact bodyPost_ret (v := .tuple #[.agg #[.int .i64 0, .int .i64 0], .int .i64 2]) (by simp [results, Tryz.results8, go_sem, r0, r1, hl2] <;> omega) rfl ⟨rfl, (by repeat (first | exact Below.refl _ _ | assumption | (refine Below.setCell ?_ (by first | omega | (simp; done) | (simp; omega)) _) | (refine Below.alloc ?_ (by first | omega | (simp; done) | (simp; omega)) _) | refine Below.drew ?_ | (refine below_thru ?_ (by assumption) (by first | omega | (simp; done) | (simp; omega))) | refine below_drewN ?_ _))⟩
end Go.Proofs.YtmhfnnpbnocafaaGreat

namespace Go.Proofs.YtmhfnnpbnocafaaGreat
open Go.RowKit
set_option linter.unusedSimpArgs false
set_option linter.unusedVariables false

def PairAt (w : World) (e : Ending) (w' : World) : Prop := ∃ a b c d gA rA gc rc, e = .returned (exSt a b c d gA rA gc rc).v ∧ (exSt a b c d gA rA gc rc).At w' w'.heap.size ∧ Below w.heap.size w w'
theorem run_bslice_gg (g h : Ga) (w : World) : (Instr.buildSlice 58 2 #[(0, g.v), (1, h.v)]).run Tryz.prog w = .ok (.slice (some ⟨w.heap.size, 0, none⟩) 2 2) (w.alloc (.cells (g.cells ++ h.cells).toArray 25)) := by
  kernel_rfl
theorem exG_at {w : World} {B : Nat} {n m : ByteArray} {a b : Nat} (h : (exG n a b).At w B) (hm : m.size ≤ maxLen) : (exG m a b).At w B := ⟨h.o, h.s, hm, h.on, h.sn⟩
theorem pair_end {w1 : World} {a b c d G R : Nat} (hG : Blk w1 G 25 ((exG eastName a b).cells ++ (exG westName c d).cells).toArray) (hR : Blk w1 R 77 #[.int .i64 1, .int .i64 0, .int .i64 1000, .int .i64 1000])
    (h1 : (exG eastName a b).At w1 w1.heap.size) (h2 : (exG westName c d).At w1 w1.heap.size) : (exSt a b c d (some ⟨G, 0, none⟩) (some ⟨R, 0, none⟩) 2 1).At w1 w1.heap.size := by
  refine ⟨⟨Tab.of_flat hG hG.lt rfl (by intro r hr; simp [exSt] at hr; rcases hr with rfl | rfl <;> rfl) rfl, fun g hg => ?_⟩, Tab.of_flat hR hR.lt rfl (by intro r hr; simp [exSt] at hr; subst hr; rfl) rfl, ?_, ?_, ?_⟩
  · simp only [exSt, List.mem_cons, List.not_mem_nil, or_false] at hg
    rcases hg with rfl | rfl
    · exact h1
    · exact h2
  · simp only [exSt, maxLen]; decide
  · simp only [exSt, maxLen]; decide
  · simp only [exSt]; decide

theorem uSetS : Tryz.prog.underlying 61 = some (.struct #[Field.mk "Gates" 58 0 false "" "" 0, Field.mk "Rules" 59 1 false "" "" 24]) := by kernel_rfl
theorem iSetS : (Tryz.prog.info? 61).map (·.size) = some 2 := by kernel_rfl
set_option maxRecDepth 100000 in
set_option maxHeartbeats 4000000 in
theorem Pair_any (w : World) : Calls Tryz.prog 21 #[] w (PairAt w) := by
  have hal := fun W => run_alloc_g W
  have hbs := fun a b c d W => run_bslice_gg (exG eastName a b) (exG westName c d) W
  go_enter Tryz.func21, Tryz.ntmps21
  go_wp2_with fail
  refine (Example_any _).mono ?_
  rintro e w1 ⟨c, d, rfl, hat, ⟨hc0, hd0⟩, hb1⟩
  obtain ⟨hc1, hf1⟩ := bcell hb1; have hz1 := hb1.size; (try simp at hz1)
  (try simp at hc0 hd0)
  have Hat := Lib.hid hat
  clear hat
  have hP1 : Blk w1 w.heap.size 61 #[.slice none 0 0, .slice none 0 0] := Blk.thru (by (repeat (first | assumption | exact Blk.new _ _ _ | (refine Blk.new' _ _ _ ?_; (simp; done)) | refine Blk.drew ?_ | refine Blk.alloc ?_ _ | (refine Blk.fars ?_ ?_ _ _; rotate_left; (dsimp only; omega)) | (refine Blk.far ?_ ?_ _; rotate_left; (first | (dsimp only; omega) | (simp; done) | (simp; omega) | omega))))) hb1 (by simp)
  have hBw1 : Below w.heap.size w w1 := (by repeat (first | exact Below.refl _ _ | assumption | (refine Below.setCell ?_ (by first | omega | (simp; done) | (simp; omega)) _) | (refine Below.alloc ?_ (by first | omega | (simp; done) | (simp; omega)) _) | refine Below.drew ?_ | (refine below_thru ?_ (by assumption) (by first | omega | (simp; done) | (simp; omega))) | refine below_drewN ?_ _))
  clear hb1 hc1 hf1
  go_wp2_with (with_reducible refine wpl_sg (cs := zgrow) (g := exG eastName c d) (Blk.new w1 _ _) rfl rfl rfl rfl rfl (put_g _) ?_; intro W hW; refine Hid.out ?_)
  have hsz := hW.size
  simp at hsz
  have hbW : Below w1.heap.size w1 W := hW.below _ _ (Nat.le_refl _) ((Below.refl _ _).alloc (Nat.le_refl _) _)
  have hWest : Blk (W.setCell ⟨w1.heap.size, 0, none⟩ (.string westName)) w1.heap.size 25 (grow (exG westName c d)) := blk_eq (show (grow (exG eastName c d)).setIfInBounds 0 (.string westName) = grow (exG westName c d) from by kernel_rfl) (hW.blk.set_ 0 _)
  have hPW : Blk (W.setCell ⟨w1.heap.size, 0, none⟩ (.string westName)) w.heap.size 61 #[.slice none 0 0, .slice none 0 0] := (hP1.thru hbW (by omega)).far (by simp; omega) _
  have hBW : Below w.heap.size w (W.setCell ⟨w1.heap.size, 0, none⟩ (.string westName)) := Below.setCell (hBw1.trans (hbW.mono (by omega))) (by simp; omega) _
  have hAW : (exG eastName c d).At (W.setCell ⟨w1.heap.size, 0, none⟩ (.string westName)) w1.heap.size := (Hat.out.below hbW).keep (fun p hp => World.cell?_setCell_other _ _ _ _ (by intro h; have := congrArg Addr.block h; simp at this; omega))
  have hzW : (W.setCell ⟨w1.heap.size, 0, none⟩ (.string westName)).heap.size = w1.heap.size + 1 := by simp [World.setCell]; exact hsz
  generalize hWW : W.setCell ⟨w1.heap.size, 0, none⟩ (.string westName) = WW at *
  have q0 : W.cell? ⟨w1.heap.size, 0, none⟩ = some (.string eastName) := hW.blk.cell 0
  have z0 := hW.blk.frozen 0
  clear hW hbW
  refine Lib.hid ?_
  go_wp2_with fail
  have hWW' : W.setCell ⟨w1.heap.size, 0, none⟩ (.string ⟨#[119, 101, 115, 116]⟩) = WW := hWW
  rw [hWW']
  clear hWW hWW' q0 z0 hsz Hat hP1 hBw1
  obtain ⟨GV, hGV⟩ : ∃ GV, GV = (exG westName c d).v := ⟨_, rfl⟩
  obtain ⟨fs, hu⟩ := uGate
  have end_ : ∀ (W3 : World) (a b G R : Nat), Blk W3 G 25 ((exG eastName a b).cells ++ (exG westName c d).cells).toArray → Blk W3 R 77 #[.int .i64 1, .int .i64 0, .int .i64 1000, .int .i64 1000] → (exG eastName a b).At W3 W3.heap.size → w1.heap.size ≤ a → w1.heap.size ≤ b → Below w1.heap.size WW W3 →
      PairAt w (.returned (.agg #[.slice (some ⟨G, 0, none⟩) 2 2, .slice (some ⟨R, 0, none⟩) 1 1])) (W3.setCells w.heap.size 0 [.slice (some ⟨G, 0, none⟩) 2 2, .slice (some ⟨R, 0, none⟩) 1 1]) := by
    intro W3 a b G R hG hR h1 ha0 hb0 hb
    have hne : ∀ g, Blk W3 g 25 ((exG eastName a b).cells ++ (exG westName c d).cells).toArray → g ≠ w.heap.size := fun g hg h => by
      have hp := hPW.thru hb (by omega)
      subst h
      unfold Blk at hg hp
      rw [hp] at hg
      have := congrArg (fun o => match o with | some (Obj.cells c _ _) => c.size | _ => 0) hg
      simp [exG] at this
    have hneR : R ≠ w.heap.size := fun h => by
      have hp := hPW.thru hb (by omega)
      subst h
      unfold Blk at hR hp
      rw [hp] at hR
      have := congrArg (fun o => match o with | some (Obj.cells c _ _) => c.size | _ => 0) hR
      simp at this
    have hk : ∀ p : Addr, p.block ≠ w.heap.size → (W3.setCells w.heap.size 0 [.slice (some ⟨G, 0, none⟩) 2 2, .slice (some ⟨R, 0, none⟩) 1 1]).cell? p = W3.cell? p := fun p hp => World.cell?_setCells_out _ _ _ _ _ (fun h _ => absurd h hp)
    have hz3 := hb.size
    refine ⟨a, b, c, d, some ⟨G, 0, none⟩, some ⟨R, 0, none⟩, 2, 1, rfl, pair_end (w1 := W3.setCells w.heap.size 0 [.slice (some ⟨G, 0, none⟩) 2 2, .slice (some ⟨R, 0, none⟩) 1 1]) (hG.fars (hne G hG) _ _) (hR.fars hneR _ _) ?_ ?_, below_sets (hBW.trans (hb.mono (by omega))) (Nat.le_refl _) _ _⟩
    · rw [size_sets]
      exact ex_far h1 hk (by omega) (by omega)
    · rw [size_sets]
      exact ex_far ((exG_at (hAW.below hb) (m := westName) (by simp only [maxLen]; decide)).more (by omega)) hk (by omega) (by omega)
  go_wp2_with fail
  refine wp_region_held (S := fun W' => Blk W' w1.heap.size 25 (grow (exG westName c d))) (by kernel_rfl) (by exact hWest.drew) (fun hHeld => ?_)
  refine wpAnyH_take (i := 1) (v := (exG westName c d).v) rfl (by kernel_rfl) (by kernel_rfl) (by kernel_rfl) (fun _ _ _ h => h) (Or.inl ⟨by rfl, fun w hSw => ld_g rfl rfl hSw⟩) hHeld ?_
  (try simp only [Act.put, List.setIfInBounds_toArray, List.set_cons_zero, List.set_cons_succ])
  refine wpAnyH_take (i := 3) (v := ?_) rfl (by kernel_rfl) (by kernel_rfl) (by kernel_rfl) (fun _ _ _ h => h) (Or.inl ⟨by kernel_rfl, ?_⟩) hHeld ?_
  rotate_left
  · intro w hSw; (try dsimp only at hSw); skip; go_simp; (try with_reducible rfl)
  (try simp only [Act.put, List.setIfInBounds_toArray, List.set_cons_zero, List.set_cons_succ])
  refine wpAnyH_ready (rs := [0, 4]) (by kernel_rfl) (by simp) ?_
  refine AllReadyH.cons rfl (fun K hK => ?_) (AllReadyH.cons rfl (fun K hK => ?_) AllReadyH.nil)
  ·
    go_simp
    refine (Example_any _).mono ?_
    rintro e w2 ⟨a, b, rfl, hat2, ⟨ha0, hb0⟩, hb2⟩
    (try dsimp only)
    have hz2 := hb2.size
    (try simp at hz2 ha0 hb0)
    refine hK.out _ _ (by exact hHeld.thru hb2 hHeld.lt) (fun hHeld => ?_)
    clear hK K
    (try simp only [List.getElem_toArray, List.getElem_cons_zero, List.getElem_cons_succ, Act.put, List.setIfInBounds_toArray, List.set_cons_zero, List.set_cons_succ])
    have hb3 : Below w1.heap.size WW w2 := (Below.drew (Below.refl _ _)).trans (hb2.mono (by simp; omega))
    have hP2 : Blk w2 w.heap.size 61 #[.slice none 0 0, .slice none 0 0] := hPW.thru hb3 (by omega)
    clear hb2
    refine wpAnyH_ready (rs := [2, 4]) (by kernel_rfl) (by simp) ?_
    refine AllReadyH.cons rfl (fun K hK => ?_) (AllReadyH.cons rfl (fun K hK => ?_) AllReadyH.nil)
    ·
      go_simp
      (try dsimp only)
      refine hK.out _ _ (by exact hHeld.alloc _) (fun hHeld => ?_)
      clear hK K
      (try simp only [List.getElem_toArray, List.getElem_cons_zero, List.getElem_cons_succ, Act.put, List.setIfInBounds_toArray, List.set_cons_zero, List.set_cons_succ])
      refine wpAnyH_ready (rs := [4]) (by kernel_rfl) (by simp) ?_
      refine AllReadyH.cons rfl (fun K hK => ?_) AllReadyH.nil
      go_simp
      (try dsimp only)
      refine hK.out _ _ (by exact hHeld.alloc _) (fun hHeld => ?_)
      clear hK K
      (try simp only [List.getElem_toArray, List.getElem_cons_zero, List.getElem_cons_succ, Act.put, List.setIfInBounds_toArray, List.set_cons_zero, List.set_cons_succ])
      refine wpAnyH_take (i := 5) (v := ?_) rfl (by kernel_rfl) (by kernel_rfl) (by kernel_rfl) (fun _ _ _ h => h) (Or.inl ⟨by kernel_rfl, ?_⟩) hHeld ?_
      rotate_left
      · intro w hSw; (try dsimp only at hSw); skip; go_simp; (try with_reducible rfl)
      (try simp only [Act.put, List.setIfInBounds_toArray, List.set_cons_zero, List.set_cons_succ])
      (try simp only [List.getElem_toArray, List.getElem_cons_zero, List.getElem_cons_succ, Act.put, List.setIfInBounds_toArray, List.set_cons_zero, List.set_cons_succ])
      refine wpAnyH_ready (rs := [6]) (by kernel_rfl) (by simp) ?_
      refine AllReadyH.cons rfl (fun K hK => ?_) AllReadyH.nil
      refine wanted_of (by rfl) (wp_store_mid (P := Tryz.prog) 61 _ _ rfl (w.heap.size) 0 #[.slice (some ⟨w2.heap.size, 0, none⟩) 2 2, .slice (some ⟨(w2.heap.size + 1), 0, none⟩) 1 1] rfl rfl (Blk.there ((hP2.alloc _).alloc _) (by show 0 + 2 ≤ 2; omega)) (by kernel_rfl) (by simp [Value.oneCell']) ?_)
      refine hK.out _ _ (by exact hHeld.fars (by omega) _ _) (fun hHeld => ?_)
      clear hK K
      (try simp only [Act.put, List.setIfInBounds_toArray, List.set_cons_zero, List.set_cons_succ])
      refine wpAnyH_done (by kernel_rfl) ?_ _
      (try simp only [List.getElem_toArray, List.getElem_cons_zero, List.getElem_cons_succ, Act.put, List.setIfInBounds_toArray, List.set_cons_zero, List.set_cons_succ])
      go_wp2
      refine bodyPost_ret (results_cell_row rfl _ _ w.heap.size 61 #[.slice (some ⟨w2.heap.size, 0, none⟩) 2 2, .slice (some ⟨(w2.heap.size + 1), 0, none⟩) 1 1] (0, 0) _ rfl (Blk.sets ((hP2.alloc _).alloc _) _ _) uSetS rfl iSetS) rfl (end_ _ a b w2.heap.size (w2.heap.size + 1) ?_ ?_ ?_ (by omega) (by omega) ?_)
      · (repeat (first | assumption | exact Blk.new _ _ _ | (refine Blk.new' _ _ _ ?_; (simp; done)) | refine Blk.drew ?_ | refine Blk.alloc ?_ _ | (refine Blk.fars ?_ ?_ _ _; rotate_left; (dsimp only; omega)) | (refine Blk.far ?_ ?_ _; rotate_left; (first | (dsimp only; omega) | (simp; done) | (simp; omega) | omega))))
      · (repeat (first | assumption | exact Blk.new _ _ _ | (refine Blk.new' _ _ _ ?_; (simp; done)) | refine Blk.drew ?_ | refine Blk.alloc ?_ _ | (refine Blk.fars ?_ ?_ _ _; rotate_left; (dsimp only; omega)) | (refine Blk.far ?_ ?_ _; rotate_left; (first | (dsimp only; omega) | (simp; done) | (simp; omega) | omega))))
      · exact hat2.grow (by repeat (first | exact Below.refl _ _ | assumption | (refine Below.setCell ?_ (by first | omega | (simp; done) | (simp; omega)) _) | (refine Below.alloc ?_ (by first | omega | (simp; done) | (simp; omega)) _) | refine Below.drew ?_ | (refine below_thru ?_ (by assumption) (by first | omega | (simp; done) | (simp; omega))) | refine below_drewN ?_ _))
      · exact (by repeat (first | exact Below.refl _ _ | assumption | (refine Below.setCell ?_ (by first | omega | (simp; done) | (simp; omega)) _) | (refine Below.alloc ?_ (by first | omega | (simp; done) | (simp; omega)) _) | refine Below.drew ?_ | (refine below_thru ?_ (by assumption) (by first | omega | (simp; done) | (simp; omega))) | refine below_drewN ?_ _))
    ·
      go_simp
      (try dsimp only)
      refine hK.out _ _ (by exact hHeld.alloc _) (fun hHeld => ?_)
      clear hK K
      (try simp only [List.getElem_toArray, List.getElem_cons_zero, List.getElem_cons_succ, Act.put, List.setIfInBounds_toArray, List.set_cons_zero, List.set_cons_succ])
      refine wpAnyH_ready (rs := [2]) (by kernel_rfl) (by simp) ?_
      refine AllReadyH.cons rfl (fun K hK => ?_) AllReadyH.nil
      go_simp
      (try dsimp only)
      refine hK.out _ _ (by exact hHeld.alloc _) (fun hHeld => ?_)
      clear hK K
      (try simp only [List.getElem_toArray, List.getElem_cons_zero, List.getElem_cons_succ, Act.put, List.setIfInBounds_toArray, List.set_cons_zero, List.set_cons_succ])
      refine wpAnyH_take (i := 5) (v := ?_) rfl (by kernel_rfl) (by kernel_rfl) (by kernel_rfl) (fun _ _ _ h => h) (Or.inl ⟨by kernel_rfl, ?_⟩) hHeld ?_
      rotate_left
      · intro w hSw; (try dsimp only at hSw); skip; go_simp; (try with_reducible rfl)
      (try simp only [Act.put, List.setIfInBounds_toArray, List.set_cons_zero, List.set_cons_succ])
      (try simp only [List.getElem_toArray, List.getElem_cons_zero, List.getElem_cons_succ, Act.put, List.setIfInBounds_toArray, List.set_cons_zero, List.set_cons_succ])
      refine wpAnyH_ready (rs := [6]) (by kernel_rfl) (by simp) ?_
      refine AllReadyH.cons rfl (fun K hK => ?_) AllReadyH.nil
      refine wanted_of (by rfl) (wp_store_mid (P := Tryz.prog) 61 _ _ rfl (w.heap.size) 0 #[.slice (some ⟨(w2.heap.size + 1), 0, none⟩) 2 2, .slice (some ⟨w2.heap.size, 0, none⟩) 1 1] rfl rfl (Blk.there ((hP2.alloc _).alloc _) (by show 0 + 2 ≤ 2; omega)) (by kernel_rfl) (by simp [Value.oneCell']) ?_)
      refine hK.out _ _ (by exact hHeld.fars (by omega) _ _) (fun hHeld => ?_)
      clear hK K
      (try simp only [Act.put, List.setIfInBounds_toArray, List.set_cons_zero, List.set_cons_succ])
      refine wpAnyH_done (by kernel_rfl) ?_ _
      (try simp only [List.getElem_toArray, List.getElem_cons_zero, List.getElem_cons_succ, Act.put, List.setIfInBounds_toArray, List.set_cons_zero, List.set_cons_succ])
      go_wp2
      refine bodyPost_ret (results_cell_row rfl _ _ w.heap.size 61 #[.slice (some ⟨(w2.heap.size + 1), 0, none⟩) 2 2, .slice (some ⟨w2.heap.size, 0, none⟩) 1 1] (0, 0) _ rfl (Blk.sets ((hP2.alloc _).alloc _) _ _) uSetS rfl iSetS) rfl (end_ _ a b (w2.heap.size + 1) w2.heap.size ?_ ?_ ?_ (by omega) (by omega) ?_)
      · (repeat (first | assumption | exact Blk.new _ _ _ | (refine Blk.new' _ _ _ ?_; (simp; done)) | refine Blk.drew ?_ | refine Blk.alloc ?_ _ | (refine Blk.fars ?_ ?_ _ _; rotate_left; (dsimp only; omega)) | (refine Blk.far ?_ ?_ _; rotate_left; (first | (dsimp only; omega) | (simp; done) | (simp; omega) | omega))))
      · (repeat (first | assumption | exact Blk.new _ _ _ | (refine Blk.new' _ _ _ ?_; (simp; done)) | refine Blk.drew ?_ | refine Blk.alloc ?_ _ | (refine Blk.fars ?_ ?_ _ _; rotate_left; (dsimp only; omega)) | (refine Blk.far ?_ ?_ _; rotate_left; (first | (dsimp only; omega) | (simp; done) | (simp; omega) | omega))))
      · exact hat2.grow (by repeat (first | exact Below.refl _ _ | assumption | (refine Below.setCell ?_ (by first | omega | (simp; done) | (simp; omega)) _) | (refine Below.alloc ?_ (by first | omega | (simp; done) | (simp; omega)) _) | refine Below.drew ?_ | (refine below_thru ?_ (by assumption) (by first | omega | (simp; done) | (simp; omega))) | refine below_drewN ?_ _))
      · exact (by repeat (first | exact Below.refl _ _ | assumption | (refine Below.setCell ?_ (by first | omega | (simp; done) | (simp; omega)) _) | (refine Below.alloc ?_ (by first | omega | (simp; done) | (simp; omega)) _) | refine Below.drew ?_ | (refine below_thru ?_ (by assumption) (by first | omega | (simp; done) | (simp; omega))) | refine below_drewN ?_ _))
  ·
    go_simp
    (try dsimp only)
    refine hK.out _ _ (by exact hHeld.alloc _) (fun hHeld => ?_)
    clear hK K
    (try simp only [List.getElem_toArray, List.getElem_cons_zero, List.getElem_cons_succ, Act.put, List.setIfInBounds_toArray, List.set_cons_zero, List.set_cons_succ])
    refine wpAnyH_ready (rs := [0]) (by kernel_rfl) (by simp) ?_
    refine AllReadyH.cons rfl (fun K hK => ?_) AllReadyH.nil
    go_simp
    refine (Example_any _).mono ?_
    rintro e w2 ⟨a, b, rfl, hat2, ⟨ha0, hb0⟩, hb2⟩
    (try dsimp only)
    have hz2 := hb2.size
    (try simp at hz2 ha0 hb0)
    refine hK.out _ _ (by exact hHeld.thru hb2 hHeld.lt) (fun hHeld => ?_)
    clear hK K
    (try simp only [List.getElem_toArray, List.getElem_cons_zero, List.getElem_cons_succ, Act.put, List.setIfInBounds_toArray, List.set_cons_zero, List.set_cons_succ])
    have hb3 : Below w1.heap.size WW w2 := (Below.drew ((Below.refl w1.heap.size WW).alloc (by omega) _)).trans (hb2.mono (by simp; omega))
    have hP2 : Blk w2 w.heap.size 61 #[.slice none 0 0, .slice none 0 0] := hPW.thru hb3 (by omega)
    have hR2 : Blk w2 (w1.heap.size + 1) 77 #[.int .i64 1, .int .i64 0, .int .i64 1000, .int .i64 1000] := (Blk.new' WW _ _ hzW).drew.thru hb2 (by simp; omega)
    clear hb2
    refine wpAnyH_ready (rs := [2]) (by kernel_rfl) (by simp) ?_
    refine AllReadyH.cons rfl (fun K hK => ?_) AllReadyH.nil
    go_simp
    (try dsimp only)
    refine hK.out _ _ (by exact hHeld.alloc _) (fun hHeld => ?_)
    clear hK K
    (try simp only [List.getElem_toArray, List.getElem_cons_zero, List.getElem_cons_succ, Act.put, List.setIfInBounds_toArray, List.set_cons_zero, List.set_cons_succ])
    refine wpAnyH_take (i := 5) (v := ?_) rfl (by kernel_rfl) (by kernel_rfl) (by kernel_rfl) (fun _ _ _ h => h) (Or.inl ⟨by kernel_rfl, ?_⟩) hHeld ?_
    rotate_left
    · intro w hSw; (try dsimp only at hSw); skip; go_simp; (try with_reducible rfl)
    (try simp only [Act.put, List.setIfInBounds_toArray, List.set_cons_zero, List.set_cons_succ])
    (try simp only [List.getElem_toArray, List.getElem_cons_zero, List.getElem_cons_succ, Act.put, List.setIfInBounds_toArray, List.set_cons_zero, List.set_cons_succ])
    refine wpAnyH_ready (rs := [6]) (by kernel_rfl) (by simp) ?_
    refine AllReadyH.cons rfl (fun K hK => ?_) AllReadyH.nil
    refine wanted_of (by rfl) (wp_store_mid (P := Tryz.prog) 61 _ _ rfl (w.heap.size) 0 #[.slice (some ⟨w2.heap.size, 0, none⟩) 2 2, .slice (some ⟨(w1.heap.size + 1), 0, none⟩) 1 1] rfl rfl (Blk.there (hP2.alloc _) (by show 0 + 2 ≤ 2; omega)) (by kernel_rfl) (by simp [Value.oneCell']) ?_)
    refine hK.out _ _ (by exact hHeld.fars (by omega) _ _) (fun hHeld => ?_)
    clear hK K
    (try simp only [Act.put, List.setIfInBounds_toArray, List.set_cons_zero, List.set_cons_succ])
    refine wpAnyH_done (by kernel_rfl) ?_ _
    (try simp only [List.getElem_toArray, List.getElem_cons_zero, List.getElem_cons_succ, Act.put, List.setIfInBounds_toArray, List.set_cons_zero, List.set_cons_succ])
    go_wp2
    refine bodyPost_ret (results_cell_row rfl _ _ w.heap.size 61 #[.slice (some ⟨w2.heap.size, 0, none⟩) 2 2, .slice (some ⟨(w1.heap.size + 1), 0, none⟩) 1 1] (0, 0) _ rfl (Blk.sets (hP2.alloc _) _ _) uSetS rfl iSetS) rfl (end_ _ a b w2.heap.size (w1.heap.size + 1) ?_ ?_ ?_ (by omega) (by omega) ?_)
    · (repeat (first | assumption | exact Blk.new _ _ _ | (refine Blk.new' _ _ _ ?_; (simp; done)) | refine Blk.drew ?_ | refine Blk.alloc ?_ _ | (refine Blk.fars ?_ ?_ _ _; rotate_left; (dsimp only; omega)) | (refine Blk.far ?_ ?_ _; rotate_left; (first | (dsimp only; omega) | (simp; done) | (simp; omega) | omega))))
    · (repeat (first | assumption | exact Blk.new _ _ _ | (refine Blk.new' _ _ _ ?_; (simp; done)) | refine Blk.drew ?_ | refine Blk.alloc ?_ _ | (refine Blk.fars ?_ ?_ _ _; rotate_left; (dsimp only; omega)) | (refine Blk.far ?_ ?_ _; rotate_left; (first | (dsimp only; omega) | (simp; done) | (simp; omega) | omega))))
    · exact hat2.grow (by repeat (first | exact Below.refl _ _ | assumption | (refine Below.setCell ?_ (by first | omega | (simp; done) | (simp; omega)) _) | (refine Below.alloc ?_ (by first | omega | (simp; done) | (simp; omega)) _) | refine Below.drew ?_ | (refine below_thru ?_ (by assumption) (by first | omega | (simp; done) | (simp; omega))) | refine below_drewN ?_ _))
    · exact (by repeat (first | exact Below.refl _ _ | assumption | (refine Below.setCell ?_ (by first | omega | (simp; done) | (simp; omega)) _) | (refine Below.alloc ?_ (by first | omega | (simp; done) | (simp; omega)) _) | refine Below.drew ?_ | (refine below_thru ?_ (by assumption) (by first | omega | (simp; done) | (simp; omega))) | refine below_drewN ?_ _))
end Go.Proofs.YtmhfnnpbnocafaaGreat

namespace Go.Proofs.YtmhfnnpbnocafaaGreat
open Go.RowKit
set_option linter.unusedSimpArgs false
set_option linter.unusedVariables false

theorem states2_is : madeCells #[Value.int .i64 0, .int .i64 0, .bool false] 6 = #[.int .i64 0, .int .i64 0, .bool false, .int .i64 0, .int .i64 0, .bool false] := by kernel_rfl
theorem ex_stepT (a b : Nat) : stepV3 (stepU (exG eastName a b) exS exT) (stepD (exG eastName a b) exS exT) (stepFt (exG eastName a b) exS exT).e = .tuple #[.agg #[.int .i64 75, .int .i64 105, .bool false], .agg #[.int .i64 0, .int .i64 (-25), .int .i64 25], .int .i64 0] := by
  rw [ex_stepU, ex_stepD, ex_stepE]; rfl
theorem delay_ex (W : World) (a b c d sb : Nat) (gA rA : Option Addr) (gc rc : Nat) (hat : (exSt a b c d gA rA gc rc).At W W.heap.size) (hs : Blk W sb 27 #[.int .i64 0, .int .i64 0, .bool false, .int .i64 0, .int .i64 0, .bool false]) :
    Calls Tryz.prog 38 #[(exSt a b c d gA rA gc rc).v, .slice (some ⟨sb, 0, none⟩) 2 2, .int .i64 3000, .int .i64 1000, .bool false] W fun e w' => e = .returned (.tuple #[.int .i64 5, .int .i64 0]) ∧ Below W.heap.size W w' := by
  have h := Delay_any (exSt a b c d gA rA gc rc) exSs (some ⟨sb, 0, none⟩) 2 2 3000 1000 false W hat (Tab.of_flat hs hs.lt rfl (by intro r hr; simp [exSs] at hr; subst hr; rfl) rfl) (by unfold maxLen; omega)
  rw [ex_delay] at h
  exact h
set_option maxRecDepth 100000 in
set_option maxHeartbeats 8000000 in
theorem Awake_any (w : World) : Calls Tryz.prog 14 #[] w fun e w' => e = .returned (.bool true) ∧ Below w.heap.size w w' := by
  obtain ⟨i0, hi, hz0, hz1, hz2⟩ := info_parts infoState
  have hmk : ∀ W : World, (Instr.makeSlice 54 (.int .i64 2) (.int .i64 2)).run Tryz.prog W = .ok (.slice (some ⟨W.heap.size, 0, none⟩) 2 2) (W.alloc (.cells #[.int .i64 0, .int .i64 0, .bool false, .int .i64 0, .int .i64 0, .bool false] 27)) := by
    intro W
    have := run_make (P := Tryz.prog) W 54 27 i0 _ undStates hi hz0 .i64 .i64 2 2 (by omega) (by omega) (by rw [hz2]; omega) (by omega)
    rw [hz1, show (Value.agg #[.int .i64 0, .int .i64 0, .bool false]).cells = #[.int .i64 0, .int .i64 0, .bool false] from rfl, show Int.toNat 2 * 3 = 6 from rfl, states2_is] at this
    simpa using this
  clear hi hz0 hz1 hz2
  go_enter Tryz.func14, Tryz.ntmps14
  go_wp2_with fail
  refine (Example_any _).mono ?_
  rintro e w1 ⟨a1, b1, rfl, hat, _, hb1⟩
  have Hat := Lib.hid hat; clear hat
  have hz1 := hb1.size
  go_wp2_with fail
  refine (Falls_any _ 9000 8000 _ Hat.out).mono ?_
  rw [ex_falls, show pairV (891, 0) = .tuple #[.int .i64 891, .int .i64 0] from rfl]
  rintro e w2 ⟨rfl, hb2⟩
  clear Hat
  have hz2 := hb2.size
  have hB2 : Below w.heap.size w w2 := hb1.trans (hb2.mono hz1)
  clear hb1 hb2
  go_wp2_with fail
  refine (Example_any _).mono ?_
  rintro e w3 ⟨a3, b3, rfl, hat, _, hb3⟩
  have Hat := Lib.hid hat; clear hat
  have hz3 := hb3.size
  go_wp2_with fail
  refine (Step_any _ exS exT _ Hat.out).mono ?_
  rw [ex_stepT]
  rintro e w4 ⟨rfl, hb4⟩
  clear Hat
  have hz4 := hb4.size
  have hB4 : Below w.heap.size w w4 := hB2.trans ((hb3.trans (hb4.mono hz3)).mono (by omega))
  clear hb3 hb4 hB2
  have hS4 : Blk ((w4.alloc (.cells #[.int .i64 75, .int .i64 105, .bool false] 27)).alloc (.cells #[.int .i64 0, .int .i64 (-25), .int .i64 25] 47)) w4.heap.size 27 #[.int .i64 75, .int .i64 105, .bool false] := (Blk.new w4 _ _).alloc _
  have hM4 : Blk ((w4.alloc (.cells #[.int .i64 75, .int .i64 105, .bool false] 27)).alloc (.cells #[.int .i64 0, .int .i64 (-25), .int .i64 25] 47)) (w4.heap.size + 1) 47 #[.int .i64 0, .int .i64 (-25), .int .i64 25] := Blk.new' (w4.alloc _) _ _ (by simp)
  have hB5 : Below w.heap.size w ((w4.alloc (.cells #[.int .i64 75, .int .i64 105, .bool false] 27)).alloc (.cells #[.int .i64 0, .int .i64 (-25), .int .i64 25] 47)) := (hB4.alloc (by omega) _).alloc (by simp; omega) _
  have hz5 : ((w4.alloc (.cells #[.int .i64 75, .int .i64 105, .bool false] 27)).alloc (.cells #[.int .i64 0, .int .i64 (-25), .int .i64 25] 47)).heap.size = w4.heap.size + 1 + 1 := by simp
  have end_ : ∀ W5 : World, Below ((w4.alloc (.cells #[.int .i64 75, .int .i64 105, .bool false] 27)).alloc (.cells #[.int .i64 0, .int .i64 (-25), .int .i64 25] 47)).heap.size ((w4.alloc (.cells #[.int .i64 75, .int .i64 105, .bool false] 27)).alloc (.cells #[.int .i64 0, .int .i64 (-25), .int .i64 25] 47)) W5 → True := fun _ _ => trivial
  clear end_
  go_wp2_with fail
  generalize hw5 : (w4.alloc (.cells #[.int .i64 75, .int .i64 105, .bool false] 27)).alloc (.cells #[.int .i64 0, .int .i64 (-25), .int .i64 25] 47) = w5 at *
  clear hw5
  refine wp_region_held (S := fun _ => True) (by kernel_rfl) (by trivial) (fun hHeld => ?_)
  refine wpAnyH_ready (rs := [0, 1]) (by kernel_rfl) (by simp) ?_
  refine AllReadyH.cons rfl (fun K hK => ?_) (AllReadyH.cons rfl (fun K hK => ?_) AllReadyH.nil)
  · go_simp
    refine (Pair_any _).mono ?_
    rintro e w6 ⟨a, b, c, d, gA, rA, gc, rc, rfl, hat, hb6⟩
    (try dsimp only)
    have hz6 := hb6.size
    refine hK.out _ _ (by trivial) (fun hHeld => ?_)
    clear hK K
    (try simp only [List.getElem_toArray, List.getElem_cons_zero, List.getElem_cons_succ, Act.put, List.setIfInBounds_toArray, List.set_cons_zero, List.set_cons_succ])
    refine wpAnyH_ready (rs := [1]) (by kernel_rfl) (by simp) ?_
    refine AllReadyH.cons rfl (fun K hK => ?_) AllReadyH.nil
    go_simp
    (try dsimp only)
    refine hK.out _ _ (by trivial) (fun hHeld => ?_)
    clear hK K
    (try simp only [Act.put, List.setIfInBounds_toArray, List.set_cons_zero, List.set_cons_succ])
    have hcall := delay_ex (w6.alloc (.cells #[.int .i64 0, .int .i64 0, .bool false, .int .i64 0, .int .i64 0, .bool false] 27)) a b c d w6.heap.size gA rA gc rc (hat.grow (by repeat (first | exact Below.refl _ _ | assumption | (refine Below.setCell ?_ (by first | omega | (simp; done) | (simp; omega)) _) | (refine Below.alloc ?_ (by first | omega | (simp; done) | (simp; omega)) _) | refine Below.drew ?_ | (refine below_thru ?_ (by assumption) (by first | omega | (simp; done) | (simp; omega))) | refine below_drewN ?_ _))) (Blk.new w6 _ _)
    (try simp only [List.getElem_toArray, List.getElem_cons_zero, List.getElem_cons_succ, Act.put, List.setIfInBounds_toArray, List.set_cons_zero, List.set_cons_succ])
    refine wpAnyH_ready (rs := [2]) (by kernel_rfl) (by simp) ?_
    refine AllReadyH.cons rfl (fun K hK => ?_) AllReadyH.nil
    go_simp
    refine (hcall).mono ?_
    rintro e w7 ⟨rfl, hb7⟩
    (try dsimp only)
    refine hK.out _ _ (by trivial) (fun hHeld => ?_)
    clear hK K
    (try simp only [Act.put, List.setIfInBounds_toArray, List.set_cons_zero, List.set_cons_succ])
    have hb75 : Below w5.heap.size w5 w7 := ((Below.drew (Below.refl _ _)).trans (hb6.mono (by simp))).trans (((Below.refl w6.heap.size w6).alloc (Nat.le_refl _) _).mono (by simpa using hz6)|>.trans (hb7.mono (by simp; simp at hz6; omega)))
    have hz7 := hb7.size
    (try simp at hz7)
    have hS7 : Blk w7 w4.heap.size 27 #[.int .i64 75, .int .i64 105, .bool false] := hS4.thru hb75 (by omega)
    have hM7 : Blk w7 (w4.heap.size + 1) 47 #[.int .i64 0, .int .i64 (-25), .int .i64 25] := hM4.thru hb75 (by omega)
    have hB7 : Below w.heap.size w w7 := hB5.trans (hb75.mono (by omega))
    have hz75 := hb75.size
    clear hS4 hM4 hB5 hb7 hb75
    refine wpAnyH_take (i := 3) (v := ?_) rfl (by kernel_rfl) (by kernel_rfl) (by kernel_rfl) (fun _ _ _ h => h) (Or.inl ⟨by kernel_rfl, ?_⟩) hHeld ?_
    rotate_left
    · intro w hSw; (try dsimp only at hSw); skip; go_simp; (try with_reducible rfl)
    (try simp only [Act.put, List.setIfInBounds_toArray, List.set_cons_zero, List.set_cons_succ])
    refine wpAnyH_take (i := 4) (v := ?_) rfl (by kernel_rfl) (by kernel_rfl) (by kernel_rfl) (fun _ _ _ h => h) (Or.inl ⟨by kernel_rfl, ?_⟩) hHeld ?_
    rotate_left
    · intro w hSw; (try dsimp only at hSw); skip; go_simp; (try with_reducible rfl)
    (try simp only [Act.put, List.setIfInBounds_toArray, List.set_cons_zero, List.set_cons_succ])
    refine wpAnyH_take (i := 5) (v := ?_) rfl (by kernel_rfl) (by kernel_rfl) (by kernel_rfl) (fun _ _ _ h => h) (Or.inl ⟨by kernel_rfl, ?_⟩) hHeld ?_
    rotate_left
    · intro w hSw; (try dsimp only at hSw); skip; go_simp; (try with_reducible rfl)
    (try simp only [Act.put, List.setIfInBounds_toArray, List.set_cons_zero, List.set_cons_succ])
    refine wpAnyH_take (i := 6) (v := ?_) rfl (by kernel_rfl) (by kernel_rfl) (by kernel_rfl) (fun _ _ _ h => h) (Or.inl ⟨by kernel_rfl, ?_⟩) hHeld ?_
    rotate_left
    · intro w hSw; (try dsimp only at hSw); skip; go_simp; (try with_reducible rfl)
    (try simp only [Act.put, List.setIfInBounds_toArray, List.set_cons_zero, List.set_cons_succ])
    refine wpAnyH_take (i := 7) (v := ?_) rfl (by kernel_rfl) (by kernel_rfl) (by kernel_rfl) (fun _ _ _ h => h) (Or.inl ⟨by kernel_rfl, ?_⟩) hHeld ?_
    rotate_left
    · intro w hSw; (try dsimp only at hSw); skip; go_simp; (try with_reducible rfl)
    (try simp only [Act.put, List.setIfInBounds_toArray, List.set_cons_zero, List.set_cons_succ])
    refine wpAnyH_done (by kernel_rfl) ?_ _
    (try simp only [List.getElem_toArray, List.getElem_cons_zero, List.getElem_cons_succ, Act.put, List.setIfInBounds_toArray, List.set_cons_zero, List.set_cons_succ])
    go_wp2_with fail
    refine (Example_any _).mono ?_
    rintro e w8 ⟨a8, b8, rfl, hat8, _, hb8⟩
    have Hat := Lib.hid hat8; clear hat8
    have hz8 := hb8.size
    go_wp2_with fail
    refine (Where0_any _ _ Hat.out (by simp [exG]) (ex_gate a8 b8)).mono ?_
    rintro e w9 ⟨rfl, hb9⟩
    clear Hat
    have hb79 : Below w7.heap.size w7 w9 := hb8.trans (hb9.mono hz8)
    have hz9 := hb79.size
    have hS9 := hS7.thru hb79 (by omega)
    have hM9 := hM7.thru hb79 (by omega)
    have hB9 : Below w.heap.size w w9 := hB7.trans (hb79.mono (by omega))
    obtain ⟨s0, s1, s2, _⟩ := hS9.three
    obtain ⟨m0, m1, m2, _⟩ := hM9.three
    have hl0 : w4.heap.size < w9.heap.size := by omega
    have hl1 : w4.heap.size + 1 < w9.heap.size := by omega
    clear hb8 hb9 hb79 hS7 hM7 hB7 hS9 hM9
    go_wp2
    go_ret
    exact ⟨rfl, (by repeat (first | exact Below.refl _ _ | assumption | (refine Below.setCell ?_ (by first | omega | (simp; done) | (simp; omega)) _) | (refine Below.alloc ?_ (by first | omega | (simp; done) | (simp; omega)) _) | refine Below.drew ?_ | (refine below_thru ?_ (by assumption) (by first | omega | (simp; done) | (simp; omega))) | refine below_drewN ?_ _))⟩
  · go_simp
    (try dsimp only)
    refine hK.out _ _ (by trivial) (fun hHeld => ?_)
    clear hK K
    (try simp only [List.getElem_toArray, List.getElem_cons_zero, List.getElem_cons_succ, Act.put, List.setIfInBounds_toArray, List.set_cons_zero, List.set_cons_succ])
    refine wpAnyH_ready (rs := [0]) (by kernel_rfl) (by simp) ?_
    refine AllReadyH.cons rfl (fun K hK => ?_) AllReadyH.nil
    go_simp
    refine (Pair_any _).mono ?_
    rintro e w6 ⟨a, b, c, d, gA, rA, gc, rc, rfl, hat, hb6⟩
    (try dsimp only)
    have hz6 := hb6.size
    (try simp at hz6)
    refine hK.out _ _ (by trivial) (fun hHeld => ?_)
    clear hK K
    (try simp only [List.getElem_toArray, List.getElem_cons_zero, List.getElem_cons_succ, Act.put, List.setIfInBounds_toArray, List.set_cons_zero, List.set_cons_succ])
    have hcall := delay_ex w6 a b c d (w4.heap.size + 1 + 1) gA rA gc rc hat ((Blk.new' w5 _ _ hz5).drew.thru hb6 (by simp; omega))
    refine wpAnyH_ready (rs := [2]) (by kernel_rfl) (by simp) ?_
    refine AllReadyH.cons rfl (fun K hK => ?_) AllReadyH.nil
    go_simp
    refine (hcall).mono ?_
    rintro e w7 ⟨rfl, hb7⟩
    (try dsimp only)
    refine hK.out _ _ (by trivial) (fun hHeld => ?_)
    clear hK K
    (try simp only [Act.put, List.setIfInBounds_toArray, List.set_cons_zero, List.set_cons_succ])
    have hb75 : Below w5.heap.size w5 w7 := (Below.drew ((Below.refl w5.heap.size w5).alloc (Nat.le_refl _) _)).trans ((hb6.mono (by simp)).trans (hb7.mono (by omega)))
    have hz7 := hb7.size
    (try simp at hz7)
    have hS7 : Blk w7 w4.heap.size 27 #[.int .i64 75, .int .i64 105, .bool false] := hS4.thru hb75 (by omega)
    have hM7 : Blk w7 (w4.heap.size + 1) 47 #[.int .i64 0, .int .i64 (-25), .int .i64 25] := hM4.thru hb75 (by omega)
    have hB7 : Below w.heap.size w w7 := hB5.trans (hb75.mono (by omega))
    have hz75 := hb75.size
    clear hS4 hM4 hB5 hb7 hb75
    refine wpAnyH_take (i := 3) (v := ?_) rfl (by kernel_rfl) (by kernel_rfl) (by kernel_rfl) (fun _ _ _ h => h) (Or.inl ⟨by kernel_rfl, ?_⟩) hHeld ?_
    rotate_left
    · intro w hSw; (try dsimp only at hSw); skip; go_simp; (try with_reducible rfl)
    (try simp only [Act.put, List.setIfInBounds_toArray, List.set_cons_zero, List.set_cons_succ])
    refine wpAnyH_take (i := 4) (v := ?_) rfl (by kernel_rfl) (by kernel_rfl) (by kernel_rfl) (fun _ _ _ h => h) (Or.inl ⟨by kernel_rfl, ?_⟩) hHeld ?_
    rotate_left
    · intro w hSw; (try dsimp only at hSw); skip; go_simp; (try with_reducible rfl)
    (try simp only [Act.put, List.setIfInBounds_toArray, List.set_cons_zero, List.set_cons_succ])
    refine wpAnyH_take (i := 5) (v := ?_) rfl (by kernel_rfl) (by kernel_rfl) (by kernel_rfl) (fun _ _ _ h => h) (Or.inl ⟨by kernel_rfl, ?_⟩) hHeld ?_
    rotate_left
    · intro w hSw; (try dsimp only at hSw); skip; go_simp; (try with_reducible rfl)
    (try simp only [Act.put, List.setIfInBounds_toArray, List.set_cons_zero, List.set_cons_succ])
    refine wpAnyH_take (i := 6) (v := ?_) rfl (by kernel_rfl) (by kernel_rfl) (by kernel_rfl) (fun _ _ _ h => h) (Or.inl ⟨by kernel_rfl, ?_⟩) hHeld ?_
    rotate_left
    · intro w hSw; (try dsimp only at hSw); skip; go_simp; (try with_reducible rfl)
    (try simp only [Act.put, List.setIfInBounds_toArray, List.set_cons_zero, List.set_cons_succ])
    refine wpAnyH_take (i := 7) (v := ?_) rfl (by kernel_rfl) (by kernel_rfl) (by kernel_rfl) (fun _ _ _ h => h) (Or.inl ⟨by kernel_rfl, ?_⟩) hHeld ?_
    rotate_left
    · intro w hSw; (try dsimp only at hSw); skip; go_simp; (try with_reducible rfl)
    (try simp only [Act.put, List.setIfInBounds_toArray, List.set_cons_zero, List.set_cons_succ])
    refine wpAnyH_done (by kernel_rfl) ?_ _
    (try simp only [List.getElem_toArray, List.getElem_cons_zero, List.getElem_cons_succ, Act.put, List.setIfInBounds_toArray, List.set_cons_zero, List.set_cons_succ])
    go_wp2_with fail
    refine (Example_any _).mono ?_
    rintro e w8 ⟨a8, b8, rfl, hat8, _, hb8⟩
    have Hat := Lib.hid hat8; clear hat8
    have hz8 := hb8.size
    go_wp2_with fail
    refine (Where0_any _ _ Hat.out (by simp [exG]) (ex_gate a8 b8)).mono ?_
    rintro e w9 ⟨rfl, hb9⟩
    clear Hat
    have hb79 : Below w7.heap.size w7 w9 := hb8.trans (hb9.mono hz8)
    have hz9 := hb79.size
    have hS9 := hS7.thru hb79 (by omega)
    have hM9 := hM7.thru hb79 (by omega)
    have hB9 : Below w.heap.size w w9 := hB7.trans (hb79.mono (by omega))
    obtain ⟨s0, s1, s2, _⟩ := hS9.three
    obtain ⟨m0, m1, m2, _⟩ := hM9.three
    have hl0 : w4.heap.size < w9.heap.size := by omega
    have hl1 : w4.heap.size + 1 < w9.heap.size := by omega
    clear hb8 hb9 hb79 hS7 hM7 hB7 hS9 hM9
    go_wp2
    go_ret
    exact ⟨rfl, (by repeat (first | exact Below.refl _ _ | assumption | (refine Below.setCell ?_ (by first | omega | (simp; done) | (simp; omega)) _) | (refine Below.alloc ?_ (by first | omega | (simp; done) | (simp; omega)) _) | refine Below.drew ?_ | (refine below_thru ?_ (by assumption) (by first | omega | (simp; done) | (simp; omega))) | refine below_drewN ?_ _))⟩
end Go.Proofs.YtmhfnnpbnocafaaGreat
