/- GateBolts: the law. -/
import Derived.Test.YtmhfnnpbnocafaaGreatGtWhereLaw
import Derived.Test.YtmhfnnpbnocafaaGreatGtWhereT
import Derived.Test.YtmhfnnpbnocafaaGreatGtRun
import Derived.Test.YtmhfnnpbnocafaaGreatGtRefG
namespace Go.Proofs.YtmhfnnpbnocafaaGreat
open Go.RowKit
set_option linter.unusedSimpArgs false
set_option linter.unusedVariables false

theorem lone_bolted {g : Ga} {s : Gs} (t : Gt) (h : s.bolted = true) : (lone g s t).pos = s.pos ∧ (lone g s t).bolted = true := by
  have hd : doneF g s t (lockF s t) = (0, 0) := by rw [done_alone, if_pos h]
  unfold lone afterF
  rw [hd]
  exact ⟨by simp, h⟩
theorem end_bolted {g : Ga} : ∀ (ts : List Gt) (s : Gs), s.bolted = true → (endF g s ts).pos = s.pos ∧ (endF g s ts).bolted = true
  | [], s, h => ⟨rfl, h⟩
  | t :: ts, s, h => by
    obtain ⟨h1, h2⟩ := lone_bolted (g := g) t h
    obtain ⟨h3, h4⟩ := end_bolted ts (lone g s t) h2
    exact ⟨h3.trans h1, h4⟩
/-- What a bolt that is set says: the gate is in order, the state too, and its sensors show an end. -/
theorem bolt_says {g : Ga} {s : Gs} {rs : List Int} {rn : Nat} (h : (boltF g s true rs rn).2 = 0) :
    (gateF g).e = 0 ∧ stateR g s = 0 ∧ s.bolted = false ∧ boltF g s true rs rn = (⟨s.pos, s.charge, true⟩, 0) ∧ (whF g rs rn).e = 0 ∧ endR g (whF g rs rn).lo (whF g rs rn).hi ≠ 0 := by
  unfold boltF at h ⊢
  by_cases h0 : (boltFt g s true).e = 0
  · rw [if_pos h0, if_pos rfl] at h ⊢
    by_cases h1 : (sureF g rs rn).2 = 0
    · rw [if_pos h1] at h ⊢
      by_cases h2 : (sureF g rs rn).1 = 0
      · rw [if_pos h2] at h
        exact absurd h (by decide)
      · rw [if_neg h2]
        have hw : (whF g rs rn).e = 0 := by
          unfold sureF at h1
          split at h1
          · assumption
          · exact h1
        have hs : sureF g rs rn = (endR g (whF g rs rn).lo (whF g rs rn).hi, 0) := if_pos hw
        rw [hs] at h2
        have hg : (gateF g).e = 0 := wh_ok hw
        rcases stateR_ways g s with h7 | h7
        · have hr := bolt_rest (on := true) hg h7
          rw [h0] at hr
          have hb : s.bolted = false := by
            cases hc : s.bolted
            · rfl
            · rw [hc] at hr; exact absurd hr (by decide)
          exact ⟨hg, h7, hb, rfl, hw, h2⟩
        · have := bolt_state (on := true) hg h7
          omega
    · rw [if_neg h1] at h
      exact absurd h h1
  · rw [if_neg h0] at h
    exact absurd h h0
/-- A gate that enough sensors agree with, and that is surely at an end, is near it. -/
theorem bolt_end {g : Ga} {rs : List Int} {rn : Nat} {p : Int} (p0 : 0 ≤ p) (p1 : p ≤ g.travel) (hw : (whF g rs rn).e = 0) (he : endR g (whF g rs rn).lo (whF g rs rn).hi ≠ 0) (hk : okP g.ss rs g.sn g.wrong p = true) :
    rn = g.sn ∧ (p ≤ g.slack ∨ g.travel - g.slack ≤ p) := by
  have hg := wh_ok hw
  have hn : rn = g.sn := by
    apply Classical.byContradiction
    intro hc
    have : whF g rs rn = ⟨0, 0, 2⟩ := (if_pos hg).trans (if_neg hc)
    rw [this] at hw
    exact absurd hw (by decide)
  have hv : whF g rs rn = spanF (posL g rs) := (if_pos hg).trans (if_pos hn)
  have hl : ¬ loW (posL g rs) < 0 := fun hc => by
    have : whF g rs rn = ⟨0, 0, 9⟩ := hv.trans (if_pos hc)
    rw [this] at hw
    exact absurd hw (by decide)
  have hv2 : whF g rs rn = ⟨loW (posL g rs), hiW (posL g rs), 0⟩ := hv.trans (if_neg hl)
  have hm := (span_facts g.ss rs g.sn g.wrong (g.travel.toNat + 1)).1 p.toNat (mem_okL.2 ⟨by omega, by rw [show ((p.toNat : Nat) : Int) = p by omega]; exact hk⟩)
  rw [show ((p.toNat : Nat) : Int) = p by omega] at hm
  have hm : loW (posL g rs) ≤ p ∧ p ≤ hiW (posL g rs) := hm
  rw [hv2] at he
  unfold endR at he
  refine ⟨hn, ?_⟩
  simp only at he
  split at he
  · left; omega
  · split at he
    · right; omega
    · exact absurd rfl he
/-- The bolts of a gate in order may be taken away. -/
theorem bolt_off {g : Ga} {s : Gs} {rs : List Int} {rn : Nat} (hg : (gateF g).e = 0) (hs : stateR g s = 0) : boltF g ⟨s.pos, s.charge, true⟩ false rs rn = (⟨s.pos, s.charge, false⟩, 0) := by
  unfold boltF
  rw [bolt_rest (on := false) hg (show stateR g ⟨s.pos, s.charge, true⟩ = 0 from hs)]
  rfl

set_option maxRecDepth 100000 in
set_option maxHeartbeats 8000000 in
theorem gbolts_err (g : Ga) (sp sc : Int) (sb : Bool) (A TA : Option Addr) (rn rc tn tc : Nat) (w : World) (bp bc be : Int) (bb : Bool)
    (HB : Hid (∀ W, Below w.heap.size w W → Calls Tryz.prog 12 #[g.v, .agg #[.int .i64 sp, .int .i64 sc, .bool sb], .bool true, .slice A rn rc] W fun e w' => e = .returned (.tuple #[.agg #[.int .i64 bp, .int .i64 bc, .bool bb], .int .i64 be]) ∧ Below W.heap.size W w'))
    (q : (be != 0) = true) :
    Calls Tryz.prog 6 #[g.v, .agg #[.int .i64 sp, .int .i64 sc, .bool sb, .slice A rn rc], .slice TA tn tc] w fun e w' => e = .returned (.bool true) ∧ Below w.heap.size w w' := by
  go_enter Tryz.func6, Tryz.ntmps6
  go_wp2_with (with_reducible refine wpl_g (g := g) ((Blk.new w _ _).alloc _) rfl rfl rfl ?_)
  refine (HB.out _ (by repeat (first | exact Below.refl _ _ | assumption | (refine Below.setCell ?_ (by first | omega | (simp; done) | (simp; omega)) _) | (refine Below.alloc ?_ (by first | omega | (simp; done) | (simp; omega)) _) | refine Below.drew ?_ | (refine below_thru ?_ (by assumption) (by first | omega | (simp; done) | (simp; omega))) | refine below_drewN ?_ _))).mono ?_
  rintro e w1 ⟨rfl, hb1⟩
  have hG1 : Blk w1 w.heap.size 25 (grow g) := Blk.thru (by (repeat (first | assumption | exact Blk.new _ _ _ | (refine Blk.new' _ _ _ ?_; (simp; done)) | refine Blk.drew ?_ | refine Blk.alloc ?_ _ | (refine Blk.fars ?_ ?_ _ _; rotate_left; (dsimp only; omega)) | (refine Blk.far ?_ ?_ _; rotate_left; (first | (dsimp only; omega) | (simp; done) | (simp; omega) | omega))))) hb1 (by simp <;> omega)
  have hX1 : Blk w1 (w.heap.size + 1) 70 #[.int .i64 sp, .int .i64 sc, .bool sb, .slice A rn rc] := Blk.thru (by (repeat (first | assumption | exact Blk.new _ _ _ | (refine Blk.new' _ _ _ ?_; (simp; done)) | refine Blk.drew ?_ | refine Blk.alloc ?_ _ | (refine Blk.fars ?_ ?_ _ _; rotate_left; (dsimp only; omega)) | (refine Blk.far ?_ ?_ _; rotate_left; (first | (dsimp only; omega) | (simp; done) | (simp; omega) | omega))))) hb1 (by simp <;> omega)
  have hz1 := hb1.size
  (try simp at hz1)
  have hw1 : Below w.heap.size w w1 := (by repeat (first | exact Below.refl _ _ | assumption | (refine Below.setCell ?_ (by first | omega | (simp; done) | (simp; omega)) _) | (refine Below.alloc ?_ (by first | omega | (simp; done) | (simp; omega)) _) | refine Below.drew ?_ | (refine below_thru ?_ (by assumption) (by first | omega | (simp; done) | (simp; omega))) | refine below_drewN ?_ _))
  have hl10 : w.heap.size < w1.heap.size := hG1.lt
  have hl11 : w.heap.size + 1 < w1.heap.size := hX1.lt
  have x10 := hX1.cell 0
  have x11 := hX1.cell 1
  have x12 := hX1.cell 2
  have x13 := hX1.cell 3
  simp only [List.getElem?_toArray, List.getElem?_cons_zero, List.getElem?_cons_succ] at x10 x11 x12 x13
  clear hb1
  go_wp2_with fail
  refine (Awake_any _).mono ?_
  rintro e w9 ⟨rfl, hb9⟩
  have hw9 : Below w.heap.size w w9 := (by repeat (first | exact Below.refl _ _ | assumption | (refine Below.setCell ?_ (by first | omega | (simp; done) | (simp; omega)) _) | (refine Below.alloc ?_ (by first | omega | (simp; done) | (simp; omega)) _) | refine Below.drew ?_ | (refine below_thru ?_ (by assumption) (by first | omega | (simp; done) | (simp; omega))) | refine below_drewN ?_ _))
  go_wp2
  go_ret
  exact ⟨rfl, hw9⟩
set_option maxRecDepth 100000 in
set_option maxHeartbeats 8000000 in
theorem gbolts_no (g : Ga) (sp sc : Int) (A TA : Option Addr) (rn rc tn tc : Nat) (w : World)
    (HB : Hid (∀ W, Below w.heap.size w W → Calls Tryz.prog 12 #[g.v, .agg #[.int .i64 sp, .int .i64 sc, .bool false], .bool true, .slice A rn rc] W fun e w' => e = .returned (.tuple #[.agg #[.int .i64 sp, .int .i64 sc, .bool true], .int .i64 0]) ∧ Below W.heap.size W w'))
    (HE : Hid (∀ W, Below w.heap.size w W → Calls Tryz.prog 24 #[g.v, .slice A rn rc, .int .i64 sp] W fun e w' => e = .returned (.bool false) ∧ Below W.heap.size W w')) :
    Calls Tryz.prog 6 #[g.v, .agg #[.int .i64 sp, .int .i64 sc, .bool false, .slice A rn rc], .slice TA tn tc] w fun e w' => e = .returned (.bool true) ∧ Below w.heap.size w w' := by
  go_enter Tryz.func6, Tryz.ntmps6
  go_wp2_with (with_reducible refine wpl_g (g := g) ((Blk.new w _ _).alloc _) rfl rfl rfl ?_)
  refine (HB.out _ (by repeat (first | exact Below.refl _ _ | assumption | (refine Below.setCell ?_ (by first | omega | (simp; done) | (simp; omega)) _) | (refine Below.alloc ?_ (by first | omega | (simp; done) | (simp; omega)) _) | refine Below.drew ?_ | (refine below_thru ?_ (by assumption) (by first | omega | (simp; done) | (simp; omega))) | refine below_drewN ?_ _))).mono ?_
  rintro e w1 ⟨rfl, hb1⟩
  have hG1 : Blk w1 w.heap.size 25 (grow g) := Blk.thru (by (repeat (first | assumption | exact Blk.new _ _ _ | (refine Blk.new' _ _ _ ?_; (simp; done)) | refine Blk.drew ?_ | refine Blk.alloc ?_ _ | (refine Blk.fars ?_ ?_ _ _; rotate_left; (dsimp only; omega)) | (refine Blk.far ?_ ?_ _; rotate_left; (first | (dsimp only; omega) | (simp; done) | (simp; omega) | omega))))) hb1 (by simp <;> omega)
  have hX1 : Blk w1 (w.heap.size + 1) 70 #[.int .i64 sp, .int .i64 sc, .bool false, .slice A rn rc] := Blk.thru (by (repeat (first | assumption | exact Blk.new _ _ _ | (refine Blk.new' _ _ _ ?_; (simp; done)) | refine Blk.drew ?_ | refine Blk.alloc ?_ _ | (refine Blk.fars ?_ ?_ _ _; rotate_left; (dsimp only; omega)) | (refine Blk.far ?_ ?_ _; rotate_left; (first | (dsimp only; omega) | (simp; done) | (simp; omega) | omega))))) hb1 (by simp <;> omega)
  have hz1 := hb1.size
  (try simp at hz1)
  have hw1 : Below w.heap.size w w1 := (by repeat (first | exact Below.refl _ _ | assumption | (refine Below.setCell ?_ (by first | omega | (simp; done) | (simp; omega)) _) | (refine Below.alloc ?_ (by first | omega | (simp; done) | (simp; omega)) _) | refine Below.drew ?_ | (refine below_thru ?_ (by assumption) (by first | omega | (simp; done) | (simp; omega))) | refine below_drewN ?_ _))
  have hl10 : w.heap.size < w1.heap.size := hG1.lt
  have hl11 : w.heap.size + 1 < w1.heap.size := hX1.lt
  have x10 := hX1.cell 0
  have x11 := hX1.cell 1
  have x12 := hX1.cell 2
  have x13 := hX1.cell 3
  simp only [List.getElem?_toArray, List.getElem?_cons_zero, List.getElem?_cons_succ] at x10 x11 x12 x13
  clear hb1
  go_wp2_with (with_reducible refine wpl_gg (g := g) (b := w.heap.size) (t := 25) (by (repeat (first | assumption | exact Blk.new _ _ _ | (refine Blk.new' _ _ _ ?_; (simp; done)) | refine Blk.drew ?_ | refine Blk.alloc ?_ _ | (refine Blk.fars ?_ ?_ _ _; rotate_left; (dsimp only; omega)) | (refine Blk.far ?_ ?_ _; rotate_left; (first | (dsimp only; omega) | (simp; done) | (simp; omega) | omega))))) rfl rfl ?hw ?_; case hw => (go_simp; done))
  refine (HE.out _ (by repeat (first | exact Below.refl _ _ | assumption | (refine Below.setCell ?_ (by first | omega | (simp; done) | (simp; omega)) _) | (refine Below.alloc ?_ (by first | omega | (simp; done) | (simp; omega)) _) | refine Below.drew ?_ | (refine below_thru ?_ (by assumption) (by first | omega | (simp; done) | (simp; omega))) | refine below_drewN ?_ _))).mono ?_
  rintro e w2 ⟨rfl, hb2⟩
  have hG2 : Blk w2 w.heap.size 25 (grow g) := Blk.thru (by (repeat (first | assumption | exact Blk.new _ _ _ | (refine Blk.new' _ _ _ ?_; (simp; done)) | refine Blk.drew ?_ | refine Blk.alloc ?_ _ | (refine Blk.fars ?_ ?_ _ _; rotate_left; (dsimp only; omega)) | (refine Blk.far ?_ ?_ _; rotate_left; (first | (dsimp only; omega) | (simp; done) | (simp; omega) | omega))))) hb2 (by first | omega | (simp; done) | (simp; omega))
  have hX2 : Blk w2 (w.heap.size + 1) 70 #[.int .i64 sp, .int .i64 sc, .bool false, .slice A rn rc] := Blk.thru (by (repeat (first | assumption | exact Blk.new _ _ _ | (refine Blk.new' _ _ _ ?_; (simp; done)) | refine Blk.drew ?_ | refine Blk.alloc ?_ _ | (refine Blk.fars ?_ ?_ _ _; rotate_left; (dsimp only; omega)) | (refine Blk.far ?_ ?_ _; rotate_left; (first | (dsimp only; omega) | (simp; done) | (simp; omega) | omega))))) hb2 (by first | omega | (simp; done) | (simp; omega))
  have hS2 : Blk w2 w1.heap.size 27 #[.int .i64 sp, .int .i64 sc, .bool true] := Blk.thru (by (repeat (first | assumption | exact Blk.new _ _ _ | (refine Blk.new' _ _ _ ?_; (simp; done)) | refine Blk.drew ?_ | refine Blk.alloc ?_ _ | (refine Blk.fars ?_ ?_ _ _; rotate_left; (dsimp only; omega)) | (refine Blk.far ?_ ?_ _; rotate_left; (first | (dsimp only; omega) | (simp; done) | (simp; omega) | omega))))) hb2 (by first | omega | (simp; done) | (simp; omega))
  have hz2 := hb2.size
  (try simp at hz2)
  have hw2 : Below w.heap.size w w2 := (by repeat (first | exact Below.refl _ _ | assumption | (refine Below.setCell ?_ (by first | omega | (simp; done) | (simp; omega)) _) | (refine Below.alloc ?_ (by first | omega | (simp; done) | (simp; omega)) _) | refine Below.drew ?_ | (refine below_thru ?_ (by assumption) (by first | omega | (simp; done) | (simp; omega))) | refine below_drewN ?_ _))
  clear hb2 hG1 hX1 x10 x11 x12 x13
  have hl20 : w.heap.size < w2.heap.size := hG2.lt
  have hl21 : w.heap.size + 1 < w2.heap.size := hX2.lt
  have hl22 : w1.heap.size < w2.heap.size := hS2.lt
  have x20 := hX2.cell 0
  have x21 := hX2.cell 1
  have x22 := hX2.cell 2
  have x23 := hX2.cell 3
  have s20 := hS2.cell 0
  have s21 := hS2.cell 1
  have s22 := hS2.cell 2
  have g22 := hG2.cell 2
  have g218 := hG2.cell 18
  simp only [grow, List.getElem?_toArray, List.getElem?_cons_zero, List.getElem?_cons_succ] at x20 x21 x22 x23 s20 s21 s22 g22 g218
  go_wp2_with fail
  refine (Awake_any _).mono ?_
  rintro e w9 ⟨rfl, hb9⟩
  have hw9 : Below w.heap.size w w9 := (by repeat (first | exact Below.refl _ _ | assumption | (refine Below.setCell ?_ (by first | omega | (simp; done) | (simp; omega)) _) | (refine Below.alloc ?_ (by first | omega | (simp; done) | (simp; omega)) _) | refine Below.drew ?_ | (refine below_thru ?_ (by assumption) (by first | omega | (simp; done) | (simp; omega))) | refine below_drewN ?_ _))
  go_wp2
  go_ret
  exact ⟨rfl, hw9⟩
set_option maxRecDepth 100000 in
set_option maxHeartbeats 8000000 in
theorem gbolts_bad_a (g : Ga) (sp sc : Int) (A TA : Option Addr) (rn rc tn tc : Nat) (w : World) (re : Int)
    (HB : Hid (∀ W, Below w.heap.size w W → Calls Tryz.prog 12 #[g.v, .agg #[.int .i64 sp, .int .i64 sc, .bool false], .bool true, .slice A rn rc] W fun e w' => e = .returned (.tuple #[.agg #[.int .i64 sp, .int .i64 sc, .bool true], .int .i64 0]) ∧ Below W.heap.size W w'))
    (HE : Hid (∀ W, Below w.heap.size w W → Calls Tryz.prog 24 #[g.v, .slice A rn rc, .int .i64 sp] W fun e w' => e = .returned (.bool true) ∧ Below W.heap.size W w'))
    (HR : Hid (∀ W, Below w.heap.size w W → Calls Tryz.prog 25 #[g.v, .agg #[.int .i64 sp, .int .i64 sc, .bool true], .slice TA tn tc] W fun e w' => e = .returned (.tuple #[.slice none 0 0, .int .i64 re]) ∧ Below W.heap.size W w'))
    (q : (re != 0) = true)
    (t0 : 1 ≤ g.travel) (t1 : g.travel ≤ 5000) (k0 : 0 ≤ g.slack) (k1 : g.slack ≤ 5000)
    (he : sp ≤ g.slack) :
    Calls Tryz.prog 6 #[g.v, .agg #[.int .i64 sp, .int .i64 sc, .bool false, .slice A rn rc], .slice TA tn tc] w fun e w' => e = .returned (.bool true) ∧ Below w.heap.size w w' := by
  go_enter Tryz.func6, Tryz.ntmps6
  go_wp2_with (with_reducible refine wpl_g (g := g) ((Blk.new w _ _).alloc _) rfl rfl rfl ?_)
  refine (HB.out _ (by repeat (first | exact Below.refl _ _ | assumption | (refine Below.setCell ?_ (by first | omega | (simp; done) | (simp; omega)) _) | (refine Below.alloc ?_ (by first | omega | (simp; done) | (simp; omega)) _) | refine Below.drew ?_ | (refine below_thru ?_ (by assumption) (by first | omega | (simp; done) | (simp; omega))) | refine below_drewN ?_ _))).mono ?_
  rintro e w1 ⟨rfl, hb1⟩
  have hG1 : Blk w1 w.heap.size 25 (grow g) := Blk.thru (by (repeat (first | assumption | exact Blk.new _ _ _ | (refine Blk.new' _ _ _ ?_; (simp; done)) | refine Blk.drew ?_ | refine Blk.alloc ?_ _ | (refine Blk.fars ?_ ?_ _ _; rotate_left; (dsimp only; omega)) | (refine Blk.far ?_ ?_ _; rotate_left; (first | (dsimp only; omega) | (simp; done) | (simp; omega) | omega))))) hb1 (by simp <;> omega)
  have hX1 : Blk w1 (w.heap.size + 1) 70 #[.int .i64 sp, .int .i64 sc, .bool false, .slice A rn rc] := Blk.thru (by (repeat (first | assumption | exact Blk.new _ _ _ | (refine Blk.new' _ _ _ ?_; (simp; done)) | refine Blk.drew ?_ | refine Blk.alloc ?_ _ | (refine Blk.fars ?_ ?_ _ _; rotate_left; (dsimp only; omega)) | (refine Blk.far ?_ ?_ _; rotate_left; (first | (dsimp only; omega) | (simp; done) | (simp; omega) | omega))))) hb1 (by simp <;> omega)
  have hz1 := hb1.size
  (try simp at hz1)
  have hw1 : Below w.heap.size w w1 := (by repeat (first | exact Below.refl _ _ | assumption | (refine Below.setCell ?_ (by first | omega | (simp; done) | (simp; omega)) _) | (refine Below.alloc ?_ (by first | omega | (simp; done) | (simp; omega)) _) | refine Below.drew ?_ | (refine below_thru ?_ (by assumption) (by first | omega | (simp; done) | (simp; omega))) | refine below_drewN ?_ _))
  have hl10 : w.heap.size < w1.heap.size := hG1.lt
  have hl11 : w.heap.size + 1 < w1.heap.size := hX1.lt
  have x10 := hX1.cell 0
  have x11 := hX1.cell 1
  have x12 := hX1.cell 2
  have x13 := hX1.cell 3
  simp only [List.getElem?_toArray, List.getElem?_cons_zero, List.getElem?_cons_succ] at x10 x11 x12 x13
  clear hb1
  go_wp2_with (with_reducible refine wpl_gg (g := g) (b := w.heap.size) (t := 25) (by (repeat (first | assumption | exact Blk.new _ _ _ | (refine Blk.new' _ _ _ ?_; (simp; done)) | refine Blk.drew ?_ | refine Blk.alloc ?_ _ | (refine Blk.fars ?_ ?_ _ _; rotate_left; (dsimp only; omega)) | (refine Blk.far ?_ ?_ _; rotate_left; (first | (dsimp only; omega) | (simp; done) | (simp; omega) | omega))))) rfl rfl ?hw ?_; case hw => (go_simp; done))
  refine (HE.out _ (by repeat (first | exact Below.refl _ _ | assumption | (refine Below.setCell ?_ (by first | omega | (simp; done) | (simp; omega)) _) | (refine Below.alloc ?_ (by first | omega | (simp; done) | (simp; omega)) _) | refine Below.drew ?_ | (refine below_thru ?_ (by assumption) (by first | omega | (simp; done) | (simp; omega))) | refine below_drewN ?_ _))).mono ?_
  rintro e w2 ⟨rfl, hb2⟩
  have hG2 : Blk w2 w.heap.size 25 (grow g) := Blk.thru (by (repeat (first | assumption | exact Blk.new _ _ _ | (refine Blk.new' _ _ _ ?_; (simp; done)) | refine Blk.drew ?_ | refine Blk.alloc ?_ _ | (refine Blk.fars ?_ ?_ _ _; rotate_left; (dsimp only; omega)) | (refine Blk.far ?_ ?_ _; rotate_left; (first | (dsimp only; omega) | (simp; done) | (simp; omega) | omega))))) hb2 (by first | omega | (simp; done) | (simp; omega))
  have hX2 : Blk w2 (w.heap.size + 1) 70 #[.int .i64 sp, .int .i64 sc, .bool false, .slice A rn rc] := Blk.thru (by (repeat (first | assumption | exact Blk.new _ _ _ | (refine Blk.new' _ _ _ ?_; (simp; done)) | refine Blk.drew ?_ | refine Blk.alloc ?_ _ | (refine Blk.fars ?_ ?_ _ _; rotate_left; (dsimp only; omega)) | (refine Blk.far ?_ ?_ _; rotate_left; (first | (dsimp only; omega) | (simp; done) | (simp; omega) | omega))))) hb2 (by first | omega | (simp; done) | (simp; omega))
  have hS2 : Blk w2 w1.heap.size 27 #[.int .i64 sp, .int .i64 sc, .bool true] := Blk.thru (by (repeat (first | assumption | exact Blk.new _ _ _ | (refine Blk.new' _ _ _ ?_; (simp; done)) | refine Blk.drew ?_ | refine Blk.alloc ?_ _ | (refine Blk.fars ?_ ?_ _ _; rotate_left; (dsimp only; omega)) | (refine Blk.far ?_ ?_ _; rotate_left; (first | (dsimp only; omega) | (simp; done) | (simp; omega) | omega))))) hb2 (by first | omega | (simp; done) | (simp; omega))
  have hz2 := hb2.size
  (try simp at hz2)
  have hw2 : Below w.heap.size w w2 := (by repeat (first | exact Below.refl _ _ | assumption | (refine Below.setCell ?_ (by first | omega | (simp; done) | (simp; omega)) _) | (refine Below.alloc ?_ (by first | omega | (simp; done) | (simp; omega)) _) | refine Below.drew ?_ | (refine below_thru ?_ (by assumption) (by first | omega | (simp; done) | (simp; omega))) | refine below_drewN ?_ _))
  clear hb2 hG1 hX1 x10 x11 x12 x13
  have hl20 : w.heap.size < w2.heap.size := hG2.lt
  have hl21 : w.heap.size + 1 < w2.heap.size := hX2.lt
  have hl22 : w1.heap.size < w2.heap.size := hS2.lt
  have x20 := hX2.cell 0
  have x21 := hX2.cell 1
  have x22 := hX2.cell 2
  have x23 := hX2.cell 3
  have s20 := hS2.cell 0
  have s21 := hS2.cell 1
  have s22 := hS2.cell 2
  have g22 := hG2.cell 2
  have g218 := hG2.cell 18
  simp only [grow, List.getElem?_toArray, List.getElem?_cons_zero, List.getElem?_cons_succ] at x20 x21 x22 x23 s20 s21 s22 g22 g218
  go_wp2_with (with_reducible refine wpl_g (g := g) (b := w.heap.size) (t := 25) (by (repeat (first | assumption | exact Blk.new _ _ _ | (refine Blk.new' _ _ _ ?_; (simp; done)) | refine Blk.drew ?_ | refine Blk.alloc ?_ _ | (refine Blk.fars ?_ ?_ _ _; rotate_left; (dsimp only; omega)) | (refine Blk.far ?_ ?_ _; rotate_left; (first | (dsimp only; omega) | (simp; done) | (simp; omega) | omega))))) rfl rfl rfl ?_)
  refine (HR.out _ (by repeat (first | exact Below.refl _ _ | assumption | (refine Below.setCell ?_ (by first | omega | (simp; done) | (simp; omega)) _) | (refine Below.alloc ?_ (by first | omega | (simp; done) | (simp; omega)) _) | refine Below.drew ?_ | (refine below_thru ?_ (by assumption) (by first | omega | (simp; done) | (simp; omega))) | refine below_drewN ?_ _))).mono ?_
  rintro e w3 ⟨rfl, hb3⟩
  have hG3 : Blk w3 w.heap.size 25 (grow g) := Blk.thru (by (repeat (first | assumption | exact Blk.new _ _ _ | (refine Blk.new' _ _ _ ?_; (simp; done)) | refine Blk.drew ?_ | refine Blk.alloc ?_ _ | (refine Blk.fars ?_ ?_ _ _; rotate_left; (dsimp only; omega)) | (refine Blk.far ?_ ?_ _; rotate_left; (first | (dsimp only; omega) | (simp; done) | (simp; omega) | omega))))) hb3 (by first | omega | (simp; done) | (simp; omega))
  have hX3 : Blk w3 (w.heap.size + 1) 70 #[.int .i64 sp, .int .i64 sc, .bool false, .slice A rn rc] := Blk.thru (by (repeat (first | assumption | exact Blk.new _ _ _ | (refine Blk.new' _ _ _ ?_; (simp; done)) | refine Blk.drew ?_ | refine Blk.alloc ?_ _ | (refine Blk.fars ?_ ?_ _ _; rotate_left; (dsimp only; omega)) | (refine Blk.far ?_ ?_ _; rotate_left; (first | (dsimp only; omega) | (simp; done) | (simp; omega) | omega))))) hb3 (by first | omega | (simp; done) | (simp; omega))
  have hS3 : Blk w3 w1.heap.size 27 #[.int .i64 sp, .int .i64 sc, .bool true] := Blk.thru (by (repeat (first | assumption | exact Blk.new _ _ _ | (refine Blk.new' _ _ _ ?_; (simp; done)) | refine Blk.drew ?_ | refine Blk.alloc ?_ _ | (refine Blk.fars ?_ ?_ _ _; rotate_left; (dsimp only; omega)) | (refine Blk.far ?_ ?_ _; rotate_left; (first | (dsimp only; omega) | (simp; done) | (simp; omega) | omega))))) hb3 (by first | omega | (simp; done) | (simp; omega))
  have hz3 := hb3.size
  (try simp at hz3)
  have hw3 : Below w.heap.size w w3 := (by repeat (first | exact Below.refl _ _ | assumption | (refine Below.setCell ?_ (by first | omega | (simp; done) | (simp; omega)) _) | (refine Below.alloc ?_ (by first | omega | (simp; done) | (simp; omega)) _) | refine Below.drew ?_ | (refine below_thru ?_ (by assumption) (by first | omega | (simp; done) | (simp; omega))) | refine below_drewN ?_ _))
  clear hb3 hG2 hX2 hS2 x20 x21 x22 x23 s20 s21 s22 g22 g218 hl20 hl21 hl22
  have hl30 : w.heap.size < w3.heap.size := hG3.lt
  have hl31 : w.heap.size + 1 < w3.heap.size := hX3.lt
  have hl32 : w1.heap.size < w3.heap.size := hS3.lt
  have x30 := hX3.cell 0
  have x31 := hX3.cell 1
  have x32 := hX3.cell 2
  have x33 := hX3.cell 3
  have s30 := hS3.cell 0
  have s31 := hS3.cell 1
  have s32 := hS3.cell 2
  have g32 := hG3.cell 2
  have g318 := hG3.cell 18
  simp only [grow, List.getElem?_toArray, List.getElem?_cons_zero, List.getElem?_cons_succ] at x30 x31 x32 x33 s30 s31 s32 g32 g318
  go_wp2_with fail
  refine (Awake_any _).mono ?_
  rintro e w9 ⟨rfl, hb9⟩
  have hw9 : Below w.heap.size w w9 := (by repeat (first | exact Below.refl _ _ | assumption | (refine Below.setCell ?_ (by first | omega | (simp; done) | (simp; omega)) _) | (refine Below.alloc ?_ (by first | omega | (simp; done) | (simp; omega)) _) | refine Below.drew ?_ | (refine below_thru ?_ (by assumption) (by first | omega | (simp; done) | (simp; omega))) | refine below_drewN ?_ _))
  go_wp2
  go_ret
  exact ⟨rfl, hw9⟩
set_option maxRecDepth 100000 in
set_option maxHeartbeats 8000000 in
theorem gbolts_bad_b (g : Ga) (sp sc : Int) (A TA : Option Addr) (rn rc tn tc : Nat) (w : World) (re : Int)
    (HB : Hid (∀ W, Below w.heap.size w W → Calls Tryz.prog 12 #[g.v, .agg #[.int .i64 sp, .int .i64 sc, .bool false], .bool true, .slice A rn rc] W fun e w' => e = .returned (.tuple #[.agg #[.int .i64 sp, .int .i64 sc, .bool true], .int .i64 0]) ∧ Below W.heap.size W w'))
    (HE : Hid (∀ W, Below w.heap.size w W → Calls Tryz.prog 24 #[g.v, .slice A rn rc, .int .i64 sp] W fun e w' => e = .returned (.bool true) ∧ Below W.heap.size W w'))
    (HR : Hid (∀ W, Below w.heap.size w W → Calls Tryz.prog 25 #[g.v, .agg #[.int .i64 sp, .int .i64 sc, .bool true], .slice TA tn tc] W fun e w' => e = .returned (.tuple #[.slice none 0 0, .int .i64 re]) ∧ Below W.heap.size W w'))
    (q : (re != 0) = true)
    (t0 : 1 ≤ g.travel) (t1 : g.travel ≤ 5000) (k0 : 0 ≤ g.slack) (k1 : g.slack ≤ 5000)
    (he : ¬ sp ≤ g.slack) (he2 : g.travel - g.slack ≤ sp) :
    Calls Tryz.prog 6 #[g.v, .agg #[.int .i64 sp, .int .i64 sc, .bool false, .slice A rn rc], .slice TA tn tc] w fun e w' => e = .returned (.bool true) ∧ Below w.heap.size w w' := by
  go_enter Tryz.func6, Tryz.ntmps6
  go_wp2_with (with_reducible refine wpl_g (g := g) ((Blk.new w _ _).alloc _) rfl rfl rfl ?_)
  refine (HB.out _ (by repeat (first | exact Below.refl _ _ | assumption | (refine Below.setCell ?_ (by first | omega | (simp; done) | (simp; omega)) _) | (refine Below.alloc ?_ (by first | omega | (simp; done) | (simp; omega)) _) | refine Below.drew ?_ | (refine below_thru ?_ (by assumption) (by first | omega | (simp; done) | (simp; omega))) | refine below_drewN ?_ _))).mono ?_
  rintro e w1 ⟨rfl, hb1⟩
  have hG1 : Blk w1 w.heap.size 25 (grow g) := Blk.thru (by (repeat (first | assumption | exact Blk.new _ _ _ | (refine Blk.new' _ _ _ ?_; (simp; done)) | refine Blk.drew ?_ | refine Blk.alloc ?_ _ | (refine Blk.fars ?_ ?_ _ _; rotate_left; (dsimp only; omega)) | (refine Blk.far ?_ ?_ _; rotate_left; (first | (dsimp only; omega) | (simp; done) | (simp; omega) | omega))))) hb1 (by simp <;> omega)
  have hX1 : Blk w1 (w.heap.size + 1) 70 #[.int .i64 sp, .int .i64 sc, .bool false, .slice A rn rc] := Blk.thru (by (repeat (first | assumption | exact Blk.new _ _ _ | (refine Blk.new' _ _ _ ?_; (simp; done)) | refine Blk.drew ?_ | refine Blk.alloc ?_ _ | (refine Blk.fars ?_ ?_ _ _; rotate_left; (dsimp only; omega)) | (refine Blk.far ?_ ?_ _; rotate_left; (first | (dsimp only; omega) | (simp; done) | (simp; omega) | omega))))) hb1 (by simp <;> omega)
  have hz1 := hb1.size
  (try simp at hz1)
  have hw1 : Below w.heap.size w w1 := (by repeat (first | exact Below.refl _ _ | assumption | (refine Below.setCell ?_ (by first | omega | (simp; done) | (simp; omega)) _) | (refine Below.alloc ?_ (by first | omega | (simp; done) | (simp; omega)) _) | refine Below.drew ?_ | (refine below_thru ?_ (by assumption) (by first | omega | (simp; done) | (simp; omega))) | refine below_drewN ?_ _))
  have hl10 : w.heap.size < w1.heap.size := hG1.lt
  have hl11 : w.heap.size + 1 < w1.heap.size := hX1.lt
  have x10 := hX1.cell 0
  have x11 := hX1.cell 1
  have x12 := hX1.cell 2
  have x13 := hX1.cell 3
  simp only [List.getElem?_toArray, List.getElem?_cons_zero, List.getElem?_cons_succ] at x10 x11 x12 x13
  clear hb1
  go_wp2_with (with_reducible refine wpl_gg (g := g) (b := w.heap.size) (t := 25) (by (repeat (first | assumption | exact Blk.new _ _ _ | (refine Blk.new' _ _ _ ?_; (simp; done)) | refine Blk.drew ?_ | refine Blk.alloc ?_ _ | (refine Blk.fars ?_ ?_ _ _; rotate_left; (dsimp only; omega)) | (refine Blk.far ?_ ?_ _; rotate_left; (first | (dsimp only; omega) | (simp; done) | (simp; omega) | omega))))) rfl rfl ?hw ?_; case hw => (go_simp; done))
  refine (HE.out _ (by repeat (first | exact Below.refl _ _ | assumption | (refine Below.setCell ?_ (by first | omega | (simp; done) | (simp; omega)) _) | (refine Below.alloc ?_ (by first | omega | (simp; done) | (simp; omega)) _) | refine Below.drew ?_ | (refine below_thru ?_ (by assumption) (by first | omega | (simp; done) | (simp; omega))) | refine below_drewN ?_ _))).mono ?_
  rintro e w2 ⟨rfl, hb2⟩
  have hG2 : Blk w2 w.heap.size 25 (grow g) := Blk.thru (by (repeat (first | assumption | exact Blk.new _ _ _ | (refine Blk.new' _ _ _ ?_; (simp; done)) | refine Blk.drew ?_ | refine Blk.alloc ?_ _ | (refine Blk.fars ?_ ?_ _ _; rotate_left; (dsimp only; omega)) | (refine Blk.far ?_ ?_ _; rotate_left; (first | (dsimp only; omega) | (simp; done) | (simp; omega) | omega))))) hb2 (by first | omega | (simp; done) | (simp; omega))
  have hX2 : Blk w2 (w.heap.size + 1) 70 #[.int .i64 sp, .int .i64 sc, .bool false, .slice A rn rc] := Blk.thru (by (repeat (first | assumption | exact Blk.new _ _ _ | (refine Blk.new' _ _ _ ?_; (simp; done)) | refine Blk.drew ?_ | refine Blk.alloc ?_ _ | (refine Blk.fars ?_ ?_ _ _; rotate_left; (dsimp only; omega)) | (refine Blk.far ?_ ?_ _; rotate_left; (first | (dsimp only; omega) | (simp; done) | (simp; omega) | omega))))) hb2 (by first | omega | (simp; done) | (simp; omega))
  have hS2 : Blk w2 w1.heap.size 27 #[.int .i64 sp, .int .i64 sc, .bool true] := Blk.thru (by (repeat (first | assumption | exact Blk.new _ _ _ | (refine Blk.new' _ _ _ ?_; (simp; done)) | refine Blk.drew ?_ | refine Blk.alloc ?_ _ | (refine Blk.fars ?_ ?_ _ _; rotate_left; (dsimp only; omega)) | (refine Blk.far ?_ ?_ _; rotate_left; (first | (dsimp only; omega) | (simp; done) | (simp; omega) | omega))))) hb2 (by first | omega | (simp; done) | (simp; omega))
  have hz2 := hb2.size
  (try simp at hz2)
  have hw2 : Below w.heap.size w w2 := (by repeat (first | exact Below.refl _ _ | assumption | (refine Below.setCell ?_ (by first | omega | (simp; done) | (simp; omega)) _) | (refine Below.alloc ?_ (by first | omega | (simp; done) | (simp; omega)) _) | refine Below.drew ?_ | (refine below_thru ?_ (by assumption) (by first | omega | (simp; done) | (simp; omega))) | refine below_drewN ?_ _))
  clear hb2 hG1 hX1 x10 x11 x12 x13
  have hl20 : w.heap.size < w2.heap.size := hG2.lt
  have hl21 : w.heap.size + 1 < w2.heap.size := hX2.lt
  have hl22 : w1.heap.size < w2.heap.size := hS2.lt
  have x20 := hX2.cell 0
  have x21 := hX2.cell 1
  have x22 := hX2.cell 2
  have x23 := hX2.cell 3
  have s20 := hS2.cell 0
  have s21 := hS2.cell 1
  have s22 := hS2.cell 2
  have g22 := hG2.cell 2
  have g218 := hG2.cell 18
  simp only [grow, List.getElem?_toArray, List.getElem?_cons_zero, List.getElem?_cons_succ] at x20 x21 x22 x23 s20 s21 s22 g22 g218
  go_wp2_with (with_reducible refine wpl_g (g := g) (b := w.heap.size) (t := 25) (by (repeat (first | assumption | exact Blk.new _ _ _ | (refine Blk.new' _ _ _ ?_; (simp; done)) | refine Blk.drew ?_ | refine Blk.alloc ?_ _ | (refine Blk.fars ?_ ?_ _ _; rotate_left; (dsimp only; omega)) | (refine Blk.far ?_ ?_ _; rotate_left; (first | (dsimp only; omega) | (simp; done) | (simp; omega) | omega))))) rfl rfl rfl ?_)
  refine (HR.out _ (by repeat (first | exact Below.refl _ _ | assumption | (refine Below.setCell ?_ (by first | omega | (simp; done) | (simp; omega)) _) | (refine Below.alloc ?_ (by first | omega | (simp; done) | (simp; omega)) _) | refine Below.drew ?_ | (refine below_thru ?_ (by assumption) (by first | omega | (simp; done) | (simp; omega))) | refine below_drewN ?_ _))).mono ?_
  rintro e w3 ⟨rfl, hb3⟩
  have hG3 : Blk w3 w.heap.size 25 (grow g) := Blk.thru (by (repeat (first | assumption | exact Blk.new _ _ _ | (refine Blk.new' _ _ _ ?_; (simp; done)) | refine Blk.drew ?_ | refine Blk.alloc ?_ _ | (refine Blk.fars ?_ ?_ _ _; rotate_left; (dsimp only; omega)) | (refine Blk.far ?_ ?_ _; rotate_left; (first | (dsimp only; omega) | (simp; done) | (simp; omega) | omega))))) hb3 (by first | omega | (simp; done) | (simp; omega))
  have hX3 : Blk w3 (w.heap.size + 1) 70 #[.int .i64 sp, .int .i64 sc, .bool false, .slice A rn rc] := Blk.thru (by (repeat (first | assumption | exact Blk.new _ _ _ | (refine Blk.new' _ _ _ ?_; (simp; done)) | refine Blk.drew ?_ | refine Blk.alloc ?_ _ | (refine Blk.fars ?_ ?_ _ _; rotate_left; (dsimp only; omega)) | (refine Blk.far ?_ ?_ _; rotate_left; (first | (dsimp only; omega) | (simp; done) | (simp; omega) | omega))))) hb3 (by first | omega | (simp; done) | (simp; omega))
  have hS3 : Blk w3 w1.heap.size 27 #[.int .i64 sp, .int .i64 sc, .bool true] := Blk.thru (by (repeat (first | assumption | exact Blk.new _ _ _ | (refine Blk.new' _ _ _ ?_; (simp; done)) | refine Blk.drew ?_ | refine Blk.alloc ?_ _ | (refine Blk.fars ?_ ?_ _ _; rotate_left; (dsimp only; omega)) | (refine Blk.far ?_ ?_ _; rotate_left; (first | (dsimp only; omega) | (simp; done) | (simp; omega) | omega))))) hb3 (by first | omega | (simp; done) | (simp; omega))
  have hz3 := hb3.size
  (try simp at hz3)
  have hw3 : Below w.heap.size w w3 := (by repeat (first | exact Below.refl _ _ | assumption | (refine Below.setCell ?_ (by first | omega | (simp; done) | (simp; omega)) _) | (refine Below.alloc ?_ (by first | omega | (simp; done) | (simp; omega)) _) | refine Below.drew ?_ | (refine below_thru ?_ (by assumption) (by first | omega | (simp; done) | (simp; omega))) | refine below_drewN ?_ _))
  clear hb3 hG2 hX2 hS2 x20 x21 x22 x23 s20 s21 s22 g22 g218 hl20 hl21 hl22
  have hl30 : w.heap.size < w3.heap.size := hG3.lt
  have hl31 : w.heap.size + 1 < w3.heap.size := hX3.lt
  have hl32 : w1.heap.size < w3.heap.size := hS3.lt
  have x30 := hX3.cell 0
  have x31 := hX3.cell 1
  have x32 := hX3.cell 2
  have x33 := hX3.cell 3
  have s30 := hS3.cell 0
  have s31 := hS3.cell 1
  have s32 := hS3.cell 2
  have g32 := hG3.cell 2
  have g318 := hG3.cell 18
  simp only [grow, List.getElem?_toArray, List.getElem?_cons_zero, List.getElem?_cons_succ] at x30 x31 x32 x33 s30 s31 s32 g32 g318
  go_wp2_with fail
  refine (Awake_any _).mono ?_
  rintro e w9 ⟨rfl, hb9⟩
  have hw9 : Below w.heap.size w w9 := (by repeat (first | exact Below.refl _ _ | assumption | (refine Below.setCell ?_ (by first | omega | (simp; done) | (simp; omega)) _) | (refine Below.alloc ?_ (by first | omega | (simp; done) | (simp; omega)) _) | refine Below.drew ?_ | (refine below_thru ?_ (by assumption) (by first | omega | (simp; done) | (simp; omega))) | refine below_drewN ?_ _))
  go_wp2
  go_ret
  exact ⟨rfl, hw9⟩
set_option maxRecDepth 100000 in
set_option maxHeartbeats 8000000 in
theorem gbolts_fine_a (g : Ga) (sp sc : Int) (A TA : Option Addr) (rn rc tn tc : Nat) (w : World) (rows : List (List Value))
    (HB : Hid (∀ W, Below w.heap.size w W → Calls Tryz.prog 12 #[g.v, .agg #[.int .i64 sp, .int .i64 sc, .bool false], .bool true, .slice A rn rc] W fun e w' => e = .returned (.tuple #[.agg #[.int .i64 sp, .int .i64 sc, .bool true], .int .i64 0]) ∧ Below W.heap.size W w'))
    (HE : Hid (∀ W, Below w.heap.size w W → Calls Tryz.prog 24 #[g.v, .slice A rn rc, .int .i64 sp] W fun e w' => e = .returned (.bool true) ∧ Below W.heap.size W w'))
    (HR : Hid (∀ W, Below w.heap.size w W → Calls Tryz.prog 25 #[g.v, .agg #[.int .i64 sp, .int .i64 sc, .bool true], .slice TA tn tc] W fun e w' => ∃ RA rc, e = .returned (.tuple #[.slice RA tn rc, .int .i64 0]) ∧ Tab w' w'.heap.size RA tn 3 rows ∧ tn ≤ rc ∧ Below W.heap.size W w'))
    (hrows : Hid (∀ k, k < tn → ∃ c : Int, rows[k]? = some [.int .i64 sp, .int .i64 c, .bool true])) (hn : (tn : Int) ≤ 2000)
    (HO : Hid (∀ W, Below w.heap.size w W → Calls Tryz.prog 12 #[g.v, .agg #[.int .i64 sp, .int .i64 sc, .bool true], .bool false, .slice none 0 0] W fun e w' => e = .returned (.tuple #[.agg #[.int .i64 sp, .int .i64 sc, .bool false], .int .i64 0]) ∧ Below W.heap.size W w'))
    (t0 : 1 ≤ g.travel) (t1 : g.travel ≤ 5000) (k0 : 0 ≤ g.slack) (k1 : g.slack ≤ 5000)
    (he : sp ≤ g.slack) :
    Calls Tryz.prog 6 #[g.v, .agg #[.int .i64 sp, .int .i64 sc, .bool false, .slice A rn rc], .slice TA tn tc] w fun e w' => e = .returned (.bool true) ∧ Below w.heap.size w w' := by
  go_enter Tryz.func6, Tryz.ntmps6
  go_wp2_with (with_reducible refine wpl_g (g := g) ((Blk.new w _ _).alloc _) rfl rfl rfl ?_)
  refine (HB.out _ (by repeat (first | exact Below.refl _ _ | assumption | (refine Below.setCell ?_ (by first | omega | (simp; done) | (simp; omega)) _) | (refine Below.alloc ?_ (by first | omega | (simp; done) | (simp; omega)) _) | refine Below.drew ?_ | (refine below_thru ?_ (by assumption) (by first | omega | (simp; done) | (simp; omega))) | refine below_drewN ?_ _))).mono ?_
  rintro e w1 ⟨rfl, hb1⟩
  have hG1 : Blk w1 w.heap.size 25 (grow g) := Blk.thru (by (repeat (first | assumption | exact Blk.new _ _ _ | (refine Blk.new' _ _ _ ?_; (simp; done)) | refine Blk.drew ?_ | refine Blk.alloc ?_ _ | (refine Blk.fars ?_ ?_ _ _; rotate_left; (dsimp only; omega)) | (refine Blk.far ?_ ?_ _; rotate_left; (first | (dsimp only; omega) | (simp; done) | (simp; omega) | omega))))) hb1 (by simp <;> omega)
  have hX1 : Blk w1 (w.heap.size + 1) 70 #[.int .i64 sp, .int .i64 sc, .bool false, .slice A rn rc] := Blk.thru (by (repeat (first | assumption | exact Blk.new _ _ _ | (refine Blk.new' _ _ _ ?_; (simp; done)) | refine Blk.drew ?_ | refine Blk.alloc ?_ _ | (refine Blk.fars ?_ ?_ _ _; rotate_left; (dsimp only; omega)) | (refine Blk.far ?_ ?_ _; rotate_left; (first | (dsimp only; omega) | (simp; done) | (simp; omega) | omega))))) hb1 (by simp <;> omega)
  have hz1 := hb1.size
  (try simp at hz1)
  have hw1 : Below w.heap.size w w1 := (by repeat (first | exact Below.refl _ _ | assumption | (refine Below.setCell ?_ (by first | omega | (simp; done) | (simp; omega)) _) | (refine Below.alloc ?_ (by first | omega | (simp; done) | (simp; omega)) _) | refine Below.drew ?_ | (refine below_thru ?_ (by assumption) (by first | omega | (simp; done) | (simp; omega))) | refine below_drewN ?_ _))
  have hl10 : w.heap.size < w1.heap.size := hG1.lt
  have hl11 : w.heap.size + 1 < w1.heap.size := hX1.lt
  have x10 := hX1.cell 0
  have x11 := hX1.cell 1
  have x12 := hX1.cell 2
  have x13 := hX1.cell 3
  simp only [List.getElem?_toArray, List.getElem?_cons_zero, List.getElem?_cons_succ] at x10 x11 x12 x13
  clear hb1
  go_wp2_with (with_reducible refine wpl_gg (g := g) (b := w.heap.size) (t := 25) (by (repeat (first | assumption | exact Blk.new _ _ _ | (refine Blk.new' _ _ _ ?_; (simp; done)) | refine Blk.drew ?_ | refine Blk.alloc ?_ _ | (refine Blk.fars ?_ ?_ _ _; rotate_left; (dsimp only; omega)) | (refine Blk.far ?_ ?_ _; rotate_left; (first | (dsimp only; omega) | (simp; done) | (simp; omega) | omega))))) rfl rfl ?hw ?_; case hw => (go_simp; done))
  refine (HE.out _ (by repeat (first | exact Below.refl _ _ | assumption | (refine Below.setCell ?_ (by first | omega | (simp; done) | (simp; omega)) _) | (refine Below.alloc ?_ (by first | omega | (simp; done) | (simp; omega)) _) | refine Below.drew ?_ | (refine below_thru ?_ (by assumption) (by first | omega | (simp; done) | (simp; omega))) | refine below_drewN ?_ _))).mono ?_
  rintro e w2 ⟨rfl, hb2⟩
  have hG2 : Blk w2 w.heap.size 25 (grow g) := Blk.thru (by (repeat (first | assumption | exact Blk.new _ _ _ | (refine Blk.new' _ _ _ ?_; (simp; done)) | refine Blk.drew ?_ | refine Blk.alloc ?_ _ | (refine Blk.fars ?_ ?_ _ _; rotate_left; (dsimp only; omega)) | (refine Blk.far ?_ ?_ _; rotate_left; (first | (dsimp only; omega) | (simp; done) | (simp; omega) | omega))))) hb2 (by first | omega | (simp; done) | (simp; omega))
  have hX2 : Blk w2 (w.heap.size + 1) 70 #[.int .i64 sp, .int .i64 sc, .bool false, .slice A rn rc] := Blk.thru (by (repeat (first | assumption | exact Blk.new _ _ _ | (refine Blk.new' _ _ _ ?_; (simp; done)) | refine Blk.drew ?_ | refine Blk.alloc ?_ _ | (refine Blk.fars ?_ ?_ _ _; rotate_left; (dsimp only; omega)) | (refine Blk.far ?_ ?_ _; rotate_left; (first | (dsimp only; omega) | (simp; done) | (simp; omega) | omega))))) hb2 (by first | omega | (simp; done) | (simp; omega))
  have hS2 : Blk w2 w1.heap.size 27 #[.int .i64 sp, .int .i64 sc, .bool true] := Blk.thru (by (repeat (first | assumption | exact Blk.new _ _ _ | (refine Blk.new' _ _ _ ?_; (simp; done)) | refine Blk.drew ?_ | refine Blk.alloc ?_ _ | (refine Blk.fars ?_ ?_ _ _; rotate_left; (dsimp only; omega)) | (refine Blk.far ?_ ?_ _; rotate_left; (first | (dsimp only; omega) | (simp; done) | (simp; omega) | omega))))) hb2 (by first | omega | (simp; done) | (simp; omega))
  have hz2 := hb2.size
  (try simp at hz2)
  have hw2 : Below w.heap.size w w2 := (by repeat (first | exact Below.refl _ _ | assumption | (refine Below.setCell ?_ (by first | omega | (simp; done) | (simp; omega)) _) | (refine Below.alloc ?_ (by first | omega | (simp; done) | (simp; omega)) _) | refine Below.drew ?_ | (refine below_thru ?_ (by assumption) (by first | omega | (simp; done) | (simp; omega))) | refine below_drewN ?_ _))
  clear hb2 hG1 hX1 x10 x11 x12 x13
  have hl20 : w.heap.size < w2.heap.size := hG2.lt
  have hl21 : w.heap.size + 1 < w2.heap.size := hX2.lt
  have hl22 : w1.heap.size < w2.heap.size := hS2.lt
  have x20 := hX2.cell 0
  have x21 := hX2.cell 1
  have x22 := hX2.cell 2
  have x23 := hX2.cell 3
  have s20 := hS2.cell 0
  have s21 := hS2.cell 1
  have s22 := hS2.cell 2
  have g22 := hG2.cell 2
  have g218 := hG2.cell 18
  simp only [grow, List.getElem?_toArray, List.getElem?_cons_zero, List.getElem?_cons_succ] at x20 x21 x22 x23 s20 s21 s22 g22 g218
  go_wp2_with (with_reducible refine wpl_g (g := g) (b := w.heap.size) (t := 25) (by (repeat (first | assumption | exact Blk.new _ _ _ | (refine Blk.new' _ _ _ ?_; (simp; done)) | refine Blk.drew ?_ | refine Blk.alloc ?_ _ | (refine Blk.fars ?_ ?_ _ _; rotate_left; (dsimp only; omega)) | (refine Blk.far ?_ ?_ _; rotate_left; (first | (dsimp only; omega) | (simp; done) | (simp; omega) | omega))))) rfl rfl rfl ?_)
  refine (HR.out _ (by repeat (first | exact Below.refl _ _ | assumption | (refine Below.setCell ?_ (by first | omega | (simp; done) | (simp; omega)) _) | (refine Below.alloc ?_ (by first | omega | (simp; done) | (simp; omega)) _) | refine Below.drew ?_ | (refine below_thru ?_ (by assumption) (by first | omega | (simp; done) | (simp; omega))) | refine below_drewN ?_ _))).mono ?_
  rintro e w3 ⟨RA, qc, rfl, htab, hqc, hb3⟩
  have HTab := Lib.hid htab
  clear htab
  have hG3 : Blk w3 w.heap.size 25 (grow g) := Blk.thru (by (repeat (first | assumption | exact Blk.new _ _ _ | (refine Blk.new' _ _ _ ?_; (simp; done)) | refine Blk.drew ?_ | refine Blk.alloc ?_ _ | (refine Blk.fars ?_ ?_ _ _; rotate_left; (dsimp only; omega)) | (refine Blk.far ?_ ?_ _; rotate_left; (first | (dsimp only; omega) | (simp; done) | (simp; omega) | omega))))) hb3 (by first | omega | (simp; done) | (simp; omega))
  have hX3 : Blk w3 (w.heap.size + 1) 70 #[.int .i64 sp, .int .i64 sc, .bool false, .slice A rn rc] := Blk.thru (by (repeat (first | assumption | exact Blk.new _ _ _ | (refine Blk.new' _ _ _ ?_; (simp; done)) | refine Blk.drew ?_ | refine Blk.alloc ?_ _ | (refine Blk.fars ?_ ?_ _ _; rotate_left; (dsimp only; omega)) | (refine Blk.far ?_ ?_ _; rotate_left; (first | (dsimp only; omega) | (simp; done) | (simp; omega) | omega))))) hb3 (by first | omega | (simp; done) | (simp; omega))
  have hS3 : Blk w3 w1.heap.size 27 #[.int .i64 sp, .int .i64 sc, .bool true] := Blk.thru (by (repeat (first | assumption | exact Blk.new _ _ _ | (refine Blk.new' _ _ _ ?_; (simp; done)) | refine Blk.drew ?_ | refine Blk.alloc ?_ _ | (refine Blk.fars ?_ ?_ _ _; rotate_left; (dsimp only; omega)) | (refine Blk.far ?_ ?_ _; rotate_left; (first | (dsimp only; omega) | (simp; done) | (simp; omega) | omega))))) hb3 (by first | omega | (simp; done) | (simp; omega))
  have hz3 := hb3.size
  (try simp at hz3)
  have hw3 : Below w.heap.size w w3 := (by repeat (first | exact Below.refl _ _ | assumption | (refine Below.setCell ?_ (by first | omega | (simp; done) | (simp; omega)) _) | (refine Below.alloc ?_ (by first | omega | (simp; done) | (simp; omega)) _) | refine Below.drew ?_ | (refine below_thru ?_ (by assumption) (by first | omega | (simp; done) | (simp; omega))) | refine below_drewN ?_ _))
  clear hb3 hG2 hX2 hS2 x20 x21 x22 x23 s20 s21 s22 g22 g218 hl20 hl21 hl22
  have hl30 : w.heap.size < w3.heap.size := hG3.lt
  have hl31 : w.heap.size + 1 < w3.heap.size := hX3.lt
  have hl32 : w1.heap.size < w3.heap.size := hS3.lt
  have x30 := hX3.cell 0
  have x31 := hX3.cell 1
  have x32 := hX3.cell 2
  have x33 := hX3.cell 3
  have s30 := hS3.cell 0
  have s31 := hS3.cell 1
  have s32 := hS3.cell 2
  have g32 := hG3.cell 2
  have g318 := hG3.cell 18
  simp only [grow, List.getElem?_toArray, List.getElem?_cons_zero, List.getElem?_cons_succ] at x30 x31 x32 x33 s30 s31 s32 g32 g318
  go_wp2_with fail
  skip
  have HG3 := Lib.hid hG3
  have HX3 := Lib.hid hX3
  have HS3 := Lib.hid hS3
  clear hG3 hX3 hS3 x30 x31 x32 x33 s30 s31 s32 g32 g318
  go_loopw [10] (fun i wr => ∃ k : Nat, k ≤ tn ∧ i = .int .i64 k ∧ Hid (Below w3.heap.size w3 wr))
    (fun i _ => tn - (intOf i).toNat)
  case atStart => exact ⟨0, Nat.zero_le _, rfl, Below.refl _ _⟩
  case round =>
    obtain ⟨k, hk, rfl, hbr⟩ := hrel
    have hzr := hbr.out.size
    have i0 : (0 : Int) ≤ (k : Int) := Int.natCast_nonneg _
    have hSr := HS3.out.thru hbr.out hl32
    have sr0 := hSr.cell 0
    simp only [List.getElem?_toArray, List.getElem?_cons_zero] at sr0
    have hlr : w1.heap.size < wr.heap.size := hSr.lt
    by_cases hlt : k < tn
    · obtain ⟨cc, hrow⟩ := hrows.out k hlt
      obtain ⟨rb, ro, hA, hrb, m0, m1, m2⟩ := HTab.out.three hrow
      have m0 := (hbr.out.cell (p := ⟨rb, ro + k * 3, none⟩) hrb).trans m0
      have m2 := (hbr.out.cell (p := ⟨rb, ro + k * 3 + 2, none⟩) hrb).trans m2
      have i1 : (k : Int) < (tn : Int) := by omega
      have hrbl : rb < wr.heap.size := by omega
      have Hbr := Lib.hid (show Below w3.heap.size w3 wr from hbr.out)
      have Hqc := Lib.hid hqc
      subst hA
      clear m1 hrow hbr hSr
      go_wp2_with fail
      go_quiet (fail)
      go_wp2
      go_roundw
      case rel => exact ⟨k + 1, by omega, by go_num, below_drewN Hbr.out _⟩
      case measure => simp [intOf]; omega
    · obtain rfl : k = tn := by omega
      have hGr := HG3.out.thru hbr.out hl30
      have hXr := HX3.out.thru hbr.out hl31
      have hwr : Below w.heap.size w wr := hw3.trans (hbr.out.mono (by omega))
      have sr1 := hSr.cell 1
      have sr2 := hSr.cell 2
      simp only [List.getElem?_toArray, List.getElem?_cons_zero, List.getElem?_cons_succ] at sr1 sr2
      have hlr0 : w.heap.size < wr.heap.size := hGr.lt
      have hlr1 : w.heap.size + 1 < wr.heap.size := hXr.lt
      clear hlt hk hbr
      go_wp2_with (with_reducible refine wpl_g (g := g) (b := w.heap.size) (t := 25) (by (repeat (first | assumption | exact Blk.new _ _ _ | (refine Blk.new' _ _ _ ?_; (simp; done)) | refine Blk.drew ?_ | refine Blk.alloc ?_ _ | (refine Blk.fars ?_ ?_ _ _; rotate_left; (dsimp only; omega)) | (refine Blk.far ?_ ?_ _; rotate_left; (first | (dsimp only; omega) | (simp; done) | (simp; omega) | omega))))) rfl rfl rfl ?_)
      refine (HO.out _ (by repeat (first | exact Below.refl _ _ | assumption | (refine Below.setCell ?_ (by first | omega | (simp; done) | (simp; omega)) _) | (refine Below.alloc ?_ (by first | omega | (simp; done) | (simp; omega)) _) | refine Below.drew ?_ | (refine below_thru ?_ (by assumption) (by first | omega | (simp; done) | (simp; omega))) | refine below_drewN ?_ _))).mono ?_
      rintro e w5 ⟨rfl, hb5⟩
      have hX5 : Blk w5 (w.heap.size + 1) 70 #[.int .i64 sp, .int .i64 sc, .bool false, .slice A rn rc] := Blk.thru (by (repeat (first | assumption | exact Blk.new _ _ _ | (refine Blk.new' _ _ _ ?_; (simp; done)) | refine Blk.drew ?_ | refine Blk.alloc ?_ _ | (refine Blk.fars ?_ ?_ _ _; rotate_left; (dsimp only; omega)) | (refine Blk.far ?_ ?_ _; rotate_left; (first | (dsimp only; omega) | (simp; done) | (simp; omega) | omega))))) hb5 (by first | omega | (simp; done) | (simp; omega))
      have hz5 := hb5.size
      (try simp at hz5)
      have hw5 : Below w.heap.size w w5 := (by repeat (first | exact Below.refl _ _ | assumption | (refine Below.setCell ?_ (by first | omega | (simp; done) | (simp; omega)) _) | (refine Below.alloc ?_ (by first | omega | (simp; done) | (simp; omega)) _) | refine Below.drew ?_ | (refine below_thru ?_ (by assumption) (by first | omega | (simp; done) | (simp; omega))) | refine below_drewN ?_ _))
      have hl51 : w.heap.size + 1 < w5.heap.size := hX5.lt
      have x50 := hX5.cell 0
      have x51 := hX5.cell 1
      have x52 := hX5.cell 2
      simp only [List.getElem?_toArray, List.getElem?_cons_zero, List.getElem?_cons_succ] at x50 x51 x52
      clear hb5 hGr hXr hSr sr0 sr1 sr2
      go_wp2_with fail
      refine (Awake_any _).mono ?_
      rintro e w9 ⟨rfl, hb9⟩
      have hw9 : Below w.heap.size w w9 := (by repeat (first | exact Below.refl _ _ | assumption | (refine Below.setCell ?_ (by first | omega | (simp; done) | (simp; omega)) _) | (refine Below.alloc ?_ (by first | omega | (simp; done) | (simp; omega)) _) | refine Below.drew ?_ | (refine below_thru ?_ (by assumption) (by first | omega | (simp; done) | (simp; omega))) | refine below_drewN ?_ _))
      go_wp2
      go_ret
      exact ⟨rfl, hw9⟩
set_option maxRecDepth 100000 in
set_option maxHeartbeats 8000000 in
theorem gbolts_fine_b (g : Ga) (sp sc : Int) (A TA : Option Addr) (rn rc tn tc : Nat) (w : World) (rows : List (List Value))
    (HB : Hid (∀ W, Below w.heap.size w W → Calls Tryz.prog 12 #[g.v, .agg #[.int .i64 sp, .int .i64 sc, .bool false], .bool true, .slice A rn rc] W fun e w' => e = .returned (.tuple #[.agg #[.int .i64 sp, .int .i64 sc, .bool true], .int .i64 0]) ∧ Below W.heap.size W w'))
    (HE : Hid (∀ W, Below w.heap.size w W → Calls Tryz.prog 24 #[g.v, .slice A rn rc, .int .i64 sp] W fun e w' => e = .returned (.bool true) ∧ Below W.heap.size W w'))
    (HR : Hid (∀ W, Below w.heap.size w W → Calls Tryz.prog 25 #[g.v, .agg #[.int .i64 sp, .int .i64 sc, .bool true], .slice TA tn tc] W fun e w' => ∃ RA rc, e = .returned (.tuple #[.slice RA tn rc, .int .i64 0]) ∧ Tab w' w'.heap.size RA tn 3 rows ∧ tn ≤ rc ∧ Below W.heap.size W w'))
    (hrows : Hid (∀ k, k < tn → ∃ c : Int, rows[k]? = some [.int .i64 sp, .int .i64 c, .bool true])) (hn : (tn : Int) ≤ 2000)
    (HO : Hid (∀ W, Below w.heap.size w W → Calls Tryz.prog 12 #[g.v, .agg #[.int .i64 sp, .int .i64 sc, .bool true], .bool false, .slice none 0 0] W fun e w' => e = .returned (.tuple #[.agg #[.int .i64 sp, .int .i64 sc, .bool false], .int .i64 0]) ∧ Below W.heap.size W w'))
    (t0 : 1 ≤ g.travel) (t1 : g.travel ≤ 5000) (k0 : 0 ≤ g.slack) (k1 : g.slack ≤ 5000)
    (he : ¬ sp ≤ g.slack) (he2 : g.travel - g.slack ≤ sp) :
    Calls Tryz.prog 6 #[g.v, .agg #[.int .i64 sp, .int .i64 sc, .bool false, .slice A rn rc], .slice TA tn tc] w fun e w' => e = .returned (.bool true) ∧ Below w.heap.size w w' := by
  go_enter Tryz.func6, Tryz.ntmps6
  go_wp2_with (with_reducible refine wpl_g (g := g) ((Blk.new w _ _).alloc _) rfl rfl rfl ?_)
  refine (HB.out _ (by repeat (first | exact Below.refl _ _ | assumption | (refine Below.setCell ?_ (by first | omega | (simp; done) | (simp; omega)) _) | (refine Below.alloc ?_ (by first | omega | (simp; done) | (simp; omega)) _) | refine Below.drew ?_ | (refine below_thru ?_ (by assumption) (by first | omega | (simp; done) | (simp; omega))) | refine below_drewN ?_ _))).mono ?_
  rintro e w1 ⟨rfl, hb1⟩
  have hG1 : Blk w1 w.heap.size 25 (grow g) := Blk.thru (by (repeat (first | assumption | exact Blk.new _ _ _ | (refine Blk.new' _ _ _ ?_; (simp; done)) | refine Blk.drew ?_ | refine Blk.alloc ?_ _ | (refine Blk.fars ?_ ?_ _ _; rotate_left; (dsimp only; omega)) | (refine Blk.far ?_ ?_ _; rotate_left; (first | (dsimp only; omega) | (simp; done) | (simp; omega) | omega))))) hb1 (by simp <;> omega)
  have hX1 : Blk w1 (w.heap.size + 1) 70 #[.int .i64 sp, .int .i64 sc, .bool false, .slice A rn rc] := Blk.thru (by (repeat (first | assumption | exact Blk.new _ _ _ | (refine Blk.new' _ _ _ ?_; (simp; done)) | refine Blk.drew ?_ | refine Blk.alloc ?_ _ | (refine Blk.fars ?_ ?_ _ _; rotate_left; (dsimp only; omega)) | (refine Blk.far ?_ ?_ _; rotate_left; (first | (dsimp only; omega) | (simp; done) | (simp; omega) | omega))))) hb1 (by simp <;> omega)
  have hz1 := hb1.size
  (try simp at hz1)
  have hw1 : Below w.heap.size w w1 := (by repeat (first | exact Below.refl _ _ | assumption | (refine Below.setCell ?_ (by first | omega | (simp; done) | (simp; omega)) _) | (refine Below.alloc ?_ (by first | omega | (simp; done) | (simp; omega)) _) | refine Below.drew ?_ | (refine below_thru ?_ (by assumption) (by first | omega | (simp; done) | (simp; omega))) | refine below_drewN ?_ _))
  have hl10 : w.heap.size < w1.heap.size := hG1.lt
  have hl11 : w.heap.size + 1 < w1.heap.size := hX1.lt
  have x10 := hX1.cell 0
  have x11 := hX1.cell 1
  have x12 := hX1.cell 2
  have x13 := hX1.cell 3
  simp only [List.getElem?_toArray, List.getElem?_cons_zero, List.getElem?_cons_succ] at x10 x11 x12 x13
  clear hb1
  go_wp2_with (with_reducible refine wpl_gg (g := g) (b := w.heap.size) (t := 25) (by (repeat (first | assumption | exact Blk.new _ _ _ | (refine Blk.new' _ _ _ ?_; (simp; done)) | refine Blk.drew ?_ | refine Blk.alloc ?_ _ | (refine Blk.fars ?_ ?_ _ _; rotate_left; (dsimp only; omega)) | (refine Blk.far ?_ ?_ _; rotate_left; (first | (dsimp only; omega) | (simp; done) | (simp; omega) | omega))))) rfl rfl ?hw ?_; case hw => (go_simp; done))
  refine (HE.out _ (by repeat (first | exact Below.refl _ _ | assumption | (refine Below.setCell ?_ (by first | omega | (simp; done) | (simp; omega)) _) | (refine Below.alloc ?_ (by first | omega | (simp; done) | (simp; omega)) _) | refine Below.drew ?_ | (refine below_thru ?_ (by assumption) (by first | omega | (simp; done) | (simp; omega))) | refine below_drewN ?_ _))).mono ?_
  rintro e w2 ⟨rfl, hb2⟩
  have hG2 : Blk w2 w.heap.size 25 (grow g) := Blk.thru (by (repeat (first | assumption | exact Blk.new _ _ _ | (refine Blk.new' _ _ _ ?_; (simp; done)) | refine Blk.drew ?_ | refine Blk.alloc ?_ _ | (refine Blk.fars ?_ ?_ _ _; rotate_left; (dsimp only; omega)) | (refine Blk.far ?_ ?_ _; rotate_left; (first | (dsimp only; omega) | (simp; done) | (simp; omega) | omega))))) hb2 (by first | omega | (simp; done) | (simp; omega))
  have hX2 : Blk w2 (w.heap.size + 1) 70 #[.int .i64 sp, .int .i64 sc, .bool false, .slice A rn rc] := Blk.thru (by (repeat (first | assumption | exact Blk.new _ _ _ | (refine Blk.new' _ _ _ ?_; (simp; done)) | refine Blk.drew ?_ | refine Blk.alloc ?_ _ | (refine Blk.fars ?_ ?_ _ _; rotate_left; (dsimp only; omega)) | (refine Blk.far ?_ ?_ _; rotate_left; (first | (dsimp only; omega) | (simp; done) | (simp; omega) | omega))))) hb2 (by first | omega | (simp; done) | (simp; omega))
  have hS2 : Blk w2 w1.heap.size 27 #[.int .i64 sp, .int .i64 sc, .bool true] := Blk.thru (by (repeat (first | assumption | exact Blk.new _ _ _ | (refine Blk.new' _ _ _ ?_; (simp; done)) | refine Blk.drew ?_ | refine Blk.alloc ?_ _ | (refine Blk.fars ?_ ?_ _ _; rotate_left; (dsimp only; omega)) | (refine Blk.far ?_ ?_ _; rotate_left; (first | (dsimp only; omega) | (simp; done) | (simp; omega) | omega))))) hb2 (by first | omega | (simp; done) | (simp; omega))
  have hz2 := hb2.size
  (try simp at hz2)
  have hw2 : Below w.heap.size w w2 := (by repeat (first | exact Below.refl _ _ | assumption | (refine Below.setCell ?_ (by first | omega | (simp; done) | (simp; omega)) _) | (refine Below.alloc ?_ (by first | omega | (simp; done) | (simp; omega)) _) | refine Below.drew ?_ | (refine below_thru ?_ (by assumption) (by first | omega | (simp; done) | (simp; omega))) | refine below_drewN ?_ _))
  clear hb2 hG1 hX1 x10 x11 x12 x13
  have hl20 : w.heap.size < w2.heap.size := hG2.lt
  have hl21 : w.heap.size + 1 < w2.heap.size := hX2.lt
  have hl22 : w1.heap.size < w2.heap.size := hS2.lt
  have x20 := hX2.cell 0
  have x21 := hX2.cell 1
  have x22 := hX2.cell 2
  have x23 := hX2.cell 3
  have s20 := hS2.cell 0
  have s21 := hS2.cell 1
  have s22 := hS2.cell 2
  have g22 := hG2.cell 2
  have g218 := hG2.cell 18
  simp only [grow, List.getElem?_toArray, List.getElem?_cons_zero, List.getElem?_cons_succ] at x20 x21 x22 x23 s20 s21 s22 g22 g218
  go_wp2_with (with_reducible refine wpl_g (g := g) (b := w.heap.size) (t := 25) (by (repeat (first | assumption | exact Blk.new _ _ _ | (refine Blk.new' _ _ _ ?_; (simp; done)) | refine Blk.drew ?_ | refine Blk.alloc ?_ _ | (refine Blk.fars ?_ ?_ _ _; rotate_left; (dsimp only; omega)) | (refine Blk.far ?_ ?_ _; rotate_left; (first | (dsimp only; omega) | (simp; done) | (simp; omega) | omega))))) rfl rfl rfl ?_)
  refine (HR.out _ (by repeat (first | exact Below.refl _ _ | assumption | (refine Below.setCell ?_ (by first | omega | (simp; done) | (simp; omega)) _) | (refine Below.alloc ?_ (by first | omega | (simp; done) | (simp; omega)) _) | refine Below.drew ?_ | (refine below_thru ?_ (by assumption) (by first | omega | (simp; done) | (simp; omega))) | refine below_drewN ?_ _))).mono ?_
  rintro e w3 ⟨RA, qc, rfl, htab, hqc, hb3⟩
  have HTab := Lib.hid htab
  clear htab
  have hG3 : Blk w3 w.heap.size 25 (grow g) := Blk.thru (by (repeat (first | assumption | exact Blk.new _ _ _ | (refine Blk.new' _ _ _ ?_; (simp; done)) | refine Blk.drew ?_ | refine Blk.alloc ?_ _ | (refine Blk.fars ?_ ?_ _ _; rotate_left; (dsimp only; omega)) | (refine Blk.far ?_ ?_ _; rotate_left; (first | (dsimp only; omega) | (simp; done) | (simp; omega) | omega))))) hb3 (by first | omega | (simp; done) | (simp; omega))
  have hX3 : Blk w3 (w.heap.size + 1) 70 #[.int .i64 sp, .int .i64 sc, .bool false, .slice A rn rc] := Blk.thru (by (repeat (first | assumption | exact Blk.new _ _ _ | (refine Blk.new' _ _ _ ?_; (simp; done)) | refine Blk.drew ?_ | refine Blk.alloc ?_ _ | (refine Blk.fars ?_ ?_ _ _; rotate_left; (dsimp only; omega)) | (refine Blk.far ?_ ?_ _; rotate_left; (first | (dsimp only; omega) | (simp; done) | (simp; omega) | omega))))) hb3 (by first | omega | (simp; done) | (simp; omega))
  have hS3 : Blk w3 w1.heap.size 27 #[.int .i64 sp, .int .i64 sc, .bool true] := Blk.thru (by (repeat (first | assumption | exact Blk.new _ _ _ | (refine Blk.new' _ _ _ ?_; (simp; done)) | refine Blk.drew ?_ | refine Blk.alloc ?_ _ | (refine Blk.fars ?_ ?_ _ _; rotate_left; (dsimp only; omega)) | (refine Blk.far ?_ ?_ _; rotate_left; (first | (dsimp only; omega) | (simp; done) | (simp; omega) | omega))))) hb3 (by first | omega | (simp; done) | (simp; omega))
  have hz3 := hb3.size
  (try simp at hz3)
  have hw3 : Below w.heap.size w w3 := (by repeat (first | exact Below.refl _ _ | assumption | (refine Below.setCell ?_ (by first | omega | (simp; done) | (simp; omega)) _) | (refine Below.alloc ?_ (by first | omega | (simp; done) | (simp; omega)) _) | refine Below.drew ?_ | (refine below_thru ?_ (by assumption) (by first | omega | (simp; done) | (simp; omega))) | refine below_drewN ?_ _))
  clear hb3 hG2 hX2 hS2 x20 x21 x22 x23 s20 s21 s22 g22 g218 hl20 hl21 hl22
  have hl30 : w.heap.size < w3.heap.size := hG3.lt
  have hl31 : w.heap.size + 1 < w3.heap.size := hX3.lt
  have hl32 : w1.heap.size < w3.heap.size := hS3.lt
  have x30 := hX3.cell 0
  have x31 := hX3.cell 1
  have x32 := hX3.cell 2
  have x33 := hX3.cell 3
  have s30 := hS3.cell 0
  have s31 := hS3.cell 1
  have s32 := hS3.cell 2
  have g32 := hG3.cell 2
  have g318 := hG3.cell 18
  simp only [grow, List.getElem?_toArray, List.getElem?_cons_zero, List.getElem?_cons_succ] at x30 x31 x32 x33 s30 s31 s32 g32 g318
  go_wp2_with fail
  skip
  have HG3 := Lib.hid hG3
  have HX3 := Lib.hid hX3
  have HS3 := Lib.hid hS3
  clear hG3 hX3 hS3 x30 x31 x32 x33 s30 s31 s32 g32 g318
  go_loopw [10] (fun i wr => ∃ k : Nat, k ≤ tn ∧ i = .int .i64 k ∧ Hid (Below w3.heap.size w3 wr))
    (fun i _ => tn - (intOf i).toNat)
  case atStart => exact ⟨0, Nat.zero_le _, rfl, Below.refl _ _⟩
  case round =>
    obtain ⟨k, hk, rfl, hbr⟩ := hrel
    have hzr := hbr.out.size
    have i0 : (0 : Int) ≤ (k : Int) := Int.natCast_nonneg _
    have hSr := HS3.out.thru hbr.out hl32
    have sr0 := hSr.cell 0
    simp only [List.getElem?_toArray, List.getElem?_cons_zero] at sr0
    have hlr : w1.heap.size < wr.heap.size := hSr.lt
    by_cases hlt : k < tn
    · obtain ⟨cc, hrow⟩ := hrows.out k hlt
      obtain ⟨rb, ro, hA, hrb, m0, m1, m2⟩ := HTab.out.three hrow
      have m0 := (hbr.out.cell (p := ⟨rb, ro + k * 3, none⟩) hrb).trans m0
      have m2 := (hbr.out.cell (p := ⟨rb, ro + k * 3 + 2, none⟩) hrb).trans m2
      have i1 : (k : Int) < (tn : Int) := by omega
      have hrbl : rb < wr.heap.size := by omega
      have Hbr := Lib.hid (show Below w3.heap.size w3 wr from hbr.out)
      have Hqc := Lib.hid hqc
      subst hA
      clear m1 hrow hbr hSr
      go_wp2_with fail
      go_quiet (fail)
      go_wp2
      go_roundw
      case rel => exact ⟨k + 1, by omega, by go_num, below_drewN Hbr.out _⟩
      case measure => simp [intOf]; omega
    · obtain rfl : k = tn := by omega
      have hGr := HG3.out.thru hbr.out hl30
      have hXr := HX3.out.thru hbr.out hl31
      have hwr : Below w.heap.size w wr := hw3.trans (hbr.out.mono (by omega))
      have sr1 := hSr.cell 1
      have sr2 := hSr.cell 2
      simp only [List.getElem?_toArray, List.getElem?_cons_zero, List.getElem?_cons_succ] at sr1 sr2
      have hlr0 : w.heap.size < wr.heap.size := hGr.lt
      have hlr1 : w.heap.size + 1 < wr.heap.size := hXr.lt
      clear hlt hk hbr
      go_wp2_with (with_reducible refine wpl_g (g := g) (b := w.heap.size) (t := 25) (by (repeat (first | assumption | exact Blk.new _ _ _ | (refine Blk.new' _ _ _ ?_; (simp; done)) | refine Blk.drew ?_ | refine Blk.alloc ?_ _ | (refine Blk.fars ?_ ?_ _ _; rotate_left; (dsimp only; omega)) | (refine Blk.far ?_ ?_ _; rotate_left; (first | (dsimp only; omega) | (simp; done) | (simp; omega) | omega))))) rfl rfl rfl ?_)
      refine (HO.out _ (by repeat (first | exact Below.refl _ _ | assumption | (refine Below.setCell ?_ (by first | omega | (simp; done) | (simp; omega)) _) | (refine Below.alloc ?_ (by first | omega | (simp; done) | (simp; omega)) _) | refine Below.drew ?_ | (refine below_thru ?_ (by assumption) (by first | omega | (simp; done) | (simp; omega))) | refine below_drewN ?_ _))).mono ?_
      rintro e w5 ⟨rfl, hb5⟩
      have hX5 : Blk w5 (w.heap.size + 1) 70 #[.int .i64 sp, .int .i64 sc, .bool false, .slice A rn rc] := Blk.thru (by (repeat (first | assumption | exact Blk.new _ _ _ | (refine Blk.new' _ _ _ ?_; (simp; done)) | refine Blk.drew ?_ | refine Blk.alloc ?_ _ | (refine Blk.fars ?_ ?_ _ _; rotate_left; (dsimp only; omega)) | (refine Blk.far ?_ ?_ _; rotate_left; (first | (dsimp only; omega) | (simp; done) | (simp; omega) | omega))))) hb5 (by first | omega | (simp; done) | (simp; omega))
      have hz5 := hb5.size
      (try simp at hz5)
      have hw5 : Below w.heap.size w w5 := (by repeat (first | exact Below.refl _ _ | assumption | (refine Below.setCell ?_ (by first | omega | (simp; done) | (simp; omega)) _) | (refine Below.alloc ?_ (by first | omega | (simp; done) | (simp; omega)) _) | refine Below.drew ?_ | (refine below_thru ?_ (by assumption) (by first | omega | (simp; done) | (simp; omega))) | refine below_drewN ?_ _))
      have hl51 : w.heap.size + 1 < w5.heap.size := hX5.lt
      have x50 := hX5.cell 0
      have x51 := hX5.cell 1
      have x52 := hX5.cell 2
      simp only [List.getElem?_toArray, List.getElem?_cons_zero, List.getElem?_cons_succ] at x50 x51 x52
      clear hb5 hGr hXr hSr sr0 sr1 sr2
      go_wp2_with fail
      refine (Awake_any _).mono ?_
      rintro e w9 ⟨rfl, hb9⟩
      have hw9 : Below w.heap.size w w9 := (by repeat (first | exact Below.refl _ _ | assumption | (refine Below.setCell ?_ (by first | omega | (simp; done) | (simp; omega)) _) | (refine Below.alloc ?_ (by first | omega | (simp; done) | (simp; omega)) _) | refine Below.drew ?_ | (refine below_thru ?_ (by assumption) (by first | omega | (simp; done) | (simp; omega))) | refine below_drewN ?_ _))
      go_wp2
      go_ret
      exact ⟨rfl, hw9⟩

theorem GateBolts_any (g : Ga) (s : Gs) (rs : List Int) (A : Option Addr) (rn rc : Nat) (TA : Option Addr) (tn tc : Nat) (ts : List Gt) (w : World) (hg : g.At w w.heap.size) (hr : Tab w w.heap.size A rn 1 (rs.map fun i => [Value.int .i64 i])) (ht : Tab w w.heap.size TA tn 4 (ts.map Gt.cells)) (hn : tn ≤ maxLen) (_hc : tn ≤ tc) :
    Calls Tryz.prog 6 #[g.v, .agg #[.int .i64 s.pos, .int .i64 s.charge, .bool s.bolted, .slice A rn rc], .slice TA tn tc] w fun e w' => e = .returned (.bool true) ∧ Below w.heap.size w w' := by
  have HB := fun (W : World) (hW : Below w.heap.size w W) => Bolt_any g s true rs A rn rc W (hg.grow hW) (hr.grow hW)
  by_cases hb : (boltF g s true rs rn).2 = 0
  · obtain ⟨hgf, hst, hsb, hv, hwe, hen⟩ := bolt_says hb
    rw [hv] at HB
    have ok := gateF_ok g w _ hg hgf
    have t0 := ok.t0
    have t1 := ok.t1
    have k0 := ok.slack0
    have k1 : g.slack ≤ 5000 := by have := ok.slack1; omega
    have hso : stateB g s = true := by
      cases hx : stateB g s
      · unfold stateR at hst; rw [hx, if_neg (by decide)] at hst; omega
      · rfl
    unfold stateB at hso
    simp only [Bool.and_eq_true, betw, decide_eq_true_eq] at hso
    have hrn : rn = g.sn := by
      apply Classical.byContradiction
      intro hc
      have : whF g rs rn = ⟨0, 0, 2⟩ := (if_pos hgf).trans (if_neg hc)
      rw [this] at hwe
      exact absurd hwe (by decide)
    have HE := fun (W : World) (hW : Below w.heap.size w W) => enough_any g rs A rn rc s.pos W (hg.grow hW) (hr.grow hW) hrn ok hso.1.1 (by omega)
    obtain ⟨sp, sc, sb⟩ := s
    simp only at hsb hv HB HE hso hst hen ⊢
    subst hsb
    cases hk : okP g.ss rs g.sn g.wrong sp
    · rw [hk] at HE
      exact gbolts_no g sp sc A TA rn rc tn tc w HB HE
    · rw [hk] at HE
      obtain ⟨_, hend⟩ := bolt_end hso.1.1 hso.1.2 hwe hen hk
      by_cases h0 : (runFt g ⟨sp, sc, true⟩ tn ts).e = 0
      · have hl : ts.length = tn := by have := ht.1; simpa using this
        have hn2 := (run_ok hg hl h0).2.2.1
        have HR := fun (W : World) (hW : Below w.heap.size w W) => Run_ok g ⟨sp, sc, true⟩ ts TA tn tc W (hg.grow hW) (ht.grow hW) hn h0
        have HO := fun (W : World) (hW : Below w.heap.size w W) => Bolt_any g ⟨sp, sc, true⟩ false [] none 0 0 W (hg.grow hW) ⟨rfl, fun h => absurd h (by omega)⟩
        rw [bolt_off (s := ⟨sp, sc, true⟩) hgf hst] at HO
        have hrows : ∀ k, k < tn → ∃ c : Int, ((runL g ⟨sp, sc, true⟩ ts).map Gs.cells)[k]? = some [.int .i64 sp, .int .i64 c, .bool true] := fun k hk => by
          rw [List.getElem?_map, runL_at g _ (by omega)]
          obtain ⟨h1, h2⟩ := end_bolted (g := g) (ts.take (k + 1)) ⟨sp, sc, true⟩ rfl
          refine ⟨(endF g ⟨sp, sc, true⟩ (ts.take (k + 1))).charge, ?_⟩
          simp only [Option.map_some, Gs.cells, h1, h2]
        by_cases he : sp ≤ g.slack
        · exact gbolts_fine_a g sp sc A TA rn rc tn tc w _ HB HE HR hrows (by omega) HO t0 t1 k0 k1 he
        · exact gbolts_fine_b g sp sc A TA rn rc tn tc w _ HB HE HR hrows (by omega) HO t0 t1 k0 k1 he (by omega)
      · have HR := fun (W : World) (hW : Below w.heap.size w W) => Run_bad g ⟨sp, sc, true⟩ ts TA tn tc W (hg.grow hW) (ht.grow hW) hn h0
        by_cases he : sp ≤ g.slack
        · exact gbolts_bad_a g sp sc A TA rn rc tn tc w _ HB HE HR (by rw [bne_iff_ne]; exact h0) t0 t1 k0 k1 he
        · exact gbolts_bad_b g sp sc A TA rn rc tn tc w _ HB HE HR (by rw [bne_iff_ne]; exact h0) t0 t1 k0 k1 he (by omega)
  · exact gbolts_err g s.pos s.charge s.bolted A TA rn rc tn tc w _ _ _ _ HB (by rw [bne_iff_ne]; exact hb)
end Go.Proofs.YtmhfnnpbnocafaaGreat
