/- The reference's Where, Sure, Bolt. -/
import Derived.Test.YtmhfnnpbnocafaaGreatGtWhereR
import Derived.Test.YtmhfnnpbnocafaaGreatGtWhereD
import Derived.Test.YtmhfnnpbnocafaaGreatGtRefG
namespace Go.Proofs.YtmhfnnpbnocafaaGreat
open Go.RowKit
set_option linter.unusedSimpArgs false
set_option linter.unusedVariables false

set_option maxRecDepth 100000 in
set_option maxHeartbeats 4000000 in
theorem rWhere_any (g : Ga) (rs : List Int) (rA : Option Addr) (rn rc : Nat) (w : World) (hg : g.At w w.heap.size) (hr : Tab w w.heap.size rA rn 1 (rs.map fun i => [Value.int .i64 i])) :
    Calls Tryz.prog 9 #[g.v, .slice rA rn rc] w fun e w' => e = .returned (whF g rs rn).v ∧ Below w.heap.size w w' := by
  have Hg := Lib.hid hg
  have HF : Hid (∀ W, Below w.heap.size w W → Calls Tryz.prog 28 #[g.v] W fun e w' => e = .returned (.tuple #[.int .i64 (gateF g).part, .int .i64 (gateF g).at_, .int .i64 (gateF g).e]) ∧ Below W.heap.size W w') := fun (W : World) (hW : Below w.heap.size w W) => rCheck_any g W (hg.grow hW)
  by_cases hf : (gateF g).e = 0
  · have hfe : ((gateF g).e != 0) = false := by rw [bne_eq_false_iff_eq]; exact hf
    have hfq : ((gateF g).e == 0) = true := by rw [beq_iff_eq]; exact hf
    have hok := gateF_ok g w _ hg hf
    by_cases hn : rn = g.sn
    · have hv : whF g rs rn = spanF (posL g rs) := (if_pos hf).trans (if_pos hn)
      have HW := Lib.hid (fun (W : World) (hW : Below w.heap.size w W) => rwhere_any g rs rA rn rc W (hg.grow hW) (hr.grow hW) hn hok)
      have hne : ((rn : Int) != (g.sn : Int)) = false := by rw [bne_eq_false_iff_eq]; omega
      have hne' : ((rn : Int) == (g.sn : Int)) = true := by rw [beq_iff_eq]; omega
      rw [hv, spanF_R]
      generalize posL g rs = xs at *
      have HW : Hid (∀ W, Below w.heap.size w W → Calls Tryz.prog 29 #[g.v, .slice rA rn rc] W fun e w' => e = .returned (.tuple #[.agg #[.int .i64 (loR xs), .int .i64 (hiR xs)], .bool (someR xs)]) ∧ Below W.heap.size W w') := HW.out
      generalize loR xs = lo at *
      generalize hiR xs = hi at *
      generalize someR xs = sm at *
      generalize gateF g = F at *
      obtain ⟨Fp, Fa, Fe⟩ := F
      clear hg hr hok hv hn
      simp only at hf
      subst hf
      cases sm
      all_goals
        go_enter Tryz.func9, Tryz.ntmps9
        go_wp2_with (with_reducible refine wpl_g (g := g) ((Blk.new w _ _).alloc _) rfl rfl rfl ?_)
        refine (HF.out _ (by repeat (first | exact Below.refl _ _ | assumption | (refine Below.setCell ?_ (by first | omega | (simp; done) | (simp; omega)) _) | (refine Below.alloc ?_ (by first | omega | (simp; done) | (simp; omega)) _) | refine Below.drew ?_ | (refine below_thru ?_ (by assumption) (by first | omega | (simp; done) | (simp; omega))) | refine below_drewN ?_ _))).mono ?_
        rintro e w1 ⟨rfl, hb1⟩
        obtain ⟨hc1, hf1⟩ := bcell hb1; have hz1 := hb1.size; (try simp at hz1)
        have hB1 : Blk w1 w.heap.size 25 (grow g) := Blk.thru (by (repeat (first | assumption | exact Blk.new _ _ _ | (refine Blk.new' _ _ _ ?_; (simp; done)) | refine Blk.drew ?_ | refine Blk.alloc ?_ _ | (refine Blk.fars ?_ ?_ _ _; rotate_left; (dsimp only; omega)) | (refine Blk.far ?_ ?_ _; rotate_left; (first | (dsimp only; omega) | (simp; done) | (simp; omega) | omega))))) hb1 (by simp <;> omega)
        have hR1 : Blk w1 (w.heap.size + 1) 31 #[.int .i64 0, .int .i64 0] := Blk.thru (by (repeat (first | assumption | exact Blk.new _ _ _ | (refine Blk.new' _ _ _ ?_; (simp; done)) | refine Blk.drew ?_ | refine Blk.alloc ?_ _ | (refine Blk.fars ?_ ?_ _ _; rotate_left; (dsimp only; omega)) | (refine Blk.far ?_ ?_ _; rotate_left; (first | (dsimp only; omega) | (simp; done) | (simp; omega) | omega))))) hb1 (by simp <;> omega)
        have g19 := hB1.cell 19
        simp only [grow, List.getElem?_toArray, List.getElem?_cons_zero, List.getElem?_cons_succ] at g19
        have hl1 : w.heap.size + 1 < w1.heap.size := by omega
        have hl0 : w.heap.size < w1.heap.size := by omega
        clear hc1 hf1
        go_wp2_with (with_reducible refine wpl_g (g := g) (b := w.heap.size) (t := 25) (by (repeat (first | assumption | exact Blk.new _ _ _ | (refine Blk.new' _ _ _ ?_; (simp; done)) | refine Blk.drew ?_ | refine Blk.alloc ?_ _ | (refine Blk.fars ?_ ?_ _ _; rotate_left; (dsimp only; omega)) | (refine Blk.far ?_ ?_ _; rotate_left; (first | (dsimp only; omega) | (simp; done) | (simp; omega) | omega))))) rfl rfl rfl ?_)
        refine (HW.out _ (by repeat (first | exact Below.refl _ _ | assumption | (refine Below.setCell ?_ (by first | omega | (simp; done) | (simp; omega)) _) | (refine Below.alloc ?_ (by first | omega | (simp; done) | (simp; omega)) _) | refine Below.drew ?_ | (refine below_thru ?_ (by assumption) (by first | omega | (simp; done) | (simp; omega))) | refine below_drewN ?_ _))).mono ?_
        rintro e w2 ⟨rfl, hb2⟩
        have hR2 : Blk w2 (w.heap.size + 1) 31 #[.int .i64 0, .int .i64 0] := Blk.thru (by (repeat (first | assumption | exact Blk.new _ _ _ | (refine Blk.new' _ _ _ ?_; (simp; done)) | refine Blk.drew ?_ | refine Blk.alloc ?_ _ | (refine Blk.fars ?_ ?_ _ _; rotate_left; (dsimp only; omega)) | (refine Blk.far ?_ ?_ _; rotate_left; (first | (dsimp only; omega) | (simp; done) | (simp; omega) | omega))))) hb2 (by first | omega | (simp; omega))
        obtain ⟨r0, r1, x0, x1⟩ := hR2.two
        have hz2 := hb2.size
        (try simp at hz2)
        have hl2 : w.heap.size + 1 < w2.heap.size := by omega
        have hl3 : w.heap.size < w2.heap.size := by omega
        clear hR1 hB1 g19
        go_wp2
      · exact bodyPost_ret (v := .tuple #[.agg #[.int .i64 0, .int .i64 0], .int .i64 9]) (by simp [results, Tryz.results9, go_sem, r0, r1, hl2] <;> omega) rfl ⟨rfl, (by repeat (first | exact Below.refl _ _ | assumption | (refine Below.setCell ?_ (by first | omega | (simp; done) | (simp; omega)) _) | (refine Below.alloc ?_ (by first | omega | (simp; done) | (simp; omega)) _) | refine Below.drew ?_ | (refine below_thru ?_ (by assumption) (by first | omega | (simp; done) | (simp; omega))) | refine below_drewN ?_ _))⟩
      · exact bodyPost_ret (v := .tuple #[.agg #[.int .i64 lo, .int .i64 hi], .int .i64 0]) (by simp [results, Tryz.results9, go_sem, r0, r1, hl2] <;> omega) rfl ⟨rfl, (by repeat (first | exact Below.refl _ _ | assumption | (refine Below.setCell ?_ (by first | omega | (simp; done) | (simp; omega)) _) | (refine Below.alloc ?_ (by first | omega | (simp; done) | (simp; omega)) _) | refine Below.drew ?_ | (refine below_thru ?_ (by assumption) (by first | omega | (simp; done) | (simp; omega))) | refine below_drewN ?_ _))⟩
    · have hv : whF g rs rn = ⟨0, 0, 2⟩ := (if_pos hf).trans (if_neg hn)
      have hne : ((rn : Int) != (g.sn : Int)) = true := by rw [bne_iff_ne]; omega
      have hne' : ((rn : Int) == (g.sn : Int)) = false := by rw [beq_eq_false_iff_ne]; omega
      rw [hv]
      generalize gateF g = F at *
      obtain ⟨Fp, Fa, Fe⟩ := F
      clear hg hr hok hv hn
      simp only at hf
      subst hf
      go_enter Tryz.func9, Tryz.ntmps9
      go_wp2_with (with_reducible refine wpl_g (g := g) ((Blk.new w _ _).alloc _) rfl rfl rfl ?_)
      refine (HF.out _ (by repeat (first | exact Below.refl _ _ | assumption | (refine Below.setCell ?_ (by first | omega | (simp; done) | (simp; omega)) _) | (refine Below.alloc ?_ (by first | omega | (simp; done) | (simp; omega)) _) | refine Below.drew ?_ | (refine below_thru ?_ (by assumption) (by first | omega | (simp; done) | (simp; omega))) | refine below_drewN ?_ _))).mono ?_
      rintro e w1 ⟨rfl, hb1⟩
      obtain ⟨hc1, hf1⟩ := bcell hb1; have hz1 := hb1.size; (try simp at hz1)
      have hB1 : Blk w1 w.heap.size 25 (grow g) := Blk.thru (by (repeat (first | assumption | exact Blk.new _ _ _ | (refine Blk.new' _ _ _ ?_; (simp; done)) | refine Blk.drew ?_ | refine Blk.alloc ?_ _ | (refine Blk.fars ?_ ?_ _ _; rotate_left; (dsimp only; omega)) | (refine Blk.far ?_ ?_ _; rotate_left; (first | (dsimp only; omega) | (simp; done) | (simp; omega) | omega))))) hb1 (by simp <;> omega)
      have hR1 : Blk w1 (w.heap.size + 1) 31 #[.int .i64 0, .int .i64 0] := Blk.thru (by (repeat (first | assumption | exact Blk.new _ _ _ | (refine Blk.new' _ _ _ ?_; (simp; done)) | refine Blk.drew ?_ | refine Blk.alloc ?_ _ | (refine Blk.fars ?_ ?_ _ _; rotate_left; (dsimp only; omega)) | (refine Blk.far ?_ ?_ _; rotate_left; (first | (dsimp only; omega) | (simp; done) | (simp; omega) | omega))))) hb1 (by simp <;> omega)
      obtain ⟨r0, r1, x0, x1⟩ := hR1.two
      have g19 := hB1.cell 19
      simp only [grow, List.getElem?_toArray, List.getElem?_cons_zero, List.getElem?_cons_succ] at g19
      have hl1 : w.heap.size + 1 < w1.heap.size := by omega
      have hl0 : w.heap.size < w1.heap.size := by omega
      clear hc1 hf1 hB1 hR1
      go_wp2
      exact bodyPost_ret (v := .tuple #[.agg #[.int .i64 0, .int .i64 0], .int .i64 2]) (by simp [results, Tryz.results9, go_sem, r0, r1, hl1] <;> omega) rfl ⟨rfl, (by repeat (first | exact Below.refl _ _ | assumption | (refine Below.setCell ?_ (by first | omega | (simp; done) | (simp; omega)) _) | (refine Below.alloc ?_ (by first | omega | (simp; done) | (simp; omega)) _) | refine Below.drew ?_ | (refine below_thru ?_ (by assumption) (by first | omega | (simp; done) | (simp; omega))) | refine below_drewN ?_ _))⟩
  · have hfe : ((gateF g).e != 0) = true := by rw [bne_iff_ne]; exact hf
    have hfq : ((gateF g).e == 0) = false := by rw [beq_eq_false_iff_ne]; exact hf
    have hv : whF g rs rn = ⟨0, 0, (gateF g).e⟩ := if_neg hf
    rw [hv]
    generalize gateF g = F at *
    obtain ⟨Fp, Fa, Fe⟩ := F
    clear hg hr hf hv
    go_enter Tryz.func9, Tryz.ntmps9
    go_wp2_with (with_reducible refine wpl_g (g := g) ((Blk.new w _ _).alloc _) rfl rfl rfl ?_)
    refine (HF.out _ (by repeat (first | exact Below.refl _ _ | assumption | (refine Below.setCell ?_ (by first | omega | (simp; done) | (simp; omega)) _) | (refine Below.alloc ?_ (by first | omega | (simp; done) | (simp; omega)) _) | refine Below.drew ?_ | (refine below_thru ?_ (by assumption) (by first | omega | (simp; done) | (simp; omega))) | refine below_drewN ?_ _))).mono ?_
    rintro e w1 ⟨rfl, hb1⟩
    obtain ⟨hc1, hf1⟩ := bcell hb1; have hz1 := hb1.size; (try simp at hz1)
    have hR1 : Blk w1 (w.heap.size + 1) 31 #[.int .i64 0, .int .i64 0] := Blk.thru (by (repeat (first | assumption | exact Blk.new _ _ _ | (refine Blk.new' _ _ _ ?_; (simp; done)) | refine Blk.drew ?_ | refine Blk.alloc ?_ _ | (refine Blk.fars ?_ ?_ _ _; rotate_left; (dsimp only; omega)) | (refine Blk.far ?_ ?_ _; rotate_left; (first | (dsimp only; omega) | (simp; done) | (simp; omega) | omega))))) hb1 (by simp <;> omega)
    obtain ⟨r0, r1, x0, x1⟩ := hR1.two
    have hl1 : w.heap.size + 1 < w1.heap.size := by omega
    have hl0 : w.heap.size < w1.heap.size := by omega
    clear hc1 hf1 hR1
    go_wp2
    exact bodyPost_ret (v := .tuple #[.agg #[.int .i64 0, .int .i64 0], .int .i64 Fe]) (by simp [results, Tryz.results9, go_sem, r0, r1, hl1] <;> omega) rfl ⟨rfl, (by repeat (first | exact Below.refl _ _ | assumption | (refine Below.setCell ?_ (by first | omega | (simp; done) | (simp; omega)) _) | (refine Below.alloc ?_ (by first | omega | (simp; done) | (simp; omega)) _) | refine Below.drew ?_ | (refine below_thru ?_ (by assumption) (by first | omega | (simp; done) | (simp; omega))) | refine below_drewN ?_ _))⟩

set_option maxRecDepth 100000 in
set_option maxHeartbeats 4000000 in
theorem rSure_any (g : Ga) (rs : List Int) (rA : Option Addr) (rn rc : Nat) (w : World) (hg : g.At w w.heap.size) (hr : Tab w w.heap.size rA rn 1 (rs.map fun i => [Value.int .i64 i])) :
    Calls Tryz.prog 11 #[g.v, .slice rA rn rc] w fun e w' => e = .returned (.tuple #[.int .i64 (sureF g rs rn).1, .int .i64 (sureF g rs rn).2]) ∧ Below w.heap.size w w' := by
  have HW := Lib.hid (fun (W : World) (hW : Below w.heap.size w W) => rWhere_any g rs rA rn rc W (hg.grow hW) (hr.grow hW))
  by_cases h : (whF g rs rn).e = 0
  · have hok := gateF_ok g w _ hg (wh_ok h)
    have hv : sureF g rs rn = (endR g (whF g rs rn).lo (whF g rs rn).hi, 0) := if_pos h
    have t0 := hok.t0
    have t1 := hok.t1
    have k0 := hok.slack0
    have k1 : g.slack ≤ 5000 := by have := hok.slack1; omega
    rw [hv]
    have hfe : ((whF g rs rn).e != 0) = false := by rw [bne_eq_false_iff_eq]; exact h
    generalize whF g rs rn = wh at *
    obtain ⟨lo, hi, we⟩ := wh
    clear hok hv hg hr
    simp only at h
    subst h
    have hw : ∃ c : Int, endR g lo hi = c ∧ ((hi ≤ g.slack ∧ c = 1) ∨ (¬ hi ≤ g.slack ∧ g.travel - g.slack ≤ lo ∧ c = 2) ∨ (¬ hi ≤ g.slack ∧ ¬ g.travel - g.slack ≤ lo ∧ c = 0)) := by
      by_cases a : hi ≤ g.slack
      · exact ⟨1, if_pos a, .inl ⟨a, rfl⟩⟩
      · by_cases b : g.travel - g.slack ≤ lo
        · exact ⟨2, (if_neg a).trans (if_pos b), .inr (.inl ⟨a, b, rfl⟩)⟩
        · exact ⟨0, (if_neg a).trans (if_neg b), .inr (.inr ⟨a, b, rfl⟩)⟩
    obtain ⟨c, hc, hways⟩ := hw
    dsimp only
    rw [hc]
    clear hc
    rcases hways with ⟨a, rfl⟩ | ⟨a, b, rfl⟩ | ⟨a, b, rfl⟩
    case' inl => have hx : Hid (1 = 1) := rfl
    case' inr.inl => have hx : Hid (2 = 2) := rfl
    case' inr.inr => have hx : Hid (3 = 3) := rfl
    all_goals
      go_enter Tryz.func11, Tryz.ntmps11
      go_wp2_with (with_reducible refine wpl_g (g := g) (Blk.new w _ _) rfl rfl rfl ?_)
      refine (HW.out _ (by repeat (first | exact Below.refl _ _ | assumption | (refine Below.setCell ?_ (by first | omega | (simp; done) | (simp; omega)) _) | (refine Below.alloc ?_ (by first | omega | (simp; done) | (simp; omega)) _) | refine Below.drew ?_ | (refine below_thru ?_ (by assumption) (by first | omega | (simp; done) | (simp; omega))) | refine below_drewN ?_ _))).mono ?_
      rintro e w1 ⟨rfl, hb1⟩
      obtain ⟨hc1, hf1⟩ := bcell hb1; have hz1 := hb1.size; (try simp at hz1)
      have hB1 : Blk w1 w.heap.size 25 (grow g) := Blk.thru (by (repeat (first | assumption | exact Blk.new _ _ _ | (refine Blk.new' _ _ _ ?_; (simp; done)) | refine Blk.drew ?_ | refine Blk.alloc ?_ _ | (refine Blk.fars ?_ ?_ _ _; rotate_left; (dsimp only; omega)) | (refine Blk.far ?_ ?_ _; rotate_left; (first | (dsimp only; omega) | (simp; done) | (simp; omega) | omega))))) hb1 (by simp <;> omega)
      have hl0 : w.heap.size < w1.heap.size := by omega
      have g2 := hB1.cell 2
      have g18 := hB1.cell 18
      simp only [grow, List.getElem?_toArray, List.getElem?_cons_zero, List.getElem?_cons_succ] at g2 g18
      clear hc1 hf1 hB1
      go_wp2
      first
        | exact bodyPost_ret (v := .tuple #[.int .i64 1, .int .i64 0]) (by simp [results, Tryz.results11, go_sem] <;> omega) rfl ⟨rfl, (by repeat (first | exact Below.refl _ _ | assumption | (refine Below.setCell ?_ (by first | omega | (simp; done) | (simp; omega)) _) | (refine Below.alloc ?_ (by first | omega | (simp; done) | (simp; omega)) _) | refine Below.drew ?_ | (refine below_thru ?_ (by assumption) (by first | omega | (simp; done) | (simp; omega))) | refine below_drewN ?_ _))⟩
        | exact bodyPost_ret (v := .tuple #[.int .i64 2, .int .i64 0]) (by simp [results, Tryz.results11, go_sem] <;> omega) rfl ⟨rfl, (by repeat (first | exact Below.refl _ _ | assumption | (refine Below.setCell ?_ (by first | omega | (simp; done) | (simp; omega)) _) | (refine Below.alloc ?_ (by first | omega | (simp; done) | (simp; omega)) _) | refine Below.drew ?_ | (refine below_thru ?_ (by assumption) (by first | omega | (simp; done) | (simp; omega))) | refine below_drewN ?_ _))⟩
        | exact bodyPost_ret (v := .tuple #[.int .i64 0, .int .i64 0]) (by simp [results, Tryz.results11, go_sem] <;> omega) rfl ⟨rfl, (by repeat (first | exact Below.refl _ _ | assumption | (refine Below.setCell ?_ (by first | omega | (simp; done) | (simp; omega)) _) | (refine Below.alloc ?_ (by first | omega | (simp; done) | (simp; omega)) _) | refine Below.drew ?_ | (refine below_thru ?_ (by assumption) (by first | omega | (simp; done) | (simp; omega))) | refine below_drewN ?_ _))⟩
  · have hv : sureF g rs rn = (0, (whF g rs rn).e) := if_neg h
    rw [hv]
    have hfe : ((whF g rs rn).e != 0) = true := by rw [bne_iff_ne]; exact h
    generalize whF g rs rn = wh at *
    obtain ⟨lo, hi, we⟩ := wh
    clear hv hg hr h
    go_enter Tryz.func11, Tryz.ntmps11
    go_wp2_with (with_reducible refine wpl_g (g := g) (Blk.new w _ _) rfl rfl rfl ?_)
    refine (HW.out _ (by repeat (first | exact Below.refl _ _ | assumption | (refine Below.setCell ?_ (by first | omega | (simp; done) | (simp; omega)) _) | (refine Below.alloc ?_ (by first | omega | (simp; done) | (simp; omega)) _) | refine Below.drew ?_ | (refine below_thru ?_ (by assumption) (by first | omega | (simp; done) | (simp; omega))) | refine below_drewN ?_ _))).mono ?_
    rintro e w1 ⟨rfl, hb1⟩
    obtain ⟨hc1, hf1⟩ := bcell hb1; have hz1 := hb1.size; (try simp at hz1)
    go_wp2
    exact bodyPost_ret (v := .tuple #[.int .i64 0, .int .i64 we]) (by simp [results, Tryz.results11, go_sem] <;> omega) rfl ⟨rfl, (by repeat (first | exact Below.refl _ _ | assumption | (refine Below.setCell ?_ (by first | omega | (simp; done) | (simp; omega)) _) | (refine Below.alloc ?_ (by first | omega | (simp; done) | (simp; omega)) _) | refine Below.drew ?_ | (refine below_thru ?_ (by assumption) (by first | omega | (simp; done) | (simp; omega))) | refine below_drewN ?_ _))⟩
end Go.Proofs.YtmhfnnpbnocafaaGreat
