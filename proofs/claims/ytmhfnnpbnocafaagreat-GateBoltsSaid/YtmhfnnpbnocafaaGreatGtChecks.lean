/- Check and CheckSet. -/
import Derived.Test.YtmhfnnpbnocafaaGreatGtSetOf
import Derived.Test.YtmhfnnpbnocafaaGreatGtRefC
namespace Go.Proofs.YtmhfnnpbnocafaaGreat
open Go.RowKit
set_option linter.unusedSimpArgs false
set_option linter.unusedVariables false

set_option maxRecDepth 100000 in
set_option maxHeartbeats 2000000 in
theorem Check_any (g : Ga) (w : World) (hg : g.At w w.heap.size) :
    Calls Tryz.prog 23 #[g.v] w fun e w' => e = .returned (tri (gateF g).part (gateF g).at_ (gateF g).e) ∧ Below w.heap.size w w' := by
  have Hg := Lib.hid hg
  have HF := Lib.hid (fun W h => gateFault_any g W h)
  obtain ⟨fp, fa, ge, hfl⟩ : ∃ fp fa ge, gateF g = ⟨fp, fa, ge⟩ := ⟨_, _, _, rfl⟩
  rw [hfl] at HF ⊢
  clear hg hfl
  go_enter Tryz.func23, Tryz.ntmps23
  go_wp2_with (with_reducible refine wpl_g (g := g) (Blk.new w _ _) rfl rfl rfl ?_)
  refine (HF.out _ (Hg.out.grow (by repeat (first | exact Below.refl _ _ | assumption | (refine Below.setCell ?_ (by first | omega | (simp; done) | (simp; omega)) _) | (refine Below.alloc ?_ (by first | omega | (simp; done) | (simp; omega)) _) | refine Below.drew ?_ | (refine below_thru ?_ (by assumption) (by first | omega | (simp; done) | (simp; omega))) | refine below_drewN ?_ _)))).mono ?_
  rintro e w1 ⟨rfl, hb1⟩
  obtain ⟨hc1, hf1⟩ := bcell hb1; have hz1 := hb1.size; (try simp at hz1)
  go_wp2_with fail
  go_quiet (fail)
  go_wp2
  go_ret3
  exact ⟨rfl, (by repeat (first | exact Below.refl _ _ | assumption | (refine Below.setCell ?_ (by first | omega | (simp; done) | (simp; omega)) _) | (refine Below.alloc ?_ (by first | omega | (simp; done) | (simp; omega)) _) | refine Below.drew ?_ | (refine below_thru ?_ (by assumption) (by first | omega | (simp; done) | (simp; omega))) | refine below_drewN ?_ _))⟩
theorem member_e (gs : List Ga) (k : Nat) : (memberFt gs k).e = if (gateF (gAt gs k)).e = 0 then (if twiceB gs k = true then 5 else 0) else (gateF (gAt gs k)).e := by
  unfold memberFt
  by_cases h : (gateF (gAt gs k)).e = 0
  · cases h1 : twiceB gs k <;> simp [firstF, need, h]
  · simp [firstF, h]
theorem twice_no {gs : List Ga} {k : Nat} (h : ∀ q, q < k → ((gAt gs q).name.toList == (gAt gs k).name.toList) = false) : twiceB gs k = false := by
  unfold twiceB
  rw [List.any_eq_false]
  intro q hq
  have := h q (List.mem_range.1 hq)
  simpa using this
theorem twice_yes {gs : List Ga} {k q : Nat} (hq : q < k) (h : ((gAt gs q).name.toList == (gAt gs k).name.toList) = true) : twiceB gs k = true := by
  unfold twiceB
  rw [List.any_eq_true]
  exact ⟨q, List.mem_range.2 hq, h⟩
section
variable {l : St}
theorem setF_a (h : betw l.gn 1 6 = false) : setFt l = ⟨1, 0, 3⟩ := by simp [setFt, setL, firstF, need, Ft.in_, h]
theorem setF_b (h : betw l.gn 1 6 = true) {k : Nat} (hk : k < l.gn) (h0 : ∀ j, j < k → (memberFt l.gs j).e = 0) (hb : (memberFt l.gs k).e ≠ 0) : setFt l = ⟨1, k, (memberFt l.gs k).e⟩ := by
  unfold setFt setL
  rw [each_at _ l.gn k hk h0 hb]
  simp [firstF, need, Ft.in_, h, hb]
theorem setF_c (h : betw l.gn 1 6 = true) (h0 : ∀ j, j < l.gn → (memberFt l.gs j).e = 0) (h2 : ¬ (l.rn : Int) ≤ 12) : setFt l = ⟨2, 0, 3⟩ := by
  unfold setFt setL
  rw [each_none _ l.gn h0]
  simp [firstF, need, Ft.in_, h, h2]
theorem setF_d (h : betw l.gn 1 6 = true) (h0 : ∀ j, j < l.gn → (memberFt l.gs j).e = 0) (h2 : (l.rn : Int) ≤ 12) {k : Nat} (hk : k < l.rn) (h3 : ∀ j, j < k → (ruleFt l.gn (rAt l j)).e = 0) (hb : (ruleFt l.gn (rAt l k)).e ≠ 0) : setFt l = ⟨2, k, (ruleFt l.gn (rAt l k)).e⟩ := by
  unfold setFt setL
  rw [each_none _ l.gn h0, each_at _ l.rn k hk h3 hb]
  simp [firstF, need, Ft.in_, h, h2, hb]
theorem setF_e (h : betw l.gn 1 6 = true) (h0 : ∀ j, j < l.gn → (memberFt l.gs j).e = 0) (h2 : (l.rn : Int) ≤ 12) (h3 : ∀ j, j < l.rn → (ruleFt l.gn (rAt l j)).e = 0) : setFt l = ⟨0, 0, 0⟩ := by
  unfold setFt setL
  rw [each_none _ l.gn h0, each_none _ l.rn h3]
  simp [firstF, need, Ft.in_, h, h2]
end
theorem rule_e (n : Nat) (r : Gr) : (ruleFt n r).e = if (betw r.gate 0 ((n : Int) - 1) && betw r.other 0 ((n : Int) - 1)) = true then (if r.gate = r.other then 2 else if (betw r.lo 0 5000 && betw r.hi r.lo 5000) = true then 0 else 7) else 4 := by
  have hc : ruleC r = (betw r.lo 0 5000 && betw r.hi r.lo 5000) := by
    unfold ruleC betw
    rw [Bool.eq_iff_iff]
    simp only [Bool.and_eq_true, decide_eq_true_eq]
    omega
  unfold ruleFt
  rw [hc]
  unfold ruleA ruleB
  cases h1 : (betw r.gate 0 ((n : Int) - 1) && betw r.other 0 ((n : Int) - 1))
  · simp [firstF, need]
  · by_cases h2 : r.gate = r.other
    · simp [firstF, need, h2]
    · cases h3 : (betw r.lo 0 5000 && betw r.hi r.lo 5000) <;> simp [firstF, need, h2]

end Go.Proofs.YtmhfnnpbnocafaaGreat
