/- 'barragelaw03.GateChecks' (row GateChecksSaid): whatever the arguments, the law returns true and leaves them as they were. The walk is GateChecks_any; here its row. -/
import Derived.Test.YtgdomaddjiggaaaGreatGtChecksLaw
import Derived.Test.YtgdomaddjiggaaaGreatGtReadS
import Derived.Test.YtgdomaddjiggaaaGreatGtRow
import Derived.Test.YtgdomaddjiggaaaGreatRows
namespace Go.Proofs.YtgdomaddjiggaaaGreat.gateChecksDone
open Go.ChangeShapes Go.WideShapes Go.ChangeAt Go.RowKit
set_option linter.unusedVariables false
set_option linter.unusedSimpArgs false

set_option maxRecDepth 100000 in
theorem lifted (os : Os) (started : os.Started) (H : Type) (enc : TypeId × Value → H) :
    ReturnsInHanded {} Tryz.checked os 3 .any (Rows.gateChecksSpec.pre6 enc Tryz.prog Tryz.f3 Rows.gateChecksRow.domain false) (Rows.gateChecksSpec.post enc Tryz.prog Tryz.f3 false true false false) := by
  refine returnsInHanded_of_change (C := Tryz.checked) own started (by kernel_rfl) Tryz.func3
    (ChangeSpec.witness6 (enc := enc) (C := Tryz.checked) false ⟨#[], #[.agg #[.slice none 0 0, .slice none 0 0]], []⟩ 8 (by kernel_rfl) (by kernel_rfl) (by kernel_rfl) (by kernel_rfl)) ?_
  intro W base args ds gs before hval0 hW hcnd _
  have hval : ∀ (j : Nat) t v, Tryz.f3.params[j]? = some t → args[j]? = some v → Value.okWide Tryz.prog W .any base t v := hval0
  have hW' := hW
  have hltW : ∀ p ∈ before, p.block < W.heap.size := fun p hp => hW'.lt p hp
  obtain ⟨p, q, hA0, hV, rfl, hfz, hnd⟩ := hW
  have hA : DataW.TrodAll enc Tryz.prog W 0 (fun _ => true) true Tryz.f3.params.toList args.toList ds p := hA0
  rw [Tryz.params3] at hA hval
  obtain ⟨v0, vs0, d0, ds0, p0, q0, hargs, rfl, rfl, h0, r0⟩ := trodAll_cons hA
  obtain ⟨rfl, rfl, rfl⟩ := trodAll_nil r0
  obtain rfl : args = #[v0] := by cases args; simp_all
  obtain ⟨rfl, rfl⟩ := trodVars_none hV
  have h0k := h0
  obtain ⟨c0, rfl, z0⟩ := okWide_struct uSetS (hval 0 25 v0 rfl rfl)
  obtain ⟨m0, t0⟩ := h0
  obtain ⟨l0, eq0, hm0⟩ := read_set t0
  have e0 : (Value.agg c0) = l0.v := by
    have : c0 = (Value.cells (.agg c0)).toList.toArray := by simp [Value.cells]
    rw [this, eq0]
  rw [e0] at hW' h0k ⊢
  clear hA0 hval0 hval hA
  simp only [List.append_nil] at hW' hltW
  refine (GateChecks_any l0 W hm0).mono fun e W' ⟨he, hb⟩ => ?_
  subst he
  refine ⟨_, rfl, post_below (pa := p0) (pv := []) hW' (fun _ _ _ => (trodAll_cons_mk (shut_bool Tryz.underlying4 _) trodAll_mk0)) (fun sp hsp => ?_) (fun _ _ => rfl) (by simp) hb (ok_one (by kernel_rfl) rfl (okWide_bool_mk Tryz.underlying4 _))⟩
  have k0 := WideElems.Trod_stays laidOut (by kernel_rfl) (of_decide_eq_true (by kernel_rfl)) h0k (fun x hx => hb.same (hltW x (by simp [hx]))) (fun x hx => hsp x (by simp [hx]))
  have := trodAll_cons_mk k0 trodAll_mk0
  simp only [List.append_nil] at this
  exact this

theorem closed : joinedFacts Tryz.prog 3 Tryz.f3 Rows.gateChecksSpec Rows.gateChecksRow = true := by kernel_rfl
theorem wraps : Tryz.f3.isWrapper Tryz.prog Rows.gateChecksRow.wrapper Rows.gateChecksRow.mainSum := by unfold Func.isWrapper; first | (rw [if_pos (by decide +kernel)]; kernel_rfl) | (rw [if_neg (by decide +kernel)]; exact ⟨rfl, rfl⟩)
theorem over : Rows.gateChecksRow.holds Tryz.pinned (OpenSpec.ofChange Rows.gateChecksSpec) :=
  OpenClaim.holds_of_wide 3 Tryz.f3 rfl rfl rfl rfl rfl rfl rfl ⟨rfl, rfl, rfl, rfl, rfl⟩ rfl rfl rfl rfl rfl (by kernel_rfl) Tryz.func3 closed
    (of_decide_eq_true (by kernel_rfl)) wraps
    (fun os started H enc _ => lifted os started H enc)

/-- The statement. -/
theorem proved : Rows.GateChecksSaid :=
  over
end Go.Proofs.YtgdomaddjiggaaaGreat.gateChecksDone
