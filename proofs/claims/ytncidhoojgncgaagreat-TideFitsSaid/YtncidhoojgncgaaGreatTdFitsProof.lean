/- 'barragelaw01.TideFits' (row TideFitsSaid): whatever the arguments, the law returns true and leaves them as they were. The walk is TideFits_any; here its row. -/
import Derived.Test.YtncidhoojgncgaaGreatTdFitsLaw
import Derived.Test.YtncidhoojgncgaaGreatTdRow2
import Derived.Test.YtncidhoojgncgaaGreatRows
namespace Go.Proofs.YtncidhoojgncgaaGreat.tideFitsDone
open Go.ChangeShapes Go.WideShapes Go.ChangeAt Go.RowKit
set_option linter.unusedVariables false
set_option linter.unusedSimpArgs false

set_option maxRecDepth 100000 in
theorem lifted (os : Os) (started : os.Started) (H : Type) (enc : TypeId × Value → H) :
    ReturnsInHanded {} Tryz.checked os 9 .any (Rows.tideFitsSpec.pre6 enc Tryz.prog Tryz.f9 Rows.tideFitsRow.domain false) (Rows.tideFitsSpec.post enc Tryz.prog Tryz.f9 false true false false) := by
  refine returnsInHanded_of_change (C := Tryz.checked) own started (by kernel_rfl) Tryz.func9
    (ChangeSpec.witness6 (enc := enc) (C := Tryz.checked) false ⟨#[], #[.agg #[.string ⟨#[]⟩, .int .i64 0, .int .i64 0, .slice none 0 0, .slice none 0 0], .agg #[.int .i64 0, .int .i64 0, .slice none 0 0]], []⟩ 8 (by kernel_rfl) (by kernel_rfl) (by kernel_rfl) (by kernel_rfl)) ?_
  intro W base args ds gs before hval0 hW hcnd _
  have hval : ∀ (j : Nat) t v, Tryz.f9.params[j]? = some t → args[j]? = some v → Value.okWide Tryz.prog W .any base t v := hval0
  have hW' := hW
  have hltW : ∀ p ∈ before, p.block < W.heap.size := fun p hp => hW'.lt p hp
  obtain ⟨p, q, hA0, hV, rfl, hfz, hnd⟩ := hW
  have hA : DataW.TrodAll enc Tryz.prog W 0 (fun _ => true) true Tryz.f9.params.toList args.toList ds p := hA0
  rw [Tryz.params9] at hA hval
  obtain ⟨v0, vs0, d0, ds0, p0, q0, hargs, rfl, rfl, h0, r0⟩ := trodAll_cons hA
  obtain ⟨v1, vs1, d1, ds1, p1, q1, rfl, rfl, rfl, h1, r1⟩ := trodAll_cons r0
  obtain ⟨rfl, rfl, rfl⟩ := trodAll_nil r1
  obtain rfl : args = #[v0, v1] := by cases args; simp_all
  obtain ⟨rfl, rfl⟩ := trodVars_none hV
  have h0k := h0
  have h1k := h1
  obtain ⟨c0, rfl, z0⟩ := okWide_struct uGauge (hval 0 47 v0 rfl rfl)
  obtain ⟨c1, rfl, z1⟩ := okWide_struct uTold (hval 1 62 v1 rfl rfl)
  obtain ⟨m0, t0⟩ := h0
  obtain ⟨m1, t1⟩ := h1
  obtain ⟨g0, hgv0, hm0⟩ := read_gauge t0
  have e0 : (Value.agg c0) = g0.v := by rw [← hgv0]; simp [Value.cells]
  obtain ⟨x1a, x1b, A1, n1, cp1, l1, eq1, hm1⟩ := read_told t1
  have e1 : (Value.agg c1) = .agg #[.int .i64 x1a, .int .i64 x1b, .slice A1 n1 cp1] := by
    have : c1 = (Value.cells (.agg c1)).toList.toArray := by simp [Value.cells]
    rw [this, eq1]
  rw [e0] at hW' h0k ⊢
  rw [e1] at hW' h1k ⊢
  clear hA0 hval0 hval hA
  simp only [List.append_nil] at hW' hltW
  refine (TideFits_any g0 x1a x1b A1 n1 cp1 l1 W hm0 hm1).mono fun e W' ⟨he, hb⟩ => ?_
  subst he
  refine ⟨_, rfl, post_below (pa := p0 ++ p1) (pv := []) hW' (fun _ _ _ => (trodAll_cons_mk (shut_bool Tryz.underlying4 _) trodAll_mk0)) (fun sp hsp => ?_) (fun _ _ => rfl) (by simp) hb (ok_one (by kernel_rfl) rfl (okWide_bool_mk Tryz.underlying4 _))⟩
  have k0 := WideElems.Trod_stays laidOut (by kernel_rfl) (of_decide_eq_true (by kernel_rfl)) h0k (fun x hx => hb.same (hltW x (by simp [hx]))) (fun x hx => hsp x (by simp [hx]))
  have k1 := WideElems.Trod_stays laidOut (by kernel_rfl) (of_decide_eq_true (by kernel_rfl)) h1k (fun x hx => hb.same (hltW x (by simp [hx]))) (fun x hx => hsp x (by simp [hx]))
  have := trodAll_cons_mk k0 (trodAll_cons_mk k1 trodAll_mk0)
  simp only [List.append_nil] at this
  exact this

theorem closed : joinedFacts Tryz.prog 9 Tryz.f9 Rows.tideFitsSpec Rows.tideFitsRow = true := by kernel_rfl
theorem wraps : Tryz.f9.isWrapper Tryz.prog Rows.tideFitsRow.wrapper Rows.tideFitsRow.mainSum := by unfold Func.isWrapper; first | (rw [if_pos (by decide +kernel)]; kernel_rfl) | (rw [if_neg (by decide +kernel)]; exact ⟨rfl, rfl⟩)
theorem over : Rows.tideFitsRow.holds Tryz.pinned (OpenSpec.ofChange Rows.tideFitsSpec) :=
  OpenClaim.holds_of_wide 9 Tryz.f9 rfl rfl rfl rfl rfl rfl rfl ⟨rfl, rfl, rfl, rfl, rfl⟩ rfl rfl rfl rfl rfl (by kernel_rfl) Tryz.func9 closed
    (of_decide_eq_true (by kernel_rfl)) wraps
    (fun os started H enc _ => lifted os started H enc)

/-- The statement. -/
theorem proved : Rows.TideFitsSaid :=
  over
end Go.Proofs.YtncidhoojgncgaaGreat.tideFitsDone
