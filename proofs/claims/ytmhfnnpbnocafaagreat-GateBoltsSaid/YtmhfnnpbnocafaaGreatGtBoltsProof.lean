/- 'barragelaw03.GateBolts' (row GateBoltsSaid): whatever the arguments, the law returns true and leaves them as they were. The walk is GateBolts_any; here its row. -/
import Derived.Test.YtmhfnnpbnocafaaGreatGtBoltsLaw
import Derived.Test.YtmhfnnpbnocafaaGreatGtReadS
import Derived.Test.YtmhfnnpbnocafaaGreatGtReadW
import Derived.Test.YtmhfnnpbnocafaaGreatGtRow
import Derived.Test.YtmhfnnpbnocafaaGreatRows
namespace Go.Proofs.YtmhfnnpbnocafaaGreat.gateBoltsDone
open Go.ChangeShapes Go.WideShapes Go.ChangeAt Go.RowKit
set_option linter.unusedVariables false
set_option linter.unusedSimpArgs false

set_option maxRecDepth 100000 in
theorem lifted (os : Os) (started : os.Started) (H : Type) (enc : TypeId × Value → H) :
    ReturnsInHanded {} Tryz.checked os 6 .any (Rows.gateBoltsSpec.pre6 enc Tryz.prog Tryz.f6 Rows.gateBoltsRow.domain false) (Rows.gateBoltsSpec.post enc Tryz.prog Tryz.f6 false true false false) := by
  refine returnsInHanded_of_change (C := Tryz.checked) own started (by kernel_rfl) Tryz.func6
    (ChangeSpec.witness6 (enc := enc) (C := Tryz.checked) false ⟨#[], #[.agg #[.string ⟨#[]⟩, .int .i64 0, .int .i64 0, .slice none 0 0, .int .i64 0, .int .i64 0, .int .i64 0, .int .i64 0, .int .i64 0, .int .i64 0, .int .i64 0, .int .i64 0, .int .i64 0, .int .i64 0, .int .i64 0, .int .i64 0, .int .i64 0, .int .i64 0, .int .i64 0, .slice none 0 0, .int .i64 0], .agg #[.int .i64 0, .int .i64 0, .bool false, .slice none 0 0], .slice none 0 0], []⟩ 8 (by kernel_rfl) (by kernel_rfl) (by kernel_rfl) (by kernel_rfl)) ?_
  intro W base args ds gs before hval0 hW hcnd _
  have hval : ∀ (j : Nat) t v, Tryz.f6.params[j]? = some t → args[j]? = some v → Value.okWide Tryz.prog W .any base t v := hval0
  have hW' := hW
  have hltW : ∀ p ∈ before, p.block < W.heap.size := fun p hp => hW'.lt p hp
  obtain ⟨p, q, hA0, hV, rfl, hfz, hnd⟩ := hW
  have hA : DataW.TrodAll enc Tryz.prog W 0 (fun _ => true) true Tryz.f6.params.toList args.toList ds p := hA0
  rw [Tryz.params6] at hA hval
  obtain ⟨v0, vs0, d0, ds0, p0, q0, hargs, rfl, rfl, h0, r0⟩ := trodAll_cons hA
  obtain ⟨v1, vs1, d1, ds1, p1, q1, rfl, rfl, rfl, h1, r1⟩ := trodAll_cons r0
  obtain ⟨v2, vs2, d2, ds2, p2, q2, rfl, rfl, rfl, h2, r2⟩ := trodAll_cons r1
  obtain ⟨rfl, rfl, rfl⟩ := trodAll_nil r2
  obtain rfl : args = #[v0, v1, v2] := by cases args; simp_all
  obtain ⟨rfl, rfl⟩ := trodVars_none hV
  have h0k := h0
  have h1k := h1
  have h2k := h2
  obtain ⟨c0, rfl, z0⟩ := okWide_struct uGateS (hval 0 25 v0 rfl rfl)
  obtain ⟨c1, rfl, z1⟩ := okWide_struct uBolts (hval 1 70 v1 rfl rfl)
  obtain ⟨A2, n2, cp2, rfl⟩ := okWide_slice uStepsL (hval 2 63 v2 rfl rfl)
  obtain ⟨m0, t0⟩ := h0
  obtain ⟨m1, t1⟩ := h1
  obtain ⟨m2, t2⟩ := h2
  obtain ⟨g0, eq0, hm0⟩ := read_gate t0
  have e0 : (Value.agg c0) = g0.v := by
    have : c0 = (Value.cells (.agg c0)).toList.toArray := by simp [Value.cells]
    rw [this, eq0]
  obtain ⟨s1, l1, A1, n1, cp1, eq1, hm1⟩ := read_bt t1
  have e1 : (Value.agg c1) = .agg #[.int .i64 s1.pos, .int .i64 s1.charge, .bool s1.bolted, .slice A1 n1 cp1] := by
    have : c1 = (Value.cells (.agg c1)).toList.toArray := by simp [Value.cells]
    rw [this, eq1]
  obtain ⟨A2', n2', cp2', l2, es2, hm2, hn2, hc2⟩ := read_steps t2
  cases es2
  rw [e0] at hW' h0k ⊢
  rw [e1] at hW' h1k ⊢
  clear hA0 hval0 hval hA
  simp only [List.append_nil] at hW' hltW
  refine (GateBolts_any g0 s1 l1 A1 n1 cp1 A2 n2 cp2 l2 W hm0 hm1 hm2 hn2 hc2).mono fun e W' ⟨he, hb⟩ => ?_
  subst he
  refine ⟨_, rfl, post_below (pa := p0 ++ (p1 ++ p2)) (pv := []) hW' (fun _ _ _ => (trodAll_cons_mk (shut_bool Tryz.underlying4 _) trodAll_mk0)) (fun sp hsp => ?_) (fun _ _ => rfl) (by simp) hb (ok_one (by kernel_rfl) rfl (okWide_bool_mk Tryz.underlying4 _))⟩
  have k0 := WideElems.Trod_stays laidOut (by kernel_rfl) (of_decide_eq_true (by kernel_rfl)) h0k (fun x hx => hb.same (hltW x (by simp [hx]))) (fun x hx => hsp x (by simp [hx]))
  have k1 := WideElems.Trod_stays laidOut (by kernel_rfl) (of_decide_eq_true (by kernel_rfl)) h1k (fun x hx => hb.same (hltW x (by simp [hx]))) (fun x hx => hsp x (by simp [hx]))
  have k2 := WideElems.Trod_stays laidOut (by kernel_rfl) (of_decide_eq_true (by kernel_rfl)) h2k (fun x hx => hb.same (hltW x (by simp [hx]))) (fun x hx => hsp x (by simp [hx]))
  have := trodAll_cons_mk k0 (trodAll_cons_mk k1 (trodAll_cons_mk k2 trodAll_mk0))
  simp only [List.append_nil] at this
  exact this

theorem closed : joinedFacts Tryz.prog 6 Tryz.f6 Rows.gateBoltsSpec Rows.gateBoltsRow = true := by kernel_rfl
theorem wraps : Tryz.f6.isWrapper Tryz.prog Rows.gateBoltsRow.wrapper Rows.gateBoltsRow.mainSum := by unfold Func.isWrapper; first | (rw [if_pos (by decide +kernel)]; kernel_rfl) | (rw [if_neg (by decide +kernel)]; exact ⟨rfl, rfl⟩)
theorem over : Rows.gateBoltsRow.holds Tryz.pinned (OpenSpec.ofChange Rows.gateBoltsSpec) :=
  OpenClaim.holds_of_wide 6 Tryz.f6 rfl rfl rfl rfl rfl rfl rfl ⟨rfl, rfl, rfl, rfl, rfl⟩ rfl rfl rfl rfl rfl (by kernel_rfl) Tryz.func6 closed
    (of_decide_eq_true (by kernel_rfl)) wraps
    (fun os started H enc _ => lifted os started H enc)

/-- The statement. -/
theorem proved : Rows.GateBoltsSaid :=
  over
end Go.Proofs.YtmhfnnpbnocafaaGreat.gateBoltsDone
