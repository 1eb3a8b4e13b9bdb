/- Check and CheckSet. -/
import Derived.Test.YtgdomaddjiggaaaGreatGtSetOf
import Derived.Test.YtgdomaddjiggaaaGreatGtRefC
namespace Go.Proofs.YtgdomaddjiggaaaGreat
open Go.RowKit
set_option linter.unusedSimpArgs false
set_option linter.unusedVariables false

set_option maxRecDepth 100000 in
set_option maxHeartbeats 2000000 in
theorem Check_any (g : Ga) (w : World) (hg : g.At w w.heap.size) :
    Calls Tryz.prog 22 #[g.v] w fun e w' => e = .returned (tri (gateF g).part (gateF g).at_ (gateF g).e) ∧ Below w.heap.size w w' := by
  have Hg := Lib.hid hg
  have HF := Lib.hid (fun W h => gateFault_any g W h)
  obtain ⟨fp, fa, ge, hfl⟩ : ∃ fp fa ge, gateF g = ⟨fp, fa, ge⟩ := ⟨_, _, _, rfl⟩
  rw [hfl] at HF ⊢
  clear hg hfl
  go_enter Tryz.func22, Tryz.ntmps22
  go_wp2_with (with_reducible refine wpl_g (g := g) (Blk.new w _ _) rfl rfl rfl ?_)
  refine (HF.out _ (Hg.out.grow (by repeat (first | exact Below.refl _ _ | assumption | (refine Below.setCell ?_ (by first | omega | (simp; done) | (simp; omega)) _) | (refine Below.alloc ?_ (by first | omega | (simp; done) | (simp; omega)) _) | refine Below.drew ?_ | (refine below_thru ?_ (by assumption) (by first | omega | (simp; done) | (simp; omega))) | refine below_drewN ?_ _)))).mono ?_
  rintro e w1 ⟨rfl, hb1⟩
  obtain ⟨hc1, hf1⟩ := bcell hb1; have hz1 := hb1.size; (try simp at hz1)
  go_wp2_with fail
  go_quiet (fail)
  go_wp2
  go_ret3
  exact ⟨rfl, (by repeat (first | exact Below.refl _ _ | assumption | (refine Below.setCell ?_ (by first | omega | (simp; done) | (simp; omega)) _) | (refine Below.alloc ?_ (by first | omega | (simp; done) | (simp; omega)) _) | refine Below.drew ?_ | (refine below_thru ?_ (by assumption) (by first | omega | (simp; done) | (simp; omega))) | refine below_drewN ?_ _))⟩
set_option maxRecDepth 100000 in
set_option maxHeartbeats 2000000 in
theorem CheckSet_any (l : St) (w : World) (hl : l.At w w.heap.size) :
    Calls Tryz.prog 20 #[l.v] w fun e w' => e = .returned (tri (setFt l).part (setFt l).at_ (setFt l).e) ∧ Below w.heap.size w w' := by
  have Hl := Lib.hid hl
  have HF := Lib.hid (fun W h => setFault_any l W h)
  obtain ⟨fp, fa, ge, hfl⟩ : ∃ fp fa ge, setFt l = ⟨fp, fa, ge⟩ := ⟨_, _, _, rfl⟩
  rw [hfl] at HF ⊢
  clear hl hfl
  go_enter Tryz.func20, Tryz.ntmps20
  go_wp2_with fail
  refine (HF.out _ (Hl.out.grow (by repeat (first | exact Below.refl _ _ | assumption | (refine Below.setCell ?_ (by first | omega | (simp; done) | (simp; omega)) _) | (refine Below.alloc ?_ (by first | omega | (simp; done) | (simp; omega)) _) | refine Below.drew ?_ | (refine below_thru ?_ (by assumption) (by first | omega | (simp; done) | (simp; omega))) | refine below_drewN ?_ _)))).mono ?_
  rintro e w1 ⟨rfl, hb1⟩
  obtain ⟨hc1, hf1⟩ := bcell hb1; have hz1 := hb1.size; (try simp at hz1)
  go_wp2_with fail
  go_quiet (fail)
  go_wp2
  go_ret3
  exact ⟨rfl, (by repeat (first | exact Below.refl _ _ | assumption | (refine Below.setCell ?_ (by first | omega | (simp; done) | (simp; omega)) _) | (refine Below.alloc ?_ (by first | omega | (simp; done) | (simp; omega)) _) | refine Below.drew ?_ | (refine below_thru ?_ (by assumption) (by first | omega | (simp; done) | (simp; omega))) | refine below_drewN ?_ _))⟩

theorem member_e (gs : List Ga) (k : Nat) : (memberFt gs k).e = if (gateF (gAt gs k)).e = 0 then (if twiceB gs k = true then 5 else 0) else (gateF (gAt gs k)).e := by
  unfold memberFt
  by_cases h : (gateF (gAt gs k)).e = 0
  · cases h1 : twiceB gs k <;> simp [firstF, need, h]
  · simp [firstF, h]
theorem twice_no {gs : List Ga} {k : Nat} (h : ∀ q, q < k → ((gAt gs q).name.toList == (gAt gs k).name.toList) = false) : twiceB gs k = false := by
  unfold twiceB
  rw [List.any_eq_false]
  intro q hq
  have := h q (List.mem_range.1 hq)
  simpa using this
theorem twice_yes {gs : List Ga} {k q : Nat} (hq : q < k) (h : ((gAt gs q).name.toList == (gAt gs k).name.toList) = true) : twiceB gs k = true := by
  unfold twiceB
  rw [List.any_eq_true]
  exact ⟨q, List.mem_range.2 hq, h⟩
section
variable {l : St}
theorem setF_a (h : betw l.gn 1 6 = false) : setFt l = ⟨1, 0, 3⟩ := by simp [setFt, setL, firstF, need, Ft.in_, h]
theorem setF_b (h : betw l.gn 1 6 = true) {k : Nat} (hk : k < l.gn) (h0 : ∀ j, j < k → (memberFt l.gs j).e = 0) (hb : (memberFt l.gs k).e ≠ 0) : setFt l = ⟨1, k, (memberFt l.gs k).e⟩ := by
  unfold setFt setL
  rw [each_at _ l.gn k hk h0 hb]
  simp [firstF, need, Ft.in_, h, hb]
theorem setF_c (h : betw l.gn 1 6 = true) (h0 : ∀ j, j < l.gn → (memberFt l.gs j).e = 0) (h2 : ¬ (l.rn : Int) ≤ 12) : setFt l = ⟨2, 0, 3⟩ := by
  unfold setFt setL
  rw [each_none _ l.gn h0]
  simp [firstF, need, Ft.in_, h, h2]
theorem setF_d (h : betw l.gn 1 6 = true) (h0 : ∀ j, j < l.gn → (memberFt l.gs j).e = 0) (h2 : (l.rn : Int) ≤ 12) {k : Nat} (hk : k < l.rn) (h3 : ∀ j, j < k → (ruleFt l.gn (rAt l j)).e = 0) (hb : (ruleFt l.gn (rAt l k)).e ≠ 0) : setFt l = ⟨2, k, (ruleFt l.gn (rAt l k)).e⟩ := by
  unfold setFt setL
  rw [each_none _ l.gn h0, each_at _ l.rn k hk h3 hb]
  simp [firstF, need, Ft.in_, h, h2, hb]
theorem setF_e (h : betw l.gn 1 6 = true) (h0 : ∀ j, j < l.gn → (memberFt l.gs j).e = 0) (h2 : (l.rn : Int) ≤ 12) (h3 : ∀ j, j < l.rn → (ruleFt l.gn (rAt l j)).e = 0) : setFt l = ⟨0, 0, 0⟩ := by
  unfold setFt setL
  rw [each_none _ l.gn h0, each_none _ l.rn h3]
  simp [firstF, need, Ft.in_, h, h2]
end
theorem rule_e (n : Nat) (r : Gr) : (ruleFt n r).e = if (betw r.gate 0 ((n : Int) - 1) && betw r.other 0 ((n : Int) - 1)) = true then (if r.gate = r.other then 2 else if (betw r.lo 0 5000 && betw r.hi r.lo 5000) = true then 0 else 7) else 4 := by
  have hc : ruleC r = (betw r.lo 0 5000 && betw r.hi r.lo 5000) := by
    unfold ruleC betw
    rw [Bool.eq_iff_iff]
    simp only [Bool.and_eq_true, decide_eq_true_eq]
    omega
  unfold ruleFt
  rw [hc]
  unfold ruleA ruleB
  cases h1 : (betw r.gate 0 ((n : Int) - 1) && betw r.other 0 ((n : Int) - 1))
  · simp [firstF, need]
  · by_cases h2 : r.gate = r.other
    · simp [firstF, need, h2]
    · cases h3 : (betw r.lo 0 5000 && betw r.hi r.lo 5000) <;> simp [firstF, need, h2]

set_option maxRecDepth 100000 in
set_option maxHeartbeats 8000000 in
theorem rCheckSet_any (l : St) (w : World) (hl : l.At w w.heap.size) :
    Calls Tryz.prog 21 #[l.v] w fun e w' => e = .returned (tri (setFt l).part (setFt l).at_ (setFt l).e) ∧ Below w.heap.size w w' := by
  have Hl := Lib.hid hl
  have HB := Lib.hid (rin_is l.gn 1 6 _ rfl)
  have hgm := hl.gn
  have hrm := hl.rn
  unfold maxLen at hgm hrm
  cases h1 : betw l.gn 1 6
  · rw [setF_a h1]
    rw [h1] at HB
    clear h1 hl
    go_enter Tryz.func21, Tryz.ntmps21
    go_wp2_with fail
    refine (HB.out _).mono ?_
    rintro e w' ⟨rfl, rfl⟩
    go_wp2
    go_ret3
    exact ⟨rfl, (by repeat (first | exact Below.refl _ _ | assumption | (refine Below.setCell ?_ (by first | omega | (simp; done) | (simp; omega)) _) | (refine Below.alloc ?_ (by first | omega | (simp; done) | (simp; omega)) _) | refine Below.drew ?_ | (refine below_thru ?_ (by assumption) (by first | omega | (simp; done) | (simp; omega))) | refine below_drewN ?_ _))⟩
  rw [h1] at HB
  have Hb := Lib.hid (fun k (hk : k < l.gn) h0 hb => setF_b (l := l) h1 hk h0 hb)
  have Hc := Lib.hid (fun h0 (h2 : 12 < (l.rn : Int)) => setF_c (l := l) h1 h0 (by omega))
  have Hd := Lib.hid (fun h0 h2 k (hk : k < l.rn) h3 hb => setF_d (l := l) h1 h0 h2 hk h3 hb)
  have He := Lib.hid (fun h0 h2 h3 => setF_e (l := l) h1 h0 h2 h3)
  generalize setFt l = F at *
  simp only [betw, Bool.and_eq_true, decide_eq_true_eq] at h1
  obtain ⟨n0, n1⟩ := h1
  have HC := Lib.hid (fun g W h => rCheck_any g W h)
  clear hl
  go_enter Tryz.func21, Tryz.ntmps21
  go_wp2_with fail
  refine (HB.out _).mono ?_
  rintro e w' ⟨rfl, rfl⟩
  go_wp2
  go_loopw [5] (fun i wr => ∃ k : Nat, k ≤ l.gn ∧ i = .int .i64 k ∧ Hid (∀ j, j < k → (memberFt l.gs j).e = 0) ∧ Hid (Blk wr w.heap.size 25 #[.slice l.gA l.gn l.gc, .slice l.rA l.rn l.rc]) ∧ Below w.heap.size w wr)
    (fun i _ => l.gn - (intOf i).toNat)
  case atStart => exact ⟨0, Nat.zero_le _, rfl, fun j hj => by omega, Blk.new w _ _, (by repeat (first | exact Below.refl _ _ | assumption | (refine Below.setCell ?_ (by first | omega | (simp; done) | (simp; omega)) _) | (refine Below.alloc ?_ (by first | omega | (simp; done) | (simp; omega)) _) | refine Below.drew ?_ | (refine below_thru ?_ (by assumption) (by first | omega | (simp; done) | (simp; omega))) | refine below_drewN ?_ _))⟩
  case round =>
    obtain ⟨k, hk, rfl, hprev, hbl, hbr⟩ := hrel
    obtain ⟨wo, rfl⟩ : ∃ wo, wo = wr := ⟨_, rfl⟩
    obtain ⟨s0, s1, _, _⟩ := hbl.out.two
    have hzr := hbl.out.lt
    by_cases hlt : k < l.gn
    · obtain ⟨g, hgk⟩ := get_lt Hl.out.g.len hlt
      obtain ⟨gb, go, hA, hgb, hrow⟩ := Hl.out.g.row hgk
      have hga := Hl.out.g.at_ g (List.mem_of_getElem? hgk)
      have Hrow := Lib.hid (range_below hrow hbr hgb)
      have Hga := Lib.hid (hga.grow hbr)
      have HA := Lib.hid hA
      have hme := member_e l.gs k
      rw [gAt_of hgk] at hme
      have Hme := Lib.hid hme
      have HCg := Lib.hid (fun W h => HC.out g W h)
      have Hgk := Lib.hid hgk
      obtain ⟨fp, fa, ge, hfl⟩ : ∃ fp fa ge, gateF g = ⟨fp, fa, ge⟩ := ⟨_, _, _, rfl⟩
      rw [hfl] at HCg Hme
      have HCg := Lib.hid (show ∀ W, g.At W W.heap.size → Calls Tryz.prog 23 #[g.v] W fun e w' => e = .returned (.tuple #[.int .i64 fp, .int .i64 fa, .int .i64 ge]) ∧ Below W.heap.size W w' from HCg.out)
      have Hlt := Lib.hid hlt
      have j0 : (0 : Int) ≤ (k : Int) := Int.natCast_nonneg _
      have j1 : (k : Int) < (l.gn : Int) := by omega
      rw [hA] at s0
      clear hfl hga hrow hgk hA hme
      go_wp2_with (with_reducible refine wpl_gm (g := g) Hrow.out rfl rfl rfl ?_)
      refine (HCg.out _ Hga.out).mono ?_
      rintro e w2 ⟨rfl, hb2⟩
      have hbl2 := Lib.hid (hbl.out.thru hb2 hbl.out.lt)
      have hw2 := Lib.hid (hbr.trans (hb2.mono hbr.size))
      clear hb2 s0 s1
      go_wp2
      go_loopw [8, 9] (fun ev jv wi => ∃ (j : Nat) (ee : Int), j ≤ k ∧ jv = .int .i64 j ∧ ev = .int .i64 ee ∧ Hid ((ge ≠ 0 ∧ ee = ge) ∨ (ge = 0 ∧ ((ee = 0 ∧ ∀ q, q < j → ((gAt l.gs q).name.toList == (gAt l.gs k).name.toList) = false) ∨ (ee = 5 ∧ ∃ q, q < k ∧ ((gAt l.gs q).name.toList == (gAt l.gs k).name.toList) = true)))) ∧ Hid (Below w2.heap.size w2 wi))
        (fun _ jv _ => k - (intOf jv).toNat)
      case atStart =>
        refine ⟨0, ge, Nat.zero_le _, rfl, rfl, ?_, Below.refl _ _⟩
        by_cases h : ge = 0
        · exact .inr ⟨h, .inl ⟨h, fun q hq => by omega⟩⟩
        · exact .inl ⟨h, rfl⟩
      case round =>
        obtain ⟨j, ee, hj, rfl, rfl, hP, hbi⟩ := hrel
        have hsi := Lib.hid (hbl2.out.thru hbi.out hbl2.out.lt)
        have hwi := Lib.hid (hw2.out.trans (hbi.out.mono hw2.out.size))
        obtain ⟨s0, s1, _, _⟩ := hsi.out.two
        have hli := hsi.out.lt
        have hend : (j = k ∨ ee ≠ 0) → (memberFt l.gs k).e = ee := fun h => by
          rw [Hme.out]
          (try simp only)
          rcases hP.out with ⟨h1, h2⟩ | ⟨h1, ⟨h2, h3⟩ | ⟨h2, q, hq, h3⟩⟩
          · rw [if_neg h1, h2]
          · rw [if_pos h1]
            have hjk : j = k := by rcases h with h | h; exact h; exact absurd h2 h
            subst hjk
            rw [twice_no h3, h2]; rfl
          · rw [if_pos h1, if_pos (twice_yes hq h3), h2]
        have Hend := Lib.hid hend
        clear hend
        by_cases hjk : j < k
        · by_cases hee : ee = 0
          · subst hee
            obtain ⟨g', hgj⟩ := get_lt Hl.out.g.len (by omega : j < l.gn)
            obtain ⟨gb', go', hA', hgb', hrow'⟩ := Hl.out.g.row hgj
            obtain ⟨gb2, go2, hA2, hgb2, hrow2⟩ := Hl.out.g.row Hgk.out
            rw [hA'] at hA2
            cases hA2
            have m0 := (range_below hrow' hwi.out hgb') 0 _ rfl
            have m1 := (range_below hrow2 hwi.out hgb') 0 _ rfl
            simp only [Nat.add_zero] at m0 m1
            rw [hA'] at s0
            have i0 : (0 : Int) ≤ (j : Int) := Int.natCast_nonneg _
            have i1 : (j : Int) < (l.gn : Int) := by omega
            have hP2 : ∀ b : Bool, (g'.name.toList == g.name.toList) = b → Hid ((ge ≠ 0 ∧ (if b = true then (5 : Int) else 0) = ge) ∨ (ge = 0 ∧ (((if b = true then (5 : Int) else 0) = 0 ∧ ∀ q, q < j + 1 → ((gAt l.gs q).name.toList == (gAt l.gs k).name.toList) = false) ∨ ((if b = true then (5 : Int) else 0) = 5 ∧ ∃ q, q < k ∧ ((gAt l.gs q).name.toList == (gAt l.gs k).name.toList) = true)))) := fun b hb => by
              rcases hP.out with ⟨h1, h2⟩ | ⟨h1, ⟨h2, h3⟩ | ⟨h2, _⟩⟩
              · exact absurd h2.symm h1
              · right
                refine ⟨h1, ?_⟩
                cases b
                · left
                  refine ⟨rfl, fun q hq => ?_⟩
                  rcases Nat.lt_or_ge q j with h | h
                  · exact h3 q h
                  · obtain rfl : q = j := by omega
                    rw [gAt_of hgj, gAt_of Hgk.out]; exact hb
                · right
                  exact ⟨rfl, j, hjk, by rw [gAt_of hgj, gAt_of Hgk.out]; exact hb⟩
              · exact absurd h2 (by decide)
            have HP2 := Lib.hid hP2
            have hbi2 := hbi
            clear hP hP2 hrow' hrow2 hgj hA' hbi Hend
            cases hb : (g'.name.toList == g.name.toList)
            · have Hn := Lib.hid (HP2.out false hb)
              have Hb0 := Lib.hid hb
              go_wp2_with fail
              go_quiet (fail)
              go_wp2
              go_roundw
              case rel => exact ⟨j + 1, 0, by omega, by go_num, rfl, Hn.out, below_drewN hbi2.out _⟩
              case measure => simp [intOf]; omega
            · have Hn := Lib.hid (HP2.out true hb)
              go_wp2_with fail
              go_quiet (fail)
              go_wp2
              go_roundw
              case rel => exact ⟨j + 1, 5, by omega, by go_num, rfl, Hn.out, below_drewN hbi2.out _⟩
              case measure => simp [intOf]; omega
          · have Hv := Lib.hid (Hb.out k Hlt.out hprev.out (by rw [Hend.out (.inr hee)]; exact hee))
            have Hv2 := Lib.hid (Hend.out (.inr hee))
            have q0 : (ee == 0) = false := by rw [beq_eq_false_iff_ne]; exact hee
            have q1 : (ee != 0) = true := by rw [bne_iff_ne]; exact hee
            clear hee hP Hend
            go_wp2
            go_ret3
            exact ⟨by rw [Hv.out, Hv2.out]; rfl, hwi.out⟩
        · obtain rfl : j = k := by omega
          have hm := Hend.out (.inl rfl)
          by_cases hee : ee = 0
          · subst hee
            have Hn : Hid (∀ q, q < j + 1 → (memberFt l.gs q).e = 0) := fun q hq => by
              rcases Nat.lt_or_ge q j with h | h
              · exact hprev.out q h
              · obtain rfl : q = j := by omega
                exact hm
            clear hm hP Hend
            go_wp2
            go_roundw
            case rel => exact ⟨j + 1, by omega, by go_num, Hn.out, hsi.out, hwi.out⟩
            case measure => simp [intOf]; omega
          · have Hv := Lib.hid (Hb.out j Hlt.out hprev.out (by rw [hm]; exact hee))
            have Hv2 := Lib.hid hm
            have q0 : (ee == 0) = false := by rw [beq_eq_false_iff_ne]; exact hee
            have q1 : (ee != 0) = true := by rw [bne_iff_ne]; exact hee
            clear hee hP Hend hm
            go_wp2
            go_ret3
            exact ⟨by rw [Hv.out, Hv2.out]; rfl, hwi.out⟩
    · obtain rfl : k = l.gn := by omega
      by_cases h2 : (l.rn : Int) ≤ 12
      · have hmall := hprev
        have Hd := Lib.hid (fun k (hk : k < l.rn) h3 hb => Hd.out hmall.out h2 k hk h3 hb)
        have He := Lib.hid (fun h3 => He.out hmall.out h2 h3)
        have hbl0 := hbl
        have hbr0 := Lib.hid hbr
        clear hlt hk Hb Hc
        go_wp2
        go_loopw [10] (fun i wi => ∃ k : Nat, k ≤ l.rn ∧ i = .int .i64 k ∧ Hid (∀ j, j < k → (ruleFt l.gn (rAt l j)).e = 0) ∧ Hid (Blk wi w.heap.size 25 #[.slice l.gA l.gn l.gc, .slice l.rA l.rn l.rc]) ∧ Below w.heap.size w wi)
          (fun i _ => l.rn - (intOf i).toNat)
        case atStart => exact ⟨0, Nat.zero_le _, rfl, fun j hj => by omega, hbl0.out, hbr0.out⟩
        case round =>
          obtain ⟨k, hk, rfl, hprev2, hbl2, hbr2⟩ := hrel
          obtain ⟨s0, s1, _, _⟩ := hbl2.out.two
          have hzr := hbl2.out.lt
          by_cases hlt : k < l.rn
          · obtain ⟨r, hrk⟩ := get_lt Hl.out.rl hlt
            obtain ⟨rb, off, hA, hrb, c0, c1, c2, c3⟩ := Hl.out.r.four (k := k) (x := .int .i64 r.gate) (y := .int .i64 r.other) (z := .int .i64 r.lo) (u := .int .i64 r.hi) (by simp [hrk])
            have c0 := (hbr2.cell (p := ⟨rb, off + k * 4, none⟩) hrb).trans c0
            have c1 := (hbr2.cell (p := ⟨rb, off + k * 4 + 1, none⟩) hrb).trans c1
            have c2 := (hbr2.cell (p := ⟨rb, off + k * 4 + 2, none⟩) hrb).trans c2
            have c3 := (hbr2.cell (p := ⟨rb, off + k * 4 + 3, none⟩) hrb).trans c3
            have hre := rule_e l.gn r
            rw [show r = rAt l k from (rAt_of hrk).symm] at hre
            have hra := rAt_of hrk
            rw [hra] at hre
            have hNext : (ruleFt l.gn r).e = 0 → Hid (∀ j, j < k + 1 → (ruleFt l.gn (rAt l j)).e = 0) := fun h j hj => by
              rcases Nat.lt_or_ge j k with h1 | h1
              · exact hprev2.out j h1
              · obtain rfl : j = k := by omega
                rw [hra]; exact h
            have hBad : (ruleFt l.gn r).e ≠ 0 → F = ⟨2, k, (ruleFt l.gn r).e⟩ := fun h => by
              have := Hd.out k hlt hprev2.out (by rw [hra]; exact h)
              rw [hra] at this
              exact this
            have HNext := Lib.hid hNext
            have HBad := Lib.hid hBad
            have j0 : (0 : Int) ≤ (k : Int) := Int.natCast_nonneg _
            have j1 : (k : Int) < (l.rn : Int) := by omega
            rw [hA] at s1
            have H1 := Lib.hid (rin_is r.gate 0 ((l.gn : Int) - 1) _ rfl)
            have H2 := Lib.hid (rin_is r.other 0 ((l.gn : Int) - 1) _ rfl)
            have H3 := Lib.hid (rin_is r.lo 0 5000 _ rfl)
            have H4 := Lib.hid (rin_is r.hi r.lo 5000 _ rfl)
            generalize betw r.gate 0 ((l.gn : Int) - 1) = b1 at *
            generalize betw r.other 0 ((l.gn : Int) - 1) = b2 at *
            generalize betw r.lo 0 5000 = b3 at *
            generalize betw r.hi r.lo 5000 = b4 at *
            generalize (ruleFt l.gn r).e = re at *
            have hblw := Lib.hid (hbl2.out.alloc (.cells #[.int .i64 r.gate, .int .i64 r.other, .int .i64 r.lo, .int .i64 r.hi] 92))
            clear hrk hA hra hNext hBad hbl2 hprev2
            cases b1
            · have hre : re = 4 := by rw [hre]; simp
              have Hv := Lib.hid (HBad.out (by rw [hre]; decide))
              rw [hre] at Hv
              clear hre HNext HBad
              go_wp2_with fail
              refine (H1.out _).mono ?_
              rintro e w' ⟨rfl, rfl⟩
              go_wp2
              go_ret3
              exact ⟨by rw [Hv.out]; rfl, (by repeat (first | exact Below.refl _ _ | assumption | (refine Below.setCell ?_ (by first | omega | (simp; done) | (simp; omega)) _) | (refine Below.alloc ?_ (by first | omega | (simp; done) | (simp; omega)) _) | refine Below.drew ?_ | (refine below_thru ?_ (by assumption) (by first | omega | (simp; done) | (simp; omega))) | refine below_drewN ?_ _))⟩
            cases b2
            · have hre : re = 4 := by rw [hre]; simp
              have Hv := Lib.hid (HBad.out (by rw [hre]; decide))
              rw [hre] at Hv
              clear hre HNext HBad
              go_wp2_with fail
              refine (H1.out _).mono ?_
              rintro e w' ⟨rfl, rfl⟩
              go_wp2_with fail
              refine (H2.out _).mono ?_
              rintro e w' ⟨rfl, rfl⟩
              go_wp2
              go_ret3
              exact ⟨by rw [Hv.out]; rfl, (by repeat (first | exact Below.refl _ _ | assumption | (refine Below.setCell ?_ (by first | omega | (simp; done) | (simp; omega)) _) | (refine Below.alloc ?_ (by first | omega | (simp; done) | (simp; omega)) _) | refine Below.drew ?_ | (refine below_thru ?_ (by assumption) (by first | omega | (simp; done) | (simp; omega))) | refine below_drewN ?_ _))⟩
            by_cases hgo : r.gate = r.other
            · have hre : re = 2 := by rw [hre, if_pos hgo]; simp
              have Hv := Lib.hid (HBad.out (by rw [hre]; decide))
              rw [hre] at Hv
              have q : (r.gate == r.other) = true := by rw [beq_iff_eq]; exact hgo
              clear hre HNext HBad hgo
              go_wp2_with fail
              refine (H1.out _).mono ?_
              rintro e w' ⟨rfl, rfl⟩
              go_wp2_with fail
              refine (H2.out _).mono ?_
              rintro e w' ⟨rfl, rfl⟩
              go_wp2
              go_ret3
              exact ⟨by rw [Hv.out]; rfl, (by repeat (first | exact Below.refl _ _ | assumption | (refine Below.setCell ?_ (by first | omega | (simp; done) | (simp; omega)) _) | (refine Below.alloc ?_ (by first | omega | (simp; done) | (simp; omega)) _) | refine Below.drew ?_ | (refine below_thru ?_ (by assumption) (by first | omega | (simp; done) | (simp; omega))) | refine below_drewN ?_ _))⟩
            have q : (r.gate == r.other) = false := by rw [beq_eq_false_iff_ne]; exact hgo
            cases b3
            · have hre : re = 7 := by rw [hre, if_neg hgo]; simp
              have Hv := Lib.hid (HBad.out (by rw [hre]; decide))
              rw [hre] at Hv
              clear hre HNext HBad hgo
              go_wp2_with fail
              refine (H1.out _).mono ?_
              rintro e w' ⟨rfl, rfl⟩
              go_wp2_with fail
              refine (H2.out _).mono ?_
              rintro e w' ⟨rfl, rfl⟩
              go_wp2_with fail
              refine (H3.out _).mono ?_
              rintro e w' ⟨rfl, rfl⟩
              go_wp2
              go_ret3
              exact ⟨by rw [Hv.out]; rfl, (by repeat (first | exact Below.refl _ _ | assumption | (refine Below.setCell ?_ (by first | omega | (simp; done) | (simp; omega)) _) | (refine Below.alloc ?_ (by first | omega | (simp; done) | (simp; omega)) _) | refine Below.drew ?_ | (refine below_thru ?_ (by assumption) (by first | omega | (simp; done) | (simp; omega))) | refine below_drewN ?_ _))⟩
            cases b4
            · have hre : re = 7 := by rw [hre, if_neg hgo]; simp
              have Hv := Lib.hid (HBad.out (by rw [hre]; decide))
              rw [hre] at Hv
              clear hre HNext HBad hgo
              go_wp2_with fail
              refine (H1.out _).mono ?_
              rintro e w' ⟨rfl, rfl⟩
              go_wp2_with fail
              refine (H2.out _).mono ?_
              rintro e w' ⟨rfl, rfl⟩
              go_wp2_with fail
              refine (H3.out _).mono ?_
              rintro e w' ⟨rfl, rfl⟩
              go_wp2_with fail
              refine (H4.out _).mono ?_
              rintro e w' ⟨rfl, rfl⟩
              go_wp2
              go_ret3
              exact ⟨by rw [Hv.out]; rfl, (by repeat (first | exact Below.refl _ _ | assumption | (refine Below.setCell ?_ (by first | omega | (simp; done) | (simp; omega)) _) | (refine Below.alloc ?_ (by first | omega | (simp; done) | (simp; omega)) _) | refine Below.drew ?_ | (refine below_thru ?_ (by assumption) (by first | omega | (simp; done) | (simp; omega))) | refine below_drewN ?_ _))⟩
            have hre : re = 0 := by rw [hre, if_neg hgo]; simp
            have Hn := Lib.hid (HNext.out hre)
            clear hre HNext HBad hgo
            go_wp2_with fail
            refine (H1.out _).mono ?_
            rintro e w' ⟨rfl, rfl⟩
            go_wp2_with fail
            refine (H2.out _).mono ?_
            rintro e w' ⟨rfl, rfl⟩
            go_wp2_with fail
            refine (H3.out _).mono ?_
            rintro e w' ⟨rfl, rfl⟩
            go_wp2_with fail
            refine (H4.out _).mono ?_
            rintro e w' ⟨rfl, rfl⟩
            go_wp2
            go_roundw
            case rel => exact ⟨k + 1, by omega, by go_num, Hn.out, hblw.out, (by repeat (first | exact Below.refl _ _ | assumption | (refine Below.setCell ?_ (by first | omega | (simp; done) | (simp; omega)) _) | (refine Below.alloc ?_ (by first | omega | (simp; done) | (simp; omega)) _) | refine Below.drew ?_ | (refine below_thru ?_ (by assumption) (by first | omega | (simp; done) | (simp; omega))) | refine below_drewN ?_ _))⟩
            case measure => simp [intOf]; omega
          · obtain rfl : k = l.rn := by omega
            have Hv := Lib.hid (He.out hprev2.out)
            clear hlt hk
            go_wp2
            go_ret3
            exact ⟨by rw [Hv.out]; rfl, hbr2⟩
      · have Hv := Lib.hid (Hc.out hprev.out (by omega))
        clear hlt hk
        go_wp2
        go_ret3
        exact ⟨by rw [Hv.out]; rfl, hbr⟩
end Go.Proofs.YtgdomaddjiggaaaGreat
