/- The reference's own forces and sensors. The reference's Check. -/
import Derived.Test.YtmhfnnpbnocafaaGreatGtRefG
import Derived.Test.YtmhfnnpbnocafaaGreatGtGf3
import Derived.Test.YtmhfnnpbnocafaaGreatGtRow2
import Derived.Deep.DeepCutAuto
import Derived.Deep.CutRange
namespace Go.Proofs.YtmhfnnpbnocafaaGreat
open Go.RowKit
set_option linter.unusedSimpArgs false
set_option linter.unusedVariables false

theorem each_at (c : Nat → Ft) (n k : Nat) (hk : k < n) (h : ∀ j, j < k → (c j).e = 0) (hb : (c k).e ≠ 0) : eachF c 0 n = ⟨(c k).part, k, (c k).e⟩ := by
  rw [eachF_skip c k 0 n (by omega) (by simpa using h)]
  obtain ⟨m, hm⟩ : ∃ m, n - k = m + 1 := ⟨n - k - 1, by omega⟩
  rw [hm, eachF, Nat.zero_add, if_neg hb]
theorem each_none (c : Nat → Ft) (n : Nat) (h : ∀ j, j < n → (c j).e = 0) : eachF c 0 n = ⟨0, 0, 0⟩ := by
  rw [eachF_skip c n 0 n (Nat.le_refl _) (by simpa using h), Nat.sub_self]; rfl
def ownR (g : Ga) : Int × Int := if betw g.on 2 16 = true then ((eachF (fun i => ownFt g i) 0 g.on).at_, (eachF (fun i => ownFt g i) 0 g.on).e) else (0, 3)
theorem ownFt_far {g : Ga} {k : Nat} (h : betw (g.os.getD k 0) (-200000) 200000 = false) : (ownFt g k).e = 7 := by
  unfold ownFt
  generalize g.os.getD k 0 = n at *
  simp [firstF, need, h]
theorem ownFt_bad {g : Ga} {k : Nat} (h : betw (g.os.getD k 0) (-200000) 200000 = true) (h2 : suitsB (g.os.getD k 0) g.kind = false) : (ownFt g k).e = 2 := by
  unfold ownFt
  generalize g.os.getD k 0 = n at *
  simp [firstF, need, h, h2]
theorem ownFt_ok {g : Ga} {k : Nat} (h : betw (g.os.getD k 0) (-200000) 200000 = true) (h2 : suitsB (g.os.getD k 0) g.kind = true) : (ownFt g k).e = 0 := by
  unfold ownFt
  generalize g.os.getD k 0 = n at *
  simp [firstF, need, h, h2]
theorem ownR_at {g : Ga} {k : Nat} {c : Int} (h0 : betw g.on 2 16 = true) (hk : k < g.on) (h : ∀ j, j < k → (ownFt g j).e = 0) (hc : (ownFt g k).e = c) (hb : c ≠ 0) : ownR g = ((k : Int), c) := by
  unfold ownR
  rw [if_pos h0, each_at _ g.on k hk h (by rw [hc]; exact hb), hc]
theorem ownR_ok {g : Ga} (h0 : betw g.on 2 16 = true) (h : ∀ j, j < g.on → (ownFt g j).e = 0) : ownR g = (0, 0) := by
  unfold ownR
  rw [if_pos h0, each_none _ g.on h]

set_option maxRecDepth 100000 in
set_option maxHeartbeats 4000000 in
theorem rown_any (g : Ga) (w : World) (hg : g.At w w.heap.size) (hk : betw g.kind 1 3 = true) :
    Calls Tryz.prog 83 #[g.v] w fun e w' => e = .returned (pairV (ownR g)) ∧ Below w.heap.size w w' := by
  have Hg := Lib.hid hg
  have hon := hg.on
  unfold maxLen at hon
  clear hg
  have HB := Lib.hid (fun b h => rin_is (g.on : Int) 2 16 b h)
  cases h0 : betw g.on 2 16
  · have hf : ownR g = (0, 3) := by unfold ownR; rw [h0]; rfl
    rw [hf]
    have HB := Lib.hid (HB.out _ h0)
    clear hf h0
    go_enter Tryz.func83, Tryz.ntmps83
    go_wp2_with fail
    refine (HB.out _).mono ?_
    rintro e w' ⟨rfl, rfl⟩
    go_wp2
    go_ret2
    exact ⟨rfl, (by repeat (first | exact Below.refl _ _ | assumption | (refine Below.setCell ?_ (by first | omega | (simp; done) | (simp; omega)) _) | (refine Below.alloc ?_ (by first | omega | (simp; done) | (simp; omega)) _) | refine Below.drew ?_ | (refine below_thru ?_ (by assumption) (by first | omega | (simp; done) | (simp; omega))) | refine below_drewN ?_ _))⟩
  · have HB := Lib.hid (HB.out _ h0)
    have Hat := Lib.hid (fun k c (h1 : k < g.on) (h2 : ∀ j, j < k → (ownFt g j).e = 0) (h3 : (ownFt g k).e = c) (h4 : c ≠ 0) => ownR_at (g := g) h0 h1 h2 h3 h4)
    have Hok := Lib.hid (fun (h2 : ∀ j, j < g.on → (ownFt g j).e = 0) => ownR_ok (g := g) h0 h2)
    generalize ownR g = r at *
    simp only [betw, Bool.and_eq_true, decide_eq_true_eq] at h0 hk
    obtain ⟨n0, n1⟩ := h0
    have HK := Lib.hid hk
    clear hk
    go_enter Tryz.func83, Tryz.ntmps83
    go_wp2_with fail
    refine (HB.out _).mono ?_
    rintro e w' ⟨rfl, rfl⟩
    go_wp2
    go_loopw [4] (fun i wr => ∃ k : Nat, k ≤ g.on ∧ i = .int .i64 k ∧ Hid (∀ j, j < k → (ownFt g j).e = 0) ∧ Hid (Blk wr w.heap.size 25 (grow g)) ∧ Below w.heap.size w wr)
      (fun i _ => g.on - (intOf i).toNat)
    case atStart => exact ⟨0, Nat.zero_le _, rfl, fun j hj => by omega, Blk.new w _ _, (by repeat (first | exact Below.refl _ _ | assumption | (refine Below.setCell ?_ (by first | omega | (simp; done) | (simp; omega)) _) | (refine Below.alloc ?_ (by first | omega | (simp; done) | (simp; omega)) _) | refine Below.drew ?_ | (refine below_thru ?_ (by assumption) (by first | omega | (simp; done) | (simp; omega))) | refine below_drewN ?_ _))⟩
    case round =>
      obtain ⟨k, hkn, rfl, hprev, hbg, hbr⟩ := hrel
      have hzr := hbg.out.lt
      have k1 : wr.cell? ⟨w.heap.size, 1, none⟩ = some (.int .i64 g.kind) := hbg.out.cell 1
      have k3 : wr.cell? ⟨w.heap.size, 3, none⟩ = some (.slice g.oA g.on g.oc) := hbg.out.cell 3
      by_cases hlt : k < g.on
      · obtain ⟨b, off, hA, hb, hc⟩ := own_cell Hg.out hlt
        have c0 := (hbr.cell (p := ⟨b, off + k, none⟩) hb).trans hc
        rw [hA] at k3
        have i0 : (0 : Int) ≤ (k : Int) := Int.natCast_nonneg _
        have i1 : (k : Int) < (g.on : Int) := by omega
        have Hfar := Lib.hid (ownFt_far (g := g) (k := k))
        have Hbad := Lib.hid (ownFt_bad (g := g) (k := k))
        have Hgd := Lib.hid (ownFt_ok (g := g) (k := k))
        have Hl := Lib.hid hlt
        generalize g.os.getD k 0 = n at *
        have HI := Lib.hid (fun b h => rin_is n (-200000) 200000 b h)
        clear hA hc
        cases hI : betw n (-200000) 200000
        · have HI := Lib.hid (HI.out _ hI)
          have Hfin := Lib.hid (Hat.out k 7 Hl.out hprev.out (Hfar.out hI) (by omega))
          clear hI
          go_wp2_with fail
          refine (HI.out _).mono ?_
          rintro e w1 ⟨rfl, rfl⟩
          go_wp2
          go_ret2
          exact ⟨by rw [Hfin.out]; rfl, (by repeat (first | exact Below.refl _ _ | assumption | (refine Below.setCell ?_ (by first | omega | (simp; done) | (simp; omega)) _) | (refine Below.alloc ?_ (by first | omega | (simp; done) | (simp; omega)) _) | refine Below.drew ?_ | (refine below_thru ?_ (by assumption) (by first | omega | (simp; done) | (simp; omega))) | refine below_drewN ?_ _))⟩
        · have HI := Lib.hid (HI.out _ hI)
          have Hbad := Lib.hid (Hbad.out hI)
          have Hgd := Lib.hid (Hgd.out hI)
          clear hI
          cases hs : suitsB n g.kind
          · have Hfin := Lib.hid (Hat.out k 2 Hl.out hprev.out (Hbad.out hs) (by omega))
            rcases (show g.kind = 1 ∨ g.kind = 2 ∨ g.kind = 3 by have := HK.out; omega) with hq | hq | hq
            all_goals
              rw [hq] at hs k1
              simp [suitsB] at hs
              clear hq
              have q1 : (n != 0) = true := by simp only [bne_iff_ne, ne_eq]; omega
              first
                | (have q2 : decide (n < 0) = true := by simp only [decide_eq_true_eq]; omega)
                | (have q2 : decide (0 < n) = true := by simp only [decide_eq_true_eq]; omega)
                | skip
              clear hs
              go_wp2_with fail
              refine (HI.out _).mono ?_
              rintro e w1 ⟨rfl, rfl⟩
              go_wp2
              all_goals
                go_ret2
                exact ⟨by rw [Hfin.out]; rfl, (by repeat (first | exact Below.refl _ _ | assumption | (refine Below.setCell ?_ (by first | omega | (simp; done) | (simp; omega)) _) | (refine Below.alloc ?_ (by first | omega | (simp; done) | (simp; omega)) _) | refine Below.drew ?_ | (refine below_thru ?_ (by assumption) (by first | omega | (simp; done) | (simp; omega))) | refine below_drewN ?_ _))⟩
          · have Hn := Lib.hid (Hgd.out hs)
            rcases (show g.kind = 1 ∨ g.kind = 2 ∨ g.kind = 3 by have := HK.out; omega) with hq | hq | hq
            all_goals
              rw [hq] at hs k1
              simp [suitsB] at hs
              clear hq
              first
                | (have q2 : decide (n < 0) = false := by simp only [decide_eq_false_iff_not]; omega)
                | skip
              first
                | (have q4 : (n != 0) = false := by simp only [bne_eq_false_iff_eq]; omega)
                | skip
              first
                | (have q3 : decide (0 < n) = false := by simp only [decide_eq_false_iff_not]; omega)
                | skip
              clear hs
              go_wp2_with fail
              refine (HI.out _).mono ?_
              rintro e w1 ⟨rfl, rfl⟩
              go_wp2
              go_roundw
              case rel =>
                refine ⟨k + 1, by omega, by go_num, fun j hj => ?_, hbg.out, hbr⟩
                rcases Nat.lt_or_ge j k with h1 | h1
                · exact hprev.out j h1
                · obtain rfl : j = k := by omega
                  exact Hn.out
              case measure => simp [intOf]; omega
      · obtain rfl : k = g.on := by omega
        have Hfin := Lib.hid (Hok.out hprev.out)
        go_wp2
        go_ret2
        exact ⟨by rw [Hfin.out]; rfl, hbr⟩

def sensR (g : Ga) : Int × Int := ((firstF [need (decide ((g.sn : Int) ≤ 6)) 3, eachF (fun i => sensAt g i) 0 g.sn, need (betw g.wrong 0 g.sn) 7]).at_, (firstF [need (decide ((g.sn : Int) ≤ 6)) 3, eachF (fun i => sensAt g i) 0 g.sn, need (betw g.wrong 0 g.sn) 7]).e)
theorem sensR_long {g : Ga} (h : ¬ (g.sn : Int) ≤ 6) : sensR g = (0, 3) := by simp [sensR, firstF, need, h]
theorem sensR_at {g : Ga} {k : Nat} {c : Int} (h0 : (g.sn : Int) ≤ 6) (hk : k < g.sn) (h : ∀ j, j < k → (sensAt g j).e = 0) (hc : (sensAt g k).e = c) (hb : c ≠ 0) : sensR g = ((k : Int), c) := by
  unfold sensR
  rw [each_at _ g.sn k hk h (by rw [hc]; exact hb), hc]
  simp [firstF, need, h0, hb]
theorem sensR_wrong {g : Ga} (h0 : (g.sn : Int) ≤ 6) (h : ∀ j, j < g.sn → (sensAt g j).e = 0) : sensR g = (0, if betw g.wrong 0 g.sn = true then 0 else 7) := by
  unfold sensR
  rw [each_none _ g.sn h]
  cases h1 : betw g.wrong 0 g.sn <;> simp [firstF, need, h0, h1]
theorem sens_a {s : Sn} (h : betw s.kind 1 2 = false) : (sensFt s).e = 2 := by
  have : ((decide (s.kind = 1) && decide (s.at_ = 0)) || decide (s.kind = 2)) = false := by
    cases hx : ((decide (s.kind = 1) && decide (s.at_ = 0)) || decide (s.kind = 2))
    · rfl
    · exfalso
      simp only [Bool.or_eq_true, Bool.and_eq_true, decide_eq_true_eq] at hx
      have : betw s.kind 1 2 = true := by simp only [betw, Bool.and_eq_true, decide_eq_true_eq]; omega
      rw [h] at this; cases this
  simp [sensFt, firstF, need, this]
theorem sens_b {s : Sn} (h : betw s.kind 1 2 = true) (h1 : s.kind = 1) (h2 : s.at_ ≠ 0) : (sensFt s).e = 2 := by simp [sensFt, firstF, need, h1, h2]
theorem sens_c {s : Sn} (h : betw s.kind 1 2 = true) (h1 : s.kind ≠ 1 ∨ s.at_ = 0) : (sensFt s).e = if (betw s.at_ 0 5000 && betw s.tol 0 5000) = true then 0 else 7 := by
  have : ((decide (s.kind = 1) && decide (s.at_ = 0)) || decide (s.kind = 2)) = true := by
    simp only [betw, Bool.and_eq_true, decide_eq_true_eq] at h
    simp only [Bool.or_eq_true, Bool.and_eq_true, decide_eq_true_eq]
    omega
  cases hb : (betw s.at_ 0 5000 && betw s.tol 0 5000) <;> simp [sensFt, firstF, need, this, hb]

theorem sensAt_of {g : Ga} {k : Nat} {s : Sn} (h : g.ss[k]? = some s) : sensAt g k = sensFt s := by unfold sensAt; rw [List.getD_eq_getElem?_getD, h]; rfl
set_option maxRecDepth 100000 in
set_option maxHeartbeats 4000000 in
theorem rsensors_any (g : Ga) (w : World) (hg : g.At w w.heap.size) :
    Calls Tryz.prog 88 #[g.v] w fun e w' => e = .returned (pairV (sensR g)) ∧ Below w.heap.size w w' := by
  have Hg := Lib.hid hg
  have hsn := hg.sn
  unfold maxLen at hsn
  clear hg
  by_cases h0 : (g.sn : Int) ≤ 6
  · have Hat := Lib.hid (fun k c (h1 : k < g.sn) (h2 : ∀ j, j < k → (sensAt g j).e = 0) (h3 : (sensAt g k).e = c) (h4 : c ≠ 0) => sensR_at (g := g) h0 h1 h2 h3 h4)
    have Hok := Lib.hid (fun (h2 : ∀ j, j < g.sn → (sensAt g j).e = 0) => sensR_wrong (g := g) h0 h2)
    have HW := Lib.hid (rin_is g.wrong 0 (g.sn : Int) _ rfl)
    generalize sensR g = r at *
    go_enter Tryz.func88, Tryz.ntmps88
    go_wp2
    go_loopw [4] (fun i wr => ∃ k : Nat, k ≤ g.sn ∧ i = .int .i64 k ∧ Hid (∀ j, j < k → (sensAt g j).e = 0) ∧ Hid (Blk wr w.heap.size 25 (grow g)) ∧ Below w.heap.size w wr)
      (fun i _ => g.sn - (intOf i).toNat)
    case atStart => exact ⟨0, Nat.zero_le _, rfl, fun j hj => by omega, Blk.new w _ _, (by repeat (first | exact Below.refl _ _ | assumption | (refine Below.setCell ?_ (by first | omega | (simp; done) | (simp; omega)) _) | (refine Below.alloc ?_ (by first | omega | (simp; done) | (simp; omega)) _) | refine Below.drew ?_ | (refine below_thru ?_ (by assumption) (by first | omega | (simp; done) | (simp; omega))) | refine below_drewN ?_ _))⟩
    case round =>
      obtain ⟨k, hkn, rfl, hprev, hbg, hbr⟩ := hrel
      have hzr := hbg.out.lt
      have k19 : wr.cell? ⟨w.heap.size, 19, none⟩ = some (.slice g.sA g.sn g.sc) := hbg.out.cell 19
      have k20 : wr.cell? ⟨w.heap.size, 20, none⟩ = some (.int .i64 g.wrong) := hbg.out.cell 20
      by_cases hlt : k < g.sn
      · obtain ⟨s, hs⟩ := get_lt Hg.out.sl hlt
        obtain ⟨b, off, hA, hb, c0, c1, c2⟩ := Hg.out.s.three (k := k) (x := .int .i64 s.kind) (y := .int .i64 s.at_) (z := .int .i64 s.tol) (by simp [hs])
        have c0 := (hbr.cell (p := ⟨b, off + k * 3, none⟩) hb).trans c0
        have c1 := (hbr.cell (p := ⟨b, off + k * 3 + 1, none⟩) hb).trans c1
        have c2 := (hbr.cell (p := ⟨b, off + k * 3 + 2, none⟩) hb).trans c2
        rw [hA] at k19
        have i0 : (0 : Int) ≤ (k : Int) := Int.natCast_nonneg _
        have i1 : (k : Int) < (g.sn : Int) := by omega
        have Hat := Lib.hid (fun (c : Int) => Hat.out k c hlt hprev.out)
        have Hnext := Lib.hid (fun (h : (sensAt g k).e = 0) => (show Hid (∀ j, j < k + 1 → (sensAt g j).e = 0) from fun j hj => by
          rcases Nat.lt_or_ge j k with h1 | h1
          · exact hprev.out j h1
          · obtain rfl : j = k := by omega
            exact h))
        rw [sensAt_of hs] at Hat Hnext
        have Ha := Lib.hid (sens_a (s := s))
        have Hb := Lib.hid (sens_b (s := s))
        have Hc := Lib.hid (sens_c (s := s))
        have HI := Lib.hid (fun b h => rin_is s.kind 1 2 b h)
        have HJ := Lib.hid (fun b h => rin_is s.at_ 0 5000 b h)
        have HK := Lib.hid (fun b h => rin_is s.tol 0 5000 b h)
        clear hA hs k20
        cases hI : betw s.kind 1 2
        · have HI := Lib.hid (HI.out _ hI)
          have Hfin := Lib.hid (Hat.out 2 (Ha.out hI) (by omega))
          clear hI
          go_wp2_with fail
          refine (HI.out _).mono ?_
          rintro e w1 ⟨rfl, rfl⟩
          go_wp2
          go_ret2
          exact ⟨by rw [Hfin.out]; rfl, (by repeat (first | exact Below.refl _ _ | assumption | (refine Below.setCell ?_ (by first | omega | (simp; done) | (simp; omega)) _) | (refine Below.alloc ?_ (by first | omega | (simp; done) | (simp; omega)) _) | refine Below.drew ?_ | (refine below_thru ?_ (by assumption) (by first | omega | (simp; done) | (simp; omega))) | refine below_drewN ?_ _))⟩
        · have HI := Lib.hid (HI.out _ hI)
          by_cases hbad : s.kind = 1 ∧ s.at_ ≠ 0
          · have Hfin := Lib.hid (Hat.out 2 (Hb.out hI hbad.1 hbad.2) (by omega))
            have q1 : (s.kind == 1) = true := by rw [beq_iff_eq]; exact hbad.1
            have q2 : (s.at_ != 0) = true := by rw [bne_iff_ne]; exact hbad.2
            clear hI hbad
            go_wp2_with fail
            refine (HI.out _).mono ?_
            rintro e w1 ⟨rfl, rfl⟩
            go_wp2
            go_ret2
            exact ⟨by rw [Hfin.out]; rfl, (by repeat (first | exact Below.refl _ _ | assumption | (refine Below.setCell ?_ (by first | omega | (simp; done) | (simp; omega)) _) | (refine Below.alloc ?_ (by first | omega | (simp; done) | (simp; omega)) _) | refine Below.drew ?_ | (refine below_thru ?_ (by assumption) (by first | omega | (simp; done) | (simp; omega))) | refine below_drewN ?_ _))⟩
          · have hor : s.kind ≠ 1 ∨ s.at_ = 0 := by omega
            have Hc := Lib.hid (Hc.out hI hor)
            clear hbad
            cases hJ : betw s.at_ 0 5000
            · have HJ := Lib.hid (HJ.out _ hJ)
              have Hfin := Lib.hid (Hat.out 7 (by rw [Hc.out, hJ]; rfl) (by omega))
              clear hJ hI
              rcases (show (s.kind == 1) = false ∨ (s.kind == 1) = true ∧ (s.at_ != 0) = false by
                by_cases h1 : s.kind = 1
                · exact .inr ⟨by rw [beq_iff_eq]; exact h1, by rw [bne_eq_false_iff_eq]; omega⟩
                · exact .inl (by rw [beq_eq_false_iff_ne]; exact h1)) with q1 | ⟨q1, q2⟩
              all_goals
                clear hor
                go_wp2_with fail
                refine (HI.out _).mono ?_
                rintro e w1 ⟨rfl, rfl⟩
                go_wp2_with fail
                refine (HJ.out _).mono ?_
                rintro e w1 ⟨rfl, rfl⟩
                go_wp2
                go_ret2
                exact ⟨by rw [Hfin.out]; rfl, (by repeat (first | exact Below.refl _ _ | assumption | (refine Below.setCell ?_ (by first | omega | (simp; done) | (simp; omega)) _) | (refine Below.alloc ?_ (by first | omega | (simp; done) | (simp; omega)) _) | refine Below.drew ?_ | (refine below_thru ?_ (by assumption) (by first | omega | (simp; done) | (simp; omega))) | refine below_drewN ?_ _))⟩
            · have HJ := Lib.hid (HJ.out _ hJ)
              cases hK : betw s.tol 0 5000
              · have HK := Lib.hid (HK.out _ hK)
                have Hfin := Lib.hid (Hat.out 7 (by rw [Hc.out, hJ, hK]; rfl) (by omega))
                clear hJ hI hK
                rcases (show (s.kind == 1) = false ∨ (s.kind == 1) = true ∧ (s.at_ != 0) = false by
                  by_cases h1 : s.kind = 1
                  · exact .inr ⟨by rw [beq_iff_eq]; exact h1, by rw [bne_eq_false_iff_eq]; omega⟩
                  · exact .inl (by rw [beq_eq_false_iff_ne]; exact h1)) with q1 | ⟨q1, q2⟩
                all_goals
                  clear hor
                  go_wp2_with fail
                  refine (HI.out _).mono ?_
                  rintro e w1 ⟨rfl, rfl⟩
                  go_wp2_with fail
                  refine (HJ.out _).mono ?_
                  rintro e w1 ⟨rfl, rfl⟩
                  go_wp2_with fail
                  refine (HK.out _).mono ?_
                  rintro e w1 ⟨rfl, rfl⟩
                  go_wp2
                  go_ret2
                  exact ⟨by rw [Hfin.out]; rfl, (by repeat (first | exact Below.refl _ _ | assumption | (refine Below.setCell ?_ (by first | omega | (simp; done) | (simp; omega)) _) | (refine Below.alloc ?_ (by first | omega | (simp; done) | (simp; omega)) _) | refine Below.drew ?_ | (refine below_thru ?_ (by assumption) (by first | omega | (simp; done) | (simp; omega))) | refine below_drewN ?_ _))⟩
              · have HK := Lib.hid (HK.out _ hK)
                have Hn := Lib.hid (Hnext.out (by rw [Hc.out, hJ, hK]; rfl))
                clear hJ hI hK
                rcases (show (s.kind == 1) = false ∨ (s.kind == 1) = true ∧ (s.at_ != 0) = false by
                  by_cases h1 : s.kind = 1
                  · exact .inr ⟨by rw [beq_iff_eq]; exact h1, by rw [bne_eq_false_iff_eq]; omega⟩
                  · exact .inl (by rw [beq_eq_false_iff_ne]; exact h1)) with q1 | ⟨q1, q2⟩
                all_goals
                  clear hor
                  go_wp2_with fail
                  refine (HI.out _).mono ?_
                  rintro e w1 ⟨rfl, rfl⟩
                  go_wp2_with fail
                  refine (HJ.out _).mono ?_
                  rintro e w1 ⟨rfl, rfl⟩
                  go_wp2_with fail
                  refine (HK.out _).mono ?_
                  rintro e w1 ⟨rfl, rfl⟩
                  go_wp2
                  go_roundw
                  case rel => exact ⟨k + 1, by omega, by go_num, Hn.out, hbg.out.alloc _, (by repeat (first | exact Below.refl _ _ | assumption | (refine Below.setCell ?_ (by first | omega | (simp; done) | (simp; omega)) _) | (refine Below.alloc ?_ (by first | omega | (simp; done) | (simp; omega)) _) | refine Below.drew ?_ | (refine below_thru ?_ (by assumption) (by first | omega | (simp; done) | (simp; omega))) | refine below_drewN ?_ _))⟩
                  case measure => simp [intOf]; omega
      · obtain rfl : k = g.sn := by omega
        have hfin := Hok.out hprev.out
        cases hW : betw g.wrong 0 g.sn
        · rw [hW] at hfin HW
          have Hfin := Lib.hid hfin
          clear hfin hW
          go_wp2_with fail
          refine (HW.out _).mono ?_
          rintro e w1 ⟨rfl, rfl⟩
          go_wp2
          go_ret2
          exact ⟨by rw [Hfin.out]; rfl, (by repeat (first | exact Below.refl _ _ | assumption | (refine Below.setCell ?_ (by first | omega | (simp; done) | (simp; omega)) _) | (refine Below.alloc ?_ (by first | omega | (simp; done) | (simp; omega)) _) | refine Below.drew ?_ | (refine below_thru ?_ (by assumption) (by first | omega | (simp; done) | (simp; omega))) | refine below_drewN ?_ _))⟩
        · rw [hW] at hfin HW
          have Hfin := Lib.hid hfin
          clear hfin hW
          go_wp2_with fail
          refine (HW.out _).mono ?_
          rintro e w1 ⟨rfl, rfl⟩
          go_wp2
          go_ret2
          exact ⟨by rw [Hfin.out]; rfl, (by repeat (first | exact Below.refl _ _ | assumption | (refine Below.setCell ?_ (by first | omega | (simp; done) | (simp; omega)) _) | (refine Below.alloc ?_ (by first | omega | (simp; done) | (simp; omega)) _) | refine Below.drew ?_ | (refine below_thru ?_ (by assumption) (by first | omega | (simp; done) | (simp; omega))) | refine below_drewN ?_ _))⟩
  · rw [sensR_long h0]
    have h0' : ¬ (g.sn : Int) ≤ 6 := h0
    go_enter Tryz.func88, Tryz.ntmps88
    go_wp2
    go_ret2
    exact ⟨rfl, (by repeat (first | exact Below.refl _ _ | assumption | (refine Below.setCell ?_ (by first | omega | (simp; done) | (simp; omega)) _) | (refine Below.alloc ?_ (by first | omega | (simp; done) | (simp; omega)) _) | refine Below.drew ?_ | (refine below_thru ?_ (by assumption) (by first | omega | (simp; done) | (simp; omega))) | refine below_drewN ?_ _))⟩
end Go.Proofs.YtmhfnnpbnocafaaGreat

namespace Go.Proofs.YtmhfnnpbnocafaaGreat
open Go.RowKit
set_option linter.unusedSimpArgs false
set_option linter.unusedVariables false

def tri (a b c : Int) : Value := .tuple #[.int .i64 a, .int .i64 b, .int .i64 c]
theorem gateF_a (g : Ga) (h1 : nameB g.name = false) : gateF g = ⟨1, 0, 6⟩ := by simp [gateF, gateL, firstF, need, Ft.in_, h1]
theorem gateF_b (g : Ga) (h1 : nameB g.name = true) (h2 : betw g.kind 1 3 = false) : gateF g = ⟨1, 0, 2⟩ := by simp [gateF, gateL, firstF, need, Ft.in_, h1, h2]
theorem gateF_c (g : Ga) (h1 : nameB g.name = true) (h2 : betw g.kind 1 3 = true) (h3 : betw g.travel 1 5000 = false) : gateF g = ⟨1, 0, 7⟩ := by simp [gateF, gateL, firstF, need, Ft.in_, h1, h2, h3]
/-- The rest of Check behind the travel. -/
def restF (g : Ga) : Ft := if (ownR g).2 = 0 then (if numsB g = true then (if (sensR g).2 = 0 then ⟨0, 0, 0⟩ else ⟨4, (sensR g).1, (sensR g).2⟩) else ⟨3, 0, 7⟩) else ⟨2, (ownR g).1, (ownR g).2⟩
theorem gateF_d (g : Ga) (h1 : nameB g.name = true) (h2 : betw g.kind 1 3 = true) (h3 : betw g.travel 1 5000 = true) : gateF g = restF g := by
  unfold restF ownR sensR
  simp only [gateF, gateL]
  cases h4 : betw g.on 2 16
  · simp [firstF, need, Ft.in_, h1, h2, h3, h4]
  · by_cases h5 : (eachF (fun i => ownFt g i) 0 g.on).e = 0
    · cases h6 : numsB g
      · simp [firstF, need, Ft.in_, h1, h2, h3, h4, h5, h6]
      · by_cases h7 : (g.sn : Int) ≤ 6
        · by_cases h8 : (eachF (fun i => sensAt g i) 0 g.sn).e = 0
          · cases h9 : betw g.wrong 0 g.sn <;> simp [firstF, need, Ft.in_, h1, h2, h3, h4, h5, h6, h7, h8, h9]
          · simp [firstF, need, Ft.in_, h1, h2, h3, h4, h5, h6, h7, h8]
        · simp [firstF, need, Ft.in_, h1, h2, h3, h4, h5, h6, h7]
    · simp [firstF, need, Ft.in_, h1, h2, h3, h4, h5]
theorem restF_own {g : Ga} (h : (ownR g).2 ≠ 0) : restF g = ⟨2, (ownR g).1, (ownR g).2⟩ := by unfold restF; rw [if_neg h]
theorem restF_nums {g : Ga} (h : (ownR g).2 = 0) (h2 : numsB g = false) : restF g = ⟨3, 0, 7⟩ := by unfold restF; rw [if_pos h, h2]; rfl
theorem restF_sens {g : Ga} (h : (ownR g).2 = 0) (h2 : numsB g = true) : restF g = if (sensR g).2 = 0 then ⟨0, 0, 0⟩ else ⟨4, (sensR g).1, (sensR g).2⟩ := by unfold restF; rw [if_pos h, if_pos h2]

set_option maxRecDepth 100000 in
set_option maxHeartbeats 8000000 in
theorem rCheck_any (g : Ga) (w : World) (hg : g.At w w.heap.size) :
    Calls Tryz.prog 28 #[g.v] w fun e w' => e = .returned (tri (gateF g).part (gateF g).at_ (gateF g).e) ∧ Below w.heap.size w w' := by
  have Hg := Lib.hid hg
  have HN := Lib.hid (fun W => r1Name_any g.name W hg.name)
  have HK := Lib.hid (fun b h => rin_is g.kind 1 3 b h)
  have HT := Lib.hid (fun b h => rin_is g.travel 1 5000 b h)
  have HO := Lib.hid (fun W (h : g.At W W.heap.size) h2 => rown_any g W h h2)
  have HS := Lib.hid (fun W (h : g.At W W.heap.size) => rsensors_any g W h)
  clear hg
  have fa := gateF_a g
  have fb := gateF_b g
  have fc := gateF_c g
  have fd := gateF_d g
  generalize gateF g = f at *
  cases h1 : nameB g.name
  · have Hf := Lib.hid (fa h1)
    rw [h1] at HN
    clear fa fb fc fd h1
    go_enter Tryz.func28, Tryz.ntmps28
    go_wp2_with fail
    refine (HN.out _).mono ?_
    rintro e w' ⟨rfl, rfl⟩
    go_wp2
    go_ret3
    exact ⟨by rw [Hf.out]; rfl, (by repeat (first | exact Below.refl _ _ | assumption | (refine Below.setCell ?_ (by first | omega | (simp; done) | (simp; omega)) _) | (refine Below.alloc ?_ (by first | omega | (simp; done) | (simp; omega)) _) | refine Below.drew ?_ | (refine below_thru ?_ (by assumption) (by first | omega | (simp; done) | (simp; omega))) | refine below_drewN ?_ _))⟩
  rw [h1] at HN
  have fb := fb h1
  have fc := fc h1
  have fd := fd h1
  clear fa h1
  cases h2 : betw g.kind 1 3
  · have Hf := Lib.hid (fb h2)
    have HK := Lib.hid (HK.out _ h2)
    clear fb fc fd h2
    go_enter Tryz.func28, Tryz.ntmps28
    go_wp2_with fail
    refine (HN.out _).mono ?_
    rintro e w' ⟨rfl, rfl⟩
    go_wp2_with fail
    refine (HK.out _).mono ?_
    rintro e w' ⟨rfl, rfl⟩
    go_wp2
    go_ret3
    exact ⟨by rw [Hf.out]; rfl, (by repeat (first | exact Below.refl _ _ | assumption | (refine Below.setCell ?_ (by first | omega | (simp; done) | (simp; omega)) _) | (refine Below.alloc ?_ (by first | omega | (simp; done) | (simp; omega)) _) | refine Below.drew ?_ | (refine below_thru ?_ (by assumption) (by first | omega | (simp; done) | (simp; omega))) | refine below_drewN ?_ _))⟩
  have HK := Lib.hid (HK.out _ h2)
  have HO := Lib.hid (fun W h => HO.out W h h2)
  have fc := fc h2
  have fd := fd h2
  clear fb h2
  cases h3 : betw g.travel 1 5000
  · have Hf := Lib.hid (fc h3)
    have HT := Lib.hid (HT.out _ h3)
    clear fc fd h3
    go_enter Tryz.func28, Tryz.ntmps28
    go_wp2_with fail
    refine (HN.out _).mono ?_
    rintro e w' ⟨rfl, rfl⟩
    go_wp2_with fail
    refine (HK.out _).mono ?_
    rintro e w' ⟨rfl, rfl⟩
    go_wp2_with fail
    refine (HT.out _).mono ?_
    rintro e w' ⟨rfl, rfl⟩
    go_wp2
    go_ret3
    exact ⟨by rw [Hf.out]; rfl, (by repeat (first | exact Below.refl _ _ | assumption | (refine Below.setCell ?_ (by first | omega | (simp; done) | (simp; omega)) _) | (refine Below.alloc ?_ (by first | omega | (simp; done) | (simp; omega)) _) | refine Below.drew ?_ | (refine below_thru ?_ (by assumption) (by first | omega | (simp; done) | (simp; omega))) | refine below_drewN ?_ _))⟩
  have HT := Lib.hid (HT.out _ h3)
  have fd := fd h3
  subst fd
  have h33 := h3
  simp only [betw, Bool.and_eq_true, decide_eq_true_eq] at h33
  obtain ⟨tr0, tr1⟩ := h33
  clear fc h3
  have ro := restF_own (g := g)
  have rn := restF_nums (g := g)
  have rs := restF_sens (g := g)
  generalize restF g = f at *
  obtain ⟨o1, o2, ho⟩ : ∃ o1 o2, ownR g = (o1, o2) := ⟨_, _, rfl⟩
  rw [ho] at ro rn rs HO
  have HO := Lib.hid (show ∀ W, g.At W W.heap.size → Calls Tryz.prog 83 #[g.v] W fun e w' => e = .returned (.tuple #[.int .i64 o1, .int .i64 o2]) ∧ Below W.heap.size W w' from HO.out)
  simp only at ro rn rs
  clear ho
  by_cases h4 : o2 = 0
  · subst h4
    have rn := rn rfl
    have rs := rs rfl
    clear ro
    obtain ⟨z1, z2, hz⟩ : ∃ z1 z2, sensR g = (z1, z2) := ⟨_, _, rfl⟩
    rw [hz] at rs HS
    have HS := Lib.hid (show ∀ W, g.At W W.heap.size → Calls Tryz.prog 88 #[g.v] W fun e w' => e = .returned (.tuple #[.int .i64 z1, .int .i64 z2]) ∧ Below W.heap.size W w' from HS.out)
    simp only at rs
    clear hz
    have hnum : numsB g = (levelB g.opn && levelB g.shut && betw g.height 1 30000 && betw g.float 0 10000 && betw g.slide 0 10000 && betw g.push (-10000) 10000 && betw g.sealN 0 200000 && betw g.drive 0 200000 && betw g.brake 0 200000 && betw g.speed 1 100 && betw g.gravity 1 100 && betw g.use 0 100000 && betw g.pump 0 100000 && betw g.capacity 0 100000 && betw g.slack 0 ((g.travel - 1) / 2)) := by
      simp only [numsB, levels2B]
      rw [Bool.eq_iff_iff]
      simp only [Bool.and_eq_true]
      exact ⟨fun h => by simp only [h, and_self], fun h => by simp only [h, and_self]⟩
    have htd : (g.travel - 1).tdiv 2 = (g.travel - 1) / 2 := Int.tdiv_eq_ediv_of_nonneg (by omega)
    have H0 := Lib.hid (rlevel_is g.opn _ rfl)
    have H1 := Lib.hid (rlevel_is g.shut _ rfl)
    have H2 := Lib.hid (rin_is g.height 1 30000 _ rfl)
    have H3 := Lib.hid (rrate_is g.float _ rfl)
    have H4 := Lib.hid (rrate_is g.slide _ rfl)
    have H5 := Lib.hid (rin_is g.push (-10000) 10000 _ rfl)
    have H6 := Lib.hid (rforce_is g.sealN _ rfl)
    have H7 := Lib.hid (rforce_is g.drive _ rfl)
    have H8 := Lib.hid (rforce_is g.brake _ rfl)
    have H9 := Lib.hid (rin_is g.speed 1 100 _ rfl)
    have H10 := Lib.hid (rin_is g.gravity 1 100 _ rfl)
    have H11 := Lib.hid (roil_is g.use _ rfl)
    have H12 := Lib.hid (roil_is g.pump _ rfl)
    have H13 := Lib.hid (roil_is g.capacity _ rfl)
    have H14 := Lib.hid (rin_is g.slack 0 ((g.travel - 1) / 2) _ rfl)
    generalize levelB g.opn = b0 at *
    generalize levelB g.shut = b1 at *
    generalize betw g.height 1 30000 = b2 at *
    generalize betw g.float 0 10000 = b3 at *
    generalize betw g.slide 0 10000 = b4 at *
    generalize betw g.push (-10000) 10000 = b5 at *
    generalize betw g.sealN 0 200000 = b6 at *
    generalize betw g.drive 0 200000 = b7 at *
    generalize betw g.brake 0 200000 = b8 at *
    generalize betw g.speed 1 100 = b9 at *
    generalize betw g.gravity 1 100 = b10 at *
    generalize betw g.use 0 100000 = b11 at *
    generalize betw g.pump 0 100000 = b12 at *
    generalize betw g.capacity 0 100000 = b13 at *
    generalize betw g.slack 0 ((g.travel - 1) / 2) = b14 at *
    rw [hnum] at rn rs
    have RN := Lib.hid rn
    have RS := Lib.hid rs
    have HTD := Lib.hid htd
    clear rn rs hnum
    clear htd
    go_enter Tryz.func28, Tryz.ntmps28
    go_wp2_with fail
    refine (HN.out _).mono ?_
    rintro e w' ⟨rfl, rfl⟩
    go_wp2_with fail
    refine (HK.out _).mono ?_
    rintro e w' ⟨rfl, rfl⟩
    go_wp2_with fail
    refine (HT.out _).mono ?_
    rintro e w' ⟨rfl, rfl⟩
    go_wp2_with (with_reducible refine wpl_g (g := g) (b := w.heap.size) (t := 25) (by (repeat (first | assumption | exact Blk.new _ _ _ | (refine Blk.new' _ _ _ ?_; (simp; done)) | refine Blk.drew ?_ | refine Blk.alloc ?_ _ | (refine Blk.fars ?_ ?_ _ _; rotate_left; (dsimp only; omega)) | (refine Blk.far ?_ ?_ _; rotate_left; (first | (dsimp only; omega) | (simp; done) | (simp; omega) | omega))))) rfl rfl rfl ?_)
    refine (HO.out _ (Hg.out.grow (by repeat (first | exact Below.refl _ _ | assumption | (refine Below.setCell ?_ (by first | omega | (simp; done) | (simp; omega)) _) | (refine Below.alloc ?_ (by first | omega | (simp; done) | (simp; omega)) _) | refine Below.drew ?_ | (refine below_thru ?_ (by assumption) (by first | omega | (simp; done) | (simp; omega))) | refine below_drewN ?_ _)))).mono ?_
    rintro e w1 ⟨rfl, hb1⟩
    obtain ⟨hc1, hf1⟩ := bcell hb1; have hz1 := hb1.size; (try simp at hz1)
    have hB1 : Blk w1 w.heap.size 25 (grow g) := Blk.thru (by (repeat (first | assumption | exact Blk.new _ _ _ | (refine Blk.new' _ _ _ ?_; (simp; done)) | refine Blk.drew ?_ | refine Blk.alloc ?_ _ | (refine Blk.fars ?_ ?_ _ _; rotate_left; (dsimp only; omega)) | (refine Blk.far ?_ ?_ _; rotate_left; (first | (dsimp only; omega) | (simp; done) | (simp; omega) | omega))))) hb1 (by simp <;> omega)
    have HB1 := Lib.hid hB1
    have hw1 : Below w.heap.size w w1 := (by repeat (first | exact Below.refl _ _ | assumption | (refine Below.setCell ?_ (by first | omega | (simp; done) | (simp; omega)) _) | (refine Below.alloc ?_ (by first | omega | (simp; done) | (simp; omega)) _) | refine Below.drew ?_ | (refine below_thru ?_ (by assumption) (by first | omega | (simp; done) | (simp; omega))) | refine below_drewN ?_ _))
    have hl1 := hB1.lt
    clear hb1 hc1 hf1 hB1
    have c4 : w1.cell? ⟨w.heap.size, 4, none⟩ = some (.int .i64 g.opn) := HB1.out.cell 4
    have c5 : w1.cell? ⟨w.heap.size, 5, none⟩ = some (.int .i64 g.shut) := HB1.out.cell 5
    have c6 : w1.cell? ⟨w.heap.size, 6, none⟩ = some (.int .i64 g.height) := HB1.out.cell 6
    have c7 : w1.cell? ⟨w.heap.size, 7, none⟩ = some (.int .i64 g.float) := HB1.out.cell 7
    have c8 : w1.cell? ⟨w.heap.size, 8, none⟩ = some (.int .i64 g.push) := HB1.out.cell 8
    have c9 : w1.cell? ⟨w.heap.size, 9, none⟩ = some (.int .i64 g.slide) := HB1.out.cell 9
    have c10 : w1.cell? ⟨w.heap.size, 10, none⟩ = some (.int .i64 g.sealN) := HB1.out.cell 10
    have c11 : w1.cell? ⟨w.heap.size, 11, none⟩ = some (.int .i64 g.drive) := HB1.out.cell 11
    have c12 : w1.cell? ⟨w.heap.size, 12, none⟩ = some (.int .i64 g.brake) := HB1.out.cell 12
    have c13 : w1.cell? ⟨w.heap.size, 13, none⟩ = some (.int .i64 g.speed) := HB1.out.cell 13
    have c14 : w1.cell? ⟨w.heap.size, 14, none⟩ = some (.int .i64 g.gravity) := HB1.out.cell 14
    have c15 : w1.cell? ⟨w.heap.size, 15, none⟩ = some (.int .i64 g.use) := HB1.out.cell 15
    have c16 : w1.cell? ⟨w.heap.size, 16, none⟩ = some (.int .i64 g.pump) := HB1.out.cell 16
    have c17 : w1.cell? ⟨w.heap.size, 17, none⟩ = some (.int .i64 g.capacity) := HB1.out.cell 17
    have c18 : w1.cell? ⟨w.heap.size, 18, none⟩ = some (.int .i64 g.slack) := HB1.out.cell 18
    have c2 : w1.cell? ⟨w.heap.size, 2, none⟩ = some (.int .i64 g.travel) := HB1.out.cell 2
    go_upto_region 10 with fail
    go_cut [7] from 29 to 71 (fun s7 wx => s7 = .bool (b0 && b1 && b2 && b3 && b4 && b5 && b6 && b7 && b8) ∧ wx = w1)
    case first =>
      go_wp2_with fail
      refine (H0.out _).mono ?_
      rintro e w2 ⟨rfl, rfl⟩
      cases b0
      · go_wp2
        go_meet
        exact ⟨rfl, rfl⟩
      go_wp2_with fail
      refine (H1.out _).mono ?_
      rintro e w2 ⟨rfl, rfl⟩
      cases b1
      · go_wp2
        go_meet
        exact ⟨rfl, rfl⟩
      go_wp2_with fail
      refine (H2.out _).mono ?_
      rintro e w2 ⟨rfl, rfl⟩
      cases b2
      · go_wp2
        go_meet
        exact ⟨rfl, rfl⟩
      go_wp2_with fail
      refine (H3.out _).mono ?_
      rintro e w2 ⟨rfl, rfl⟩
      cases b3
      · go_wp2
        go_meet
        exact ⟨rfl, rfl⟩
      go_wp2_with fail
      refine (H4.out _).mono ?_
      rintro e w2 ⟨rfl, rfl⟩
      cases b4
      · go_wp2
        go_meet
        exact ⟨rfl, rfl⟩
      go_wp2_with fail
      refine (H5.out _).mono ?_
      rintro e w2 ⟨rfl, rfl⟩
      cases b5
      · go_wp2
        go_meet
        exact ⟨rfl, rfl⟩
      go_wp2_with fail
      refine (H6.out _).mono ?_
      rintro e w2 ⟨rfl, rfl⟩
      cases b6
      · go_wp2
        go_meet
        exact ⟨rfl, rfl⟩
      go_wp2_with fail
      refine (H7.out _).mono ?_
      rintro e w2 ⟨rfl, rfl⟩
      cases b7
      · go_wp2
        go_meet
        exact ⟨rfl, rfl⟩
      go_wp2_with fail
      refine (H8.out _).mono ?_
      rintro e w2 ⟨rfl, rfl⟩
      cases b8
      · go_wp2
        go_meet
        exact ⟨rfl, rfl⟩
      go_wp2
      go_meet
      exact ⟨rfl, rfl⟩
    obtain ⟨rfl, hwc⟩ := hcut
    obtain rfl : w1 = wc := hwc.symm
    generalize (b0 && b1 && b2 && b3 && b4 && b5 && b6 && b7 && b8) = G at *
    cases G
    · go_wp2
      go_ret3
      exact ⟨by rw [RN.out (by first | rfl | trivial)]; rfl, hw1⟩
    go_upto_region 11 with fail
    go_cut [7] from 72 to 106 (fun s7 wx => s7 = .bool (true && b9 && b10 && b11 && b12 && b13 && b14) ∧ wx = w1)
    case first =>
      go_wp2_with fail
      refine (H9.out _).mono ?_
      rintro e w2 ⟨rfl, rfl⟩
      cases b9
      · go_wp2
        go_meet
        exact ⟨rfl, rfl⟩
      go_wp2_with fail
      refine (H10.out _).mono ?_
      rintro e w2 ⟨rfl, rfl⟩
      cases b10
      · go_wp2
        go_meet
        exact ⟨rfl, rfl⟩
      go_wp2_with fail
      refine (H11.out _).mono ?_
      rintro e w2 ⟨rfl, rfl⟩
      cases b11
      · go_wp2
        go_meet
        exact ⟨rfl, rfl⟩
      go_wp2_with fail
      refine (H12.out _).mono ?_
      rintro e w2 ⟨rfl, rfl⟩
      cases b12
      · go_wp2
        go_meet
        exact ⟨rfl, rfl⟩
      go_wp2_with fail
      refine (H13.out _).mono ?_
      rintro e w2 ⟨rfl, rfl⟩
      cases b13
      · go_wp2
        go_meet
        exact ⟨rfl, rfl⟩
      go_wp2_with fail
      refine (H14.out _).mono ?_
      rintro e w2 ⟨rfl, rfl⟩
      cases b14
      · go_wp2
        go_meet
        exact ⟨rfl, rfl⟩
      go_wp2
      go_meet
      exact ⟨rfl, rfl⟩
    obtain ⟨rfl, hwc⟩ := hcut
    obtain rfl : w1 = wc := hwc.symm
    generalize (true && b9 && b10 && b11 && b12 && b13 && b14) = G at *
    cases G
    · go_wp2
      go_ret3
      exact ⟨by rw [RN.out (by first | rfl | trivial)]; rfl, hw1⟩
    have hs := RS.out (by first | rfl | trivial)
    have Hs := Lib.hid hs
    clear hs
    clear c4 c5 c6 c7 c8 c9 c10 c11 c12 c13 c14 c15 c16 c17 c18 c2
    go_wp2_with (with_reducible refine wpl_g (g := g) (b := w.heap.size) (t := 25) HB1.out rfl rfl rfl ?_)
    refine (HS.out _ (Hg.out.grow hw1)).mono ?_
    rintro e w3 ⟨rfl, hb3⟩
    have hw3 : Below w.heap.size w w3 := hw1.trans (hb3.mono (by omega))
    by_cases h5 : z2 = 0
    · subst h5
      go_wp2
      go_ret3
      exact ⟨by rw [Hs.out]; rfl, hw3⟩
    · have h5' : (z2 != 0) = true := by rw [bne_iff_ne]; exact h5
      have Hs5 := Lib.hid h5
      clear h5
      go_wp2
      go_ret3
      exact ⟨by rw [Hs.out, if_neg Hs5.out]; rfl, hw3⟩
  · have Hf := Lib.hid (ro h4)
    have h4' : (o2 != 0) = true := by rw [bne_iff_ne]; exact h4
    clear ro rn rs h4
    go_enter Tryz.func28, Tryz.ntmps28
    go_wp2_with fail
    refine (HN.out _).mono ?_
    rintro e w' ⟨rfl, rfl⟩
    go_wp2_with fail
    refine (HK.out _).mono ?_
    rintro e w' ⟨rfl, rfl⟩
    go_wp2_with fail
    refine (HT.out _).mono ?_
    rintro e w' ⟨rfl, rfl⟩
    go_wp2_with (with_reducible refine wpl_g (g := g) (b := w.heap.size) (t := 25) (by (repeat (first | assumption | exact Blk.new _ _ _ | (refine Blk.new' _ _ _ ?_; (simp; done)) | refine Blk.drew ?_ | refine Blk.alloc ?_ _ | (refine Blk.fars ?_ ?_ _ _; rotate_left; (dsimp only; omega)) | (refine Blk.far ?_ ?_ _; rotate_left; (first | (dsimp only; omega) | (simp; done) | (simp; omega) | omega))))) rfl rfl rfl ?_)
    refine (HO.out _ (Hg.out.grow (by repeat (first | exact Below.refl _ _ | assumption | (refine Below.setCell ?_ (by first | omega | (simp; done) | (simp; omega)) _) | (refine Below.alloc ?_ (by first | omega | (simp; done) | (simp; omega)) _) | refine Below.drew ?_ | (refine below_thru ?_ (by assumption) (by first | omega | (simp; done) | (simp; omega))) | refine below_drewN ?_ _)))).mono ?_
    rintro e w1 ⟨rfl, hb1⟩
    obtain ⟨hc1, hf1⟩ := bcell hb1; have hz1 := hb1.size; (try simp at hz1)
    go_wp2
    go_ret3
    exact ⟨by rw [Hf.out]; rfl, (by repeat (first | exact Below.refl _ _ | assumption | (refine Below.setCell ?_ (by first | omega | (simp; done) | (simp; omega)) _) | (refine Below.alloc ?_ (by first | omega | (simp; done) | (simp; omega)) _) | refine Below.drew ?_ | (refine below_thru ?_ (by assumption) (by first | omega | (simp; done) | (simp; omega))) | refine below_drewN ?_ _))⟩
end Go.Proofs.YtmhfnnpbnocafaaGreat
