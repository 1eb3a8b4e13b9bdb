/- Falls. -/
import Derived.Test.YtgdomaddjiggaaaGreatGtFalls
namespace Go.Proofs.YtgdomaddjiggaaaGreat
open Go.RowKit
set_option linter.unusedSimpArgs false
set_option linter.unusedVariables false

/-- The first position from k on, of n, at which a gate does not fall. -/
def fallsN (g : Ga) (a b : Int) : Nat → Nat → Int
  | _, 0 => -1
  | k, n + 1 => if netF g k a b ≤ rubF g k a b then k else fallsN g a b (k + 1) n
def fallsF (g : Ga) (a b : Int) : Int := fallsN g a b 0 g.travel.toNat
theorem falls_skip (g : Ga) (a b : Int) : ∀ (k i n : Nat), k ≤ n → (∀ j, j < k → ¬ netF g (i + j : Nat) a b ≤ rubF g (i + j : Nat) a b) → fallsN g a b i n = fallsN g a b (i + k) (n - k)
  | 0, i, n, _, _ => rfl
  | k + 1, i, n, h, hz => by
    obtain ⟨m, rfl⟩ : ∃ m, n = m + 1 := ⟨n - 1, by omega⟩
    have h0 := hz 0 (by omega)
    simp only [Nat.add_zero] at h0
    rw [fallsN, if_neg h0, falls_skip g a b k (i + 1) m (by omega) (fun j hj => by have := hz (j + 1) (by omega); rwa [show i + 1 + j = i + (j + 1) by omega]), show i + (k + 1) = i + 1 + k by omega, show m + 1 - (k + 1) = m - k by omega]
def fallsR (g : Ga) (a b : Int) : Int × Int := if (levelsFt g a b).e = 0 then (fallsF g a b, 0) else (0, (levelsFt g a b).e)

set_option maxRecDepth 100000 in
set_option maxHeartbeats 4000000 in
theorem Falls_any (g : Ga) (a b : Int) (w : World) (hg : g.At w w.heap.size) :
    Calls Tryz.prog 27 #[g.v, .int .i64 a, .int .i64 b] w fun e w' => e = .returned (pairV (fallsR g a b)) ∧ Below w.heap.size w w' := by
  have Hg := Lib.hid hg
  have HL := Lib.hid (fun W h => levelsFault_any g a b W h)
  by_cases h0 : (levelsFt g a b).e = 0
  · have hgo : g.Ok := gateF_ok g w _ hg (first0 _ h0 _ (by simp))
    have hlv := need_e (b := levels2B a b) (c := 7) (by omega) (first0 _ h0 (need (levels2B a b) 7) (by simp))
    simp only [levels2B, levelB, betw, Bool.and_eq_true, decide_eq_true_eq] at hlv
    obtain ⟨⟨a0, a1⟩, b0, b1⟩ := hlv
    have hf : fallsR g a b = (fallsF g a b, 0) := by unfold fallsR; rw [if_pos h0]
    rw [hf]
    clear hf
    obtain ⟨fp, fa, fe, hfl⟩ : ∃ fp fa fe, levelsFt g a b = ⟨fp, fa, fe⟩ := ⟨_, _, _, rfl⟩
    rw [hfl] at HL h0
    simp only at h0
    subst h0
    clear hfl
    have ht0 := hgo.t0
    have ht1 := hgo.t1
    have hol := hg.ol
    have HF := Lib.hid (fun (k : Nat) W h (hk : (k : Int) < g.travel) => forces_any g ⟨k, 0, false⟩ a b W h hgo ⟨Int.natCast_nonneg _, Int.le_of_lt hk, Int.le_refl _, hgo.cap0⟩ a0 a1 b0 b1)
    obtain ⟨T, hT⟩ : ∃ T : Nat, g.travel = T := ⟨g.travel.toNat, by omega⟩
    have hfin : fallsF g a b = fallsN g a b 0 T := by unfold fallsF; rw [hT]; rfl
    have Hfin := Lib.hid hfin
    have HT := Lib.hid hT
    clear hfin hgo hg hol hT
    go_enter Tryz.func27, Tryz.ntmps27
    go_wp2_with (with_reducible refine wpl_g (g := g) (Blk.new w _ _) rfl rfl rfl ?_)
    refine (HL.out _ (Hg.out.grow (by repeat (first | exact Below.refl _ _ | assumption | (refine Below.setCell ?_ (by first | omega | (simp; done) | (simp; omega)) _) | (refine Below.alloc ?_ (by first | omega | (simp; done) | (simp; omega)) _) | refine Below.drew ?_ | (refine below_thru ?_ (by assumption) (by first | omega | (simp; done) | (simp; omega))) | refine below_drewN ?_ _)))).mono ?_
    rintro e w1 ⟨rfl, hb1⟩
    obtain ⟨hc1, hf1⟩ := bcell hb1; have hz1 := hb1.size; (try simp at hz1)
    have hB : Blk w1 w.heap.size 33 (grow g) := (Blk.new w _ _).thru hb1 (by simp)
    have k2 : w1.cell? ⟨w.heap.size, 2, none⟩ = some (.int .i64 g.travel) := hB.cell 2
    have hlt := hB.lt
    have HB := Lib.hid hB; clear hB
    go_wp2
    go_loopw [23] (fun i wr => ∃ k : Nat, (k : Int) ≤ g.travel ∧ i = .int .i64 k ∧ Hid (∀ j : Nat, j < k → ¬ netF g j a b ≤ rubF g j a b) ∧ Hid (Blk wr w.heap.size 33 (grow g)) ∧ Below w.heap.size w wr)
      (fun i _ => g.travel.toNat - (intOf i).toNat)
    case atStart => exact ⟨0, by omega, rfl, fun j hj => by omega, HB.out.alloc _, (by repeat (first | exact Below.refl _ _ | assumption | (refine Below.setCell ?_ (by first | omega | (simp; done) | (simp; omega)) _) | (refine Below.alloc ?_ (by first | omega | (simp; done) | (simp; omega)) _) | refine Below.drew ?_ | (refine below_thru ?_ (by assumption) (by first | omega | (simp; done) | (simp; omega))) | refine below_drewN ?_ _))⟩
    case round =>
      obtain ⟨k, hk, rfl, hprev, hbg, hbr⟩ := hrel
      have hzr := hbg.out.lt
      by_cases hlt' : (k : Int) < g.travel
      · have HFk := Lib.hid (fun W h => HF.out k W h hlt')
        go_wp2_with (with_reducible refine wpl_g (g := g) hbg.out rfl rfl rfl ?_)
        refine (machineAt_any g _ _).mono ?_
        rintro e w2 ⟨rfl, hb2⟩
        have hz2 := hb2.size
        go_wp2_with fail
        refine (HFk.out _ (Hg.out.grow (by repeat (first | exact Below.refl _ _ | assumption | (refine Below.setCell ?_ (by first | omega | (simp; done) | (simp; omega)) _) | (refine Below.alloc ?_ (by first | omega | (simp; done) | (simp; omega)) _) | refine Below.drew ?_ | (refine below_thru ?_ (by assumption) (by first | omega | (simp; done) | (simp; omega))) | refine below_drewN ?_ _)))).mono ?_
        rintro e w3 ⟨rfl, hb3⟩
        have hz3 := hb3.size
        have hbg3 : Hid (Blk w3 w.heap.size 33 (grow g)) := (hbg.out.thru hb2 hzr).thru hb3 (by omega)
        simp only [Gs.pos] at *
        by_cases hle : netF g k a b ≤ rubF g k a b
        · have hv : fallsN g a b 0 T = k := by
            rw [falls_skip g a b k 0 T (by have := HT.out; omega) (fun j hj => by rw [Nat.zero_add]; have := hprev.out j hj; omega), Nat.zero_add]
            obtain ⟨m, hm⟩ : ∃ m, T - k = m + 1 := ⟨T - k - 1, by have := HT.out; omega⟩
            rw [hm, fallsN, if_pos hle]
          have Hv := Lib.hid hv; clear hv
          generalize netF g k a b = nt at *
          generalize rubF g k a b = rb at *
          go_wp2
          go_ret2
          exact ⟨by rw [Hfin.out, Hv.out]; rfl, (by repeat (first | exact Below.refl _ _ | assumption | (refine Below.setCell ?_ (by first | omega | (simp; done) | (simp; omega)) _) | (refine Below.alloc ?_ (by first | omega | (simp; done) | (simp; omega)) _) | refine Below.drew ?_ | (refine below_thru ?_ (by assumption) (by first | omega | (simp; done) | (simp; omega))) | refine below_drewN ?_ _))⟩
        · have Hn : Hid (∀ j : Nat, j < k + 1 → ¬ netF g j a b ≤ rubF g j a b) := fun j hj => by
            rcases Nat.lt_or_ge j k with h | h
            · have := hprev.out j h
              omega
            · obtain rfl : j = k := by omega
              exact hle
          generalize netF g k a b = nt at *
          generalize rubF g k a b = rb at *
          go_wp2
          go_roundw
          case rel => exact ⟨k + 1, by omega, by go_num, Hn, hbg3, (by repeat (first | exact Below.refl _ _ | assumption | (refine Below.setCell ?_ (by first | omega | (simp; done) | (simp; omega)) _) | (refine Below.alloc ?_ (by first | omega | (simp; done) | (simp; omega)) _) | refine Below.drew ?_ | (refine below_thru ?_ (by assumption) (by first | omega | (simp; done) | (simp; omega))) | refine below_drewN ?_ _))⟩
          case measure => simp [intOf]; omega
      · have hv : fallsN g a b 0 T = -1 := by
          rw [falls_skip g a b T 0 T (Nat.le_refl _) (fun j hj => by rw [Nat.zero_add]; exact hprev.out j (by have := HT.out; omega)), Nat.sub_self]; rfl
        have Hv := Lib.hid hv; clear hv
        go_wp2
        go_ret2
        exact ⟨by rw [Hfin.out, Hv.out]; rfl, (by repeat (first | exact Below.refl _ _ | assumption | (refine Below.setCell ?_ (by first | omega | (simp; done) | (simp; omega)) _) | (refine Below.alloc ?_ (by first | omega | (simp; done) | (simp; omega)) _) | refine Below.drew ?_ | (refine below_thru ?_ (by assumption) (by first | omega | (simp; done) | (simp; omega))) | refine below_drewN ?_ _))⟩
  · have hf : fallsR g a b = (0, (levelsFt g a b).e) := by unfold fallsR; rw [if_neg h0]
    rw [hf]
    clear hf
    obtain ⟨fp, fa, fe, hfl⟩ : ∃ fp fa fe, levelsFt g a b = ⟨fp, fa, fe⟩ := ⟨_, _, _, rfl⟩
    rw [hfl] at HL h0 ⊢
    simp only at h0
    have h0' : (fe != 0) = true := by rw [bne_iff_ne]; exact h0
    clear hfl h0
    go_enter Tryz.func27, Tryz.ntmps27
    go_wp2_with (with_reducible refine wpl_g (g := g) (Blk.new w _ _) rfl rfl rfl ?_)
    refine (HL.out _ (Hg.out.grow (by repeat (first | exact Below.refl _ _ | assumption | (refine Below.setCell ?_ (by first | omega | (simp; done) | (simp; omega)) _) | (refine Below.alloc ?_ (by first | omega | (simp; done) | (simp; omega)) _) | refine Below.drew ?_ | (refine below_thru ?_ (by assumption) (by first | omega | (simp; done) | (simp; omega))) | refine below_drewN ?_ _)))).mono ?_
    rintro e w1 ⟨rfl, hb1⟩
    obtain ⟨hc1, hf1⟩ := bcell hb1; have hz1 := hb1.size; (try simp at hz1)
    go_wp2_with fail
    go_quiet (fail)
    go_wp2
    go_ret2
    exact ⟨rfl, (by repeat (first | exact Below.refl _ _ | assumption | (refine Below.setCell ?_ (by first | omega | (simp; done) | (simp; omega)) _) | (refine Below.alloc ?_ (by first | omega | (simp; done) | (simp; omega)) _) | refine Below.drew ?_ | (refine below_thru ?_ (by assumption) (by first | omega | (simp; done) | (simp; omega))) | refine below_drewN ?_ _))⟩
end Go.Proofs.YtgdomaddjiggaaaGreat
