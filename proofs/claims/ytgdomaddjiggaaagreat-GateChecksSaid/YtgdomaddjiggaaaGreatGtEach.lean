/- 'each' returns the first fault of the numbers below n, at its number. -/
import Derived.Test.YtgdomaddjiggaaaGreatGtFirst
namespace Go.Proofs.YtgdomaddjiggaaaGreat
open Go.RowKit
set_option linter.unusedSimpArgs false
set_option linter.unusedVariables false

theorem eachF_skip (r : Nat → Ft) : ∀ (k i n : Nat), k ≤ n → (∀ j, j < k → (r (i + j)).e = 0) → eachF r i n = eachF r (i + k) (n - k)
  | 0, i, n, _, _ => rfl
  | k + 1, i, n, h, hz => by
    obtain ⟨m, rfl⟩ : ∃ m, n = m + 1 := ⟨n - 1, by omega⟩
    have h0 := hz 0 (by omega)
    simp only [Nat.add_zero] at h0
    simp only [eachF, h0, if_true]
    rw [eachF_skip r k (i + 1) m (by omega) (fun j hj => by have := hz (j + 1) (by omega); rwa [show i + 1 + j = i + (j + 1) by omega]), show i + (k + 1) = i + 1 + k by omega, show m + 1 - (k + 1) = m - k by omega]

set_option maxRecDepth 100000 in
set_option maxHeartbeats 1000000 in
theorem each_any (w : World) (n : Nat) (hmax : n ≤ 1000) (f : FuncId) (c0 : Value) (r : Nat → Ft)
    (hp : ∀ (k : Nat) (W : World), Sem.run Tryz.prog (callFunc f #[.int .i64 k, c0]) W = .ok (.enter f #[.int .i64 k, c0]) W)
    (hg : ∀ k, k < n → (∀ j, j < k → (r j).e = 0) → ∀ W, Below w.heap.size w W → Calls Tryz.prog f #[.int .i64 k, c0] W fun e w' => e = .returned (r k).v ∧ Below W.heap.size W w') :
    Calls Tryz.prog 81 #[.int .i64 n, .func (.func f) #[] #[c0]] w fun e w' => e = .returned (eachF r 0 n).v ∧ Below w.heap.size w w' := by
  have Hg := Lib.hid hg; clear hg
  have Hp := Lib.hid hp; clear hp
  go_enter Tryz.func81, Tryz.ntmps81
  go_wp2
  go_loopw [8] (fun i wr => ∃ k : Nat, k ≤ n ∧ i = .int .i64 k ∧ Hid (∀ j, j < k → (r j).e = 0) ∧ Below (w.heap.size + 1) (w.alloc (.cells #[.int .i64 0, .int .i64 0, .int .i64 0] 94)) wr)
    (fun i _ => n - (intOf i).toNat)
  case atStart => exact ⟨0, Nat.zero_le _, rfl, fun j h => by omega, Below.refl _ _⟩
  case round =>
    obtain ⟨k, hk, rfl, hprev, hbr⟩ := hrel
    obtain ⟨hcr, hfr⟩ := bcell (W := w.alloc (.cells #[.int .i64 0, .int .i64 0, .int .i64 0] 94)) (by simpa using hbr)
    have hzr := hbr.size
    simp at hzr
    have hlr : w.heap.size < wr.heap.size := by omega
    by_cases hlt : k < n
    · have hpl : ∀ W : World, Sem.run Tryz.prog (callFunc f #[.int .i64 k, c0]) W = .ok (.enter f #[.int .i64 k, c0]) W := Hp.out k
      go_wp2_with fail
      refine (Hg.out k hlt hprev.out wr ⟨hbr.os, hbr.tape, hbr.output, by omega, fun i hi => (hbr.block i (by omega)).trans (Below.heap_alloc w _ i hi)⟩).mono ?_
      rintro e w1 ⟨rfl, hb1⟩
      obtain ⟨hc1, hf1⟩ := bcell hb1; have hz1 := hb1.size; (try simp at hz1)
      have hl1 : w.heap.size < w1.heap.size := by omega
      obtain ⟨r1, r2, r3, hr⟩ : ∃ r1 r2 r3, r k = ⟨r1, r2, r3⟩ := ⟨_, _, _, rfl⟩
      have Hr := Lib.hid hr
      rw [hr]
      clear hr
      by_cases h0 : r3 = 0
      · subst h0
        go_wp2
        go_roundw
        case rel =>
          refine ⟨k + 1, by omega, by go_num, ?_, ?_⟩
          · intro j hj
            rcases Nat.lt_or_ge j k with h | h
            · exact hprev.out j h
            · obtain rfl : j = k := by omega
              rw [Hr.out]
          · exact (by repeat (first | exact Below.refl _ _ | assumption | (refine Below.setCell ?_ (by first | omega | (simp; done) | (simp; omega)) _) | (refine Below.alloc ?_ (by first | omega | (simp; done) | (simp; omega)) _) | refine Below.drew ?_ | (refine below_thru ?_ (by assumption) (by first | omega | (simp; done) | (simp; omega))) | refine below_drewN ?_ _))
        case measure => simp [intOf]; omega
      · have h0' : (r3 != 0) = true := by simpa using h0
        go_wp2
        have hfin : eachF r 0 n = ⟨r1, k, r3⟩ := by
          rw [eachF_skip r k 0 n (by omega) (by simpa using hprev.out)]
          obtain ⟨m, hm⟩ : ∃ m, n - k = m + 1 := ⟨n - k - 1, by omega⟩
          rw [hm, eachF, Nat.zero_add, Hr.out]
          simp [h0]
        exact bodyPost_ret (v := Ft.v ⟨r1, k, r3⟩) (by simp [results, Tryz.results81, go_sem, hc1, hl1, hcr, hlr] <;> omega) rfl ⟨by rw [hfin], (by repeat (first | exact Below.refl _ _ | assumption | (refine Below.setCell ?_ (by first | omega | (simp; done) | (simp; omega)) _) | (refine Below.alloc ?_ (by first | omega | (simp; done) | (simp; omega)) _) | refine Below.drew ?_ | (refine below_thru ?_ (by assumption) (by first | omega | (simp; done) | (simp; omega))) | refine below_drewN ?_ _))⟩
    · obtain rfl : k = n := by omega
      go_wp2
      have hfin : eachF r 0 k = ⟨0, 0, 0⟩ := by
        rw [eachF_skip r k 0 k (by omega) (by simpa using hprev.out), Nat.sub_self]; rfl
      exact bodyPost_ret (v := Ft.v ⟨0, 0, 0⟩) (by simp [results, Tryz.results81, go_sem, hcr, hlr] <;> omega) rfl ⟨by rw [hfin], (by repeat (first | exact Below.refl _ _ | assumption | (refine Below.setCell ?_ (by first | omega | (simp; done) | (simp; omega)) _) | (refine Below.alloc ?_ (by first | omega | (simp; done) | (simp; omega)) _) | refine Below.drew ?_ | (refine below_thru ?_ (by assumption) (by first | omega | (simp; done) | (simp; omega))) | refine below_drewN ?_ _))⟩
end Go.Proofs.YtgdomaddjiggaaaGreat
