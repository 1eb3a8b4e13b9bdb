/- Whether all gates of a set are shut. -/
import Derived.Test.YtgdomaddjiggaaaGreatGtRefuse
namespace Go.Proofs.YtgdomaddjiggaaaGreat
open Go.RowKit
set_option linter.unusedSimpArgs false
set_option linter.unusedVariables false

set_option maxHeartbeats 1000000 in
theorem shut1_any (g : Ga) (s : Gs) (w : World) : Calls Tryz.prog 173 #[mv g s] w fun e w' => e = .returned (.bool (decide (s.pos < g.travel))) ∧ Below w.heap.size w w' := by
  go_enter Tryz.func173, Tryz.ntmps173
  go_wp2
  go_ret
  exact ⟨rfl, (by repeat (first | exact Below.refl _ _ | assumption | (refine Below.setCell ?_ (by first | omega | (simp; done) | (simp; omega)) _) | (refine Below.alloc ?_ (by first | omega | (simp; done) | (simp; omega)) _) | refine Below.drew ?_ | (refine below_thru ?_ (by assumption) (by first | omega | (simp; done) | (simp; omega))) | refine below_drewN ?_ _))⟩
/-- A machine that is not shut. -/
def ajarB (ms : List (Ga × Gs)) (k : Nat) : Bool := ((ms[k]?).map fun m => decide (m.2.pos < m.1.travel)).getD false

set_option maxRecDepth 100000 in
set_option maxHeartbeats 2000000 in
theorem indexM_any (ms : List (Ga × Gs)) (b n c : Nat) (w : World) (hm : Ms w b ms) (hl : ms.length = n) (hn : n ≤ 1000) :
    Calls Tryz.prog 184 #[.slice (some ⟨b, 0, none⟩) n c, .func (.func 173) #[] #[]] w fun e w' => e = .returned (.int .i64 (idxF (ajarB ms) 0 n)) ∧ Below w.heap.size w w' := by
  have Hm := Lib.hid hm
  have Hl := Lib.hid hl
  have hbl := hm.lt
  clear hm hl
  generalize hp : ajarB ms = p
  have Hpp := Lib.hid hp
  clear hp
  go_enter Tryz.func184, Tryz.ntmps184
  go_wp2
  go_loopw [8] (fun i wr => ∃ k : Nat, k ≤ n ∧ i = .int .i64 k ∧ Hid (∀ j, j < k → p j = false) ∧ Below w.heap.size w wr)
    (fun i _ => n - (intOf i).toNat)
  case atStart => exact ⟨0, Nat.zero_le _, rfl, fun j hj => by omega, (by repeat (first | exact Below.refl _ _ | assumption | (refine Below.setCell ?_ (by first | omega | (simp; done) | (simp; omega)) _) | (refine Below.alloc ?_ (by first | omega | (simp; done) | (simp; omega)) _) | refine Below.drew ?_ | (refine below_thru ?_ (by assumption) (by first | omega | (simp; done) | (simp; omega))) | refine below_drewN ?_ _))⟩
  case round =>
    obtain ⟨k, hk, rfl, hprev, hbr⟩ := hrel
    have hzr := hbr.size
    by_cases hlt : k < n
    · obtain ⟨⟨g, s⟩, hgs⟩ := get_lt Hl.out hlt
      have Hrg := Lib.hid ((Hm.out.below hbr hbl).rng k _ hgs)
      have j0 : (0 : Int) ≤ (k : Int) := Int.natCast_nonneg _
      have j1 : (k : Int) < (n : Int) := by omega
      have hq : p k = decide (s.pos < g.travel) := by rw [← Hpp.out]; unfold ajarB; rw [hgs]; rfl
      have HC := Lib.hid (fun W => shut1_any g s W)
      rw [← hq] at HC
      clear hgs hq
      cases hpk : p k
      · have Hn : Hid (∀ j, j < k + 1 → p j = false) := fun j hj => by
          rcases Nat.lt_or_ge j k with h | h
          · exact hprev.out j h
          · obtain rfl : j = k := by omega
            exact hpk
        rw [hpk] at HC
        clear hpk
        go_wp2_with (with_reducible refine wpl_mm (g := g) (s := s) Hrg.out rfl rfl rfl ?_)
        refine (HC.out _).mono ?_
        rintro e w1 ⟨rfl, hb1⟩
        have hz1 := hb1.size
        go_wp2
        go_roundw
        case rel => exact ⟨k + 1, by omega, by go_num, Hn, (by repeat (first | exact Below.refl _ _ | assumption | (refine Below.setCell ?_ (by first | omega | (simp; done) | (simp; omega)) _) | (refine Below.alloc ?_ (by first | omega | (simp; done) | (simp; omega)) _) | refine Below.drew ?_ | (refine below_thru ?_ (by assumption) (by first | omega | (simp; done) | (simp; omega))) | refine below_drewN ?_ _))⟩
        case measure => simp [intOf]; omega
      · have hv : idxF p 0 n = k := by
          rw [idx_skip p k 0 n (by omega) (fun j hj => by rw [Nat.zero_add]; exact hprev.out j hj), Nat.zero_add]
          obtain ⟨m, hm⟩ : ∃ m, n - k = m + 1 := ⟨n - k - 1, by omega⟩
          rw [hm, idxF, if_pos hpk]
        have Hv := Lib.hid hv
        rw [hpk] at HC
        clear hpk hv
        go_wp2_with (with_reducible refine wpl_mm (g := g) (s := s) Hrg.out rfl rfl rfl ?_)
        refine (HC.out _).mono ?_
        rintro e w1 ⟨rfl, hb1⟩
        have hz1 := hb1.size
        go_wp2
        go_ret
        exact ⟨by rw [Hv.out]; rfl, (by repeat (first | exact Below.refl _ _ | assumption | (refine Below.setCell ?_ (by first | omega | (simp; done) | (simp; omega)) _) | (refine Below.alloc ?_ (by first | omega | (simp; done) | (simp; omega)) _) | refine Below.drew ?_ | (refine below_thru ?_ (by assumption) (by first | omega | (simp; done) | (simp; omega))) | refine below_drewN ?_ _))⟩
    · obtain rfl : k = n := by omega
      have hv : idxF p 0 k = -1 := by
        rw [idx_skip p k 0 k (Nat.le_refl _) (fun j hj => by rw [Nat.zero_add]; exact hprev.out j hj), Nat.sub_self]; rfl
      have Hv := Lib.hid hv
      clear hv
      go_wp2
      go_ret
      exact ⟨by rw [Hv.out]; rfl, (by repeat (first | exact Below.refl _ _ | assumption | (refine Below.setCell ?_ (by first | omega | (simp; done) | (simp; omega)) _) | (refine Below.alloc ?_ (by first | omega | (simp; done) | (simp; omega)) _) | refine Below.drew ?_ | (refine below_thru ?_ (by assumption) (by first | omega | (simp; done) | (simp; omega))) | refine below_drewN ?_ _))⟩

set_option maxHeartbeats 1000000 in
theorem containsM_any (ms : List (Ga × Gs)) (b n c : Nat) (w : World) (hm : Ms w b ms) (hl : ms.length = n) (hn : n ≤ 1000) :
    Calls Tryz.prog 172 #[.slice (some ⟨b, 0, none⟩) n c, .func (.func 173) #[] #[]] w fun e w' => e = .returned (.bool ((List.range n).any (ajarB ms))) ∧ Below w.heap.size w w' := by
  have HI := Lib.hid (indexM_any ms b n c w hm hl hn)
  have hx := idx_any (ajarB ms) 0 n
  simp only [Nat.zero_add] at hx
  have hx' : (List.range n).any (ajarB ms) = decide (0 ≤ idxF (ajarB ms) 0 n) := hx.symm
  rw [hx']
  generalize idxF (ajarB ms) 0 n = ix at *
  clear hm hl hx hx'
  go_enter Tryz.func172, Tryz.ntmps172
  go_wp2_with fail
  refine HI.out.mono ?_
  rintro e w1 ⟨rfl, hb1⟩
  go_wp2
  go_ret
  exact ⟨rfl, (by repeat (first | exact Below.refl _ _ | assumption | (refine Below.setCell ?_ (by first | omega | (simp; done) | (simp; omega)) _) | (refine Below.alloc ?_ (by first | omega | (simp; done) | (simp; omega)) _) | refine Below.drew ?_ | (refine below_thru ?_ (by assumption) (by first | omega | (simp; done) | (simp; omega))) | refine below_drewN ?_ _))⟩
def shutB (ms : List (Ga × Gs)) (n : Nat) : Bool := !(List.range n).any (ajarB ms)
set_option maxHeartbeats 1000000 in
theorem shut_any (ms : List (Ga × Gs)) (b n c : Nat) (rA : Option Addr) (rn rc : Nat) (w : World) (hm : Ms w b ms) (hl : ms.length = n) (hn : n ≤ 1000) :
    Calls Tryz.prog 147 #[setV (some ⟨b, 0, none⟩) n c rA rn rc] w fun e w' => e = .returned (.bool (shutB ms n)) ∧ Below w.heap.size w w' := by
  have HC := Lib.hid (fun (W : World) (hW : Below w.heap.size w W) => containsM_any ms b n c W (hm.below hW hm.lt) hl hn)
  have hf : shutB ms n = !(List.range n).any (ajarB ms) := rfl
  rw [hf]
  clear hf
  generalize (List.range n).any (ajarB ms) = bb at *
  clear hm hl
  go_enter Tryz.func147, Tryz.ntmps147
  go_wp2_with fail
  refine (HC.out _ (by repeat (first | exact Below.refl _ _ | assumption | (refine Below.setCell ?_ (by first | omega | (simp; done) | (simp; omega)) _) | (refine Below.alloc ?_ (by first | omega | (simp; done) | (simp; omega)) _) | refine Below.drew ?_ | (refine below_thru ?_ (by assumption) (by first | omega | (simp; done) | (simp; omega))) | refine below_drewN ?_ _))).mono ?_
  rintro e w1 ⟨rfl, hb1⟩
  go_wp2
  go_ret
  exact ⟨rfl, (by repeat (first | exact Below.refl _ _ | assumption | (refine Below.setCell ?_ (by first | omega | (simp; done) | (simp; omega)) _) | (refine Below.alloc ?_ (by first | omega | (simp; done) | (simp; omega)) _) | refine Below.drew ?_ | (refine below_thru ?_ (by assumption) (by first | omega | (simp; done) | (simp; omega))) | refine below_drewN ?_ _))⟩
end Go.Proofs.YtgdomaddjiggaaaGreat
