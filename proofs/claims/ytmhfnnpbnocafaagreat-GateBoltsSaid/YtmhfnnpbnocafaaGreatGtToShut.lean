/- bits.Mul of 1 and a small number. slices.Repeat of one step, a few times. Whether all gates of a set are shut. What a set does in step after step: models, and what is kept. stepsToShut: after how many steps all gates of a set are shut. -/
import Derived.Test.YtmhfnnpbnocafaaGreatGtRow2
import Derived.Test.YtmhfnnpbnocafaaGreatGtStepT
import Derived.Test.YtmhfnnpbnocafaaGreatGtSetM
import Derived.WalkMore
namespace Go.Proofs.YtmhfnnpbnocafaaGreat
open Go.RowKit
set_option linter.unusedSimpArgs false
set_option linter.unusedVariables false

set_option maxRecDepth 100000 in
set_option maxHeartbeats 4000000 in
theorem mul64_any (n : Nat) (h0 : 1 ≤ n) (h1 : n ≤ 6) (w : World) :
    Calls Tryz.prog 145 #[.int .u64 1, .int .u64 (n : Int)] w fun e w' => e = .returned (.tuple #[.int .u64 0, .int .u64 (n : Int)]) ∧ w = w' := by
  rcases (show n = 1 ∨ n = 2 ∨ n = 3 ∨ n = 4 ∨ n = 5 ∨ n = 6 by omega) with rfl | rfl | rfl | rfl | rfl | rfl
  all_goals
    go_enter Tryz.func145, Tryz.ntmps145
    go_wp2
    go_ret2
    exact ⟨rfl, rfl⟩
set_option maxRecDepth 100000 in
set_option maxHeartbeats 4000000 in
theorem mul_any (n : Nat) (h0 : 1 ≤ n) (h1 : n ≤ 6) (w : World) :
    Calls Tryz.prog 131 #[.int .u64 1, .int .u64 (n : Int)] w fun e w' => e = .returned (.tuple #[.int .u64 0, .int .u64 (n : Int)]) ∧ w = w' := by
  have H := Lib.hid (fun W => mul64_any n h0 h1 W)
  clear h0 h1
  go_enter Tryz.func131, Tryz.ntmps131
  go_wp2_with fail
  refine (H.out _).mono ?_
  rintro e w1 ⟨rfl, rfl⟩
  go_wp2
  go_ret2
  exact ⟨rfl, rfl⟩
end Go.Proofs.YtmhfnnpbnocafaaGreat

namespace Go.Proofs.YtmhfnnpbnocafaaGreat
open Go.RowKit
set_option linter.unusedSimpArgs false
set_option linter.unusedVariables false

theorem infoStep : (Tryz.prog.info? 51).map (fun i => (i.zero, i.size, i.bytes)) = some (some (.agg #[.int .i64 0, .bool false, .int .i64 0, .int .i64 0]), 4, 32) := by kernel_rfl
theorem undSteps : Tryz.prog.underlying 63 = some (.slice 51) := by kernel_rfl
theorem sizeStep : (Tryz.prog.info? 51).map (·.size) = some 4 := by kernel_rfl
theorem wp_copy_cellsN {P : Program} {w : World} {o : Oper} {a : Act} {K : Act → World → Prop} {Q : Exit → Act → World → Prop} (d s : Operand) (dT sT : TypeId)
    (ho : o.op = .call { callee := .builtin .copy, args := #[d, s], argTypes := #[dT, sT] }) (elem : TypeId) (sz : Nat) (hu : P.underlying dT = some (.slice elem)) (hsz : (P.info? elem).map (·.size) = some sz)
    (g off dLen dCap : Nat) (ad : Addr) (sLen sCap : Nat) (hd : a.eval d = .slice (some ⟨g, off, none⟩) dLen dCap) (hs : a.eval s = .slice (some ad) sLen sCap) (cs : List Value) (m : Nat) (hm : Nat.min sLen dLen = m) (hn : cs.length = m * sz)
    (hsrc : ∀ j v, cs[j]? = some v → w.cell? (ad.add j) = some v) (hth : w.there g off cs.length) (h1 : ∀ v ∈ cs, v.oneCell' = true)
    (h : K (a.put o.dst (goInt m)) (w.setCells g off cs)) : o.wp P a w K Q := by
  subst hm
  have hrun := run_copy_cellsN (P := P) w dT sT o.type elem g off dLen dCap ad sLen sCap sz cs hu hsz hn hsrc (fun j hj => (hth j hj).1) (fun j hj => (hth j hj).2) h1
  unfold Oper.wp
  simp [execOp, ho, resolve, invoke, builtin, hd, hs, hrun, Result.andThen]
  exact h
/-- m copies of a step, cell by cell. -/
def reps (t : Gt) (m : Nat) : List Value := (List.replicate m t.cells).flatten
theorem reps_len (t : Gt) (m : Nat) : (reps t m).length = m * 4 := by
  unfold reps
  rw [flat_len 4 _ (fun r hr => by rw [(List.mem_replicate.1 hr).2]; rfl), List.length_replicate]
theorem reps_one (t : Gt) (m : Nat) : ∀ v ∈ reps t m, v.oneCell' = true := by
  intro v hv
  unfold reps at hv
  obtain ⟨l, hl, hv⟩ := List.mem_flatten.1 hv
  rw [(List.mem_replicate.1 hl).2] at hv
  simp only [List.mem_cons, List.not_mem_nil, or_false] at hv
  rcases hv with rfl | rfl | rfl | rfl <;> rfl
theorem reps_take (t : Gt) (m k : Nat) (h : k ≤ m) : (reps t m).take (k * 4) = reps t k := by
  obtain ⟨d, rfl⟩ := Nat.exists_eq_add_of_le h
  unfold reps
  rw [List.replicate_append_replicate.symm, List.flatten_append, List.take_left' (by exact reps_len t k)]
theorem reps_add (t : Gt) (m k : Nat) : reps t (m + k) = reps t m ++ reps t k := by
  unfold reps
  rw [List.replicate_append_replicate.symm, List.flatten_append]
theorem range_take {w : World} {g o : Nat} {l : List Value} (h : w.rangeAt g o l) (k : Nat) : w.rangeAt g o (l.take k) := fun j v hv => by
  rw [List.getElem?_take] at hv
  split at hv
  · exact h j v hv
  · cases hv
theorem range_append {w : World} {g o : Nat} {l r : List Value} (h : w.rangeAt g o l) (h2 : w.rangeAt g (o + l.length) r) : w.rangeAt g o (l ++ r) := fun j v hv => by
  by_cases hj : j < l.length
  · rw [List.getElem?_append_left hj] at hv; exact h j v hv
  · rw [List.getElem?_append_right (by omega)] at hv
    have := h2 (j - l.length) v hv
    rwa [show o + l.length + (j - l.length) = o + j by omega] at this
theorem range_below0 {w w' : World} {b o B : Nat} {l : List Value} (h : w.rangeAt b o l) (hb : Below B w w') (hB : b < B) : w'.rangeAt b o l := range_below h hb hB
theorem reps_pos (t : Gt) (m : Nat) : 0 < (reps t (m + 1)).length := by rw [reps_len]; omega
theorem there_part {w : World} {g n : Nat} (h : w.there g 0 n) {o m : Nat} (hm : o + m ≤ n) : w.there g o m := fun j hj => by
  have := h (o + j) (by omega)
  rwa [Nat.zero_add] at this

set_option maxRecDepth 100000 in
set_option maxHeartbeats 8000000 in
theorem repeat_any (t : Gt) (n b c : Nat) (h0 : 1 ≤ n) (h1 : n ≤ 6) (w : World) (hb : Blk w b 51 #[.int .i64 t.order, .bool t.power, .int .i64 t.outer, .int .i64 t.inner]) :
    Calls Tryz.prog 105 #[.slice (some ⟨b, 0, none⟩) 1 c, .int .i64 (n : Int)] w fun e w' =>
      ∃ g, e = .returned (.slice (some ⟨g, 0, none⟩) n n) ∧ w.heap.size ≤ g ∧ g < w'.heap.size ∧ w'.rangeAt g 0 (reps t n) ∧ Below w.heap.size w w' := by
  obtain ⟨i0, hi, hz0, hz1, hz2⟩ := info_parts infoStep
  have hmk : ∃ o, ∀ W : World, (Instr.makeSlice 63 (.int .i64 (n : Int)) (.int .i64 (n : Int))).run Tryz.prog W = .ok (.slice (some ⟨W.heap.size, 0, none⟩) n n) (W.alloc (.cells o 51)) ∧ o.size = n * 4 := by
    refine ⟨madeCells (Value.agg #[.int .i64 0, .bool false, .int .i64 0, .int .i64 0]).cells (n * i0.size), fun W => ⟨?_, ?_⟩⟩
    · have := run_make (P := Tryz.prog) W 63 51 i0 _ undSteps hi hz0 .i64 .i64 n n (by omega) (by omega) (by rw [hz2]; omega) (by omega)
      simpa using this
    · rw [hz1]; simp [madeCells]
  obtain ⟨o9, hmk⟩ := hmk
  have ho9 := (hmk w).2
  have hmk1 := fun W => (hmk W).1
  have HM := Lib.hid (fun W => mul_any n h0 h1 W)
  have hwu : IntKind.u64.wrap (n : Int) = n := by rcases (show n = 1 ∨ n = 2 ∨ n = 3 ∨ n = 4 ∨ n = 5 ∨ n = 6 by omega) with rfl | rfl | rfl | rfl | rfl | rfl <;> rfl
  have hwi : IntKind.i64.wrap (n : Int) = n := by rcases (show n = 1 ∨ n = 2 ∨ n = 3 ∨ n = 4 ∨ n = 5 ∨ n = 6 by omega) with rfl | rfl | rfl | rfl | rfl | rfl <;> rfl
  have j0 : (0 : Int) ≤ (n : Int) := Int.natCast_nonneg _
  have j1 : (n : Int) ≤ 9223372036854775807 := by omega
  have hrb : w.rangeAt b 0 (reps t 1) := Blk.range hb rfl
  have hbl := hb.lt
  have Hrb := Lib.hid hrb
  have Ho9 := Lib.hid ho9
  clear hmk hi hz0 hz1 hz2 hb hrb ho9
  go_enter Tryz.func105, Tryz.ntmps105
  go_wp2_with fail
  refine (HM.out _).mono ?_
  rintro e w1 ⟨rfl, rfl⟩
  have hmin : Nat.min 1 n = 1 := Nat.min_eq_left h0
  have hn1 : (reps t 1).length = 1 * 4 := reps_len t 1
  have hth : (w.alloc (.cells o9 51)).there w.heap.size 0 (n * 4) := (Blk.new w _ _).there (by rw [Ho9.out]; omega)
  have Hth := Lib.hid hth
  have hsr := src_of (range_below Hrb.out (show Below w.heap.size w (w.alloc (.cells o9 51)) from (by repeat (first | exact Below.refl _ _ | assumption | (refine Below.setCell ?_ (by first | omega | (simp; done) | (simp; omega)) _) | (refine Below.alloc ?_ (by first | omega | (simp; done) | (simp; omega)) _) | refine Below.drew ?_ | (refine below_thru ?_ (by assumption) (by first | omega | (simp; done) | (simp; omega))) | refine below_drewN ?_ _))) hbl)
  have Hsr := Lib.hid hsr
  clear hth hsr
  go_wp2_with (with_reducible refine wpList_copy_cellsN rfl (.tmp 31) (.tmp 32) 63 63 rfl 51 4 undSteps sizeStep w.heap.size 0 n n ⟨b, 0, none⟩ 1 c rfl rfl (reps t 1) 1 hmin hn1 Hsr.out (there_part Hth.out (by rw [hn1]; omega)) (reps_one t 1) ?_)
  have hW1 := World.rangeAt_setCells_same (w.alloc (.cells o9 51)) w.heap.size 0 (reps t 1) (there_part Hth.out (by rw [hn1]; omega))
  have hW2 : ((w.alloc (.cells o9 51)).setCells w.heap.size 0 (reps t 1)).there w.heap.size 0 (n * 4) := World.there_setCells Hth.out _ _ _
  have hW3 : Below w.heap.size w ((w.alloc (.cells o9 51)).setCells w.heap.size 0 (reps t 1)) := below_sets (by repeat (first | exact Below.refl _ _ | assumption | (refine Below.setCell ?_ (by first | omega | (simp; done) | (simp; omega)) _) | (refine Below.alloc ?_ (by first | omega | (simp; done) | (simp; omega)) _) | refine Below.drew ?_ | (refine below_thru ?_ (by assumption) (by first | omega | (simp; done) | (simp; omega))) | refine below_drewN ?_ _)) (Nat.le_refl _) _ _
  have hW4 : ((w.alloc (.cells o9 51)).setCells w.heap.size 0 (reps t 1)).heap.size = w.heap.size + 1 := by rw [size_sets]; simp
  generalize (w.alloc (.cells o9 51)).setCells w.heap.size 0 (reps t 1) = w2 at *
  have HW1 := Lib.hid hW1
  have HW2 := Lib.hid hW2
  clear hW1 hW2 Hth Hsr hmin hn1 Hrb Ho9
  go_loopw [8] (fun i wr => ∃ k : Nat, 1 ≤ k ∧ k ≤ n ∧ i = .int .i64 k ∧ Hid (wr.rangeAt w.heap.size 0 (reps t k)) ∧ Hid (wr.there w.heap.size 0 (n * 4)) ∧ Below w.heap.size w wr ∧ wr.heap.size = w.heap.size + 1)
    (fun i _ => n - (intOf i).toNat)
  case atStart => exact ⟨1, Nat.le_refl _, h0, rfl, HW1.out, HW2.out, hW3, hW4⟩
  case round =>
    obtain ⟨k, hk0, hk, rfl, hra, hth, hbr, hzr⟩ := hrel
    by_cases hkn : k < n
    · obtain ⟨m, hm⟩ : ∃ m, Nat.min k (n - k) = m := ⟨_, rfl⟩
      obtain ⟨m0, m1, m2⟩ : 1 ≤ m ∧ m ≤ k ∧ k + m ≤ n := by have hm' : min k (n - k) = m := hm; omega
      have hne : ¬ n = k := by omega
      have hwk : IntKind.i64.wrap ((k : Int) + (m : Int)) = ((k + m : Nat) : Int) := by
        have hkm : ((k : Int) + (m : Int)) = ((k + m : Nat) : Int) := by omega
        rw [hkm]
        rcases (show k + m = 1 ∨ k + m = 2 ∨ k + m = 3 ∨ k + m = 4 ∨ k + m = 5 ∨ k + m = 6 by omega) with h | h | h | h | h | h <;> rw [h] <;> rfl
      have hsr := src_of (show wr.drew.rangeAt w.heap.size 0 (reps t m) from by have h2 := range_take hra.out (m * 4); rw [reps_take t k m m1] at h2; exact h2)
      have hth2 : wr.drew.there w.heap.size (k * 4) (reps t m).length := (World.there_drew _ _ _ _).2 (there_part hth.out (by rw [reps_len]; omega))
      have Hsr := Lib.hid hsr
      have Hth2 := Lib.hid hth2
      have hr1 := World.rangeAt_setCells_same wr.drew w.heap.size (k * 4) (reps t m) hth2
      have hr2 : (wr.drew.setCells w.heap.size (k * 4) (reps t m)).rangeAt w.heap.size 0 (reps t k) := World.rangeAt_setCells_apart (show wr.drew.rangeAt w.heap.size 0 (reps t k) from hra.out) _ _ _ (.inr (.inl (by rw [reps_len]; omega)))
      have hr3 : (wr.drew.setCells w.heap.size (k * 4) (reps t m)).rangeAt w.heap.size 0 (reps t (k + m)) := by
        rw [reps_add]
        exact range_append hr2 (by rw [reps_len, Nat.zero_add]; exact hr1)
      have hth3 : (wr.drew.setCells w.heap.size (k * 4) (reps t m)).there w.heap.size 0 (n * 4) := World.there_setCells ((World.there_drew _ _ _ _).2 hth.out) _ _ _
      have hb3 : Below w.heap.size w (wr.drew.setCells w.heap.size (k * 4) (reps t m)) := below_sets (Below.drew hbr) (Nat.le_refl _) _ _
      have hz3 : (wr.drew.setCells w.heap.size (k * 4) (reps t m)).heap.size = w.heap.size + 1 := by rw [size_sets]; exact hzr
      have Hr3 := Lib.hid hr3
      have Hth3 := Lib.hid hth3
      clear hsr hth2 hr1 hr2 hr3 hth3
      go_wp2_with fail
      refine wp_region_held (S := fun _ => True) (by kernel_rfl) (by trivial) (fun hHeld => ?_)
      refine wpAnyH_take (i := 0) (v := ?_) rfl (by kernel_rfl) (by kernel_rfl) (by kernel_rfl) (fun _ _ _ h => h) (Or.inl ⟨by kernel_rfl, ?_⟩) hHeld ?_
      rotate_left
      · intro w hSw; (try dsimp only at hSw); skip; go_simp; (try with_reducible rfl)
      (try simp only [Act.put, List.setIfInBounds_toArray, List.set_cons_zero, List.set_cons_succ])
      refine wpAnyH_take (i := 1) (v := ?_) rfl (by kernel_rfl) (by kernel_rfl) (by kernel_rfl) (fun _ _ _ h => h) (Or.inl ⟨by kernel_rfl, ?_⟩) hHeld ?_
      rotate_left
      · intro w hSw; (try dsimp only at hSw); skip; go_simp; (try with_reducible rfl)
      (try simp only [Act.put, List.setIfInBounds_toArray, List.set_cons_zero, List.set_cons_succ])
      refine wpAnyH_take (i := 2) (v := ?_) rfl (by kernel_rfl) (by kernel_rfl) (by kernel_rfl) (fun _ _ _ h => h) (Or.inl ⟨by kernel_rfl, ?_⟩) hHeld ?_
      rotate_left
      · intro w hSw; (try dsimp only at hSw); skip; go_simp; (try with_reducible rfl)
      (try simp only [Act.put, List.setIfInBounds_toArray, List.set_cons_zero, List.set_cons_succ])
      refine wpAnyH_take (i := 4) (v := ?_) rfl (by kernel_rfl) (by kernel_rfl) (by kernel_rfl) (fun _ _ _ h => h) (Or.inl ⟨by kernel_rfl, ?_⟩) hHeld ?_
      rotate_left
      · intro w hSw; (try dsimp only at hSw); skip; go_simp; (try with_reducible rfl)
      (try simp only [Act.put, List.setIfInBounds_toArray, List.set_cons_zero, List.set_cons_succ])
      refine wpAnyH_take (i := 5) (v := ?_) rfl (by kernel_rfl) (by kernel_rfl) (by kernel_rfl) (fun _ _ _ h => h) (Or.inl ⟨by kernel_rfl, ?_⟩) hHeld ?_
      rotate_left
      · intro w hSw; (try dsimp only at hSw); skip; go_simp; (try with_reducible rfl)
      (try simp only [Act.put, List.setIfInBounds_toArray, List.set_cons_zero, List.set_cons_succ])
      refine wpAnyH_take (i := 3) (v := ?_) rfl (by kernel_rfl) (by kernel_rfl) (by kernel_rfl) (fun _ _ _ h => h) (Or.inl ⟨by kernel_rfl, ?_⟩) hHeld ?_
      rotate_left
      · intro w hSw; (try dsimp only at hSw); skip; go_simp; (try with_reducible rfl)
      (try simp only [Act.put, List.setIfInBounds_toArray, List.set_cons_zero, List.set_cons_succ])
      refine wpAnyH_take (i := 6) (v := ?_) rfl (by kernel_rfl) (by kernel_rfl) (by kernel_rfl) (fun _ _ _ h => h) (Or.inl ⟨by kernel_rfl, ?_⟩) hHeld ?_
      rotate_left
      · intro w hSw; (try dsimp only at hSw); skip; go_simp; (try with_reducible rfl)
      (try simp only [Act.put, List.setIfInBounds_toArray, List.set_cons_zero, List.set_cons_succ])
      (try simp only [List.getElem_toArray, List.getElem_cons_zero, List.getElem_cons_succ, Act.put, List.setIfInBounds_toArray, List.set_cons_zero, List.set_cons_succ])
      refine wpAnyH_ready (rs := [7]) (by kernel_rfl) (by simp) ?_
      refine AllReadyH.cons rfl (fun K hK => ?_) AllReadyH.nil
      refine wanted_of (by rfl) (wp_copy_cellsN (P := Tryz.prog) (.tmp 41) (.tmp 44) 63 63 rfl 51 4 undSteps sizeStep w.heap.size (k * 4) (n - k) (n - k) ⟨w.heap.size, 0, none⟩ k n rfl rfl (reps t m) m hm (reps_len t m) Hsr.out Hth2.out (reps_one t m) ?_)
      refine hK.out _ _ (by trivial) (fun hHeld => ?_)
      clear hK K
      (try simp only [Act.put, List.setIfInBounds_toArray, List.set_cons_zero, List.set_cons_succ])
      refine wpAnyH_take (i := 8) (v := ?_) rfl (by kernel_rfl) (by kernel_rfl) (by kernel_rfl) (fun _ _ _ h => h) (Or.inl ⟨by kernel_rfl, ?_⟩) hHeld ?_
      rotate_left
      · intro w hSw; (try dsimp only at hSw); skip; go_simp; (try with_reducible rfl)
      (try simp only [Act.put, List.setIfInBounds_toArray, List.set_cons_zero, List.set_cons_succ])
      refine wpAnyH_take (i := 9) (v := ?_) rfl (by kernel_rfl) (by kernel_rfl) (by kernel_rfl) (fun _ _ _ h => h) (Or.inl ⟨by kernel_rfl, ?_⟩) hHeld ?_
      rotate_left
      · intro w hSw; (try dsimp only at hSw); skip; go_simp; (try with_reducible rfl)
      (try simp only [Act.put, List.setIfInBounds_toArray, List.set_cons_zero, List.set_cons_succ])
      refine wpAnyH_done (by kernel_rfl) ?_ _
      (try simp only [List.getElem_toArray, List.getElem_cons_zero, List.getElem_cons_succ, Act.put, List.setIfInBounds_toArray, List.set_cons_zero, List.set_cons_succ])
      generalize wr.drew.setCells w.heap.size (k * 4) (reps t m) = w4 at *
      go_wp2
      go_roundw
      case rel => exact ⟨k + m, by omega, by omega, rfl, Hr3, Hth3, hb3, hz3⟩
      case measure => simp [intOf]; omega
    · obtain rfl : k = n := by omega
      go_wp2
      go_ret
      exact ⟨w.heap.size, rfl, Nat.le_refl _, by omega, hra.out, hbr⟩
end Go.Proofs.YtmhfnnpbnocafaaGreat

namespace Go.Proofs.YtmhfnnpbnocafaaGreat
open Go.RowKit
set_option linter.unusedSimpArgs false
set_option linter.unusedVariables false

set_option maxHeartbeats 1000000 in
theorem shut1_any (g : Ga) (s : Gs) (w : World) : Calls Tryz.prog 133 #[mv g s] w fun e w' => e = .returned (.bool (decide (s.pos < g.travel))) ∧ Below w.heap.size w w' := by
  go_enter Tryz.func133, Tryz.ntmps133
  go_wp2
  go_ret
  exact ⟨rfl, (by repeat (first | exact Below.refl _ _ | assumption | (refine Below.setCell ?_ (by first | omega | (simp; done) | (simp; omega)) _) | (refine Below.alloc ?_ (by first | omega | (simp; done) | (simp; omega)) _) | refine Below.drew ?_ | (refine below_thru ?_ (by assumption) (by first | omega | (simp; done) | (simp; omega))) | refine below_drewN ?_ _))⟩
/-- A machine that is not shut. -/
def ajarB (ms : List (Ga × Gs)) (k : Nat) : Bool := ((ms[k]?).map fun m => decide (m.2.pos < m.1.travel)).getD false

set_option maxRecDepth 100000 in
set_option maxHeartbeats 2000000 in
theorem indexM_any (ms : List (Ga × Gs)) (b n c : Nat) (w : World) (hm : Ms w b ms) (hl : ms.length = n) (hn : n ≤ 1000) :
    Calls Tryz.prog 146 #[.slice (some ⟨b, 0, none⟩) n c, .func (.func 133) #[] #[]] w fun e w' => e = .returned (.int .i64 (idxF (ajarB ms) 0 n)) ∧ Below w.heap.size w w' := by
  have Hm := Lib.hid hm
  have Hl := Lib.hid hl
  have hbl := hm.lt
  clear hm hl
  generalize hp : ajarB ms = p
  have Hpp := Lib.hid hp
  clear hp
  go_enter Tryz.func146, Tryz.ntmps146
  go_wp2
  go_loopw [8] (fun i wr => ∃ k : Nat, k ≤ n ∧ i = .int .i64 k ∧ Hid (∀ j, j < k → p j = false) ∧ Below w.heap.size w wr)
    (fun i _ => n - (intOf i).toNat)
  case atStart => exact ⟨0, Nat.zero_le _, rfl, fun j hj => by omega, (by repeat (first | exact Below.refl _ _ | assumption | (refine Below.setCell ?_ (by first | omega | (simp; done) | (simp; omega)) _) | (refine Below.alloc ?_ (by first | omega | (simp; done) | (simp; omega)) _) | refine Below.drew ?_ | (refine below_thru ?_ (by assumption) (by first | omega | (simp; done) | (simp; omega))) | refine below_drewN ?_ _))⟩
  case round =>
    obtain ⟨k, hk, rfl, hprev, hbr⟩ := hrel
    have hzr := hbr.size
    by_cases hlt : k < n
    · obtain ⟨⟨g, s⟩, hgs⟩ := get_lt Hl.out hlt
      have Hrg := Lib.hid ((Hm.out.below hbr hbl).rng k _ hgs)
      have j0 : (0 : Int) ≤ (k : Int) := Int.natCast_nonneg _
      have j1 : (k : Int) < (n : Int) := by omega
      have hq : p k = decide (s.pos < g.travel) := by rw [← Hpp.out]; unfold ajarB; rw [hgs]; rfl
      have HC := Lib.hid (fun W => shut1_any g s W)
      rw [← hq] at HC
      clear hgs hq
      cases hpk : p k
      · have Hn : Hid (∀ j, j < k + 1 → p j = false) := fun j hj => by
          rcases Nat.lt_or_ge j k with h | h
          · exact hprev.out j h
          · obtain rfl : j = k := by omega
            exact hpk
        rw [hpk] at HC
        clear hpk
        go_wp2_with (with_reducible refine wpl_mm (g := g) (s := s) Hrg.out rfl rfl rfl ?_)
        refine (HC.out _).mono ?_
        rintro e w1 ⟨rfl, hb1⟩
        have hz1 := hb1.size
        go_wp2
        go_roundw
        case rel => exact ⟨k + 1, by omega, by go_num, Hn, (by repeat (first | exact Below.refl _ _ | assumption | (refine Below.setCell ?_ (by first | omega | (simp; done) | (simp; omega)) _) | (refine Below.alloc ?_ (by first | omega | (simp; done) | (simp; omega)) _) | refine Below.drew ?_ | (refine below_thru ?_ (by assumption) (by first | omega | (simp; done) | (simp; omega))) | refine below_drewN ?_ _))⟩
        case measure => simp [intOf]; omega
      · have hv : idxF p 0 n = k := by
          rw [idx_skip p k 0 n (by omega) (fun j hj => by rw [Nat.zero_add]; exact hprev.out j hj), Nat.zero_add]
          obtain ⟨m, hm⟩ : ∃ m, n - k = m + 1 := ⟨n - k - 1, by omega⟩
          rw [hm, idxF, if_pos hpk]
        have Hv := Lib.hid hv
        rw [hpk] at HC
        clear hpk hv
        go_wp2_with (with_reducible refine wpl_mm (g := g) (s := s) Hrg.out rfl rfl rfl ?_)
        refine (HC.out _).mono ?_
        rintro e w1 ⟨rfl, hb1⟩
        have hz1 := hb1.size
        go_wp2
        go_ret
        exact ⟨by rw [Hv.out]; rfl, (by repeat (first | exact Below.refl _ _ | assumption | (refine Below.setCell ?_ (by first | omega | (simp; done) | (simp; omega)) _) | (refine Below.alloc ?_ (by first | omega | (simp; done) | (simp; omega)) _) | refine Below.drew ?_ | (refine below_thru ?_ (by assumption) (by first | omega | (simp; done) | (simp; omega))) | refine below_drewN ?_ _))⟩
    · obtain rfl : k = n := by omega
      have hv : idxF p 0 k = -1 := by
        rw [idx_skip p k 0 k (Nat.le_refl _) (fun j hj => by rw [Nat.zero_add]; exact hprev.out j hj), Nat.sub_self]; rfl
      have Hv := Lib.hid hv
      clear hv
      go_wp2
      go_ret
      exact ⟨by rw [Hv.out]; rfl, (by repeat (first | exact Below.refl _ _ | assumption | (refine Below.setCell ?_ (by first | omega | (simp; done) | (simp; omega)) _) | (refine Below.alloc ?_ (by first | omega | (simp; done) | (simp; omega)) _) | refine Below.drew ?_ | (refine below_thru ?_ (by assumption) (by first | omega | (simp; done) | (simp; omega))) | refine below_drewN ?_ _))⟩

set_option maxHeartbeats 1000000 in
theorem containsM_any (ms : List (Ga × Gs)) (b n c : Nat) (w : World) (hm : Ms w b ms) (hl : ms.length = n) (hn : n ≤ 1000) :
    Calls Tryz.prog 132 #[.slice (some ⟨b, 0, none⟩) n c, .func (.func 133) #[] #[]] w fun e w' => e = .returned (.bool ((List.range n).any (ajarB ms))) ∧ Below w.heap.size w w' := by
  have HI := Lib.hid (indexM_any ms b n c w hm hl hn)
  have hx := idx_any (ajarB ms) 0 n
  simp only [Nat.zero_add] at hx
  have hx' : (List.range n).any (ajarB ms) = decide (0 ≤ idxF (ajarB ms) 0 n) := hx.symm
  rw [hx']
  generalize idxF (ajarB ms) 0 n = ix at *
  clear hm hl hx hx'
  go_enter Tryz.func132, Tryz.ntmps132
  go_wp2_with fail
  refine HI.out.mono ?_
  rintro e w1 ⟨rfl, hb1⟩
  go_wp2
  go_ret
  exact ⟨rfl, (by repeat (first | exact Below.refl _ _ | assumption | (refine Below.setCell ?_ (by first | omega | (simp; done) | (simp; omega)) _) | (refine Below.alloc ?_ (by first | omega | (simp; done) | (simp; omega)) _) | refine Below.drew ?_ | (refine below_thru ?_ (by assumption) (by first | omega | (simp; done) | (simp; omega))) | refine below_drewN ?_ _))⟩
def shutB (ms : List (Ga × Gs)) (n : Nat) : Bool := !(List.range n).any (ajarB ms)
set_option maxHeartbeats 1000000 in
theorem shut_any (ms : List (Ga × Gs)) (b n c : Nat) (rA : Option Addr) (rn rc : Nat) (w : World) (hm : Ms w b ms) (hl : ms.length = n) (hn : n ≤ 1000) :
    Calls Tryz.prog 106 #[setV (some ⟨b, 0, none⟩) n c rA rn rc] w fun e w' => e = .returned (.bool (shutB ms n)) ∧ Below w.heap.size w w' := by
  have HC := Lib.hid (fun (W : World) (hW : Below w.heap.size w W) => containsM_any ms b n c W (hm.below hW hm.lt) hl hn)
  have hf : shutB ms n = !(List.range n).any (ajarB ms) := rfl
  rw [hf]
  clear hf
  generalize (List.range n).any (ajarB ms) = bb at *
  clear hm hl
  go_enter Tryz.func106, Tryz.ntmps106
  go_wp2_with fail
  refine (HC.out _ (by repeat (first | exact Below.refl _ _ | assumption | (refine Below.setCell ?_ (by first | omega | (simp; done) | (simp; omega)) _) | (refine Below.alloc ?_ (by first | omega | (simp; done) | (simp; omega)) _) | refine Below.drew ?_ | (refine below_thru ?_ (by assumption) (by first | omega | (simp; done) | (simp; omega))) | refine below_drewN ?_ _))).mono ?_
  rintro e w1 ⟨rfl, hb1⟩
  go_wp2
  go_ret
  exact ⟨rfl, (by repeat (first | exact Below.refl _ _ | assumption | (refine Below.setCell ?_ (by first | omega | (simp; done) | (simp; omega)) _) | (refine Below.alloc ?_ (by first | omega | (simp; done) | (simp; omega)) _) | refine Below.drew ?_ | (refine below_thru ?_ (by assumption) (by first | omega | (simp; done) | (simp; omega))) | refine below_drewN ?_ _))⟩
end Go.Proofs.YtmhfnnpbnocafaaGreat

namespace Go.Proofs.YtmhfnnpbnocafaaGreat
open Go.RowKit
set_option linter.unusedSimpArgs false
set_option linter.unusedVariables false

theorem grown_trans {a b c : World} {row : Option Nat} (h : a.grownBy b row) (k : b.grownBy c row) : a.grownBy c row :=
  ⟨k.os.trans h.os, k.tape.trans h.tape, k.output.trans h.output, Nat.le_trans h.size k.size, fun i hi hne => (k.block i (by have := h.size; omega) hne).trans (h.block i hi hne)⟩
theorem grown_of {a b : World} {row : Option Nat} (h : Below a.heap.size a b) : a.grownBy b row := ⟨h.os, h.tape, h.output, h.size, fun i hi _ => h.block i hi⟩
theorem Blk.kept {w w' : World} {g c : Nat} {t : TypeId} {cs : Array Value} (h : Blk w g t cs) (hg : w.grownBy w' (some c)) (hne : g ≠ c) : Blk w' g t cs := (hg.block g h.lt (by simp; omega)).trans h
theorem below_of_grown {w w' : World} {c B : Nat} (hg : w.grownBy w' (some c)) (hB : B ≤ c) (hz : B ≤ w.heap.size) : Below B w w' := ⟨hg.os, hg.tape, hg.output, hg.size, fun i hi => hg.block i (by omega) (by simp; omega)⟩
theorem Tab.of_range {w : World} {g B n size : Nat} {rows : List (List Value)} (h : w.rangeAt g 0 rows.flatten) (hg : g < B) (hn : rows.length = n) (hs : ∀ r ∈ rows, r.length = size) : Tab w B (some ⟨g, 0, none⟩) n size rows :=
  ⟨hn, fun _ => ⟨g, 0, rfl, hg, fun k r hr j v hv => by
    have := h (k * size + j) v (flat_get size rows hs k r j v hr hv)
    rwa [show 0 + k * size + j = 0 + (k * size + j) by omega]⟩⟩

/-- One step of a set, all of whose gates have the same step, with no ship there. -/
def sameB (n : Nat) : List Bool := List.replicate n false
def sameT (t : Gt) (n : Nat) : List Gt := List.replicate n t
def stepMs (ms : List (Ga × Gs)) (rs : List Gr) (rn : Nat) (t : Gt) (n : Nat) : List (Ga × Gs) := newMs ms (aftF ms rs rn (sameT t n) (sameB n)) n
def toShutF (rs : List Gr) (rn : Nat) (t : Gt) (n : Nat) : Nat → Nat → List (Ga × Gs) → Int × Int
  | 0, k, ms => if shutB ms n = true then ((k : Int), 0) else (0, 9)
  | f + 1, k, ms => if shutB ms n = true then ((k : Int), 0) else toShutF rs rn t n f (k + 1) (stepMs ms rs rn t n)
theorem newMs_all {p : Ga × Gs → Prop} {ms : List (Ga × Gs)} {f : Nat → Gs} (h : ∀ m ∈ ms, p m) : ∀ k, (∀ i m, i < k → ms[i]? = some m → p (m.1, f i)) → ∀ m ∈ newMs ms f k, p m
  | 0, _ => h
  | k + 1, h2 => by
    intro m hm
    unfold newMs at hm
    split at hm
    · rename_i q hq
      rcases List.mem_or_eq_of_mem_set hm with h3 | h3
      · exact newMs_all h k (fun i m hi hm => h2 i m (by omega) hm) m h3
      · rw [h3]; exact h2 k q (by omega) hq
    · exact newMs_all h k (fun i m hi hm => h2 i m (by omega) hm) m hm
/-- What is said of the machines of a set. -/
structure Right (w : World) (b : Nat) (ms : List (Ga × Gs)) (n : Nat) : Prop where
  len : ms.length = n
  at_ : ∀ m ∈ ms, m.1.At w b
  ok : ∀ m ∈ ms, m.1.Ok ∧ m.2.Ok m.1
theorem Right.step {w : World} {b : Nat} {ms : List (Ga × Gs)} {n : Nat} (h : Right w b ms n) (rs : List Gr) (rn : Nat) (t : Gt) : Right w b (stepMs ms rs rn t n) n := by
  refine ⟨by unfold stepMs; rw [newMs_len]; exact h.len, ?_, ?_⟩
  · exact newMs_all h.at_ n (fun i m _ hm => h.at_ m (List.mem_of_getElem? hm))
  · refine newMs_all h.ok n (fun i m hi hm => ?_)
    have ho := h.ok m (List.mem_of_getElem? hm)
    refine ⟨ho.1, ?_⟩
    unfold aftF
    rw [hm]
    have ht : (sameT t n)[i]? = some t := by unfold sameT; rw [List.getElem?_replicate, if_pos hi]
    have hb : (sameB n)[i]? = some false := by unfold sameB; rw [List.getElem?_replicate, if_pos hi]
    rw [ht, hb]
    exact after_ok ho.1 ho.2 t _
theorem Right.kept {w w' : World} {b : Nat} {ms : List (Ga × Gs)} {n : Nat} (h : Right w b ms n) (hb : Below b w w') : Right w' b ms n := ⟨h.len, fun m hm => (h.at_ m hm).below hb, h.ok⟩
end Go.Proofs.YtmhfnnpbnocafaaGreat

namespace Go.Proofs.YtmhfnnpbnocafaaGreat
open Go.RowKit
set_option linter.unusedSimpArgs false
set_option linter.unusedVariables false

theorem infoBool : (Tryz.prog.info? 4).map (fun i => (i.zero, i.size, i.bytes)) = some (some (.bool false), 1, 1) := by kernel_rfl
theorem undBools : Tryz.prog.underlying 64 = some (.slice 4) := by kernel_rfl
theorem bools_is (n : Nat) (h : n ≤ 6) : (madeCells #[Value.bool false] n).toList = (List.replicate n [Value.bool false]).flatten := by
  rcases (show n = 0 ∨ n = 1 ∨ n = 2 ∨ n = 3 ∨ n = 4 ∨ n = 5 ∨ n = 6 by omega) with rfl | rfl | rfl | rfl | rfl | rfl | rfl <;> kernel_rfl

set_option maxRecDepth 100000 in
set_option maxHeartbeats 8000000 in
theorem toShut_any (ms : List (Ga × Gs)) (rs : List Gr) (t : Gt) (b n c : Nat) (rA : Option Addr) (rn rc : Nat) (w : World) (hm : Ms w b ms) (hR : Right w b ms n) (h0 : 0 < n) (hn : n ≤ 6) (hr : Tab w b rA rn 4 (rs.map Gr.cells)) (hrn : rn ≤ 1000) (hro : ∀ r ∈ rs, 0 ≤ r.other ∧ r.other < n) (ht : t.Ok) :
    Calls Tryz.prog 47 #[setV (some ⟨b, 0, none⟩) n c rA rn rc, t.v] w fun e w' => e = .returned (pairV (toShutF rs rn t n 2000 0 ms)) ∧ w.grownBy w' (some b) := by
  obtain ⟨i0, hi, hz0, hz1, hz2⟩ := info_parts infoBool
  have hmk : ∀ W : World, (Instr.makeSlice 64 (.int .i64 (n : Int)) (.int .i64 (n : Int))).run Tryz.prog W = .ok (.slice (some ⟨W.heap.size, 0, none⟩) n n) (W.alloc (.cells (madeCells #[Value.bool false] n) 4)) := by
    intro W
    have := run_make (P := Tryz.prog) W 64 4 i0 _ undBools hi hz0 .i64 .i64 n n (by omega) (by omega) (by rw [hz2]; omega) (by omega)
    rw [hz1, Nat.mul_one, show (Value.bool false).cells = #[Value.bool false] from rfl] at this
    simpa using this
  clear hi hz0 hz1 hz2
  have hbl := hm.lt
  have Hm := Lib.hid hm
  have HR := Lib.hid hR
  have Hr := Lib.hid hr
  have Hro := Lib.hid hro
  have Hto := Lib.hid ht
  have j0 : (0 : Int) ≤ (n : Int) := Int.natCast_nonneg _
  clear hm hR hr hro ht
  go_enter Tryz.func47, Tryz.ntmps47
  go_wp2_with fail
  go_step3
  go_wp2_with fail
  refine (repeat_any t n (w.heap.size + 1 + 1) 1 h0 hn _ (Blk.new' ((w.alloc _).alloc _) _ _ (by simp))).mono ?_
  rintro e w1 ⟨gs, rfl, hgs0, hgs1, hrs, hb1⟩
  have hz1 := hb1.size
  (try simp at hz1 hgs0)
  have hB1 : Blk w1 w.heap.size 103 #[.slice (some ⟨b, 0, none⟩) n c, .slice rA rn rc] := (((Blk.new w _ _).alloc _).alloc _).thru hb1 (by simp; omega)
  have hBw : Below w.heap.size w w1 := (by repeat (first | exact Below.refl _ _ | assumption | (refine Below.setCell ?_ (by first | omega | (simp; done) | (simp; omega)) _) | (refine Below.alloc ?_ (by first | omega | (simp; done) | (simp; omega)) _) | refine Below.drew ?_ | (refine below_thru ?_ (by assumption) (by first | omega | (simp; done) | (simp; omega))) | refine below_drewN ?_ _))
  obtain ⟨s0, s1, _, _⟩ := hB1.two
  have hl0 : w.heap.size < w1.heap.size := by omega
  have Hrs := Lib.hid hrs
  clear hrs hb1
  go_wp2_with fail
  have hB2 : Blk (w1.alloc (.cells (madeCells #[Value.bool false] n) 4)) w.heap.size 103 #[.slice (some ⟨b, 0, none⟩) n c, .slice rA rn rc] := hB1.alloc _
  have hS2 : (w1.alloc (.cells (madeCells #[Value.bool false] n) 4)).rangeAt gs 0 (List.replicate n t.cells).flatten := range_below Hrs.out ((Below.refl w1.heap.size w1).alloc (Nat.le_refl _) _) hgs1
  have hP2 : (w1.alloc (.cells (madeCells #[Value.bool false] n) 4)).rangeAt w1.heap.size 0 (List.replicate n [Value.bool false]).flatten := Blk.range (Blk.new w1 _ _) (by rw [← bools_is n hn]; exact List.take_length)
  have hW2 : Below w.heap.size w (w1.alloc (.cells (madeCells #[Value.bool false] n) 4)) := hBw.alloc (by omega) _
  have hz2 : (w1.alloc (.cells (madeCells #[Value.bool false] n) 4)).heap.size = w1.heap.size + 1 := by simp
  generalize hw2 : w1.alloc (.cells (madeCells #[Value.bool false] n) 4) = w2 at *
  clear hw2
  have hg2 := grown_of (row := some b) hW2
  have hM2 := Hm.out.grow hW2
  have HB2 := Lib.hid hB2
  have HS2 := Lib.hid hS2
  have HP2 := Lib.hid hP2
  have Hg2 := Lib.hid hg2
  have HM2 := Lib.hid hM2
  clear hB1 hBw s0 s1 Hrs hmk hB2 hS2 hP2 hW2 hg2 hM2
  go_step3
  go_wp2
  go_loopw [4] (fun i wr => ∃ (k : Nat) (mk : List (Ga × Gs)), k ≤ 2000 ∧ i = .int .i64 k ∧ Hid (toShutF rs rn t n 2000 0 ms = toShutF rs rn t n (2000 - k) k mk) ∧ Hid (Right w b mk n) ∧ Hid (Ms wr b mk) ∧ Hid (w.grownBy wr (some b)) ∧ Hid (Blk wr w.heap.size 103 #[.slice (some ⟨b, 0, none⟩) n c, .slice rA rn rc])
      ∧ Hid (wr.rangeAt gs 0 (List.replicate n t.cells).flatten) ∧ Hid (wr.rangeAt w1.heap.size 0 (List.replicate n [Value.bool false]).flatten) ∧ w1.heap.size + 1 ≤ wr.heap.size)
    (fun i _ => 2001 - (intOf i).toNat)
  case atStart => exact ⟨0, ms, by omega, rfl, rfl, HR.out, HM2.out, Hg2.out, HB2.out, HS2.out, HP2.out, by omega⟩
  case round =>
    obtain ⟨k, mk, hk, rfl, hto, hRt, hms, hgr, hbs, hsr, hpr, hzr⟩ := hrel
    obtain ⟨s0, s1, _, _⟩ := hbs.out.two
    have hlr := hbs.out.lt
    have HSh := Lib.hid (fun W hW => shut_any mk b n c rA rn rc W hW hRt.out.len (by omega))
    cases hsh : shutB mk n
    · rw [hsh] at HSh
      have Hsh := Lib.hid hsh
      clear hsh
      by_cases hk2 : k = 2000
      · subst hk2
        have hfin : toShutF rs rn t n 2000 0 ms = (0, 9) := by
          rw [hto.out]
          show toShutF rs rn t n 0 2000 mk = _
          rw [toShutF, Hsh.out]; rfl
        have Hfin := Lib.hid hfin
        clear hfin
        go_wp2_with fail
        refine (HSh.out _ hms.out).mono ?_
        rintro e w3 ⟨rfl, hb3⟩
        have hg3 : w.grownBy w3 (some b) := grown_trans hgr.out (grown_of hb3)
        have Hg3 := Lib.hid hg3
        clear hg3 hb3
        go_wp2
        (try rw [Exit.noGoto_ret])
        go_ret2
        exact ⟨by rw [Hfin.out]; rfl, Hg3.out⟩
      · have hke : ((k : Int) == 2000) = false := by rw [beq_eq_false_iff_ne]; omega
        have hnx : toShutF rs rn t n 2000 0 ms = toShutF rs rn t n (2000 - (k + 1)) (k + 1) (stepMs mk rs rn t n) := by
          rw [hto.out]
          obtain ⟨f, hf⟩ : ∃ f, 2000 - k = f + 1 := ⟨2000 - k - 1, by omega⟩
          rw [hf, show 2000 - (k + 1) = f by omega, toShutF, Hsh.out]
          rfl
        have Hnx := Lib.hid hnx
        have hk3 : k < 2000 := by omega
        clear hnx hk2
        go_wp2_with fail
        refine (HSh.out _ hms.out).mono ?_
        rintro e w3 ⟨rfl, hb3⟩
        have hz3 := hb3.size
        have hg3 : w.grownBy w3 (some b) := grown_trans hgr.out (grown_of hb3)
        have hms3 := hms.out.grow hb3
        have hbs3 := hbs.out.thru hb3 hlr
        have hsr3 := range_below hsr.out hb3 (by omega)
        have hpr3 := range_below hpr.out hb3 (by omega)
        obtain ⟨v0, v1, _, _⟩ := hbs3.two
        have hBb : Below b w w3 := below_of_grown hg3 (Nat.le_refl _) (by omega)
        have hRt3 := hRt.out.kept hBb
        have hT3 : Tab w3 w3.heap.size rA rn 4 (rs.map Gr.cells) := (Hr.out.below hBb).more (by omega)
        have hS3 : Tab w3 w3.heap.size (some ⟨gs, 0, none⟩) n 4 ((sameT t n).map Gt.cells) := by
          rw [show (sameT t n).map Gt.cells = List.replicate n t.cells by unfold sameT; rw [List.map_replicate]]
          exact Tab.of_range hsr3 (by omega) List.length_replicate (fun r hr => by rw [(List.mem_replicate.1 hr).2]; rfl)
        have hP3 : Tab w3 w3.heap.size (some ⟨w1.heap.size, 0, none⟩) n 1 ((sameB n).map fun p => [Value.bool p]) := by
          rw [show (sameB n).map (fun p => [Value.bool p]) = List.replicate n [Value.bool false] by unfold sameB; rw [List.map_replicate]]
          exact Tab.of_range hpr3 (by omega) List.length_replicate (fun r hr => by rw [(List.mem_replicate.1 hr).2]; rfl)
        have HStep := Lib.hid (sstep_any mk rs (sameT t n) (sameB n) b n c rA rn rc (some ⟨gs, 0, none⟩) n (some ⟨w1.heap.size, 0, none⟩) n w3 hms3 (fun m hm => (hRt3.at_ m hm).more (by omega)) hRt3.ok hRt3.len h0 hn hT3 hrn Hro.out hS3 (fun t' ht' => by rw [(List.mem_replicate.1 ht').2]; exact Hto.out) hP3)
        have Hg3 := Lib.hid hg3
        have Hbs3 := Lib.hid hbs3
        have Hsr3 := Lib.hid hsr3
        have Hpr3 := Lib.hid hpr3
        have hl3 : w.heap.size < w3.heap.size := by omega
        clear hg3 hms3 hbs3 hsr3 hpr3 hBb hRt3 hT3 hS3 hP3 s0 s1 hb3
        go_wp2_with fail
        refine HStep.out.mono ?_
        rintro e w4 ⟨gd, rfl, hgd0, hgd1, _, hms4, hgr4⟩
        have hz4 := hgr4.size
        have hg4 : Hid (w.grownBy w4 (some b)) := grown_trans Hg3.out hgr4
        have hm4 : Hid (Ms w4 b (stepMs mk rs rn t n)) := hms4
        have hbs4 : Hid (Blk w4 w.heap.size 103 #[.slice (some ⟨b, 0, none⟩) n c, .slice rA rn rc]) := Hbs3.out.kept hgr4 (by omega)
        have hsr4 : Hid (w4.rangeAt gs 0 (List.replicate n t.cells).flatten) := range_kept Hsr3.out hgr4 (by omega)
        have hpr4 : Hid (w4.rangeAt w1.heap.size 0 (List.replicate n [Value.bool false]).flatten) := range_kept Hpr3.out hgr4 (by omega)
        have hRt4 : Hid (Right w b (stepMs mk rs rn t n) n) := hRt.out.step rs rn t
        have hk1 : k + 1 ≤ 2000 := by omega
        clear hms4 hgr4 HStep v0 v1
        go_wp2
        go_roundw
        case rel => exact ⟨k + 1, stepMs mk rs rn t n, hk1, by go_num, Hnx, hRt4, hm4, hg4, hbs4, hsr4, hpr4, by omega⟩
        case measure => simp [intOf]; omega
    · rw [hsh] at HSh
      have Hsh := Lib.hid hsh
      clear hsh
      have hfin : toShutF rs rn t n 2000 0 ms = ((k : Int), 0) := by
        rw [hto.out]
        generalize 2000 - k = f
        cases f
        · rw [toShutF, Hsh.out]; rfl
        · rw [toShutF, Hsh.out]; rfl
      have Hfin := Lib.hid hfin
      clear hfin
      go_wp2_with fail
      refine (HSh.out _ hms.out).mono ?_
      rintro e w3 ⟨rfl, hb3⟩
      have hg3 : w.grownBy w3 (some b) := grown_trans hgr.out (grown_of hb3)
      have Hg3 := Lib.hid hg3
      clear hg3 hb3
      go_wp2
      (try rw [Exit.noGoto_ret])
      go_ret2
      exact ⟨by rw [Hfin.out]; rfl, Hg3.out⟩
end Go.Proofs.YtmhfnnpbnocafaaGreat
