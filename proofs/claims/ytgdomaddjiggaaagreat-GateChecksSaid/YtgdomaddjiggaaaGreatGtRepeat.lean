/- bits.Mul of 1 and a small number. slices.Repeat of one step, a few times. -/
import Derived.Test.YtgdomaddjiggaaaGreatGtRow2
import Derived.Test.YtgdomaddjiggaaaGreatGtOwns
namespace Go.Proofs.YtgdomaddjiggaaaGreat
open Go.RowKit
set_option linter.unusedSimpArgs false
set_option linter.unusedVariables false

set_option maxRecDepth 100000 in
set_option maxHeartbeats 4000000 in
theorem mul64_any (n : Nat) (h0 : 1 ≤ n) (h1 : n ≤ 6) (w : World) :
    Calls Tryz.prog 183 #[.int .u64 1, .int .u64 (n : Int)] w fun e w' => e = .returned (.tuple #[.int .u64 0, .int .u64 (n : Int)]) ∧ w = w' := by
  rcases (show n = 1 ∨ n = 2 ∨ n = 3 ∨ n = 4 ∨ n = 5 ∨ n = 6 by omega) with rfl | rfl | rfl | rfl | rfl | rfl
  all_goals
    go_enter Tryz.func183, Tryz.ntmps183
    go_wp2
    go_ret2
    exact ⟨rfl, rfl⟩
set_option maxRecDepth 100000 in
set_option maxHeartbeats 4000000 in
theorem mul_any (n : Nat) (h0 : 1 ≤ n) (h1 : n ≤ 6) (w : World) :
    Calls Tryz.prog 171 #[.int .u64 1, .int .u64 (n : Int)] w fun e w' => e = .returned (.tuple #[.int .u64 0, .int .u64 (n : Int)]) ∧ w = w' := by
  have H := Lib.hid (fun W => mul64_any n h0 h1 W)
  clear h0 h1
  go_enter Tryz.func171, Tryz.ntmps171
  go_wp2_with fail
  refine (H.out _).mono ?_
  rintro e w1 ⟨rfl, rfl⟩
  go_wp2
  go_ret2
  exact ⟨rfl, rfl⟩
end Go.Proofs.YtgdomaddjiggaaaGreat

namespace Go.Proofs.YtgdomaddjiggaaaGreat
open Go.RowKit
set_option linter.unusedSimpArgs false
set_option linter.unusedVariables false

theorem infoStep : (Tryz.prog.info? 49).map (fun i => (i.zero, i.size, i.bytes)) = some (some (.agg #[.int .i64 0, .bool false, .int .i64 0, .int .i64 0]), 4, 32) := by kernel_rfl
theorem undSteps : Tryz.prog.underlying 43 = some (.slice 49) := by kernel_rfl
theorem sizeStep : (Tryz.prog.info? 49).map (·.size) = some 4 := by kernel_rfl
theorem wp_copy_cellsN {P : Program} {w : World} {o : Oper} {a : Act} {K : Act → World → Prop} {Q : Exit → Act → World → Prop} (d s : Operand) (dT sT : TypeId)
    (ho : o.op = .call { callee := .builtin .copy, args := #[d, s], argTypes := #[dT, sT] }) (elem : TypeId) (sz : Nat) (hu : P.underlying dT = some (.slice elem)) (hsz : (P.info? elem).map (·.size) = some sz)
    (g off dLen dCap : Nat) (ad : Addr) (sLen sCap : Nat) (hd : a.eval d = .slice (some ⟨g, off, none⟩) dLen dCap) (hs : a.eval s = .slice (some ad) sLen sCap) (cs : List Value) (m : Nat) (hm : Nat.min sLen dLen = m) (hn : cs.length = m * sz)
    (hsrc : ∀ j v, cs[j]? = some v → w.cell? (ad.add j) = some v) (hth : w.there g off cs.length) (h1 : ∀ v ∈ cs, v.oneCell' = true)
    (h : K (a.put o.dst (goInt m)) (w.setCells g off cs)) : o.wp P a w K Q := by
  subst hm
  have hrun := run_copy_cellsN (P := P) w dT sT o.type elem g off dLen dCap ad sLen sCap sz cs hu hsz hn hsrc (fun j hj => (hth j hj).1) (fun j hj => (hth j hj).2) h1
  unfold Oper.wp
  simp [execOp, ho, resolve, invoke, builtin, hd, hs, hrun, Result.andThen]
  exact h
/-- m copies of a step, cell by cell. -/
def reps (t : Gt) (m : Nat) : List Value := (List.replicate m t.cells).flatten
theorem reps_len (t : Gt) (m : Nat) : (reps t m).length = m * 4 := by
  unfold reps
  rw [flat_len 4 _ (fun r hr => by rw [(List.mem_replicate.1 hr).2]; rfl), List.length_replicate]
theorem reps_one (t : Gt) (m : Nat) : ∀ v ∈ reps t m, v.oneCell' = true := by
  intro v hv
  unfold reps at hv
  obtain ⟨l, hl, hv⟩ := List.mem_flatten.1 hv
  rw [(List.mem_replicate.1 hl).2] at hv
  simp only [List.mem_cons, List.not_mem_nil, or_false] at hv
  rcases hv with rfl | rfl | rfl | rfl <;> rfl
theorem reps_take (t : Gt) (m k : Nat) (h : k ≤ m) : (reps t m).take (k * 4) = reps t k := by
  obtain ⟨d, rfl⟩ := Nat.exists_eq_add_of_le h
  unfold reps
  rw [List.replicate_append_replicate.symm, List.flatten_append, List.take_left' (by exact reps_len t k)]
theorem reps_add (t : Gt) (m k : Nat) : reps t (m + k) = reps t m ++ reps t k := by
  unfold reps
  rw [List.replicate_append_replicate.symm, List.flatten_append]
theorem range_take {w : World} {g o : Nat} {l : List Value} (h : w.rangeAt g o l) (k : Nat) : w.rangeAt g o (l.take k) := fun j v hv => by
  rw [List.getElem?_take] at hv
  split at hv
  · exact h j v hv
  · cases hv
theorem range_append {w : World} {g o : Nat} {l r : List Value} (h : w.rangeAt g o l) (h2 : w.rangeAt g (o + l.length) r) : w.rangeAt g o (l ++ r) := fun j v hv => by
  by_cases hj : j < l.length
  · rw [List.getElem?_append_left hj] at hv; exact h j v hv
  · rw [List.getElem?_append_right (by omega)] at hv
    have := h2 (j - l.length) v hv
    rwa [show o + l.length + (j - l.length) = o + j by omega] at this
theorem range_below0 {w w' : World} {b o B : Nat} {l : List Value} (h : w.rangeAt b o l) (hb : Below B w w') (hB : b < B) : w'.rangeAt b o l := range_below h hb hB
theorem reps_pos (t : Gt) (m : Nat) : 0 < (reps t (m + 1)).length := by rw [reps_len]; omega
theorem there_part {w : World} {g n : Nat} (h : w.there g 0 n) {o m : Nat} (hm : o + m ≤ n) : w.there g o m := fun j hj => by
  have := h (o + j) (by omega)
  rwa [Nat.zero_add] at this

set_option maxRecDepth 100000 in
set_option maxHeartbeats 8000000 in
theorem repeat_any (t : Gt) (n b c : Nat) (h0 : 1 ≤ n) (h1 : n ≤ 6) (w : World) (hb : Blk w b 49 #[.int .i64 t.order, .bool t.power, .int .i64 t.outer, .int .i64 t.inner]) :
    Calls Tryz.prog 146 #[.slice (some ⟨b, 0, none⟩) 1 c, .int .i64 (n : Int)] w fun e w' =>
      ∃ g, e = .returned (.slice (some ⟨g, 0, none⟩) n n) ∧ w.heap.size ≤ g ∧ g < w'.heap.size ∧ w'.rangeAt g 0 (reps t n) ∧ Below w.heap.size w w' := by
  obtain ⟨i0, hi, hz0, hz1, hz2⟩ := info_parts infoStep
  have hmk : ∃ o, ∀ W : World, (Instr.makeSlice 43 (.int .i64 (n : Int)) (.int .i64 (n : Int))).run Tryz.prog W = .ok (.slice (some ⟨W.heap.size, 0, none⟩) n n) (W.alloc (.cells o 49)) ∧ o.size = n * 4 := by
    refine ⟨madeCells (Value.agg #[.int .i64 0, .bool false, .int .i64 0, .int .i64 0]).cells (n * i0.size), fun W => ⟨?_, ?_⟩⟩
    · have := run_make (P := Tryz.prog) W 43 49 i0 _ undSteps hi hz0 .i64 .i64 n n (by omega) (by omega) (by rw [hz2]; omega) (by omega)
      simpa using this
    · rw [hz1]; simp [madeCells]
  obtain ⟨o9, hmk⟩ := hmk
  have ho9 := (hmk w).2
  have hmk1 := fun W => (hmk W).1
  have HM := Lib.hid (fun W => mul_any n h0 h1 W)
  have hwu : IntKind.u64.wrap (n : Int) = n := by rcases (show n = 1 ∨ n = 2 ∨ n = 3 ∨ n = 4 ∨ n = 5 ∨ n = 6 by omega) with rfl | rfl | rfl | rfl | rfl | rfl <;> rfl
  have hwi : IntKind.i64.wrap (n : Int) = n := by rcases (show n = 1 ∨ n = 2 ∨ n = 3 ∨ n = 4 ∨ n = 5 ∨ n = 6 by omega) with rfl | rfl | rfl | rfl | rfl | rfl <;> rfl
  have j0 : (0 : Int) ≤ (n : Int) := Int.natCast_nonneg _
  have j1 : (n : Int) ≤ 9223372036854775807 := by omega
  have hrb : w.rangeAt b 0 (reps t 1) := Blk.range hb rfl
  have hbl := hb.lt
  have Hrb := Lib.hid hrb
  have Ho9 := Lib.hid ho9
  clear hmk hi hz0 hz1 hz2 hb hrb ho9
  go_enter Tryz.func146, Tryz.ntmps146
  go_wp2_with fail
  refine (HM.out _).mono ?_
  rintro e w1 ⟨rfl, rfl⟩
  have hmin : Nat.min 1 n = 1 := Nat.min_eq_left h0
  have hn1 : (reps t 1).length = 1 * 4 := reps_len t 1
  have hth : (w.alloc (.cells o9 49)).there w.heap.size 0 (n * 4) := (Blk.new w _ _).there (by rw [Ho9.out]; omega)
  have Hth := Lib.hid hth
  have hsr := src_of (range_below Hrb.out (show Below w.heap.size w (w.alloc (.cells o9 49)) from (by repeat (first | exact Below.refl _ _ | assumption | (refine Below.setCell ?_ (by first | omega | (simp; done) | (simp; omega)) _) | (refine Below.alloc ?_ (by first | omega | (simp; done) | (simp; omega)) _) | refine Below.drew ?_ | (refine below_thru ?_ (by assumption) (by first | omega | (simp; done) | (simp; omega))) | refine below_drewN ?_ _))) hbl)
  have Hsr := Lib.hid hsr
  clear hth hsr
  go_wp2_with (with_reducible refine wpList_copy_cellsN rfl (.tmp 31) (.tmp 32) 43 43 rfl 49 4 undSteps sizeStep w.heap.size 0 n n ⟨b, 0, none⟩ 1 c rfl rfl (reps t 1) 1 hmin hn1 Hsr.out (there_part Hth.out (by rw [hn1]; omega)) (reps_one t 1) ?_)
  have hW1 := World.rangeAt_setCells_same (w.alloc (.cells o9 49)) w.heap.size 0 (reps t 1) (there_part Hth.out (by rw [hn1]; omega))
  have hW2 : ((w.alloc (.cells o9 49)).setCells w.heap.size 0 (reps t 1)).there w.heap.size 0 (n * 4) := World.there_setCells Hth.out _ _ _
  have hW3 : Below w.heap.size w ((w.alloc (.cells o9 49)).setCells w.heap.size 0 (reps t 1)) := below_sets (by repeat (first | exact Below.refl _ _ | assumption | (refine Below.setCell ?_ (by first | omega | (simp; done) | (simp; omega)) _) | (refine Below.alloc ?_ (by first | omega | (simp; done) | (simp; omega)) _) | refine Below.drew ?_ | (refine below_thru ?_ (by assumption) (by first | omega | (simp; done) | (simp; omega))) | refine below_drewN ?_ _)) (Nat.le_refl _) _ _
  have hW4 : ((w.alloc (.cells o9 49)).setCells w.heap.size 0 (reps t 1)).heap.size = w.heap.size + 1 := by rw [size_sets]; simp
  generalize (w.alloc (.cells o9 49)).setCells w.heap.size 0 (reps t 1) = w2 at *
  have HW1 := Lib.hid hW1
  have HW2 := Lib.hid hW2
  clear hW1 hW2 Hth Hsr hmin hn1 Hrb Ho9
  go_loopw [8] (fun i wr => ∃ k : Nat, 1 ≤ k ∧ k ≤ n ∧ i = .int .i64 k ∧ Hid (wr.rangeAt w.heap.size 0 (reps t k)) ∧ Hid (wr.there w.heap.size 0 (n * 4)) ∧ Below w.heap.size w wr ∧ wr.heap.size = w.heap.size + 1)
    (fun i _ => n - (intOf i).toNat)
  case atStart => exact ⟨1, Nat.le_refl _, h0, rfl, HW1.out, HW2.out, hW3, hW4⟩
  case round =>
    obtain ⟨k, hk0, hk, rfl, hra, hth, hbr, hzr⟩ := hrel
    by_cases hkn : k < n
    · obtain ⟨m, hm⟩ : ∃ m, Nat.min k (n - k) = m := ⟨_, rfl⟩
      obtain ⟨m0, m1, m2⟩ : 1 ≤ m ∧ m ≤ k ∧ k + m ≤ n := by have hm' : min k (n - k) = m := hm; omega
      have hne : ¬ n = k := by omega
      have hwk : IntKind.i64.wrap ((k : Int) + (m : Int)) = ((k + m : Nat) : Int) := by
        have hkm : ((k : Int) + (m : Int)) = ((k + m : Nat) : Int) := by omega
        rw [hkm]
        rcases (show k + m = 1 ∨ k + m = 2 ∨ k + m = 3 ∨ k + m = 4 ∨ k + m = 5 ∨ k + m = 6 by omega) with h | h | h | h | h | h <;> rw [h] <;> rfl
      have hsr := src_of (show wr.drew.rangeAt w.heap.size 0 (reps t m) from by have h2 := range_take hra.out (m * 4); rw [reps_take t k m m1] at h2; exact h2)
      have hth2 : wr.drew.there w.heap.size (k * 4) (reps t m).length := (World.there_drew _ _ _ _).2 (there_part hth.out (by rw [reps_len]; omega))
      have Hsr := Lib.hid hsr
      have Hth2 := Lib.hid hth2
      have hr1 := World.rangeAt_setCells_same wr.drew w.heap.size (k * 4) (reps t m) hth2
      have hr2 : (wr.drew.setCells w.heap.size (k * 4) (reps t m)).rangeAt w.heap.size 0 (reps t k) := World.rangeAt_setCells_apart (show wr.drew.rangeAt w.heap.size 0 (reps t k) from hra.out) _ _ _ (.inr (.inl (by rw [reps_len]; omega)))
      have hr3 : (wr.drew.setCells w.heap.size (k * 4) (reps t m)).rangeAt w.heap.size 0 (reps t (k + m)) := by
        rw [reps_add]
        exact range_append hr2 (by rw [reps_len, Nat.zero_add]; exact hr1)
      have hth3 : (wr.drew.setCells w.heap.size (k * 4) (reps t m)).there w.heap.size 0 (n * 4) := World.there_setCells ((World.there_drew _ _ _ _).2 hth.out) _ _ _
      have hb3 : Below w.heap.size w (wr.drew.setCells w.heap.size (k * 4) (reps t m)) := below_sets (Below.drew hbr) (Nat.le_refl _) _ _
      have hz3 : (wr.drew.setCells w.heap.size (k * 4) (reps t m)).heap.size = w.heap.size + 1 := by rw [size_sets]; exact hzr
      have Hr3 := Lib.hid hr3
      have Hth3 := Lib.hid hth3
      clear hsr hth2 hr1 hr2 hr3 hth3
      go_wp2_with fail
      refine wp_region_held (S := fun _ => True) (by kernel_rfl) (by trivial) (fun hHeld => ?_)
      refine wpAnyH_take (i := 0) (v := ?_) rfl (by kernel_rfl) (by kernel_rfl) (by kernel_rfl) (fun _ _ _ h => h) (Or.inl ⟨by rfl, ?_⟩) hHeld ?_
      rotate_left
      · intro w hSw; (try dsimp only at hSw); skip; go_simp; (try with_reducible rfl)
      (try simp only [Act.put, List.setIfInBounds_toArray, List.set_cons_zero, List.set_cons_succ])
      refine wpAnyH_take (i := 1) (v := ?_) rfl (by kernel_rfl) (by kernel_rfl) (by kernel_rfl) (fun _ _ _ h => h) (Or.inl ⟨by rfl, ?_⟩) hHeld ?_
      rotate_left
      · intro w hSw; (try dsimp only at hSw); skip; go_simp; (try with_reducible rfl)
      (try simp only [Act.put, List.setIfInBounds_toArray, List.set_cons_zero, List.set_cons_succ])
      refine wpAnyH_take (i := 2) (v := ?_) rfl (by kernel_rfl) (by kernel_rfl) (by kernel_rfl) (fun _ _ _ h => h) (Or.inl ⟨by rfl, ?_⟩) hHeld ?_
      rotate_left
      · intro w hSw; (try dsimp only at hSw); skip; go_simp; (try with_reducible rfl)
      (try simp only [Act.put, List.setIfInBounds_toArray, List.set_cons_zero, List.set_cons_succ])
      refine wpAnyH_take (i := 4) (v := ?_) rfl (by kernel_rfl) (by kernel_rfl) (by kernel_rfl) (fun _ _ _ h => h) (Or.inl ⟨by rfl, ?_⟩) hHeld ?_
      rotate_left
      · intro w hSw; (try dsimp only at hSw); skip; go_simp; (try with_reducible rfl)
      (try simp only [Act.put, List.setIfInBounds_toArray, List.set_cons_zero, List.set_cons_succ])
      refine wpAnyH_take (i := 5) (v := ?_) rfl (by kernel_rfl) (by kernel_rfl) (by kernel_rfl) (fun _ _ _ h => h) (Or.inl ⟨by rfl, ?_⟩) hHeld ?_
      rotate_left
      · intro w hSw; (try dsimp only at hSw); skip; go_simp; (try with_reducible rfl)
      (try simp only [Act.put, List.setIfInBounds_toArray, List.set_cons_zero, List.set_cons_succ])
      refine wpAnyH_take (i := 3) (v := ?_) rfl (by kernel_rfl) (by kernel_rfl) (by kernel_rfl) (fun _ _ _ h => h) (Or.inl ⟨by rfl, ?_⟩) hHeld ?_
      rotate_left
      · intro w hSw; (try dsimp only at hSw); skip; go_simp; (try with_reducible rfl)
      (try simp only [Act.put, List.setIfInBounds_toArray, List.set_cons_zero, List.set_cons_succ])
      refine wpAnyH_take (i := 6) (v := ?_) rfl (by kernel_rfl) (by kernel_rfl) (by kernel_rfl) (fun _ _ _ h => h) (Or.inl ⟨by rfl, ?_⟩) hHeld ?_
      rotate_left
      · intro w hSw; (try dsimp only at hSw); skip; go_simp; (try with_reducible rfl)
      (try simp only [Act.put, List.setIfInBounds_toArray, List.set_cons_zero, List.set_cons_succ])
      (try simp only [List.getElem_toArray, List.getElem_cons_zero, List.getElem_cons_succ, Act.put, List.setIfInBounds_toArray, List.set_cons_zero, List.set_cons_succ])
      refine wpAnyH_ready (rs := [7]) (by kernel_rfl) (by simp) ?_
      refine AllReadyH.cons rfl (fun K hK => ?_) AllReadyH.nil
      refine wanted_of (by rfl) (wp_copy_cellsN (P := Tryz.prog) (.tmp 41) (.tmp 44) 43 43 rfl 49 4 undSteps sizeStep w.heap.size (k * 4) (n - k) (n - k) ⟨w.heap.size, 0, none⟩ k n rfl rfl (reps t m) m hm (reps_len t m) Hsr.out Hth2.out (reps_one t m) ?_)
      refine hK.out _ _ (by trivial) (fun hHeld => ?_)
      clear hK K
      (try simp only [Act.put, List.setIfInBounds_toArray, List.set_cons_zero, List.set_cons_succ])
      refine wpAnyH_take (i := 8) (v := ?_) rfl (by kernel_rfl) (by kernel_rfl) (by kernel_rfl) (fun _ _ _ h => h) (Or.inl ⟨by rfl, ?_⟩) hHeld ?_
      rotate_left
      · intro w hSw; (try dsimp only at hSw); skip; go_simp; (try with_reducible rfl)
      (try simp only [Act.put, List.setIfInBounds_toArray, List.set_cons_zero, List.set_cons_succ])
      refine wpAnyH_take (i := 9) (v := ?_) rfl (by kernel_rfl) (by kernel_rfl) (by kernel_rfl) (fun _ _ _ h => h) (Or.inl ⟨by rfl, ?_⟩) hHeld ?_
      rotate_left
      · intro w hSw; (try dsimp only at hSw); skip; go_simp; (try with_reducible rfl)
      (try simp only [Act.put, List.setIfInBounds_toArray, List.set_cons_zero, List.set_cons_succ])
      refine wpAnyH_done (by kernel_rfl) ?_ _
      (try simp only [List.getElem_toArray, List.getElem_cons_zero, List.getElem_cons_succ, Act.put, List.setIfInBounds_toArray, List.set_cons_zero, List.set_cons_succ])
      generalize wr.drew.setCells w.heap.size (k * 4) (reps t m) = w4 at *
      go_wp2
      go_roundw
      case rel => exact ⟨k + m, by omega, by omega, rfl, Hr3, Hth3, hb3, hz3⟩
      case measure => simp [intOf]; omega
    · obtain rfl : k = n := by omega
      go_wp2
      go_ret
      exact ⟨w.heap.size, rfl, Nat.le_refl _, by omega, hra.out, hbr⟩
end Go.Proofs.YtgdomaddjiggaaaGreat
