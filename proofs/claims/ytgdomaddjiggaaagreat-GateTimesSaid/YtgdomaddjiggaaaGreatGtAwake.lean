/- Awake returns true. -/
import Derived.Test.YtgdomaddjiggaaaGreatGtPair
import Derived.Test.YtgdomaddjiggaaaGreatGtWhereS
namespace Go.Proofs.YtgdomaddjiggaaaGreat
open Go.RowKit
set_option linter.unusedSimpArgs false
set_option linter.unusedVariables false

theorem states2_is : madeCells #[Value.int .i64 0, .int .i64 0, .bool false] 6 = #[.int .i64 0, .int .i64 0, .bool false, .int .i64 0, .int .i64 0, .bool false] := by kernel_rfl
theorem ex_stepT (a b : Nat) : stepV3 (stepU (exG eastName a b) exS exT) (stepD (exG eastName a b) exS exT) (stepFt (exG eastName a b) exS exT).e = .tuple #[.agg #[.int .i64 75, .int .i64 105, .bool false], .agg #[.int .i64 0, .int .i64 (-25), .int .i64 25], .int .i64 0] := by
  rw [ex_stepU, ex_stepD, ex_stepE]; rfl
theorem delay_ex (W : World) (a b c d sb : Nat) (gA rA : Option Addr) (gc rc : Nat) (hat : (exSt a b c d gA rA gc rc).At W W.heap.size) (hs : Blk W sb 42 #[.int .i64 0, .int .i64 0, .bool false, .int .i64 0, .int .i64 0, .bool false]) :
    Calls Tryz.prog 44 #[(exSt a b c d gA rA gc rc).v, .slice (some ⟨sb, 0, none⟩) 2 2, .int .i64 3000, .int .i64 1000, .bool false] W fun e w' => e = .returned (.tuple #[.int .i64 5, .int .i64 0]) ∧ Below W.heap.size W w' := by
  have h := Delay_any (exSt a b c d gA rA gc rc) exSs (some ⟨sb, 0, none⟩) 2 2 3000 1000 false W hat (Tab.of_flat hs hs.lt rfl (by intro r hr; simp [exSs] at hr; subst hr; rfl) rfl) (by unfold maxLen; omega)
  rw [ex_delay] at h
  exact h
set_option maxRecDepth 100000 in
set_option maxHeartbeats 8000000 in
theorem Awake_any (w : World) : Calls Tryz.prog 24 #[] w fun e w' => e = .returned (.bool true) ∧ Below w.heap.size w w' := by
  obtain ⟨i0, hi, hz0, hz1, hz2⟩ := info_parts infoState
  have hmk : ∀ W : World, (Instr.makeSlice 50 (.int .i64 2) (.int .i64 2)).run Tryz.prog W = .ok (.slice (some ⟨W.heap.size, 0, none⟩) 2 2) (W.alloc (.cells #[.int .i64 0, .int .i64 0, .bool false, .int .i64 0, .int .i64 0, .bool false] 42)) := by
    intro W
    have := run_make (P := Tryz.prog) W 50 42 i0 _ undStates hi hz0 .i64 .i64 2 2 (by omega) (by omega) (by rw [hz2]; omega) (by omega)
    rw [hz1, show (Value.agg #[.int .i64 0, .int .i64 0, .bool false]).cells = #[.int .i64 0, .int .i64 0, .bool false] from rfl, show Int.toNat 2 * 3 = 6 from rfl, states2_is] at this
    simpa using this
  clear hi hz0 hz1 hz2
  go_enter Tryz.func24, Tryz.ntmps24
  go_wp2_with fail
  refine (Example_any _).mono ?_
  rintro e w1 ⟨a1, b1, rfl, hat, _, hb1⟩
  have Hat := Lib.hid hat; clear hat
  have hz1 := hb1.size
  go_wp2_with fail
  refine (Falls_any _ 9000 8000 _ Hat.out).mono ?_
  rw [ex_falls, show pairV (891, 0) = .tuple #[.int .i64 891, .int .i64 0] from rfl]
  rintro e w2 ⟨rfl, hb2⟩
  clear Hat
  have hz2 := hb2.size
  have hB2 : Below w.heap.size w w2 := hb1.trans (hb2.mono hz1)
  clear hb1 hb2
  go_wp2_with fail
  refine (Example_any _).mono ?_
  rintro e w3 ⟨a3, b3, rfl, hat, _, hb3⟩
  have Hat := Lib.hid hat; clear hat
  have hz3 := hb3.size
  go_wp2_with fail
  refine (Step_any _ exS exT _ Hat.out).mono ?_
  rw [ex_stepT]
  rintro e w4 ⟨rfl, hb4⟩
  clear Hat
  have hz4 := hb4.size
  have hB4 : Below w.heap.size w w4 := hB2.trans ((hb3.trans (hb4.mono hz3)).mono (by omega))
  clear hb3 hb4 hB2
  have hS4 : Blk ((w4.alloc (.cells #[.int .i64 75, .int .i64 105, .bool false] 42)).alloc (.cells #[.int .i64 0, .int .i64 (-25), .int .i64 25] 45)) w4.heap.size 42 #[.int .i64 75, .int .i64 105, .bool false] := (Blk.new w4 _ _).alloc _
  have hM4 : Blk ((w4.alloc (.cells #[.int .i64 75, .int .i64 105, .bool false] 42)).alloc (.cells #[.int .i64 0, .int .i64 (-25), .int .i64 25] 45)) (w4.heap.size + 1) 45 #[.int .i64 0, .int .i64 (-25), .int .i64 25] := Blk.new' (w4.alloc _) _ _ (by simp)
  have hB5 : Below w.heap.size w ((w4.alloc (.cells #[.int .i64 75, .int .i64 105, .bool false] 42)).alloc (.cells #[.int .i64 0, .int .i64 (-25), .int .i64 25] 45)) := (hB4.alloc (by omega) _).alloc (by simp; omega) _
  have hz5 : ((w4.alloc (.cells #[.int .i64 75, .int .i64 105, .bool false] 42)).alloc (.cells #[.int .i64 0, .int .i64 (-25), .int .i64 25] 45)).heap.size = w4.heap.size + 1 + 1 := by simp
  have end_ : ∀ W5 : World, Below ((w4.alloc (.cells #[.int .i64 75, .int .i64 105, .bool false] 42)).alloc (.cells #[.int .i64 0, .int .i64 (-25), .int .i64 25] 45)).heap.size ((w4.alloc (.cells #[.int .i64 75, .int .i64 105, .bool false] 42)).alloc (.cells #[.int .i64 0, .int .i64 (-25), .int .i64 25] 45)) W5 → True := fun _ _ => trivial
  clear end_
  go_wp2_with fail
  generalize hw5 : (w4.alloc (.cells #[.int .i64 75, .int .i64 105, .bool false] 42)).alloc (.cells #[.int .i64 0, .int .i64 (-25), .int .i64 25] 45) = w5 at *
  clear hw5
  refine wp_region_held (S := fun _ => True) (by kernel_rfl) (by trivial) (fun hHeld => ?_)
  refine wpAnyH_ready (rs := [0, 1]) (by kernel_rfl) (by simp) ?_
  refine AllReadyH.cons rfl (fun K hK => ?_) (AllReadyH.cons rfl (fun K hK => ?_) AllReadyH.nil)
  · go_simp
    refine (Pair_any _).mono ?_
    rintro e w6 ⟨a, b, c, d, gA, rA, gc, rc, rfl, hat, hb6⟩
    (try dsimp only)
    have hz6 := hb6.size
    refine hK.out _ _ (by trivial) (fun hHeld => ?_)
    clear hK K
    (try simp only [List.getElem_toArray, List.getElem_cons_zero, List.getElem_cons_succ, Act.put, List.setIfInBounds_toArray, List.set_cons_zero, List.set_cons_succ])
    refine wpAnyH_ready (rs := [1]) (by kernel_rfl) (by simp) ?_
    refine AllReadyH.cons rfl (fun K hK => ?_) AllReadyH.nil
    go_simp
    (try dsimp only)
    refine hK.out _ _ (by trivial) (fun hHeld => ?_)
    clear hK K
    (try simp only [Act.put, List.setIfInBounds_toArray, List.set_cons_zero, List.set_cons_succ])
    have hcall := delay_ex (w6.alloc (.cells #[.int .i64 0, .int .i64 0, .bool false, .int .i64 0, .int .i64 0, .bool false] 42)) a b c d w6.heap.size gA rA gc rc (hat.grow (by repeat (first | exact Below.refl _ _ | assumption | (refine Below.setCell ?_ (by first | omega | (simp; done) | (simp; omega)) _) | (refine Below.alloc ?_ (by first | omega | (simp; done) | (simp; omega)) _) | refine Below.drew ?_ | (refine below_thru ?_ (by assumption) (by first | omega | (simp; done) | (simp; omega))) | refine below_drewN ?_ _))) (Blk.new w6 _ _)
    (try simp only [List.getElem_toArray, List.getElem_cons_zero, List.getElem_cons_succ, Act.put, List.setIfInBounds_toArray, List.set_cons_zero, List.set_cons_succ])
    refine wpAnyH_ready (rs := [2]) (by kernel_rfl) (by simp) ?_
    refine AllReadyH.cons rfl (fun K hK => ?_) AllReadyH.nil
    go_simp
    refine (hcall).mono ?_
    rintro e w7 ⟨rfl, hb7⟩
    (try dsimp only)
    refine hK.out _ _ (by trivial) (fun hHeld => ?_)
    clear hK K
    (try simp only [Act.put, List.setIfInBounds_toArray, List.set_cons_zero, List.set_cons_succ])
    have hb75 : Below w5.heap.size w5 w7 := ((Below.drew (Below.refl _ _)).trans (hb6.mono (by simp))).trans (((Below.refl w6.heap.size w6).alloc (Nat.le_refl _) _).mono (by simpa using hz6)|>.trans (hb7.mono (by simp; simp at hz6; omega)))
    have hz7 := hb7.size
    (try simp at hz7)
    have hS7 : Blk w7 w4.heap.size 42 #[.int .i64 75, .int .i64 105, .bool false] := hS4.thru hb75 (by omega)
    have hM7 : Blk w7 (w4.heap.size + 1) 45 #[.int .i64 0, .int .i64 (-25), .int .i64 25] := hM4.thru hb75 (by omega)
    have hB7 : Below w.heap.size w w7 := hB5.trans (hb75.mono (by omega))
    have hz75 := hb75.size
    clear hS4 hM4 hB5 hb7 hb75
    refine wpAnyH_take (i := 3) (v := ?_) rfl (by kernel_rfl) (by kernel_rfl) (by kernel_rfl) (fun _ _ _ h => h) (Or.inl ⟨by rfl, ?_⟩) hHeld ?_
    rotate_left
    · intro w hSw; (try dsimp only at hSw); skip; go_simp; (try with_reducible rfl)
    (try simp only [Act.put, List.setIfInBounds_toArray, List.set_cons_zero, List.set_cons_succ])
    refine wpAnyH_take (i := 4) (v := ?_) rfl (by kernel_rfl) (by kernel_rfl) (by kernel_rfl) (fun _ _ _ h => h) (Or.inl ⟨by rfl, ?_⟩) hHeld ?_
    rotate_left
    · intro w hSw; (try dsimp only at hSw); skip; go_simp; (try with_reducible rfl)
    (try simp only [Act.put, List.setIfInBounds_toArray, List.set_cons_zero, List.set_cons_succ])
    refine wpAnyH_take (i := 5) (v := ?_) rfl (by kernel_rfl) (by kernel_rfl) (by kernel_rfl) (fun _ _ _ h => h) (Or.inl ⟨by rfl, ?_⟩) hHeld ?_
    rotate_left
    · intro w hSw; (try dsimp only at hSw); skip; go_simp; (try with_reducible rfl)
    (try simp only [Act.put, List.setIfInBounds_toArray, List.set_cons_zero, List.set_cons_succ])
    refine wpAnyH_take (i := 6) (v := ?_) rfl (by kernel_rfl) (by kernel_rfl) (by kernel_rfl) (fun _ _ _ h => h) (Or.inl ⟨by rfl, ?_⟩) hHeld ?_
    rotate_left
    · intro w hSw; (try dsimp only at hSw); skip; go_simp; (try with_reducible rfl)
    (try simp only [Act.put, List.setIfInBounds_toArray, List.set_cons_zero, List.set_cons_succ])
    refine wpAnyH_take (i := 7) (v := ?_) rfl (by kernel_rfl) (by kernel_rfl) (by kernel_rfl) (fun _ _ _ h => h) (Or.inl ⟨by rfl, ?_⟩) hHeld ?_
    rotate_left
    · intro w hSw; (try dsimp only at hSw); skip; go_simp; (try with_reducible rfl)
    (try simp only [Act.put, List.setIfInBounds_toArray, List.set_cons_zero, List.set_cons_succ])
    refine wpAnyH_done (by kernel_rfl) ?_ _
    (try simp only [List.getElem_toArray, List.getElem_cons_zero, List.getElem_cons_succ, Act.put, List.setIfInBounds_toArray, List.set_cons_zero, List.set_cons_succ])
    go_wp2_with fail
    refine (Example_any _).mono ?_
    rintro e w8 ⟨a8, b8, rfl, hat8, _, hb8⟩
    have Hat := Lib.hid hat8; clear hat8
    have hz8 := hb8.size
    go_wp2_with fail
    refine (Where0_any _ _ Hat.out (by simp [exG]) (ex_gate a8 b8)).mono ?_
    rintro e w9 ⟨rfl, hb9⟩
    clear Hat
    have hb79 : Below w7.heap.size w7 w9 := hb8.trans (hb9.mono hz8)
    have hz9 := hb79.size
    have hS9 := hS7.thru hb79 (by omega)
    have hM9 := hM7.thru hb79 (by omega)
    have hB9 : Below w.heap.size w w9 := hB7.trans (hb79.mono (by omega))
    obtain ⟨s0, s1, s2, _⟩ := hS9.three
    obtain ⟨m0, m1, m2, _⟩ := hM9.three
    have hl0 : w4.heap.size < w9.heap.size := by omega
    have hl1 : w4.heap.size + 1 < w9.heap.size := by omega
    clear hb8 hb9 hb79 hS7 hM7 hB7 hS9 hM9
    go_wp2
    go_ret
    exact ⟨rfl, (by repeat (first | exact Below.refl _ _ | assumption | (refine Below.setCell ?_ (by first | omega | (simp; done) | (simp; omega)) _) | (refine Below.alloc ?_ (by first | omega | (simp; done) | (simp; omega)) _) | refine Below.drew ?_ | (refine below_thru ?_ (by assumption) (by first | omega | (simp; done) | (simp; omega))) | refine below_drewN ?_ _))⟩
  · go_simp
    (try dsimp only)
    refine hK.out _ _ (by trivial) (fun hHeld => ?_)
    clear hK K
    (try simp only [List.getElem_toArray, List.getElem_cons_zero, List.getElem_cons_succ, Act.put, List.setIfInBounds_toArray, List.set_cons_zero, List.set_cons_succ])
    refine wpAnyH_ready (rs := [0]) (by kernel_rfl) (by simp) ?_
    refine AllReadyH.cons rfl (fun K hK => ?_) AllReadyH.nil
    go_simp
    refine (Pair_any _).mono ?_
    rintro e w6 ⟨a, b, c, d, gA, rA, gc, rc, rfl, hat, hb6⟩
    (try dsimp only)
    have hz6 := hb6.size
    (try simp at hz6)
    refine hK.out _ _ (by trivial) (fun hHeld => ?_)
    clear hK K
    (try simp only [List.getElem_toArray, List.getElem_cons_zero, List.getElem_cons_succ, Act.put, List.setIfInBounds_toArray, List.set_cons_zero, List.set_cons_succ])
    have hcall := delay_ex w6 a b c d (w4.heap.size + 1 + 1) gA rA gc rc hat ((Blk.new' w5 _ _ hz5).drew.thru hb6 (by simp; omega))
    refine wpAnyH_ready (rs := [2]) (by kernel_rfl) (by simp) ?_
    refine AllReadyH.cons rfl (fun K hK => ?_) AllReadyH.nil
    go_simp
    refine (hcall).mono ?_
    rintro e w7 ⟨rfl, hb7⟩
    (try dsimp only)
    refine hK.out _ _ (by trivial) (fun hHeld => ?_)
    clear hK K
    (try simp only [Act.put, List.setIfInBounds_toArray, List.set_cons_zero, List.set_cons_succ])
    have hb75 : Below w5.heap.size w5 w7 := (Below.drew ((Below.refl w5.heap.size w5).alloc (Nat.le_refl _) _)).trans ((hb6.mono (by simp)).trans (hb7.mono (by omega)))
    have hz7 := hb7.size
    (try simp at hz7)
    have hS7 : Blk w7 w4.heap.size 42 #[.int .i64 75, .int .i64 105, .bool false] := hS4.thru hb75 (by omega)
    have hM7 : Blk w7 (w4.heap.size + 1) 45 #[.int .i64 0, .int .i64 (-25), .int .i64 25] := hM4.thru hb75 (by omega)
    have hB7 : Below w.heap.size w w7 := hB5.trans (hb75.mono (by omega))
    have hz75 := hb75.size
    clear hS4 hM4 hB5 hb7 hb75
    refine wpAnyH_take (i := 3) (v := ?_) rfl (by kernel_rfl) (by kernel_rfl) (by kernel_rfl) (fun _ _ _ h => h) (Or.inl ⟨by rfl, ?_⟩) hHeld ?_
    rotate_left
    · intro w hSw; (try dsimp only at hSw); skip; go_simp; (try with_reducible rfl)
    (try simp only [Act.put, List.setIfInBounds_toArray, List.set_cons_zero, List.set_cons_succ])
    refine wpAnyH_take (i := 4) (v := ?_) rfl (by kernel_rfl) (by kernel_rfl) (by kernel_rfl) (fun _ _ _ h => h) (Or.inl ⟨by rfl, ?_⟩) hHeld ?_
    rotate_left
    · intro w hSw; (try dsimp only at hSw); skip; go_simp; (try with_reducible rfl)
    (try simp only [Act.put, List.setIfInBounds_toArray, List.set_cons_zero, List.set_cons_succ])
    refine wpAnyH_take (i := 5) (v := ?_) rfl (by kernel_rfl) (by kernel_rfl) (by kernel_rfl) (fun _ _ _ h => h) (Or.inl ⟨by rfl, ?_⟩) hHeld ?_
    rotate_left
    · intro w hSw; (try dsimp only at hSw); skip; go_simp; (try with_reducible rfl)
    (try simp only [Act.put, List.setIfInBounds_toArray, List.set_cons_zero, List.set_cons_succ])
    refine wpAnyH_take (i := 6) (v := ?_) rfl (by kernel_rfl) (by kernel_rfl) (by kernel_rfl) (fun _ _ _ h => h) (Or.inl ⟨by rfl, ?_⟩) hHeld ?_
    rotate_left
    · intro w hSw; (try dsimp only at hSw); skip; go_simp; (try with_reducible rfl)
    (try simp only [Act.put, List.setIfInBounds_toArray, List.set_cons_zero, List.set_cons_succ])
    refine wpAnyH_take (i := 7) (v := ?_) rfl (by kernel_rfl) (by kernel_rfl) (by kernel_rfl) (fun _ _ _ h => h) (Or.inl ⟨by rfl, ?_⟩) hHeld ?_
    rotate_left
    · intro w hSw; (try dsimp only at hSw); skip; go_simp; (try with_reducible rfl)
    (try simp only [Act.put, List.setIfInBounds_toArray, List.set_cons_zero, List.set_cons_succ])
    refine wpAnyH_done (by kernel_rfl) ?_ _
    (try simp only [List.getElem_toArray, List.getElem_cons_zero, List.getElem_cons_succ, Act.put, List.setIfInBounds_toArray, List.set_cons_zero, List.set_cons_succ])
    go_wp2_with fail
    refine (Example_any _).mono ?_
    rintro e w8 ⟨a8, b8, rfl, hat8, _, hb8⟩
    have Hat := Lib.hid hat8; clear hat8
    have hz8 := hb8.size
    go_wp2_with fail
    refine (Where0_any _ _ Hat.out (by simp [exG]) (ex_gate a8 b8)).mono ?_
    rintro e w9 ⟨rfl, hb9⟩
    clear Hat
    have hb79 : Below w7.heap.size w7 w9 := hb8.trans (hb9.mono hz8)
    have hz9 := hb79.size
    have hS9 := hS7.thru hb79 (by omega)
    have hM9 := hM7.thru hb79 (by omega)
    have hB9 : Below w.heap.size w w9 := hB7.trans (hb79.mono (by omega))
    obtain ⟨s0, s1, s2, _⟩ := hS9.three
    obtain ⟨m0, m1, m2, _⟩ := hM9.three
    have hl0 : w4.heap.size < w9.heap.size := by omega
    have hl1 : w4.heap.size + 1 < w9.heap.size := by omega
    clear hb8 hb9 hb79 hS7 hM7 hB7 hS9 hM9
    go_wp2
    go_ret
    exact ⟨rfl, (by repeat (first | exact Below.refl _ _ | assumption | (refine Below.setCell ?_ (by first | omega | (simp; done) | (simp; omega)) _) | (refine Below.alloc ?_ (by first | omega | (simp; done) | (simp; omega)) _) | refine Below.drew ?_ | (refine below_thru ?_ (by assumption) (by first | omega | (simp; done) | (simp; omega))) | refine below_drewN ?_ _))⟩
end Go.Proofs.YtgdomaddjiggaaaGreat
