/- The part of a constituent. -/
import Derived.Test.YtncidhoojgncgaaGreatTdTab
namespace Go.Proofs.YtncidhoojgncgaaGreat
open Go.RowKit
set_option linter.unusedSimpArgs false
set_option linter.unusedVariables false

theorem mul_abs {a b A B : Int} (h1 : -A ≤ a) (h2 : a ≤ A) (h3 : 0 ≤ b) (h4 : b ≤ B) (hA : 0 ≤ A) : -(A * B) ≤ a * b ∧ a * b ≤ A * B := by
  have k1 := Int.mul_le_mul_of_nonneg_right h2 h3
  have k2 := Int.mul_le_mul_of_nonneg_right h1 h3
  have k3 := Int.mul_le_mul_of_nonneg_left h4 hA
  rw [Int.neg_mul] at k2
  omega
theorem mul_bounds' {a b A B : Int} (h1 : 0 ≤ a) (h2 : a ≤ A) (h3 : 0 ≤ b) (h4 : b ≤ B) : 0 ≤ a * b ∧ a * b ≤ A * B :=
  ⟨Int.mul_nonneg h1 h3, Int.mul_le_mul h2 h4 h3 (Int.le_trans h1 h2)⟩
theorem tab_int {w : World} {B A n} {l : List Int} (h : Tab w B A n 1 (ints l)) {k : Nat} (hk : k < n) : ∃ b off, A = some ⟨b, off, none⟩ ∧ b < B ∧ w.cell? ⟨b, off + k, none⟩ = some (.int .i64 (l.getD k 0)) := by
  have hl : l.length = n := by have := h.1; simpa using this
  exact h.one (by simp [show k < l.length by omega])

set_option maxRecDepth 100000 in
set_option maxHeartbeats 2000000 in
theorem partAt_any (c : Cn) (k : Nat) (r : Int) (w : World) (hc : c.At w w.heap.size) (hok : c.Ok) (hk : k < c.hn) (hr0 : 0 ≤ r) (hr1 : r < c.den) :
    Calls Tryz.prog 116 #[c.v, .int .i64 k, .int .i64 r] w fun e w' => e = .returned (partS c k r).v ∧ Below w.heap.size w w' := by
  obtain ⟨j, hj⟩ : ∃ j, (k + 1) % c.hn = j := ⟨_, rfl⟩
  have hjn : j < c.hn := by rw [← hj]; exact Nat.mod_lt _ (by omega)
  have hmod : ((k : Int) + 1) % (c.hn : Int) = (j : Int) := by rw [← hj]; push_cast; rfl
  obtain ⟨b, off, hA, hb, c0⟩ := tab_int hc.h hk
  obtain ⟨b', off', hA', hb', c1⟩ := tab_int hc.h hjn
  rw [hA] at hA'
  cases hA'
  have hl := hc.hl
  have hm0 : c.hs.getD k 0 ∈ c.hs := by rw [List.getD_eq_getElem?_getD, List.getElem?_eq_getElem (by omega)]; exact List.getElem_mem _
  have hm1 : c.hs.getD j 0 ∈ c.hs := by rw [List.getD_eq_getElem?_getD, List.getElem?_eq_getElem (by omega)]; exact List.getElem_mem _
  have hb0 := hok.hh _ hm0
  have hb1 := hok.hh _ hm1
  have hn1 := hok.n1
  have hd0 := hok.d0
  have hd1 := hok.d1
  have hk0 := hok.k0
  have hk1 := hok.k1
  have hsum : c.sum k r = c.hs.getD k 0 * (c.den - r) + c.hs.getD j 0 * r := by unfold Cn.sum; rw [hj]
  obtain ⟨h0, hh0⟩ : ∃ h0, c.hs.getD k 0 = h0 := ⟨_, rfl⟩
  obtain ⟨h1, hh1⟩ : ∃ h1, c.hs.getD j 0 = h1 := ⟨_, rfl⟩
  rw [hh0] at c0 hb0 hsum
  rw [hh1] at c1 hb1 hsum
  have hfin : partS c k r = ⟨(h0 * (c.den - r) + h1 * r) / c.den - c.slack, -(-(h0 * (c.den - r) + h1 * r) / c.den) + c.slack⟩ := by unfold partS; rw [hsum]
  have Hfin := Lib.hid hfin
  clear hfin hsum hh0 hh1 hm0 hm1 hl hok hc hj
  obtain ⟨nm, hA2, hn, hcp, hs, of, st, dn, sl⟩ := c
  simp only at *
  subst hA
  obtain ⟨x1, x2⟩ := hb0
  obtain ⟨y1, y2⟩ := hb1
  obtain ⟨p1, p2⟩ := mul_abs (A := 10000) (B := 1000) x1 x2 (show 0 ≤ dn - r by omega) (by omega) (by omega)
  obtain ⟨p3, p4⟩ := mul_abs (A := 10000) (B := 1000) y1 y2 hr0 (show r ≤ 1000 by omega) (by omega)
  have w1 : IntKind.i64.wrap (dn - r) = dn - r := IntWalk.i64_in _ (by omega)
  have w2 : IntKind.i64.wrap (h0 * (dn - r)) = h0 * (dn - r) := IntWalk.i64_in _ (by omega)
  have w3 : IntKind.i64.wrap (h1 * r) = h1 * r := IntWalk.i64_in _ (by omega)
  have w4 : IntKind.i64.wrap (h0 * (dn - r) + h1 * r) = h0 * (dn - r) + h1 * r := IntWalk.i64_in _ (by omega)
  have i0 : (0 : Int) ≤ (k : Int) := Int.natCast_nonneg _
  have i1 : (k : Int) < (hn : Int) := by omega
  have i2 : (0 : Int) ≤ (j : Int) := Int.natCast_nonneg _
  have i3 : (j : Int) < (hn : Int) := by omega
  have hne : ((hn : Int) == 0) = false := by rw [beq_eq_false_iff_ne]; omega
  go_enter Tryz.func116, Tryz.ntmps116
  go_wp2_with fail
  go_quiet (fail)
  go_wp2_with fail
  have s1 : -20000000 ≤ h0 * (dn - r) + h1 * r := by omega
  have s2 : h0 * (dn - r) + h1 * r ≤ 20000000 := by omega
  generalize h0 * (dn - r) + h1 * r = s at *
  clear p1 p2 p3 p4 w1 w2 w3 w4
  have d1 := tdiv_floor s dn (by omega)
  have d2 := tdiv_bound s dn 20000000 (by omega) (by omega) s1 s2
  have d3 := tdiv_floor (-s) dn (by omega)
  have d4 := tdiv_bound (-s) dn 20000000 (by omega) (by omega) (by omega) (by omega)
  have d5 : -20000001 ≤ s / dn ∧ s / dn ≤ 20000001 := by split at d1 <;> omega
  have d6 : -20000001 ≤ -s / dn ∧ -s / dn ≤ 20000001 := by split at d3 <;> omega
  obtain ⟨u1, u2⟩ := d5
  obtain ⟨u3, u4⟩ := d6
  clear d1 d2 d3 d4
  refine wp_region_split (S := fun w' => w'.cell? ⟨w.heap.size, 4, none⟩ = some (.int .i64 dn) ∧ w'.cell? ⟨w.heap.size, 5, none⟩ = some (.int .i64 sl)) 12 (by kernel_rfl) (by kernel_rfl) (by ((go_split_ands; (try dsimp only); (repeat' apply And.intro) <;> first | assumption | (simp; done) | ((repeat (first | (with_reducible refine keep_set ?_ (by first | omega | (simp; done) | (simp; omega))) | (with_reducible refine keep_new ?_ _) | (with_reducible refine keep_drew ?_))); assumption) | (refine (hc9 _ _ (by first | omega | (simp; omega))).trans ?_; assumption) | (refine (hc8 _ _ (by first | omega | (simp; omega))).trans ?_; assumption) | (refine (hc7 _ _ (by first | omega | (simp; omega))).trans ?_; assumption) | (refine (hc6 _ _ (by first | omega | (simp; omega))).trans ?_; assumption) | (refine (hc5 _ _ (by first | omega | (simp; omega))).trans ?_; assumption) | (refine (hc4 _ _ (by first | omega | (simp; omega))).trans ?_; assumption) | (refine (hc3 _ _ (by first | omega | (simp; omega))).trans ?_; assumption) | (refine (hc2 _ _ (by first | omega | (simp; omega))).trans ?_; assumption) | (refine (hc1 _ _ (by first | omega | (simp; omega))).trans ?_; assumption) | (refine (hcr _ _ (by first | omega | (simp; omega))).trans ?_; assumption) | (simp; done) | (simp [go_sem]; done) | go_keep))) (fun hHeld => ?_)
  refine wpAnyH_take (i := 0) (v := ?_) rfl (by kernel_rfl) (by kernel_rfl) (by kernel_rfl) (fun _ _ _ h => h) (Or.inl ⟨by rfl, ?_⟩) hHeld ?_
  rotate_left
  · intro w hSw; (try dsimp only at hSw); go_simp; (try with_reducible rfl)
  (try simp only [Act.put, List.setIfInBounds_toArray, List.set_cons_zero, List.set_cons_succ])
  refine wpAnyH_take (i := 1) (v := ?_) rfl (by kernel_rfl) (by kernel_rfl) (by kernel_rfl) (fun _ _ _ h => h) (Or.inl ⟨by rfl, ?_⟩) hHeld ?_
  rotate_left
  · intro w hSw; (try dsimp only at hSw); go_simp; (try with_reducible rfl)
  (try simp only [Act.put, List.setIfInBounds_toArray, List.set_cons_zero, List.set_cons_succ])
  refine wpAnyH_take (i := 2) (v := ?_) rfl (by kernel_rfl) (by kernel_rfl) (by kernel_rfl) (fun _ _ _ h => h) (Or.inl ⟨by rfl, ?_⟩) hHeld ?_
  rotate_left
  · intro w hSw; (try dsimp only at hSw); go_simp; (try with_reducible rfl)
  (try simp only [Act.put, List.setIfInBounds_toArray, List.set_cons_zero, List.set_cons_succ])
  refine wpAnyH_take (i := 4) (v := ?_) rfl (by kernel_rfl) (by kernel_rfl) (by kernel_rfl) (fun _ _ _ h => h) (Or.inl ⟨by rfl, ?_⟩) hHeld ?_
  rotate_left
  · intro w hSw; (try dsimp only at hSw); go_simp; (try with_reducible rfl)
  (try simp only [Act.put, List.setIfInBounds_toArray, List.set_cons_zero, List.set_cons_succ])
  refine wpAnyH_take (i := 5) (v := ?_) rfl (by kernel_rfl) (by kernel_rfl) (by kernel_rfl) (fun _ _ _ h => h) (Or.inl ⟨by rfl, ?_⟩) hHeld ?_
  rotate_left
  · intro w hSw; (try dsimp only at hSw); go_simp; (try with_reducible rfl)
  (try simp only [Act.put, List.setIfInBounds_toArray, List.set_cons_zero, List.set_cons_succ])
  refine wpAnyH_take (i := 6) (v := ?_) rfl (by kernel_rfl) (by kernel_rfl) (by kernel_rfl) (fun _ _ _ h => h) (Or.inl ⟨by rfl, ?_⟩) hHeld ?_
  rotate_left
  · intro w hSw; (try dsimp only at hSw); go_simp; (try with_reducible rfl)
  (try simp only [Act.put, List.setIfInBounds_toArray, List.set_cons_zero, List.set_cons_succ])
  refine wpAnyH_take (i := 9) (v := ?_) rfl (by kernel_rfl) (by kernel_rfl) (by kernel_rfl) (fun _ _ _ h => h) (Or.inl ⟨by rfl, ?_⟩) hHeld ?_
  rotate_left
  · intro w hSw; (try dsimp only at hSw); go_simp; (try with_reducible rfl)
  (try simp only [Act.put, List.setIfInBounds_toArray, List.set_cons_zero, List.set_cons_succ])
  refine wpAnyH_take (i := 10) (v := ?_) rfl (by kernel_rfl) (by kernel_rfl) (by kernel_rfl) (fun _ _ _ h => h) (Or.inl ⟨by rfl, ?_⟩) hHeld ?_
  rotate_left
  · intro w hSw; (try dsimp only at hSw); go_simp; (try with_reducible rfl)
  (try simp only [Act.put, List.setIfInBounds_toArray, List.set_cons_zero, List.set_cons_succ])
  refine wpAnyH_ready (rs := [3]) (by kernel_rfl) (by simp) ?_
  refine AllReadyH.cons rfl (fun K hK => ?_) AllReadyH.nil
  go_simp
  refine (floorDiv_any s dn _ (by omega) (by omega) hd0).mono ?_
  rintro e w1 ⟨rfl, rfl⟩
  (try dsimp only)
  refine hK.out _ _ (by ((go_split_ands; (try dsimp only); (repeat' apply And.intro) <;> first | assumption | (simp; done) | ((repeat (first | (with_reducible refine keep_set ?_ (by first | omega | (simp; done) | (simp; omega))) | (with_reducible refine keep_new ?_ _) | (with_reducible refine keep_drew ?_))); assumption) | (refine (hc9 _ _ (by first | omega | (simp; omega))).trans ?_; assumption) | (refine (hc8 _ _ (by first | omega | (simp; omega))).trans ?_; assumption) | (refine (hc7 _ _ (by first | omega | (simp; omega))).trans ?_; assumption) | (refine (hc6 _ _ (by first | omega | (simp; omega))).trans ?_; assumption) | (refine (hc5 _ _ (by first | omega | (simp; omega))).trans ?_; assumption) | (refine (hc4 _ _ (by first | omega | (simp; omega))).trans ?_; assumption) | (refine (hc3 _ _ (by first | omega | (simp; omega))).trans ?_; assumption) | (refine (hc2 _ _ (by first | omega | (simp; omega))).trans ?_; assumption) | (refine (hc1 _ _ (by first | omega | (simp; omega))).trans ?_; assumption) | (refine (hcr _ _ (by first | omega | (simp; omega))).trans ?_; assumption) | (simp; done) | (simp [go_sem]; done) | go_keep))) (fun hHeld => ?_)
  clear hK K
  (try simp only [Act.put, List.setIfInBounds_toArray, List.set_cons_zero, List.set_cons_succ])
  refine wpAnyH_ready (rs := [7]) (by kernel_rfl) (by simp) ?_
  refine AllReadyH.cons rfl (fun K hK => ?_) AllReadyH.nil
  go_simp
  refine (ceilDiv_any s dn _ (by omega) (by omega) hd0).mono ?_
  rintro e w1 ⟨rfl, rfl⟩
  (try dsimp only)
  refine hK.out _ _ (by ((go_split_ands; (try dsimp only); (repeat' apply And.intro) <;> first | assumption | (simp; done) | ((repeat (first | (with_reducible refine keep_set ?_ (by first | omega | (simp; done) | (simp; omega))) | (with_reducible refine keep_new ?_ _) | (with_reducible refine keep_drew ?_))); assumption) | (refine (hc9 _ _ (by first | omega | (simp; omega))).trans ?_; assumption) | (refine (hc8 _ _ (by first | omega | (simp; omega))).trans ?_; assumption) | (refine (hc7 _ _ (by first | omega | (simp; omega))).trans ?_; assumption) | (refine (hc6 _ _ (by first | omega | (simp; omega))).trans ?_; assumption) | (refine (hc5 _ _ (by first | omega | (simp; omega))).trans ?_; assumption) | (refine (hc4 _ _ (by first | omega | (simp; omega))).trans ?_; assumption) | (refine (hc3 _ _ (by first | omega | (simp; omega))).trans ?_; assumption) | (refine (hc2 _ _ (by first | omega | (simp; omega))).trans ?_; assumption) | (refine (hc1 _ _ (by first | omega | (simp; omega))).trans ?_; assumption) | (refine (hcr _ _ (by first | omega | (simp; omega))).trans ?_; assumption) | (simp; done) | (simp [go_sem]; done) | go_keep))) (fun hHeld => ?_)
  clear hK K
  (try simp only [Act.put, List.setIfInBounds_toArray, List.set_cons_zero, List.set_cons_succ])
  refine wpAnyH_ready (rs := [8]) (by kernel_rfl) (by simp) ?_
  refine AllReadyH.cons rfl (fun K hK => ?_) AllReadyH.nil
  go_simp
  refine (spanOf_any (s / dn) (-(-s / dn)) _).mono ?_
  rintro e w1 ⟨rfl, hb1⟩; obtain ⟨hc1, hf1⟩ := bcell hb1; have hz1 := hb1.size; (try simp at hz1); have hl1 : w.heap.size + 1 < w1.heap.size := by omega
  (try dsimp only)
  refine hK.out _ _ (by ((go_split_ands; (try dsimp only); (repeat' apply And.intro) <;> first | assumption | (simp; done) | ((repeat (first | (with_reducible refine keep_set ?_ (by first | omega | (simp; done) | (simp; omega))) | (with_reducible refine keep_new ?_ _) | (with_reducible refine keep_drew ?_))); assumption) | (refine (hc9 _ _ (by first | omega | (simp; omega))).trans ?_; assumption) | (refine (hc8 _ _ (by first | omega | (simp; omega))).trans ?_; assumption) | (refine (hc7 _ _ (by first | omega | (simp; omega))).trans ?_; assumption) | (refine (hc6 _ _ (by first | omega | (simp; omega))).trans ?_; assumption) | (refine (hc5 _ _ (by first | omega | (simp; omega))).trans ?_; assumption) | (refine (hc4 _ _ (by first | omega | (simp; omega))).trans ?_; assumption) | (refine (hc3 _ _ (by first | omega | (simp; omega))).trans ?_; assumption) | (refine (hc2 _ _ (by first | omega | (simp; omega))).trans ?_; assumption) | (refine (hc1 _ _ (by first | omega | (simp; omega))).trans ?_; assumption) | (refine (hcr _ _ (by first | omega | (simp; omega))).trans ?_; assumption) | (simp; done) | (simp [go_sem]; done) | go_keep))) (fun hHeld => ?_)
  clear hK K
  (try simp only [Act.put, List.setIfInBounds_toArray, List.set_cons_zero, List.set_cons_succ])
  refine wpAnyH_ready (rs := [11]) (by kernel_rfl) (by simp) ?_
  refine AllReadyH.cons rfl (fun K hK => ?_) AllReadyH.nil
  go_simp
  refine (wider_any (s / dn) (-(-s / dn)) sl _ (by omega) (by omega) (by omega) (by omega) (by omega) (by omega)).mono ?_
  rintro e w2 ⟨rfl, hb2⟩; obtain ⟨hc2, hf2⟩ := bcell hb2; have hz2 := hb2.size; (try simp at hz2); have hl2 : w.heap.size + 1 < w2.heap.size := by omega
  (try dsimp only)
  refine hK.out _ _ (by ((go_split_ands; (try dsimp only); (repeat' apply And.intro) <;> first | assumption | (simp; done) | ((repeat (first | (with_reducible refine keep_set ?_ (by first | omega | (simp; done) | (simp; omega))) | (with_reducible refine keep_new ?_ _) | (with_reducible refine keep_drew ?_))); assumption) | (refine (hc9 _ _ (by first | omega | (simp; omega))).trans ?_; assumption) | (refine (hc8 _ _ (by first | omega | (simp; omega))).trans ?_; assumption) | (refine (hc7 _ _ (by first | omega | (simp; omega))).trans ?_; assumption) | (refine (hc6 _ _ (by first | omega | (simp; omega))).trans ?_; assumption) | (refine (hc5 _ _ (by first | omega | (simp; omega))).trans ?_; assumption) | (refine (hc4 _ _ (by first | omega | (simp; omega))).trans ?_; assumption) | (refine (hc3 _ _ (by first | omega | (simp; omega))).trans ?_; assumption) | (refine (hc2 _ _ (by first | omega | (simp; omega))).trans ?_; assumption) | (refine (hc1 _ _ (by first | omega | (simp; omega))).trans ?_; assumption) | (refine (hcr _ _ (by first | omega | (simp; omega))).trans ?_; assumption) | (simp; done) | (simp [go_sem]; done) | go_keep))) (fun hHeld => ?_)
  clear hK K
  (try simp only [Act.put, List.setIfInBounds_toArray, List.set_cons_zero, List.set_cons_succ])
  refine wpAnyH_done (by kernel_rfl) ?_ _
  simp only [tailPost, List.drop_succ_cons, List.drop_zero]
  go_wp2
  exact bodyPost_ret (v := Sp.v ⟨s / dn - sl, -(-s / dn) + sl⟩) (by simp [results, Tryz.results116, go_sem, hc1, hc2, hl1] <;> omega) rfl ⟨by rw [Hfin.out], (by repeat (first | exact Below.refl _ _ | assumption | (refine Below.setCell ?_ (by first | omega | (simp; done) | (simp; omega)) _) | (refine Below.alloc ?_ (by first | omega | (simp; done) | (simp; omega)) _) | refine Below.drew ?_ | (refine below_thru ?_ (by assumption) (by first | omega | (simp; done) | (simp; omega))) | refine below_drewN ?_ _))⟩
end Go.Proofs.YtncidhoojgncgaaGreat
