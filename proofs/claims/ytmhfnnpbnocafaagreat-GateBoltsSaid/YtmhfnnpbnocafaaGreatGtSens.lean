/- Whether sensors agree with a position. -/
import Derived.Test.YtmhfnnpbnocafaaGreatGtSet
namespace Go.Proofs.YtmhfnnpbnocafaaGreat
open Go.RowKit
set_option linter.unusedSimpArgs false
set_option linter.unusedVariables false

/-- A sensor with a reading agrees with a position. -/
def agreesB (s : Sn) (r p : Int) : Bool := if s.kind = 1 then betw r (p - s.tol) (p + s.tol) else if r = 1 then decide (s.at_ - s.tol ≤ p) else if r = 0 then decide (p ≤ s.at_ + s.tol) else false
set_option maxRecDepth 100000 in
set_option maxHeartbeats 2000000 in
theorem agrees_any (s : Sn) (r p : Int) (w : World) (a0 : 0 ≤ s.at_) (a1 : s.at_ ≤ 5000) (t0 : 0 ≤ s.tol) (t1 : s.tol ≤ 5000) (p0 : 0 ≤ p) (p1 : p ≤ 5000) :
    Calls Tryz.prog 143 #[snv s, .int .i64 r, .int .i64 p] w fun e w' => e = .returned (.bool (agreesB s r p)) ∧ Below w.heap.size w w' := by
  have HB := Lib.hid (bet_is r (p - s.tol) (p + s.tol) _ rfl)
  by_cases hk : s.kind = 1
  · have hf : agreesB s r p = betw r (p - s.tol) (p + s.tol) := by unfold agreesB; rw [if_pos hk]
    rw [hf]
    generalize betw r (p - s.tol) (p + s.tol) = b at *
    have q : (s.kind == 1) = true := by rw [beq_iff_eq]; exact hk
    clear hf hk
    go_enter Tryz.func143, Tryz.ntmps143
    go_wp2_with fail
    refine (HB.out _).mono ?_
    rintro e w' ⟨rfl, rfl⟩
    go_wp2
    go_ret
    exact ⟨rfl, (by repeat (first | exact Below.refl _ _ | assumption | (refine Below.setCell ?_ (by first | omega | (simp; done) | (simp; omega)) _) | (refine Below.alloc ?_ (by first | omega | (simp; done) | (simp; omega)) _) | refine Below.drew ?_ | (refine below_thru ?_ (by assumption) (by first | omega | (simp; done) | (simp; omega))) | refine below_drewN ?_ _))⟩
  · have q : (s.kind == 1) = false := by rw [beq_eq_false_iff_ne]; exact hk
    by_cases h1 : r = 1
    · have hf : agreesB s r p = decide (s.at_ - s.tol ≤ p) := by unfold agreesB; rw [if_neg hk, if_pos h1]
      rw [hf]
      subst h1
      clear hf hk
      go_enter Tryz.func143, Tryz.ntmps143
      go_wp2
      go_ret
      exact ⟨rfl, (by repeat (first | exact Below.refl _ _ | assumption | (refine Below.setCell ?_ (by first | omega | (simp; done) | (simp; omega)) _) | (refine Below.alloc ?_ (by first | omega | (simp; done) | (simp; omega)) _) | refine Below.drew ?_ | (refine below_thru ?_ (by assumption) (by first | omega | (simp; done) | (simp; omega))) | refine below_drewN ?_ _))⟩
    · have q1 : (r == 1) = false := by rw [beq_eq_false_iff_ne]; exact h1
      by_cases h0 : r = 0
      · have hf : agreesB s r p = decide (p ≤ s.at_ + s.tol) := by unfold agreesB; rw [if_neg hk, if_neg h1, if_pos h0]
        rw [hf]
        subst h0
        clear hf hk h1 q1
        go_enter Tryz.func143, Tryz.ntmps143
        go_wp2
        go_ret
        exact ⟨rfl, (by repeat (first | exact Below.refl _ _ | assumption | (refine Below.setCell ?_ (by first | omega | (simp; done) | (simp; omega)) _) | (refine Below.alloc ?_ (by first | omega | (simp; done) | (simp; omega)) _) | refine Below.drew ?_ | (refine below_thru ?_ (by assumption) (by first | omega | (simp; done) | (simp; omega))) | refine below_drewN ?_ _))⟩
      · have hf : agreesB s r p = false := by unfold agreesB; rw [if_neg hk, if_neg h1, if_neg h0]
        have q2 : (r == 0) = false := by rw [beq_eq_false_iff_ne]; exact h0
        rw [hf]
        clear hf hk h1 h0
        go_enter Tryz.func143, Tryz.ntmps143
        go_wp2
        go_ret
        exact ⟨rfl, (by repeat (first | exact Below.refl _ _ | assumption | (refine Below.setCell ?_ (by first | omega | (simp; done) | (simp; omega)) _) | (refine Below.alloc ?_ (by first | omega | (simp; done) | (simp; omega)) _) | refine Below.drew ?_ | (refine below_thru ?_ (by assumption) (by first | omega | (simp; done) | (simp; omega))) | refine below_drewN ?_ _))⟩
def snAt (ss : List Sn) (i : Nat) : Sn := (ss[i]?).getD ⟨0, 0, 0⟩
def rdAt (rs : List Int) (i : Nat) : Int := (rs[i]?).getD 0
/-- How many of the first sensors do not agree. -/
def disF (ss : List Sn) (rs : List Int) (p : Int) : Nat → Int
  | 0 => 0
  | k + 1 => disF ss rs p k + if agreesB (snAt ss k) (rdAt rs k) p = true then 0 else 1
theorem dis_in (ss : List Sn) (rs : List Int) (p : Int) : ∀ k : Nat, 0 ≤ disF ss rs p k ∧ disF ss rs p k ≤ k
  | 0 => by simp [disF]
  | k + 1 => by
    have := dis_in ss rs p k
    unfold disF
    split <;> omega
theorem snAt_of {ss : List Sn} {i : Nat} {s : Sn} (h : ss[i]? = some s) : snAt ss i = s := by unfold snAt; rw [h]; rfl
theorem rdAt_of {rs : List Int} {i : Nat} {r : Int} (h : rs[i]? = some r) : rdAt rs i = r := by unfold rdAt; rw [h]; rfl
/-- What a round reads. -/
structure SeR (W : World) (sb : Nat) (s : Sn) (rb ro : Nat) (r : Int) : Prop where
  s : Blk W sb 92 #[.int .i64 s.kind, .int .i64 s.at_, .int .i64 s.tol]
  r : W.cell? ⟨rb, ro, none⟩ = some (.int .i64 r)
section
variable {W W' : World} {sb rb ro : Nat} {s : Sn} {r : Int}
theorem SeR.below (h : SeR W sb s rb ro r) (hb : Below W.heap.size W W') : SeR W' sb s rb ro r := ⟨h.s.thru hb h.s.lt, (hb.cell (World.block_lt_of_cell? W _ h.r)).trans h.r⟩
theorem SeR.drew (h : SeR W sb s rb ro r) : SeR W.drew sb s rb ro r := ⟨h.s, h.r⟩
end

set_option maxRecDepth 100000 in
set_option maxHeartbeats 4000000 in
theorem disagreeing_any (ss : List Sn) (rs : List Int) (p : Int) (sA rA : Option Addr) (n sc rc : Nat) (w : World) (hs : Tab w w.heap.size sA n 3 (ss.map Sn.cells)) (hr : Tab w w.heap.size rA n 1 (rs.map fun i => [Value.int .i64 i])) (hn : n ≤ 6)
    (hok : ∀ s ∈ ss, 0 ≤ s.at_ ∧ s.at_ ≤ 5000 ∧ 0 ≤ s.tol ∧ s.tol ≤ 5000) (p0 : 0 ≤ p) (p1 : p ≤ 5000) :
    Calls Tryz.prog 128 #[.slice sA n sc, .slice rA n rc, .int .i64 p] w fun e w' => e = .returned (.int .i64 (disF ss rs p n)) ∧ Below w.heap.size w w' := by
  have Hsl := Lib.hid (show ss.length = n by have := hs.1; simpa using this)
  have Hrl := Lib.hid (show rs.length = n by have := hr.1; simpa using this)
  have Hs := Lib.hid hs
  have Hr := Lib.hid hr
  have Hok := Lib.hid hok
  clear hs hr hok
  go_enter Tryz.func128, Tryz.ntmps128
  go_wp2
  go_loopw [7, 12] (fun v i wr => ∃ k : Nat, k ≤ n ∧ i = .int .i64 k ∧ v = .int .i64 (disF ss rs p k) ∧ Hid (Below w.heap.size w wr))
    (fun _ i _ => n - (intOf i).toNat)
  case atStart => exact ⟨0, Nat.zero_le _, rfl, rfl, Below.refl _ _⟩
  case round =>
    obtain ⟨k, hk, rfl, rfl, hbr⟩ := hrel
    have hdk := dis_in ss rs p k
    obtain ⟨dk0, dk1⟩ := hdk
    by_cases hlt : k < n
    · obtain ⟨s, hsk⟩ := get_lt Hsl.out hlt
      obtain ⟨r, hrk⟩ := get_lt Hrl.out hlt
      obtain ⟨sb, so, hA, hsb, c0, c1, c2⟩ := Hs.out.three (k := k) (x := .int .i64 s.kind) (y := .int .i64 s.at_) (z := .int .i64 s.tol) (by simp [hsk])
      obtain ⟨rb, ro, hB, hrb, d0⟩ := Hr.out.one (k := k) (x := .int .i64 r) (by simp [hrk])
      subst hA hB
      have c0 := (hbr.out.cell (p := ⟨sb, so + k * 3, none⟩) hsb).trans c0
      have c1 := (hbr.out.cell (p := ⟨sb, so + k * 3 + 1, none⟩) hsb).trans c1
      have c2 := (hbr.out.cell (p := ⟨sb, so + k * 3 + 2, none⟩) hsb).trans c2
      have d0 := (hbr.out.cell (p := ⟨rb, ro + k, none⟩) hrb).trans d0
      have j0 : (0 : Int) ≤ (k : Int) := Int.natCast_nonneg _
      have j1 : (k : Int) < (n : Int) := by omega
      obtain ⟨o0, o1, o2, o3⟩ := Hok.out s (List.mem_of_getElem? hsk)
      have HA := Lib.hid (fun W => agrees_any s r p W o0 o1 o2 o3 p0 p1)
      have Hnx := Lib.hid (show disF ss rs p (k + 1) = disF ss rs p k + if agreesB s r p = true then 0 else 1 by rw [disF, snAt_of hsk, rdAt_of hrk])
      have hd0 := World.block_lt_of_cell? wr _ d0
      have hR : SeR (wr.alloc (.cells #[.int .i64 s.kind, .int .i64 s.at_, .int .i64 s.tol] 92)) wr.heap.size s rb (ro + k) r := ⟨Blk.new wr _ _, by rw [← d0]; exact (Below.cell ((Below.refl wr.heap.size wr).alloc (Nat.le_refl _) _) (p := ⟨rb, ro + k, none⟩) hd0)⟩
      have hR1 := hR.drew
      have hbr' := hbr
      generalize agreesB s r p = b at *
      generalize disF ss rs p k = dk at *
      clear hsk hrk hR o0 o1 o2 o3 d0 hbr
      go_wp2_with fail
      refine wp_region_held (S := fun W' => SeR W' wr.heap.size s rb (ro + k) r) (by kernel_rfl) (by exact hR1) (fun hHeld => ?_)
      refine wpAnyH_take (i := 0) (v := ?_) rfl (by kernel_rfl) (by kernel_rfl) (by kernel_rfl) (fun _ _ _ h => h) (Or.inl ⟨by kernel_rfl, ?_⟩) hHeld ?_
      rotate_left
      · intro w hSw; (try dsimp only at hSw); obtain ⟨x1, y1⟩ := hSw; have s0 := x1.cell 0; have s1 := x1.cell 1; have s2 := x1.cell 2; simp only [List.getElem?_toArray, List.getElem?_cons_zero, List.getElem?_cons_succ] at s0 s1 s2; go_simp; (try with_reducible rfl)
      (try simp only [Act.put, List.setIfInBounds_toArray, List.set_cons_zero, List.set_cons_succ])
      refine wpAnyH_take (i := 1) (v := ?_) rfl (by kernel_rfl) (by kernel_rfl) (by kernel_rfl) (fun _ _ _ h => h) (Or.inl ⟨by kernel_rfl, ?_⟩) hHeld ?_
      rotate_left
      · intro w hSw; (try dsimp only at hSw); obtain ⟨x1, y1⟩ := hSw; have s0 := x1.cell 0; have s1 := x1.cell 1; have s2 := x1.cell 2; simp only [List.getElem?_toArray, List.getElem?_cons_zero, List.getElem?_cons_succ] at s0 s1 s2; go_simp; (try with_reducible rfl)
      (try simp only [Act.put, List.setIfInBounds_toArray, List.set_cons_zero, List.set_cons_succ])
      refine wpAnyH_take (i := 2) (v := ?_) rfl (by kernel_rfl) (by kernel_rfl) (by kernel_rfl) (fun _ _ _ h => h) (Or.inl ⟨by kernel_rfl, ?_⟩) hHeld ?_
      rotate_left
      · intro w hSw; (try dsimp only at hSw); obtain ⟨x1, y1⟩ := hSw; have s0 := x1.cell 0; have s1 := x1.cell 1; have s2 := x1.cell 2; simp only [List.getElem?_toArray, List.getElem?_cons_zero, List.getElem?_cons_succ] at s0 s1 s2; go_simp; (try with_reducible rfl)
      (try simp only [Act.put, List.setIfInBounds_toArray, List.set_cons_zero, List.set_cons_succ])
      refine wpAnyH_take (i := 3) (v := ?_) rfl (by kernel_rfl) (by kernel_rfl) (by kernel_rfl) (fun _ _ _ h => h) (Or.inl ⟨by kernel_rfl, ?_⟩) hHeld ?_
      rotate_left
      · intro w hSw; (try dsimp only at hSw); obtain ⟨x1, y1⟩ := hSw; have s0 := x1.cell 0; have s1 := x1.cell 1; have s2 := x1.cell 2; simp only [List.getElem?_toArray, List.getElem?_cons_zero, List.getElem?_cons_succ] at s0 s1 s2; go_simp; (try with_reducible rfl)
      (try simp only [Act.put, List.setIfInBounds_toArray, List.set_cons_zero, List.set_cons_succ])
      refine wpAnyH_take (i := 4) (v := ?_) rfl (by kernel_rfl) (by kernel_rfl) (by kernel_rfl) (fun _ _ _ h => h) (Or.inl ⟨by kernel_rfl, ?_⟩) hHeld ?_
      rotate_left
      · intro w hSw; (try dsimp only at hSw); obtain ⟨x1, y1⟩ := hSw; have s0 := x1.cell 0; have s1 := x1.cell 1; have s2 := x1.cell 2; simp only [List.getElem?_toArray, List.getElem?_cons_zero, List.getElem?_cons_succ] at s0 s1 s2; go_simp; (try with_reducible rfl)
      (try simp only [Act.put, List.setIfInBounds_toArray, List.set_cons_zero, List.set_cons_succ])
      refine wpAnyH_take (i := 5) (v := ?_) rfl (by kernel_rfl) (by kernel_rfl) (by kernel_rfl) (fun _ _ _ h => h) (Or.inl ⟨by kernel_rfl, ?_⟩) hHeld ?_
      rotate_left
      · intro w hSw; (try dsimp only at hSw); obtain ⟨x1, y1⟩ := hSw; have s0 := x1.cell 0; have s1 := x1.cell 1; have s2 := x1.cell 2; simp only [List.getElem?_toArray, List.getElem?_cons_zero, List.getElem?_cons_succ] at s0 s1 s2; go_simp; (try with_reducible rfl)
      (try simp only [Act.put, List.setIfInBounds_toArray, List.set_cons_zero, List.set_cons_succ])
      (try simp only [List.getElem_toArray, List.getElem_cons_zero, List.getElem_cons_succ, Act.put, List.setIfInBounds_toArray, List.set_cons_zero, List.set_cons_succ])
      refine wpAnyH_ready (rs := [6]) (by kernel_rfl) (by simp) ?_
      refine AllReadyH.cons rfl (fun K hK => ?_) AllReadyH.nil
      go_simp
      refine (HA.out _).mono ?_
      rintro e w2 ⟨rfl, hb2⟩; have hz2 := hb2.size; (try simp at hz2)
      (try dsimp only)
      refine hK.out _ _ (by exact hHeld.below hb2) (fun hHeld => ?_)
      clear hK K
      (try simp only [Act.put, List.setIfInBounds_toArray, List.set_cons_zero, List.set_cons_succ])
      refine wpAnyH_take (i := 7) (v := ?_) rfl (by kernel_rfl) (by kernel_rfl) (by kernel_rfl) (fun _ _ _ h => h) (Or.inl ⟨by kernel_rfl, ?_⟩) hHeld ?_
      rotate_left
      · intro w hSw; (try dsimp only at hSw); skip; go_simp; (try with_reducible rfl)
      (try simp only [Act.put, List.setIfInBounds_toArray, List.set_cons_zero, List.set_cons_succ])
      refine wpAnyH_done (by kernel_rfl) ?_ _
      (try simp only [List.getElem_toArray, List.getElem_cons_zero, List.getElem_cons_succ, Act.put, List.setIfInBounds_toArray, List.set_cons_zero, List.set_cons_succ])
      have hw2 := Lib.hid (show Below w.heap.size w w2 from ((hbr'.out.alloc (by have := hbr'.out.size; omega) _).drew).trans (hb2.mono (by have := hbr'.out.size; simp; omega)))
      clear hb2 hR1
      cases b
      · have hdn := Lib.hid (show disF ss rs p (k + 1) = dk + 1 by rw [Hnx.out]; simp)
        clear Hnx
        go_wp2
        go_roundw
        case rel => exact ⟨k + 1, by omega, by go_num, by rw [hdn.out], hw2.out⟩
        case measure => simp [intOf]; omega
      · have hdn := Lib.hid (show disF ss rs p (k + 1) = dk by rw [Hnx.out]; simp)
        clear Hnx
        go_wp2
        go_roundw
        case rel => exact ⟨k + 1, by omega, by go_num, by rw [hdn.out], hw2.out⟩
        case measure => simp [intOf]; omega
    · obtain rfl : k = n := by omega
      have hb := hbr
      clear hlt hk hbr
      go_wp2
      go_ret
      exact ⟨rfl, hb.out⟩
end Go.Proofs.YtmhfnnpbnocafaaGreat
