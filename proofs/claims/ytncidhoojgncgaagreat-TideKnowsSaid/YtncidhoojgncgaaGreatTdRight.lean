/- Whether a datum and a reading are as stated. -/
import Derived.Test.YtncidhoojgncgaaGreatTdGauge
namespace Go.Proofs.YtncidhoojgncgaaGreat
open Go.RowKit
set_option linter.unusedSimpArgs false
set_option linter.unusedVariables false

def datB (ds : List Dat) (i : Nat) : Bool :=
  match ds[i]? with
  | none => false
  | some d => Sp.withinB ⟨d.lo, d.hi⟩ (-5000) 5000 && (if i = 0 then decide (d.from_ = 0) else (tickB d.from_ && decide ((ds.getD (i - 1) ⟨0, 0, 0⟩).from_ < d.from_)))
def rdB (rs : List Rd) (i : Nat) : Bool :=
  match rs[i]? with
  | none => false
  | some r => tickB r.tick && (decide (i = 0) || decide ((rs.getD (i - 1) ⟨0, 0⟩).tick < r.tick)) && betw r.value (-30000) 30000

theorem tick_is (x : Int) (b : Bool) (h : tickB x = b) : ∀ W : World, Calls Tryz.prog 64 #[.int .i64 x] W fun e w' => e = .returned (.bool b) ∧ w' = W := fun W => by
  subst h
  exact (isTick_any x W).mono fun _ _ h => ⟨h.1, h.2.symm⟩
theorem betw_is (x lo hi : Int) (b : Bool) (h : betw x lo hi = b) : ∀ W : World, Calls Tryz.prog 57 #[.int .i64 x, .int .i64 lo, .int .i64 hi] W fun e w' => e = .returned (.bool b) ∧ w' = W := fun W => by
  subst h
  exact (between_any x lo hi W).mono fun _ _ h => ⟨h.1, h.2.symm⟩

set_option maxRecDepth 100000 in
set_option maxHeartbeats 1000000 in
theorem datumRight_any (A : Option Addr) (n c : Nat) (ds : List Dat) (i : Nat) (w : World) (hT : Tab w w.heap.size A n 3 (ds.map Dat.cells)) (hn : n ≤ 1000) (hi : i < n) :
    Calls Tryz.prog 126 #[.slice A n c, .int .i64 i] w fun e w' => e = .returned (.bool (datB ds i)) ∧ Below w.heap.size w w' := by
  have hl : ds.length = n := by have := hT.1; simpa using this
  obtain ⟨d, hd⟩ := get_lt hl hi
  obtain ⟨b, off, rfl, hb, c0, c1, c2⟩ := hT.three (k := i) (x := .int .i64 d.from_) (y := .int .i64 d.lo) (z := .int .i64 d.hi) (by simp [hd])
  have hW : ∀ (e : Bool), Sp.withinB ⟨d.lo, d.hi⟩ (-5000) 5000 = e → ∀ W : World, Calls Tryz.prog 96 #[.agg #[.int .i64 d.lo, .int .i64 d.hi], .int .i64 (-5000), .int .i64 5000] W fun e' w' => e' = .returned (.bool e) ∧ Below W.heap.size W w' := fun e he W => by
    subst he; exact within_any ⟨d.lo, d.hi⟩ (-5000) 5000 W
  have i0 : (0 : Int) ≤ (i : Int) := Int.natCast_nonneg _
  have i1 : (i : Int) < (n : Int) := by omega
  cases hwb : Sp.withinB ⟨d.lo, d.hi⟩ (-5000) 5000
  · have hfin : datB ds i = false := by simp [datB, hd, hwb]
    have HW := Lib.hid (hW _ hwb)
    rw [hfin]
    clear hfin hW hd hl hT hwb
    go_enter Tryz.func126, Tryz.ntmps126
    go_wp2_with fail
    refine (HW.out _).mono ?_
    rintro e w1 ⟨rfl, hb1⟩
    obtain ⟨hc1, hf1⟩ := bcell hb1; have hz1 := hb1.size; (try simp at hz1)
    go_wp2
    go_ret
    exact ⟨rfl, (by repeat (first | exact Below.refl _ _ | assumption | (refine Below.setCell ?_ (by first | omega | (simp; done) | (simp; omega)) _) | (refine Below.alloc ?_ (by first | omega | (simp; done) | (simp; omega)) _) | refine Below.drew ?_ | (refine below_thru ?_ (by assumption) (by first | omega | (simp; done) | (simp; omega))) | refine below_drewN ?_ _))⟩
  · have HW := Lib.hid (hW _ hwb)
    rcases Nat.eq_zero_or_pos i with rfl | hpos
    · have hfin : datB ds 0 = decide (d.from_ = 0) := by simp [datB, hd, hwb]
      rw [hfin]
      clear hfin hW hd hl hT hwb
      have c0 : w.cell? ⟨b, off, none⟩ = some (.int .i64 d.from_) := by simpa using c0
      have c1 : w.cell? ⟨b, off + 1, none⟩ = some (.int .i64 d.lo) := by simpa using c1
      have c2 : w.cell? ⟨b, off + 2, none⟩ = some (.int .i64 d.hi) := by simpa using c2
      go_enter Tryz.func126, Tryz.ntmps126
      go_wp2_with fail
      refine (HW.out _).mono ?_
      rintro e w1 ⟨rfl, hb1⟩
      obtain ⟨hc1, hf1⟩ := bcell hb1; have hz1 := hb1.size; (try simp at hz1)
      go_wp2
      go_ret
      exact ⟨by simp [Bool.beq_eq_decide_eq], (by repeat (first | exact Below.refl _ _ | assumption | (refine Below.setCell ?_ (by first | omega | (simp; done) | (simp; omega)) _) | (refine Below.alloc ?_ (by first | omega | (simp; done) | (simp; omega)) _) | refine Below.drew ?_ | (refine below_thru ?_ (by assumption) (by first | omega | (simp; done) | (simp; omega))) | refine below_drewN ?_ _))⟩
    · obtain ⟨j, rfl⟩ : ∃ j, i = j + 1 := ⟨i - 1, by omega⟩
      obtain ⟨p, hp⟩ := get_lt hl (show j < n by omega)
      obtain ⟨b', off', hA, hb', p0, p1, p2⟩ := hT.three (k := j) (x := .int .i64 p.from_) (y := .int .i64 p.lo) (z := .int .i64 p.hi) (by simp [hp])
      cases hA
      have j0 : (0 : Int) ≤ (j : Int) := Int.natCast_nonneg _
      have j1 : (j : Int) < (n : Int) := by omega
      have hfin : datB ds (j + 1) = (tickB d.from_ && decide (p.from_ < d.from_)) := by simp [datB, hd, hwb, hp]
      have hT1 := tick_is d.from_
      rw [hfin]
      clear hfin hW hd hl hT hwb hp
      cases htb : tickB d.from_
      · have HT := Lib.hid (hT1 _ htb)
        clear htb hT1
        go_enter Tryz.func126, Tryz.ntmps126
        go_wp2_with fail
        refine (HW.out _).mono ?_
        rintro e w1 ⟨rfl, hb1⟩
        obtain ⟨hc1, hf1⟩ := bcell hb1; have hz1 := hb1.size; (try simp at hz1)
        go_wp2_with fail
        go_quiet ((go_at_call 64; exact Calls.quiet_of_same (HT.out _)))
        go_wp2
        go_ret
        exact ⟨by simp, (by repeat (first | exact Below.refl _ _ | assumption | (refine Below.setCell ?_ (by first | omega | (simp; done) | (simp; omega)) _) | (refine Below.alloc ?_ (by first | omega | (simp; done) | (simp; omega)) _) | refine Below.drew ?_ | (refine below_thru ?_ (by assumption) (by first | omega | (simp; done) | (simp; omega))) | refine below_drewN ?_ _))⟩
      · have HT := Lib.hid (hT1 _ htb)
        clear htb hT1
        go_enter Tryz.func126, Tryz.ntmps126
        go_wp2_with fail
        refine (HW.out _).mono ?_
        rintro e w1 ⟨rfl, hb1⟩
        obtain ⟨hc1, hf1⟩ := bcell hb1; have hz1 := hb1.size; (try simp at hz1)
        go_wp2_with fail
        have hj : IntKind.i64.wrap ((j : Int) + 1 - 1) = (j : Int) := by rw [IntWalk.i64_in _ (by omega)]; omega
        go_quiet ((go_at_call 64; exact Calls.quiet_of_same (HT.out _)))
        go_wp2
        go_ret
        exact ⟨by simp, (by repeat (first | exact Below.refl _ _ | assumption | (refine Below.setCell ?_ (by first | omega | (simp; done) | (simp; omega)) _) | (refine Below.alloc ?_ (by first | omega | (simp; done) | (simp; omega)) _) | refine Below.drew ?_ | (refine below_thru ?_ (by assumption) (by first | omega | (simp; done) | (simp; omega))) | refine below_drewN ?_ _))⟩

set_option maxRecDepth 100000 in
set_option maxHeartbeats 2000000 in
theorem readingRight_any (A : Option Addr) (n c : Nat) (rs : List Rd) (i : Nat) (w : World) (hT : Tab w w.heap.size A n 2 (rs.map Rd.cells)) (hn : n ≤ 1000) (hi : i < n) :
    Calls Tryz.prog 130 #[.slice A n c, .int .i64 i] w fun e w' => e = .returned (.bool (rdB rs i)) ∧ Below w.heap.size w w' := by
  have hl : rs.length = n := by have := hT.1; simpa using this
  obtain ⟨d, hd⟩ := get_lt hl hi
  obtain ⟨b, off, rfl, hb, c0, c1⟩ := hT.two (k := i) (x := .int .i64 d.tick) (y := .int .i64 d.value) (by simp [hd])
  have i0 : (0 : Int) ≤ (i : Int) := Int.natCast_nonneg _
  have i1 : (i : Int) < (n : Int) := by omega
  have hT1 := tick_is d.tick
  have hV1 := betw_is d.value (-30000) 30000
  rcases Nat.eq_zero_or_pos i with rfl | hpos
  · have hfin : rdB rs 0 = (tickB d.tick && betw d.value (-30000) 30000) := by simp [rdB, hd]
    rw [hfin]
    clear hfin hd hl hT
    have c0 : w.cell? ⟨b, off, none⟩ = some (.int .i64 d.tick) := by simpa using c0
    have c1 : w.cell? ⟨b, off + 1, none⟩ = some (.int .i64 d.value) := by simpa using c1
    cases htb : tickB d.tick <;> cases hvb : betw d.value (-30000) 30000
    all_goals
      have HT := Lib.hid (hT1 _ htb)
      have HV := Lib.hid (hV1 _ hvb)
      clear htb hT1 hvb hV1
      go_enter Tryz.func130, Tryz.ntmps130
      go_wp2_with fail
      go_quiet (first | (go_at_call 64; exact Calls.quiet_of_same (HT.out _)) | (go_at_call 57; exact Calls.quiet_of_same (HV.out _)))
      go_wp2
      go_ret
      exact ⟨by simp, (by repeat (first | exact Below.refl _ _ | assumption | (refine Below.setCell ?_ (by first | omega | (simp; done) | (simp; omega)) _) | (refine Below.alloc ?_ (by first | omega | (simp; done) | (simp; omega)) _) | refine Below.drew ?_ | (refine below_thru ?_ (by assumption) (by first | omega | (simp; done) | (simp; omega))) | refine below_drewN ?_ _))⟩
  · obtain ⟨j, rfl⟩ : ∃ j, i = j + 1 := ⟨i - 1, by omega⟩
    obtain ⟨p, hp⟩ := get_lt hl (show j < n by omega)
    obtain ⟨b', off', hA, hb', p0, p1⟩ := hT.two (k := j) (x := .int .i64 p.tick) (y := .int .i64 p.value) (by simp [hp])
    cases hA
    have j0 : (0 : Int) ≤ (j : Int) := Int.natCast_nonneg _
    have j1 : (j : Int) < (n : Int) := by omega
    have hfin : rdB rs (j + 1) = (tickB d.tick && decide (p.tick < d.tick) && betw d.value (-30000) 30000) := by simp [rdB, hd, hp]
    rw [hfin]
    clear hfin hd hl hT hp
    cases htb : tickB d.tick <;> cases hvb : betw d.value (-30000) 30000 <;> cases hlt : decide (p.tick < d.tick)
    all_goals
      have HT := Lib.hid (hT1 _ htb)
      have HV := Lib.hid (hV1 _ hvb)
      clear htb hT1 hvb hV1
      go_enter Tryz.func130, Tryz.ntmps130
      go_wp2_with fail
      have e0 : (((j : Int) + 1) == 0) = false := by rw [beq_eq_false_iff_ne]; omega
      have hj : IntKind.i64.wrap ((j : Int) + 1 - 1) = (j : Int) := by rw [IntWalk.i64_in _ (by omega)]; omega
      go_quiet (first | (go_at_call 64; exact Calls.quiet_of_same (HT.out _)) | (go_at_call 57; exact Calls.quiet_of_same (HV.out _)))
      go_wp2
      go_ret
      exact ⟨by simp, (by repeat (first | exact Below.refl _ _ | assumption | (refine Below.setCell ?_ (by first | omega | (simp; done) | (simp; omega)) _) | (refine Below.alloc ?_ (by first | omega | (simp; done) | (simp; omega)) _) | refine Below.drew ?_ | (refine below_thru ?_ (by assumption) (by first | omega | (simp; done) | (simp; omega))) | refine below_drewN ?_ _))⟩
end Go.Proofs.YtncidhoojgncgaaGreat
