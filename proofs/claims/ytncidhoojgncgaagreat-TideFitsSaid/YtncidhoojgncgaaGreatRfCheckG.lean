/- The reference's CheckGauge. -/
import Derived.Test.YtncidhoojgncgaaGreatRfGauge
namespace Go.Proofs.YtncidhoojgncgaaGreat
open Go.RowKit
set_option linter.unusedSimpArgs false
set_option linter.unusedVariables false

def tri (a b c : Int) : Value := .tuple #[.int .i64 a, .int .i64 b, .int .i64 c]
/-- How the reference asks for a datum. -/
theorem datB_cases (ds : List Dat) (k : Nat) (d : Dat) (hd : ds[k]? = some d) :
    datB ds k = (tickB d.from_ && betw d.lo (-5000) d.hi && decide (d.hi ≤ 5000) && (if k = 0 then decide (d.from_ = 0) else decide ((ds.getD (k - 1) ⟨0, 0, 0⟩).from_ < d.from_))) := by
  unfold datB
  rw [hd]
  simp only [Sp.withinB, Sp.emptyB, tickB, betw]
  rw [Bool.eq_iff_iff]
  by_cases h0 : k = 0
  · simp only [h0, if_true, Bool.and_eq_true, Bool.not_eq_true', decide_eq_true_eq, decide_eq_false_iff_not]
    omega
  · simp only [h0, if_false, Bool.and_eq_true, Bool.not_eq_true', decide_eq_true_eq, decide_eq_false_iff_not]
    omega
theorem rdB_cases (rs : List Rd) (k : Nat) (r : Rd) (hr : rs[k]? = some r) :
    rdB rs k = (tickB r.tick && betw r.value (-30000) 30000 && (decide (k = 0) || !decide (r.tick ≤ (rs.getD (k - 1) ⟨0, 0⟩).tick))) := by
  unfold rdB
  rw [hr]
  simp only []
  rw [Bool.eq_iff_iff]
  simp only [Bool.and_eq_true, Bool.or_eq_true, Bool.not_eq_true', decide_eq_true_eq, decide_eq_false_iff_not, Int.not_le]
  constructor
  · rintro ⟨⟨h1, h2⟩, h3⟩; exact ⟨⟨h1, h3⟩, h2⟩
  · rintro ⟨⟨h1, h3⟩, h2⟩; exact ⟨⟨h1, h2⟩, h3⟩

set_option maxRecDepth 100000 in
set_option maxHeartbeats 8000000 in
theorem rCheckGauge_any (g : Gg) (w : World) (hg : g.At w w.heap.size) :
    Calls Tryz.prog 36 #[g.v] w fun e w' => e = .returned (tri (gaugeF g).part (gaugeF g).at_ (gaugeF g).e) ∧ Below w.heap.size w w' := by
  have fa := gaugeF_a g
  have fb := gaugeF_b g
  have fc := gaugeF_c g
  have fd := gaugeF_d g
  have fe := gaugeF_e g
  have ff := gaugeF_f g
  have fg := gaugeF_g g
  generalize gaugeF g = f at *
  obtain ⟨nm, er, rt, dA, dn, dc, ds, rA, rn, rc, rs⟩ := g
  have hdl := hg.dl
  have hdm := hg.dn
  have hdt := hg.d
  have hrl := hg.rl
  have hrm := hg.rn
  have hrt := hg.r
  have hnm := hg.name
  simp only at *
  unfold maxLen at hdm hrm
  have Hdl := Lib.hid hdl; clear hdl
  have Hdt := Lib.hid hdt; clear hdt
  have Hrl := Lib.hid hrl; clear hrl
  have Hrt := Lib.hid hrt; clear hrt
  have Hg := Lib.hid hg; clear hg
  have HN := Lib.hid (fun W => rName_any nm W hnm)
  have HE := Lib.hid (fun b h => rin_is er 0 5000 b h)
  have HR := Lib.hid (fun b h => rin_is rt 0 5000 b h)
  have HD := Lib.hid (fun b h => rin_is dn 1 8 b h)
  cases h1 : nameB nm
  · have Hf := Lib.hid (fa h1)
    rw [h1] at HN
    clear fa fb fc fd fe ff fg h1
    go_enter Tryz.func36, Tryz.ntmps36
    go_wp2_with fail
    refine (HN.out _).mono ?_
    rintro e w1 ⟨rfl, rfl⟩
    go_wp2
    go_ret3
    exact ⟨by rw [Hf.out]; rfl, (by repeat (first | exact Below.refl _ _ | assumption | (refine Below.setCell ?_ (by first | omega | (simp; done) | (simp; omega)) _) | (refine Below.alloc ?_ (by first | omega | (simp; done) | (simp; omega)) _) | refine Below.drew ?_ | (refine below_thru ?_ (by assumption) (by first | omega | (simp; done) | (simp; omega))) | refine below_drewN ?_ _))⟩
  · rw [h1] at HN
    have fb := fb h1
    have fc := fc h1
    have fd := fun k => fd k h1
    have fe := fe h1
    have ff := fun k => ff k h1
    have fg := fg h1
    clear fa
    cases h2 : betw er 0 5000
    · have Hf := Lib.hid (fb (by rw [h2]; rfl))
      have HE := Lib.hid (HE.out _ h2)
      clear fb fc fd fe ff fg h1 h2
      go_enter Tryz.func36, Tryz.ntmps36
      go_wp2_with fail
      refine (HN.out _).mono ?_
      rintro e w1 ⟨rfl, rfl⟩
      go_wp2_with fail
      refine (HE.out _).mono ?_
      rintro e w1 ⟨rfl, rfl⟩
      go_wp2
      go_ret3
      exact ⟨by rw [Hf.out]; rfl, (by repeat (first | exact Below.refl _ _ | assumption | (refine Below.setCell ?_ (by first | omega | (simp; done) | (simp; omega)) _) | (refine Below.alloc ?_ (by first | omega | (simp; done) | (simp; omega)) _) | refine Below.drew ?_ | (refine below_thru ?_ (by assumption) (by first | omega | (simp; done) | (simp; omega))) | refine below_drewN ?_ _))⟩
    · have HE := Lib.hid (HE.out _ h2)
      cases h3 : betw rt 0 5000
      · have Hf := Lib.hid (fb (by rw [h2, h3]; rfl))
        have HR := Lib.hid (HR.out _ h3)
        clear fb fc fd fe ff fg h1 h2 h3
        go_enter Tryz.func36, Tryz.ntmps36
        go_wp2_with fail
        refine (HN.out _).mono ?_
        rintro e w1 ⟨rfl, rfl⟩
        go_wp2_with fail
        refine (HE.out _).mono ?_
        rintro e w1 ⟨rfl, rfl⟩
        go_wp2_with fail
        refine (HR.out _).mono ?_
        rintro e w1 ⟨rfl, rfl⟩
        go_wp2
        go_ret3
        exact ⟨by rw [Hf.out]; rfl, (by repeat (first | exact Below.refl _ _ | assumption | (refine Below.setCell ?_ (by first | omega | (simp; done) | (simp; omega)) _) | (refine Below.alloc ?_ (by first | omega | (simp; done) | (simp; omega)) _) | refine Below.drew ?_ | (refine below_thru ?_ (by assumption) (by first | omega | (simp; done) | (simp; omega))) | refine below_drewN ?_ _))⟩
      · have HR := Lib.hid (HR.out _ h3)
        have h23 : (betw er 0 5000 && betw rt 0 5000) = true := by rw [h2, h3]; rfl
        have fc := fc h23
        have fd := fun k => fd k h23
        have fe := fe h23
        have ff := fun k => ff k h23
        have fg := fg h23
        clear fb h2 h3 h23 h1
        cases h4 : betw dn 1 8
        · have Hf := Lib.hid (fc h4)
          have HD := Lib.hid (HD.out _ h4)
          clear fc fd fe ff fg h4
          go_enter Tryz.func36, Tryz.ntmps36
          go_wp2_with fail
          refine (HN.out _).mono ?_
          rintro e w1 ⟨rfl, rfl⟩
          go_wp2_with fail
          refine (HE.out _).mono ?_
          rintro e w1 ⟨rfl, rfl⟩
          go_wp2_with fail
          refine (HR.out _).mono ?_
          rintro e w1 ⟨rfl, rfl⟩
          go_wp2_with fail
          refine (HD.out _).mono ?_
          rintro e w1 ⟨rfl, rfl⟩
          go_wp2
          go_ret3
          exact ⟨by rw [Hf.out]; rfl, (by repeat (first | exact Below.refl _ _ | assumption | (refine Below.setCell ?_ (by first | omega | (simp; done) | (simp; omega)) _) | (refine Below.alloc ?_ (by first | omega | (simp; done) | (simp; omega)) _) | refine Below.drew ?_ | (refine below_thru ?_ (by assumption) (by first | omega | (simp; done) | (simp; omega))) | refine below_drewN ?_ _))⟩
        · have HD := Lib.hid (HD.out _ h4)
          have Fd := Lib.hid (fun k => fd k h4)
          have Fe := Lib.hid (fe h4)
          have Ff := Lib.hid (fun k => ff k h4)
          have Fg := Lib.hid (fg h4)
          have h44 := h4
          simp only [betw, Bool.and_eq_true, decide_eq_true_eq] at h44
          obtain ⟨n1, n2⟩ := h44
          clear fc fd fe ff fg h4
          go_enter Tryz.func36, Tryz.ntmps36
          go_wp2_with fail
          refine (HN.out _).mono ?_
          rintro e w1 ⟨rfl, rfl⟩
          go_wp2_with fail
          refine (HE.out _).mono ?_
          rintro e w1 ⟨rfl, rfl⟩
          go_wp2_with fail
          refine (HR.out _).mono ?_
          rintro e w1 ⟨rfl, rfl⟩
          go_wp2_with fail
          refine (HD.out _).mono ?_
          rintro e w1 ⟨rfl, rfl⟩
          go_wp2
          clear HN HE HR HD
          go_loopw [5] (fun i wr => ∃ k : Nat, k ≤ dn ∧ i = .int .i64 k ∧ Hid (∀ j, j < k → datB ds j = true) ∧ Hid (Blk wr w.heap.size 47 #[.string nm, .int .i64 er, .int .i64 rt, .slice dA dn dc, .slice rA rn rc]) ∧ Below w.heap.size w wr)
            (fun i _ => dn - (intOf i).toNat)
          case atStart => exact ⟨0, Nat.zero_le _, rfl, fun j hj => by omega, Blk.new w _ _, (by repeat (first | exact Below.refl _ _ | assumption | (refine Below.setCell ?_ (by first | omega | (simp; done) | (simp; omega)) _) | (refine Below.alloc ?_ (by first | omega | (simp; done) | (simp; omega)) _) | refine Below.drew ?_ | (refine below_thru ?_ (by assumption) (by first | omega | (simp; done) | (simp; omega))) | refine below_drewN ?_ _))⟩
          case round =>
            obtain ⟨k, hk, rfl, hprev, hbg, hbr⟩ := hrel
            obtain ⟨g0, g1, g2, g3, g4⟩ := hbg.out.five
            have hzr := hbg.out.lt
            by_cases hlt : k < dn
            · obtain ⟨d, hdk⟩ := get_lt Hdl.out hlt
              have hdc := datB_cases ds k d hdk
              obtain ⟨b, off, hA, hb, c0, c1, c2⟩ := Hdt.out.three (k := k) (x := .int .i64 d.from_) (y := .int .i64 d.lo) (z := .int .i64 d.hi) (by simp [hdk])
              have Hdk := Lib.hid hdk; clear hdk
              (try simp only at hA)
              subst hA
              have c0 := (hbr.cell (p := ⟨b, off + k * 3, none⟩) hb).trans c0
              have c1 := (hbr.cell (p := ⟨b, off + k * 3 + 1, none⟩) hb).trans c1
              have c2 := (hbr.cell (p := ⟨b, off + k * 3 + 2, none⟩) hb).trans c2
              have i0 : (0 : Int) ≤ (k : Int) := Int.natCast_nonneg _
              have i1 : (k : Int) < (dn : Int) := by omega
              have hT := rtick_is d.from_
              have hI := rin_is d.lo (-5000) d.hi
              have hcont : datB ds k = true → Hid (∀ j, j < k + 1 → datB ds j = true) := fun h j hj => by
                rcases Nat.lt_or_ge j k with h1 | h1
                · exact hprev.out j h1
                · obtain rfl : j = k := by omega
                  exact h
              have hstop : datB ds k = false → f = ⟨2, k, 7⟩ := fun h => Fd.out k hlt hprev.out h
              clear Fd Fe Ff Fg
              rcases Nat.eq_zero_or_pos k with rfl | hpos
              · simp only [if_true, Int.natCast_zero] at hdc
                have c0 : wr.cell? ⟨b, off, none⟩ = some (.int .i64 d.from_) := by simpa using c0
                have c1 : wr.cell? ⟨b, off + 1, none⟩ = some (.int .i64 d.lo) := by simpa using c1
                have c2 : wr.cell? ⟨b, off + 2, none⟩ = some (.int .i64 d.hi) := by simpa using c2
                cases t1 : tickB d.from_
                · have Hf := Lib.hid (hstop (by rw [hdc, t1]; rfl))
                  have HT := Lib.hid (hT _ t1)
                  clear hdc hcont hstop hT hI t1
                  go_wp2_with fail
                  refine (HT.out _).mono ?_
                  rintro e w1 ⟨rfl, rfl⟩
                  go_wp2
                  go_ret3
                  exact ⟨by rw [Hf.out]; rfl, (by repeat (first | exact Below.refl _ _ | assumption | (refine Below.setCell ?_ (by first | omega | (simp; done) | (simp; omega)) _) | (refine Below.alloc ?_ (by first | omega | (simp; done) | (simp; omega)) _) | refine Below.drew ?_ | (refine below_thru ?_ (by assumption) (by first | omega | (simp; done) | (simp; omega))) | refine below_drewN ?_ _))⟩
                · skip
                  cases t2 : betw d.lo (-5000) d.hi
                  · have Hf := Lib.hid (hstop (by rw [hdc, t1, t2]; rfl))
                    have HT := Lib.hid (hT _ t1)
                    have HI := Lib.hid (hI _ t2)
                    clear hdc hcont hstop hT hI t1 t2
                    go_wp2_with fail
                    refine (HT.out _).mono ?_
                    rintro e w1 ⟨rfl, rfl⟩
                    go_wp2_with fail
                    refine (HI.out _).mono ?_
                    rintro e w1 ⟨rfl, rfl⟩
                    go_wp2
                    go_ret3
                    exact ⟨by rw [Hf.out]; rfl, (by repeat (first | exact Below.refl _ _ | assumption | (refine Below.setCell ?_ (by first | omega | (simp; done) | (simp; omega)) _) | (refine Below.alloc ?_ (by first | omega | (simp; done) | (simp; omega)) _) | refine Below.drew ?_ | (refine below_thru ?_ (by assumption) (by first | omega | (simp; done) | (simp; omega))) | refine below_drewN ?_ _))⟩
                  · skip
                    cases t3 : decide (d.hi ≤ 5000)
                    · have Hf := Lib.hid (hstop (by rw [hdc, t1, t2, t3]; rfl))
                      have HT := Lib.hid (hT _ t1)
                      have HI := Lib.hid (hI _ t2)
                      clear hdc hcont hstop hT hI t1 t2
                      go_wp2_with fail
                      refine (HT.out _).mono ?_
                      rintro e w1 ⟨rfl, rfl⟩
                      go_wp2_with fail
                      refine (HI.out _).mono ?_
                      rintro e w1 ⟨rfl, rfl⟩
                      go_wp2
                      go_ret3
                      exact ⟨by rw [Hf.out]; rfl, (by repeat (first | exact Below.refl _ _ | assumption | (refine Below.setCell ?_ (by first | omega | (simp; done) | (simp; omega)) _) | (refine Below.alloc ?_ (by first | omega | (simp; done) | (simp; omega)) _) | refine Below.drew ?_ | (refine below_thru ?_ (by assumption) (by first | omega | (simp; done) | (simp; omega))) | refine below_drewN ?_ _))⟩
                    · skip
                      cases t4 : decide (d.from_ = 0)
                      · have Hf := Lib.hid (hstop (by rw [hdc, t1, t2, t3, t4]; rfl))
                        have HT := Lib.hid (hT _ t1)
                        have HI := Lib.hid (hI _ t2)
                        have t5 : (d.from_ == 0) = false := by rw [← t4, Bool.beq_eq_decide_eq]
                        clear hdc hcont hstop hT hI t1 t2 t4
                        go_wp2_with fail
                        refine (HT.out _).mono ?_
                        rintro e w1 ⟨rfl, rfl⟩
                        go_wp2_with fail
                        refine (HI.out _).mono ?_
                        rintro e w1 ⟨rfl, rfl⟩
                        go_wp2
                        go_ret3
                        exact ⟨by rw [Hf.out]; rfl, (by repeat (first | exact Below.refl _ _ | assumption | (refine Below.setCell ?_ (by first | omega | (simp; done) | (simp; omega)) _) | (refine Below.alloc ?_ (by first | omega | (simp; done) | (simp; omega)) _) | refine Below.drew ?_ | (refine below_thru ?_ (by assumption) (by first | omega | (simp; done) | (simp; omega))) | refine below_drewN ?_ _))⟩
                      · have Hm := hcont (by rw [hdc, t1, t2, t3, t4]; rfl)
                        have HT := Lib.hid (hT _ t1)
                        have HI := Lib.hid (hI _ t2)
                        have t5 : (d.from_ == 0) = true := by rw [← t4, Bool.beq_eq_decide_eq]
                        clear hdc hcont hstop hT hI t1 t2 t4
                        go_wp2_with fail
                        refine (HT.out _).mono ?_
                        rintro e w1 ⟨rfl, rfl⟩
                        go_wp2_with fail
                        refine (HI.out _).mono ?_
                        rintro e w1 ⟨rfl, rfl⟩
                        go_wp2
                        go_roundw
                        case rel => exact ⟨0 + 1, by omega, by go_num, Hm, hbg.out.alloc _, (by repeat (first | exact Below.refl _ _ | assumption | (refine Below.setCell ?_ (by first | omega | (simp; done) | (simp; omega)) _) | (refine Below.alloc ?_ (by first | omega | (simp; done) | (simp; omega)) _) | refine Below.drew ?_ | (refine below_thru ?_ (by assumption) (by first | omega | (simp; done) | (simp; omega))) | refine below_drewN ?_ _))⟩
                        case measure => simp [intOf]; omega
              · obtain ⟨j, rfl⟩ : ∃ j, k = j + 1 := ⟨k - 1, by omega⟩
                obtain ⟨p, hp⟩ := get_lt Hdl.out (show j < dn by omega)
                obtain ⟨b', off', hA, hb', p0, p1, p2⟩ := Hdt.out.three (k := j) (x := .int .i64 p.from_) (y := .int .i64 p.lo) (z := .int .i64 p.hi) (by simp [hp])
                cases hA
                have p0 := (hbr.cell (p := ⟨b, off + j * 3, none⟩) hb).trans p0
                clear p1 p2
                have hbw : b < wr.heap.size := by omega
                have hpv : (ds.getD (j + 1 - 1) ⟨0, 0, 0⟩).from_ = p.from_ := by simp [hp]
                rw [if_neg (by omega), hpv] at hdc
                clear hpv hp
                have j0 : (0 : Int) ≤ (j : Int) := Int.natCast_nonneg _
                have j1 : (j : Int) < (dn : Int) := by omega
                have hj : IntKind.i64.wrap ((j : Int) + 1 - 1) = (j : Int) := by rw [IntWalk.i64_in _ (by omega)]; omega
                have hj1 : (((j : Int) + 1) == 0) = false := by rw [beq_eq_false_iff_ne]; omega
                cases t1 : tickB d.from_
                · have Hf := Lib.hid (hstop (by rw [hdc, t1]; rfl))
                  have HT := Lib.hid (hT _ t1)
                  clear hdc hcont hstop hT hI t1
                  go_wp2_with fail
                  refine (HT.out _).mono ?_
                  rintro e w1 ⟨rfl, rfl⟩
                  go_wp2_with fail
                  go_quiet (fail)
                  go_wp2
                  go_ret3
                  exact ⟨by rw [Hf.out]; rfl, (by repeat (first | exact Below.refl _ _ | assumption | (refine Below.setCell ?_ (by first | omega | (simp; done) | (simp; omega)) _) | (refine Below.alloc ?_ (by first | omega | (simp; done) | (simp; omega)) _) | refine Below.drew ?_ | (refine below_thru ?_ (by assumption) (by first | omega | (simp; done) | (simp; omega))) | refine below_drewN ?_ _))⟩
                · skip
                  cases t2 : betw d.lo (-5000) d.hi
                  · have Hf := Lib.hid (hstop (by rw [hdc, t1, t2]; rfl))
                    have HT := Lib.hid (hT _ t1)
                    have HI := Lib.hid (hI _ t2)
                    clear hdc hcont hstop hT hI t1 t2
                    go_wp2_with fail
                    refine (HT.out _).mono ?_
                    rintro e w1 ⟨rfl, rfl⟩
                    go_wp2_with fail
                    refine (HI.out _).mono ?_
                    rintro e w1 ⟨rfl, rfl⟩
                    go_wp2_with fail
                    go_quiet (fail)
                    go_wp2
                    go_ret3
                    exact ⟨by rw [Hf.out]; rfl, (by repeat (first | exact Below.refl _ _ | assumption | (refine Below.setCell ?_ (by first | omega | (simp; done) | (simp; omega)) _) | (refine Below.alloc ?_ (by first | omega | (simp; done) | (simp; omega)) _) | refine Below.drew ?_ | (refine below_thru ?_ (by assumption) (by first | omega | (simp; done) | (simp; omega))) | refine below_drewN ?_ _))⟩
                  · skip
                    cases t3 : decide (d.hi ≤ 5000)
                    · have Hf := Lib.hid (hstop (by rw [hdc, t1, t2, t3]; rfl))
                      have HT := Lib.hid (hT _ t1)
                      have HI := Lib.hid (hI _ t2)
                      clear hdc hcont hstop hT hI t1 t2
                      go_wp2_with fail
                      refine (HT.out _).mono ?_
                      rintro e w1 ⟨rfl, rfl⟩
                      go_wp2_with fail
                      refine (HI.out _).mono ?_
                      rintro e w1 ⟨rfl, rfl⟩
                      go_wp2_with fail
                      go_quiet (fail)
                      go_wp2
                      go_ret3
                      exact ⟨by rw [Hf.out]; rfl, (by repeat (first | exact Below.refl _ _ | assumption | (refine Below.setCell ?_ (by first | omega | (simp; done) | (simp; omega)) _) | (refine Below.alloc ?_ (by first | omega | (simp; done) | (simp; omega)) _) | refine Below.drew ?_ | (refine below_thru ?_ (by assumption) (by first | omega | (simp; done) | (simp; omega))) | refine below_drewN ?_ _))⟩
                    · skip
                      cases t4 : decide (p.from_ < d.from_)
                      · have Hf := Lib.hid (hstop (by rw [hdc, t1, t2, t3, t4]; rfl))
                        have HT := Lib.hid (hT _ t1)
                        have HI := Lib.hid (hI _ t2)
                        clear hdc hcont hstop hT hI t1 t2
                        go_wp2_with fail
                        refine (HT.out _).mono ?_
                        rintro e w1 ⟨rfl, rfl⟩
                        go_wp2_with fail
                        refine (HI.out _).mono ?_
                        rintro e w1 ⟨rfl, rfl⟩
                        go_wp2_with fail
                        go_quiet (fail)
                        go_wp2
                        go_ret3
                        exact ⟨by rw [Hf.out]; rfl, (by repeat (first | exact Below.refl _ _ | assumption | (refine Below.setCell ?_ (by first | omega | (simp; done) | (simp; omega)) _) | (refine Below.alloc ?_ (by first | omega | (simp; done) | (simp; omega)) _) | refine Below.drew ?_ | (refine below_thru ?_ (by assumption) (by first | omega | (simp; done) | (simp; omega))) | refine below_drewN ?_ _))⟩
                      · have Hm := hcont (by rw [hdc, t1, t2, t3, t4]; rfl)
                        have HT := Lib.hid (hT _ t1)
                        have HI := Lib.hid (hI _ t2)
                        clear hdc hcont hstop hT hI t1 t2
                        go_wp2_with fail
                        refine (HT.out _).mono ?_
                        rintro e w1 ⟨rfl, rfl⟩
                        go_wp2_with fail
                        refine (HI.out _).mono ?_
                        rintro e w1 ⟨rfl, rfl⟩
                        go_wp2_with fail
                        go_quiet (fail)
                        go_wp2
                        go_roundw
                        case rel => exact ⟨j + 1 + 1, by omega, by go_num, Hm, hbg.out.alloc _, (by repeat (first | exact Below.refl _ _ | assumption | (refine Below.setCell ?_ (by first | omega | (simp; done) | (simp; omega)) _) | (refine Below.alloc ?_ (by first | omega | (simp; done) | (simp; omega)) _) | refine Below.drew ?_ | (refine below_thru ?_ (by assumption) (by first | omega | (simp; done) | (simp; omega))) | refine below_drewN ?_ _))⟩
                        case measure => simp [intOf]; omega
            · obtain rfl : dn = k := by omega
              have Fe := Lib.hid (Fe.out hprev.out)
              have Ff := Lib.hid (fun k => Ff.out k hprev.out)
              have Fg := Lib.hid (Fg.out hprev.out)
              by_cases h60 : (rn : Int) ≤ 60
              · have Ff := Lib.hid (fun k => Ff.out k h60)
                have Fg := Lib.hid (Fg.out h60)
                clear Fd Fe
                obtain ⟨wo, rfl⟩ : ∃ wo : World, wo = wr := ⟨_, rfl⟩
                go_wp2
                go_loopw [8] (fun i wq => ∃ k : Nat, k ≤ rn ∧ i = .int .i64 k ∧ Hid (∀ j, j < k → rdB rs j = true) ∧ Hid (Blk wq w.heap.size 47 #[.string nm, .int .i64 er, .int .i64 rt, .slice dA dn dc, .slice rA rn rc]) ∧ Below w.heap.size w wq)
                  (fun i _ => rn - (intOf i).toNat)
                case atStart => exact ⟨0, Nat.zero_le _, rfl, fun j hj => by omega, hbg.out, hbr⟩
                case round =>
                  obtain ⟨k, hk, rfl, hprev, hbg, hbr⟩ := hrel
                  obtain ⟨g0, g1, g2, g3, g4⟩ := hbg.out.five
                  have hzr := hbg.out.lt
                  by_cases hlt : k < rn
                  · obtain ⟨r, hrk⟩ := get_lt Hrl.out hlt
                    have hrc := rdB_cases rs k r hrk
                    obtain ⟨b, off, hA, hb, c0, c1⟩ := Hrt.out.two (k := k) (x := .int .i64 r.tick) (y := .int .i64 r.value) (by simp [hrk])
                    have Hrk := Lib.hid hrk; clear hrk
                    (try simp only at hA)
                    subst hA
                    have c0 := (hbr.cell (p := ⟨b, off + k * 2, none⟩) hb).trans c0
                    have c1 := (hbr.cell (p := ⟨b, off + k * 2 + 1, none⟩) hb).trans c1
                    have i0 : (0 : Int) ≤ (k : Int) := Int.natCast_nonneg _
                    have i1 : (k : Int) < (rn : Int) := by omega
                    have hT := rtick_is r.tick
                    have hV := rin_is r.value (-30000) 30000
                    have hcont : rdB rs k = true → Hid (∀ j, j < k + 1 → rdB rs j = true) := fun h j hj => by
                      rcases Nat.lt_or_ge j k with h1 | h1
                      · exact hprev.out j h1
                      · obtain rfl : j = k := by omega
                        exact h
                    have hstop : rdB rs k = false → f = ⟨3, k, 7⟩ := fun h => Ff.out k hlt hprev.out h
                    clear Ff Fg
                    rcases Nat.eq_zero_or_pos k with rfl | hpos
                    · simp only [decide_true, Bool.true_or, Bool.and_true] at hrc
                      have c0 : wr.cell? ⟨b, off, none⟩ = some (.int .i64 r.tick) := by simpa using c0
                      have c1 : wr.cell? ⟨b, off + 1, none⟩ = some (.int .i64 r.value) := by simpa using c1
                      cases t1 : tickB r.tick <;> cases t2 : betw r.value (-30000) 30000
                      all_goals
                        have HT := Lib.hid (hT _ t1)
                        have HV := Lib.hid (hV _ t2)
                        rw [t1, t2] at hrc
                        clear t1 t2 hT hV
                      · have Hf := Lib.hid (hstop hrc)
                        clear hrc hcont hstop
                        go_wp2_with fail
                        go_quiet (first | (go_at_call 66; exact Calls.quiet_of_same (HT.out _)) | (go_at_call 55; exact Calls.quiet_of_same (HV.out _)))
                        go_wp2
                        go_ret3
                        exact ⟨by rw [Hf.out]; rfl, (by repeat (first | exact Below.refl _ _ | assumption | (refine Below.setCell ?_ (by first | omega | (simp; done) | (simp; omega)) _) | (refine Below.alloc ?_ (by first | omega | (simp; done) | (simp; omega)) _) | refine Below.drew ?_ | (refine below_thru ?_ (by assumption) (by first | omega | (simp; done) | (simp; omega))) | refine below_drewN ?_ _))⟩
                      · have Hf := Lib.hid (hstop hrc)
                        clear hrc hcont hstop
                        go_wp2_with fail
                        go_quiet (first | (go_at_call 66; exact Calls.quiet_of_same (HT.out _)) | (go_at_call 55; exact Calls.quiet_of_same (HV.out _)))
                        go_wp2
                        go_ret3
                        exact ⟨by rw [Hf.out]; rfl, (by repeat (first | exact Below.refl _ _ | assumption | (refine Below.setCell ?_ (by first | omega | (simp; done) | (simp; omega)) _) | (refine Below.alloc ?_ (by first | omega | (simp; done) | (simp; omega)) _) | refine Below.drew ?_ | (refine below_thru ?_ (by assumption) (by first | omega | (simp; done) | (simp; omega))) | refine below_drewN ?_ _))⟩
                      · have Hf := Lib.hid (hstop hrc)
                        clear hrc hcont hstop
                        go_wp2_with fail
                        go_quiet (first | (go_at_call 66; exact Calls.quiet_of_same (HT.out _)) | (go_at_call 55; exact Calls.quiet_of_same (HV.out _)))
                        go_wp2
                        go_ret3
                        exact ⟨by rw [Hf.out]; rfl, (by repeat (first | exact Below.refl _ _ | assumption | (refine Below.setCell ?_ (by first | omega | (simp; done) | (simp; omega)) _) | (refine Below.alloc ?_ (by first | omega | (simp; done) | (simp; omega)) _) | refine Below.drew ?_ | (refine below_thru ?_ (by assumption) (by first | omega | (simp; done) | (simp; omega))) | refine below_drewN ?_ _))⟩
                      · have Hm := hcont hrc
                        clear hrc hcont hstop
                        go_wp2_with fail
                        go_quiet (first | (go_at_call 66; exact Calls.quiet_of_same (HT.out _)) | (go_at_call 55; exact Calls.quiet_of_same (HV.out _)))
                        go_wp2
                        go_roundw
                        case rel => exact ⟨0 + 1, by omega, by go_num, Hm, hbg.out.alloc _, (by repeat (first | exact Below.refl _ _ | assumption | (refine Below.setCell ?_ (by first | omega | (simp; done) | (simp; omega)) _) | (refine Below.alloc ?_ (by first | omega | (simp; done) | (simp; omega)) _) | refine Below.drew ?_ | (refine below_thru ?_ (by assumption) (by first | omega | (simp; done) | (simp; omega))) | refine below_drewN ?_ _))⟩
                        case measure => simp [intOf]; omega
                    · obtain ⟨j, rfl⟩ : ∃ j, k = j + 1 := ⟨k - 1, by omega⟩
                      obtain ⟨p, hp⟩ := get_lt Hrl.out (show j < rn by omega)
                      obtain ⟨b', off', hA, hb', p0, p1⟩ := Hrt.out.two (k := j) (x := .int .i64 p.tick) (y := .int .i64 p.value) (by simp [hp])
                      cases hA
                      have p0 := (hbr.cell (p := ⟨b, off + j * 2, none⟩) hb).trans p0
                      have hbw : b < wr.heap.size := by omega
                      clear p1
                      have hpv : (rs.getD (j + 1 - 1) ⟨0, 0⟩).tick = p.tick := by simp [hp]
                      have hj0 : decide (j + 1 = 0) = false := by simp
                      rw [hpv, hj0, Bool.false_or] at hrc
                      clear hpv hp hj0
                      have j0 : (0 : Int) ≤ (j : Int) := Int.natCast_nonneg _
                      have j1 : (j : Int) < (rn : Int) := by omega
                      cases t1 : tickB r.tick <;> cases t2 : betw r.value (-30000) 30000 <;> cases t3 : decide (r.tick ≤ p.tick)
                      all_goals
                        have HT := Lib.hid (hT _ t1)
                        have HV := Lib.hid (hV _ t2)
                        rw [t1, t2, t3] at hrc
                        clear t1 t2 hT hV
                      any_goals
                        have Hf := Lib.hid (hstop hrc)
                        clear hrc hcont hstop
                        go_wp2_with fail
                        have hj : IntKind.i64.wrap ((j : Int) + 1 - 1) = (j : Int) := by rw [IntWalk.i64_in _ (by omega)]; omega
                        go_quiet (first | (go_at_call 66; exact Calls.quiet_of_same (HT.out _)) | (go_at_call 55; exact Calls.quiet_of_same (HV.out _)))
                        go_wp2
                        go_ret3
                        exact ⟨by rw [Hf.out]; rfl, (by repeat (first | exact Below.refl _ _ | assumption | (refine Below.setCell ?_ (by first | omega | (simp; done) | (simp; omega)) _) | (refine Below.alloc ?_ (by first | omega | (simp; done) | (simp; omega)) _) | refine Below.drew ?_ | (refine below_thru ?_ (by assumption) (by first | omega | (simp; done) | (simp; omega))) | refine below_drewN ?_ _))⟩
                      · have Hm := hcont hrc
                        clear hrc hcont hstop
                        go_wp2_with fail
                        have hj : IntKind.i64.wrap ((j : Int) + 1 - 1) = (j : Int) := by rw [IntWalk.i64_in _ (by omega)]; omega
                        go_quiet (first | (go_at_call 66; exact Calls.quiet_of_same (HT.out _)) | (go_at_call 55; exact Calls.quiet_of_same (HV.out _)))
                        go_wp2
                        go_roundw
                        case rel => exact ⟨j + 1 + 1, by omega, by go_num, Hm, hbg.out.alloc _, (by repeat (first | exact Below.refl _ _ | assumption | (refine Below.setCell ?_ (by first | omega | (simp; done) | (simp; omega)) _) | (refine Below.alloc ?_ (by first | omega | (simp; done) | (simp; omega)) _) | refine Below.drew ?_ | (refine below_thru ?_ (by assumption) (by first | omega | (simp; done) | (simp; omega))) | refine below_drewN ?_ _))⟩
                        case measure => simp [intOf]; omega
                  · obtain rfl : k = rn := by omega
                    have Hf := Lib.hid (Fg.out hprev.out)
                    clear Ff Fg
                    go_wp2
                    go_ret3
                    exact ⟨by rw [Hf.out]; rfl, (by repeat (first | exact Below.refl _ _ | assumption | (refine Below.setCell ?_ (by first | omega | (simp; done) | (simp; omega)) _) | (refine Below.alloc ?_ (by first | omega | (simp; done) | (simp; omega)) _) | refine Below.drew ?_ | (refine below_thru ?_ (by assumption) (by first | omega | (simp; done) | (simp; omega))) | refine below_drewN ?_ _))⟩
              · have Hf := Lib.hid (Fe.out (by omega))
                clear Fd Fe Ff Fg
                go_wp2
                go_ret3
                exact ⟨by rw [Hf.out]; rfl, (by repeat (first | exact Below.refl _ _ | assumption | (refine Below.setCell ?_ (by first | omega | (simp; done) | (simp; omega)) _) | (refine Below.alloc ?_ (by first | omega | (simp; done) | (simp; omega)) _) | refine Below.drew ?_ | (refine below_thru ?_ (by assumption) (by first | omega | (simp; done) | (simp; omega))) | refine below_drewN ?_ _))⟩
end Go.Proofs.YtncidhoojgncgaaGreat
