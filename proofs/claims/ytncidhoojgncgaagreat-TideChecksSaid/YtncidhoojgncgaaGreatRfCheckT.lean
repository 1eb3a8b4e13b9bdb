/- The reference's Check. -/
import Derived.Test.YtncidhoojgncgaaGreatRfName
import Derived.Test.YtncidhoojgncgaaGreatTdLevel
namespace Go.Proofs.YtncidhoojgncgaaGreat
open Go.RowKit
set_option linter.unusedSimpArgs false
set_option linter.unusedVariables false

theorem constAt_e (l : List Cn) (i : Nat) (c : Cn) (h : l[i]? = some c) : (constAt l i).e = if nameB c.name = false then 6 else if twiceB l c i = true then 5 else if betw c.hn 2 48 = false then 3 else if numB c = false then 7 else 0 := by
  unfold constAt
  rw [h]
  simp only [constL, firstF, need]
  cases nameB c.name <;> cases twiceB l c i <;> cases betw c.hn 2 48 <;> cases numB c <;> rfl
theorem twice_bad (l : List Cn) (c o : Cn) (i k : Nat) (hk : k < i) (ho : l[k]? = some o) (h : o.name.toList = c.name.toList) : twiceB l c i = true := by
  unfold twiceB
  rw [List.any_eq_true]
  exact ⟨o, List.mem_of_getElem? (i := k) (by rw [List.getElem?_take, if_pos hk]; exact ho), by simp [h]⟩
theorem twice_ok (l : List Cn) (c : Cn) (i : Nat) (h : ∀ k o, k < i → l[k]? = some o → o.name.toList ≠ c.name.toList) : twiceB l c i = false := by
  unfold twiceB
  rw [List.any_eq_false]
  intro o ho
  obtain ⟨k, hk⟩ := List.getElem?_of_mem ho
  rw [List.getElem?_take] at hk
  split at hk
  · rename_i hki
    simpa using h k o hki hk
  · cases hk
/-- What the loop over the heights knows. -/
def goodAt (c : Cn) (k : Nat) : Bool := betw c.den 1 1000 && betw c.step 1 100000 && betw c.slack 0 1000 && (c.hs.take k).all fun h => betw h (-10000) 10000
theorem goodAt_succ (c : Cn) (k : Nat) (h : Int) (hk : c.hs[k]? = some h) : goodAt c (k + 1) = (goodAt c k && betw h (-10000) 10000) := by
  have h' := List.getElem?_eq_some_iff.1 hk
  unfold goodAt
  rw [List.take_succ_eq_append_getElem h'.1, List.all_append, h'.2, Bool.and_assoc, Bool.and_assoc, Bool.and_assoc]
  simp [Bool.and_assoc]
theorem numB_good (c : Cn) (h : c.hs.length = c.hn) : numB c = (goodAt c c.hn && betw c.offset 0 (c.cycle - 1)) := by
  unfold numB goodAt heightsBad
  rw [← h, List.take_length, Bool.eq_iff_iff]
  simp only [Bool.and_eq_true, Bool.not_eq_true', List.any_eq_false, List.all_eq_true, Bool.not_eq_true, Bool.not_eq_false']
  constructor
  · rintro ⟨h1, h2, h3, h4, h5⟩; exact ⟨⟨⟨⟨h2, h4⟩, h5⟩, fun x hx => by simpa using h1 x hx⟩, h3⟩
  · rintro ⟨⟨⟨⟨h2, h4⟩, h5⟩, h1⟩, h3⟩; exact ⟨fun x hx => by simpa using h1 x hx, h2, h3, h4, h5⟩

set_option maxRecDepth 100000 in
set_option maxHeartbeats 8000000 in
theorem rconst_any (t : Tb) (i : Nat) (w : World) (ht : t.At w w.heap.size) (hn : t.cn ≤ 1000) (hi : i < t.cn) :
    Calls Tryz.prog 56 #[t.v, .int .i64 i] w fun e w' => e = .returned (.int .i64 (constAt t.cs i).e) ∧ Below w.heap.size w w' := by
  have hcl := ht.cl
  obtain ⟨c, hc⟩ := get_lt hcl hi
  have hce := constAt_e t.cs i c hc
  have hat := ht.each c (List.mem_of_getElem? hc)
  have htc := ht.c
  have hhl := hat.hl
  have hhh := hat.h
  have hnm := hat.name
  have hhm := hat.hn
  unfold maxLen at hhm
  have hnum := numB_good c hhl
  have htb := fun k o (h1 : k < i) h2 h3 => twice_bad t.cs c o i k h1 h2 h3
  have hto := twice_ok t.cs c i
  have hgs := fun k h (hk : c.hs[k]? = some h) => goodAt_succ c k h hk
  have hg0 : goodAt c 0 = (betw c.den 1 1000 && betw c.step 1 100000 && betw c.slack 0 1000) := by simp [goodAt]
  have hgd : ∀ k, goodAt c k = true → 1 ≤ c.den ∧ c.den ≤ 1000 := fun k h => by
    simp only [goodAt, Bool.and_eq_true, betw, decide_eq_true_eq] at h; exact h.1.1.1
  obtain ⟨b, off, hA, hb, c0, c1, c2, c3, c4, c5⟩ := htc.six (k := i) (x0 := .string c.name) (x1 := .slice c.hA c.hn c.hc) (x2 := .int .i64 c.offset) (x3 := .int .i64 c.step) (x4 := .int .i64 c.den) (x5 := .int .i64 c.slack) (by simp [hc])
  obtain ⟨nm, hA', hn', hc', hs, of, st, dn, sl⟩ := c
  obtain ⟨mean, cA, cn, cc, cs⟩ := t
  simp only at *
  subst hA
  have HN := Lib.hid (fun W => rName_any nm W hnm)
  have HL := Lib.hid (rin_is hn' 2 48)
  have H1 := Lib.hid (rin_is dn 1 1000)
  have H2 := Lib.hid (rin_is st 1 100000)
  have H3 := Lib.hid (rin_is sl 0 1000)
  have Hcl := Lib.hid hcl; clear hcl
  have Htc := Lib.hid htc; clear htc
  have Hhl := Lib.hid hhl; clear hhl
  have Hhh := Lib.hid hhh; clear hhh
  have Hgs := Lib.hid hgs; clear hgs
  have Htb := Lib.hid htb; clear htb
  have Hto := Lib.hid hto; clear hto
  clear ht hat hc
  have i0 : (0 : Int) ≤ (i : Int) := Int.natCast_nonneg _
  have i1 : (i : Int) < (cn : Int) := by omega
  cases h1 : nameB nm
  · have Hf : Hid ((constAt cs i).e = 6) := by rw [hce, h1]; rfl
    rw [h1] at HN
    clear hce hnum hg0 hgd h1
    go_enter Tryz.func56, Tryz.ntmps56
    go_wp2_with fail
    refine (HN.out _).mono ?_
    rintro e w1 ⟨rfl, rfl⟩
    go_wp2
    go_ret
    exact ⟨by rw [Hf.out]; rfl, (by repeat (first | exact Below.refl _ _ | assumption | (refine Below.setCell ?_ (by first | omega | (simp; done) | (simp; omega)) _) | (refine Below.alloc ?_ (by first | omega | (simp; done) | (simp; omega)) _) | refine Below.drew ?_ | (refine below_thru ?_ (by assumption) (by first | omega | (simp; done) | (simp; omega))) | refine below_drewN ?_ _))⟩
  · rw [h1] at HN
    have hce : (constAt cs i).e = if twiceB cs ⟨nm, hA', hn', hc', hs, of, st, dn, sl⟩ i = true then 5 else if betw hn' 2 48 = false then 3 else if numB ⟨nm, hA', hn', hc', hs, of, st, dn, sl⟩ = false then 7 else 0 := by rw [hce, h1]; rfl
    generalize (constAt cs i).e = er at *
    have Hce := Lib.hid hce; clear hce
    have Hnum := Lib.hid hnum; clear hnum
    have Hg0 := Lib.hid hg0; clear hg0
    have Hgd := Lib.hid hgd; clear hgd
    clear h1
    go_enter Tryz.func56, Tryz.ntmps56
    go_wp2_with fail
    refine (HN.out _).mono ?_
    rintro e w1 ⟨rfl, rfl⟩
    go_wp2
    clear HN
    go_loopw [6] (fun x wr => ∃ k : Nat, k ≤ i ∧ x = .int .i64 k ∧ Hid (∀ j o, j < k → cs[j]? = some o → o.name.toList ≠ nm.toList) ∧ Hid (Blk wr w.heap.size 24 #[.int .i64 mean, .slice (some ⟨b, off, none⟩) cn cc]) ∧ Hid (Blk wr (w.heap.size + 1) 70 #[.string nm, .slice hA' hn' hc', .int .i64 of, .int .i64 st, .int .i64 dn, .int .i64 sl]) ∧ Below w.heap.size w wr)
      (fun x _ => i - (intOf x).toNat)
    case atStart => exact ⟨0, Nat.zero_le _, rfl, fun j o hj => by omega, (Blk.new w _ _).alloc _, Blk.new' (w.alloc _) _ _ (by simp), (by repeat (first | exact Below.refl _ _ | assumption | (refine Below.setCell ?_ (by first | omega | (simp; done) | (simp; omega)) _) | (refine Below.alloc ?_ (by first | omega | (simp; done) | (simp; omega)) _) | refine Below.drew ?_ | (refine below_thru ?_ (by assumption) (by first | omega | (simp; done) | (simp; omega))) | refine below_drewN ?_ _))⟩
    case round =>
      obtain ⟨k, hk, rfl, hprev, hbt, hbc, hbr⟩ := hrel
      obtain ⟨t0, t1, t2, t3⟩ := hbt.out.two
      obtain ⟨a0, a1, a2, a3, a4, a5⟩ := hbc.out.six
      have hzr := hbc.out.lt
      by_cases hlt : k < i
      · obtain ⟨o, hok⟩ := get_lt (k := k) Hcl.out (by omega)
        obtain ⟨b', off', hA, hb', p0, p1, p2, p3, p4, p5⟩ := Htc.out.six (k := k) (x0 := .string o.name) (x1 := .slice o.hA o.hn o.hc) (x2 := .int .i64 o.offset) (x3 := .int .i64 o.step) (x4 := .int .i64 o.den) (x5 := .int .i64 o.slack) (by simp [hok])
        cases hA
        have p0 := (hbr.cell (p := ⟨b, off + k * 6, none⟩) hb).trans p0
        clear p1 p2 p3 p4 p5
        have k0 : (0 : Int) ≤ (k : Int) := Int.natCast_nonneg _
        have k1 : (k : Int) < (cn : Int) := by omega
        by_cases heq : o.name.toList = nm.toList
        · have Hf : Hid (er = 5) := by rw [Hce.out, Htb.out k o hlt hok heq]; rfl
          have heq' : (o.name.toList == nm.toList) = true := by rw [heq]; simp
          clear heq hok
          go_wp2_with fail
          go_quiet (fail)
          go_wp2
          go_ret
          exact ⟨by rw [Hf.out]; rfl, (by repeat (first | exact Below.refl _ _ | assumption | (refine Below.setCell ?_ (by first | omega | (simp; done) | (simp; omega)) _) | (refine Below.alloc ?_ (by first | omega | (simp; done) | (simp; omega)) _) | refine Below.drew ?_ | (refine below_thru ?_ (by assumption) (by first | omega | (simp; done) | (simp; omega))) | refine below_drewN ?_ _))⟩
        · have Hm : Hid (∀ j o, j < k + 1 → cs[j]? = some o → o.name.toList ≠ nm.toList) := fun j o' hj ho => by
            rcases Nat.lt_or_ge j k with h1 | h1
            · exact hprev.out j o' h1 ho
            · obtain rfl : j = k := by omega
              rw [hok] at ho; cases ho; exact heq
          have heq' : (o.name.toList == nm.toList) = false := by rw [beq_eq_false_iff_ne]; exact heq
          clear heq hok
          go_wp2_with fail
          go_quiet (fail)
          go_wp2
          go_roundw
          case rel => exact ⟨k + 1, by omega, by go_num, Hm, hbt.out, hbc.out, (by repeat (first | exact Below.refl _ _ | assumption | (refine Below.setCell ?_ (by first | omega | (simp; done) | (simp; omega)) _) | (refine Below.alloc ?_ (by first | omega | (simp; done) | (simp; omega)) _) | refine Below.drew ?_ | (refine below_thru ?_ (by assumption) (by first | omega | (simp; done) | (simp; omega))) | refine below_drewN ?_ _))⟩
          case measure => simp [intOf]; omega
      · obtain rfl : k = i := by omega
        have htw := Hto.out hprev.out
        have hce := Hce.out
        rw [htw, if_neg (by simp)] at hce
        clear htw Hto Htb
        cases h2 : betw hn' 2 48
        · have Hf : Hid (er = 3) := by rw [hce, h2]; rfl
          have HL := Lib.hid (HL.out _ h2)
          clear hce h2 Hce
          go_wp2_with fail
          refine (HL.out _).mono ?_
          rintro e w1 ⟨rfl, rfl⟩
          go_wp2
          go_ret
          exact ⟨by rw [Hf.out]; rfl, (by repeat (first | exact Below.refl _ _ | assumption | (refine Below.setCell ?_ (by first | omega | (simp; done) | (simp; omega)) _) | (refine Below.alloc ?_ (by first | omega | (simp; done) | (simp; omega)) _) | refine Below.drew ?_ | (refine below_thru ?_ (by assumption) (by first | omega | (simp; done) | (simp; omega))) | refine below_drewN ?_ _))⟩
        · rw [h2, if_neg (by simp)] at hce
          have HL := Lib.hid (HL.out _ h2)
          have Hce := Lib.hid hce; clear hce
          have hh := h2
          simp only [betw, Bool.and_eq_true, decide_eq_true_eq] at hh
          obtain ⟨n2, n48⟩ := hh
          clear h2
          obtain ⟨b1, hb1⟩ : ∃ b, betw dn 1 1000 = b := ⟨_, rfl⟩
          obtain ⟨b2, hb2⟩ : ∃ b, betw st 1 100000 = b := ⟨_, rfl⟩
          obtain ⟨b3, hb3⟩ : ∃ b, betw sl 0 1000 = b := ⟨_, rfl⟩
          have H1 := Lib.hid (H1.out _ hb1)
          have H2 := Lib.hid (H2.out _ hb2)
          have H3 := Lib.hid (H3.out _ hb3)
          have hg0 := Hg0.out
          rw [hb1, hb2, hb3] at hg0
          have Hg0 := Lib.hid hg0
          clear hb1 hb2 hb3 hg0
          obtain ⟨wo, rfl⟩ : ∃ wo : World, wo = wr := ⟨_, rfl⟩
          rcases (show (b1 = false) ∨ (b1 = true ∧ b2 = false) ∨ (b1 = true ∧ b2 = true ∧ b3 = false) ∨ (b1 = true ∧ b2 = true ∧ b3 = true) from by cases b1 <;> cases b2 <;> cases b3 <;> simp) with rfl | ⟨rfl, rfl⟩ | ⟨rfl, rfl, rfl⟩ | ⟨rfl, rfl, rfl⟩
          all_goals
            go_wp2_with fail
            refine (HL.out _).mono ?_
            rintro e w1 ⟨rfl, rfl⟩
            go_wp2_with (first | (go_at_call 55; first | (with_reducible refine (H1.out _).mono ?_; rintro e w1 ⟨rfl, rfl⟩) | (with_reducible refine (H2.out _).mono ?_; rintro e w1 ⟨rfl, rfl⟩) | (with_reducible refine (H3.out _).mono ?_; rintro e w1 ⟨rfl, rfl⟩)))
            have hgz : Hid (goodAt ⟨nm, hA', hn', hc', hs, of, st, dn, sl⟩ 0 = _) := Hg0.out
            go_loopw [7, 8] (fun y x wr => ∃ (k : Nat) (gd : Bool), k ≤ hn' ∧ x = .int .i64 k ∧ y = .bool gd ∧ Hid (goodAt ⟨nm, hA', hn', hc', hs, of, st, dn, sl⟩ k = gd) ∧ Hid (Blk wr (w.heap.size + 1) 70 #[.string nm, .slice hA' hn' hc', .int .i64 of, .int .i64 st, .int .i64 dn, .int .i64 sl]) ∧ Below w.heap.size w wr)
              (fun _ x _ => hn' - (intOf x).toNat)
            case atStart => exact ⟨0, _, Nat.zero_le _, rfl, rfl, hgz, hbc.out, (by repeat (first | exact Below.refl _ _ | assumption | (refine Below.setCell ?_ (by first | omega | (simp; done) | (simp; omega)) _) | (refine Below.alloc ?_ (by first | omega | (simp; done) | (simp; omega)) _) | refine Below.drew ?_ | (refine below_thru ?_ (by assumption) (by first | omega | (simp; done) | (simp; omega))) | refine below_drewN ?_ _))⟩
            case round =>
              obtain ⟨k, gd, hk, rfl, rfl, hgd, hbc, hbr⟩ := hrel
              obtain ⟨a0, a1, a2, a3, a4, a5⟩ := hbc.out.six
              have hzr := hbc.out.lt
              by_cases hlt : k < hn'
              · obtain ⟨h, hhk⟩ := get_lt (k := k) Hhl.out hlt
                have hst := Hgs.out k h hhk
                rw [hgd.out] at hst
                obtain ⟨bh, oh, hA, hbh, h0⟩ := Hhh.out.one (k := k) (x := .int .i64 h) (by simp [hhk])
                subst hA
                have h0 := (hbr.cell (p := ⟨bh, oh + k, none⟩) hbh).trans h0
                have k0 : (0 : Int) ≤ (k : Int) := Int.natCast_nonneg _
                have k1 : (k : Int) < (hn' : Int) := by omega
                have HI := Lib.hid (rin_is h (-10000) 10000 _ rfl)
                cases gd
                · have Hst : Hid (goodAt ⟨nm, some ⟨bh, oh, none⟩, hn', hc', hs, of, st, dn, sl⟩ (k + 1) = false) := by rw [hst]; rfl
                  clear hst hhk
                  go_wp2
                  go_roundw
                  case rel => exact ⟨k + 1, false, by omega, by go_num, rfl, Hst, hbc.out, (by repeat (first | exact Below.refl _ _ | assumption | (refine Below.setCell ?_ (by first | omega | (simp; done) | (simp; omega)) _) | (refine Below.alloc ?_ (by first | omega | (simp; done) | (simp; omega)) _) | refine Below.drew ?_ | (refine below_thru ?_ (by assumption) (by first | omega | (simp; done) | (simp; omega))) | refine below_drewN ?_ _))⟩
                  case measure => simp [intOf]; omega
                · have Hst : Hid (goodAt ⟨nm, some ⟨bh, oh, none⟩, hn', hc', hs, of, st, dn, sl⟩ (k + 1) = betw h (-10000) 10000) := by rw [Bool.true_and] at hst; exact hst
                  clear hst hhk
                  go_wp2_with fail
                  refine (HI.out _).mono ?_
                  rintro e w1 ⟨rfl, rfl⟩
                  go_wp2
                  go_roundw
                  case rel => exact ⟨k + 1, _, by omega, by go_num, rfl, Hst, hbc.out, (by repeat (first | exact Below.refl _ _ | assumption | (refine Below.setCell ?_ (by first | omega | (simp; done) | (simp; omega)) _) | (refine Below.alloc ?_ (by first | omega | (simp; done) | (simp; omega)) _) | refine Below.drew ?_ | (refine below_thru ?_ (by assumption) (by first | omega | (simp; done) | (simp; omega))) | refine below_drewN ?_ _))⟩
                  case measure => simp [intOf]; omega
              · obtain rfl : k = hn' := by omega
                have hnum := Hnum.out
                rw [hgd.out] at hnum
                have hce := Hce.out
                cases gd
                · have Hf : Hid (er = 7) := by rw [hce, hnum]; rfl
                  clear hce hnum
                  go_wp2
                  go_ret
                  exact ⟨by rw [Hf.out]; rfl, (by repeat (first | exact Below.refl _ _ | assumption | (refine Below.setCell ?_ (by first | omega | (simp; done) | (simp; omega)) _) | (refine Below.alloc ?_ (by first | omega | (simp; done) | (simp; omega)) _) | refine Below.drew ?_ | (refine below_thru ?_ (by assumption) (by first | omega | (simp; done) | (simp; omega))) | refine below_drewN ?_ _))⟩
                · obtain ⟨d1, d2⟩ := Hgd.out _ hgd.out
                  simp only [Cn.cycle, Bool.true_and] at hnum
                  have hmu := mul_bounds' (show 0 ≤ dn by omega) d2 (Int.natCast_nonneg k) (show (k : Int) ≤ 48 by omega)
                  obtain ⟨m1, m2⟩ := hmu
                  have HO := rin_is of 0 (dn * k - 1)
                  cases h9 : betw of 0 (dn * k - 1)
                  · have Hf : Hid (er = 7) := by rw [h9] at hnum; rw [hce, hnum]; rfl
                    have HO := Lib.hid (HO _ h9)
                    clear hce hnum h9
                    go_wp2_with fail
                    refine (HO.out _).mono ?_
                    rintro e w1 ⟨rfl, rfl⟩
                    go_wp2
                    go_ret
                    exact ⟨by rw [Hf.out]; rfl, (by repeat (first | exact Below.refl _ _ | assumption | (refine Below.setCell ?_ (by first | omega | (simp; done) | (simp; omega)) _) | (refine Below.alloc ?_ (by first | omega | (simp; done) | (simp; omega)) _) | refine Below.drew ?_ | (refine below_thru ?_ (by assumption) (by first | omega | (simp; done) | (simp; omega))) | refine below_drewN ?_ _))⟩
                  · have Hf : Hid (er = 0) := by rw [h9] at hnum; rw [hce, hnum]; rfl
                    have HO := Lib.hid (HO _ h9)
                    clear hce hnum h9
                    go_wp2_with fail
                    refine (HO.out _).mono ?_
                    rintro e w1 ⟨rfl, rfl⟩
                    go_wp2
                    go_ret
                    exact ⟨by rw [Hf.out]; rfl, (by repeat (first | exact Below.refl _ _ | assumption | (refine Below.setCell ?_ (by first | omega | (simp; done) | (simp; omega)) _) | (refine Below.alloc ?_ (by first | omega | (simp; done) | (simp; omega)) _) | refine Below.drew ?_ | (refine below_thru ?_ (by assumption) (by first | omega | (simp; done) | (simp; omega))) | refine below_drewN ?_ _))⟩
end Go.Proofs.YtncidhoojgncgaaGreat
