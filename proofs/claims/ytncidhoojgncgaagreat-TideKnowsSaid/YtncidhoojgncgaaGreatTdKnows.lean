/- TideKnows: more readings known never lose anything. -/
import Derived.Test.YtncidhoojgncgaaGreatTdAwake3
namespace Go.Proofs.YtncidhoojgncgaaGreat
open Go.RowKit
set_option linter.unusedSimpArgs false
set_option linter.unusedVariables false

/-- What is known later is within what is known before. -/
structure SayInv (s t : Sp × Bool) : Prop where
  lo : s.1.lo ≤ t.1.lo
  hi : t.1.hi ≤ s.1.hi
  kn : s.2 = true → t.2 = true
  l0 : -20000 ≤ s.1.lo
  h0 : s.1.hi ≤ 20000
theorem sayFold_inv (g : Gg) (tick a b : Int) (hab : a ≤ b) : ∀ (l : List Rd) (s t : Sp × Bool), SayInv s t → SayInv (l.foldl (sayStep g tick a) s) (l.foldl (sayStep g tick b) t)
  | [], s, t, h => h
  | r :: l, s, t, h => by
    refine sayFold_inv g tick a b hab l _ _ ?_
    obtain ⟨h1, h2, h3, h4, h5⟩ := h
    unfold sayStep
    by_cases ha : r.tick ≤ a
    · rw [if_pos ha, if_pos (by omega)]
      refine ⟨?_, ?_, fun _ => rfl, ?_, ?_⟩ <;> simp only [Sp.meet] <;> omega
    · rw [if_neg ha]
      split
      · refine ⟨?_, ?_, fun _ => rfl, h4, h5⟩ <;> simp only [Sp.meet] <;> omega
      · exact ⟨h1, h2, h3, h4, h5⟩
theorem saysF_knows (g : Gg) (tick a b : Int) (hab : a ≤ b) :
    ((saysF g tick a).2 = 0 → (saysF g tick b).2 = 0 → (saysF g tick a).1.lo ≤ (saysF g tick b).1.lo ∧ (saysF g tick b).1.hi ≤ (saysF g tick a).1.hi ∧ (saysF g tick b).1.lo ≤ (saysF g tick b).1.hi ∧ -20000 ≤ (saysF g tick a).1.lo ∧ (saysF g tick a).1.hi ≤ 20000) ∧
    ((saysF g tick a).2 = 9 → (saysF g tick b).2 ≠ 0) := by
  have inv := sayFold_inv g tick a b hab g.rs (⟨-20000, 20000⟩, false) (⟨-20000, 20000⟩, false) ⟨Int.le_refl _, Int.le_refl _, fun h => h, by decide, by decide⟩
  unfold saysF
  by_cases hg : (gaugeF g).e = 0
  · simp only [hg, if_true]
    unfold saidF sayFold
    generalize g.rs.foldl (sayStep g tick a) (⟨-20000, 20000⟩, false) = s at *
    generalize g.rs.foldl (sayStep g tick b) (⟨-20000, 20000⟩, false) = t at *
    obtain ⟨⟨slo, shi⟩, sk⟩ := s
    obtain ⟨⟨tlo, thi⟩, tk⟩ := t
    obtain ⟨i1, i2, i3, i4, i5⟩ := inv
    simp only at i1 i2 i3 i4 i5
    cases h1 : tickB tick && tickB a
    · simp only [Bool.false_eq_true, if_false]
      exact ⟨fun h => absurd h (by decide), fun h => absurd h (by decide)⟩
    cases h2 : tickB tick && tickB b
    · simp only [Bool.false_eq_true, if_false]
      exact ⟨fun _ h => absurd h (by decide), fun _ => by decide⟩
    · simp only [if_true]
      unfold sayEnd
      cases sk <;> cases tk <;> simp only [Bool.true_eq_false, if_false, if_true, Sp.emptyB, decide_eq_true_eq]
      · constructor
        · intro h; simp at h
        · intro h; simp at h
      · constructor
        · intro h; simp at h
        · intro h; simp at h
      · exact absurd (i3 rfl) (by simp)
      · by_cases hs : shi < slo
        · have ht : thi < tlo := by omega
          simp [hs, ht]
        · by_cases ht : thi < tlo
          · simp [hs, ht]
          · simp [hs, ht]; omega
  · simp only [if_neg hg]
    exact ⟨fun h => absurd h hg, fun _ => hg⟩

theorem lawWithin_true (a b : Sp) (h1 : b.lo ≤ a.lo) (h2 : a.hi ≤ b.hi) (w : World) :
    Calls Tryz.prog 51 #[a.v, b.v] w fun e w' => e = .returned (.bool true) ∧ Below w.heap.size w w' := by
  obtain ⟨al, ah⟩ := a
  obtain ⟨bl, bh⟩ := b
  simp only at h1 h2
  go_enter Tryz.func51, Tryz.ntmps51
  go_wp2
  go_ret
  exact ⟨rfl, (by repeat (first | exact Below.refl _ _ | assumption | (refine Below.setCell ?_ (by first | omega | (simp; done) | (simp; omega)) _) | (refine Below.alloc ?_ (by first | omega | (simp; done) | (simp; omega)) _) | refine Below.drew ?_ | (refine below_thru ?_ (by assumption) (by first | omega | (simp; done) | (simp; omega))) | refine below_drewN ?_ _))⟩

set_option maxRecDepth 100000 in
set_option maxHeartbeats 4000000 in
theorem TideKnows_any (g : Gg) (x0 x1 x2 : Int) (w : World) (hg : g.At w w.heap.size) :
    Calls Tryz.prog 15 #[g.v, .agg #[.int .i64 x0, .int .i64 x1, .int .i64 x2]] w fun e w' => e = .returned (.bool true) ∧ Below w.heap.size w w' := by
  have main : ∀ a b : Int, a ≤ b → ((x1 < x2 ∧ a = x1 ∧ b = x2) ∨ (x1 = x2 ∧ a = x1 ∧ b = x1) ∨ (x2 < x1 ∧ a = x2 ∧ b = x1)) → Calls Tryz.prog 15 #[g.v, .agg #[.int .i64 x0, .int .i64 x1, .int .i64 x2]] w fun e w' => e = .returned (.bool true) ∧ Below w.heap.size w w' := by
    intro a b hab hc
    obtain ⟨kn1, kn2⟩ := saysF_knows g x0 a b hab
    have hS1 := fun W h => Says_any g x0 a W h
    have hS2 := fun W h => Says_any g x0 b W h
    generalize saysF g x0 a = r1 at *
    generalize saysF g x0 b = r2 at *
    obtain ⟨⟨alo, ahi⟩, e1⟩ := r1
    obtain ⟨⟨blo, bhi⟩, e2⟩ := r2
    have HS1 := Lib.hid hS1; clear hS1
    have HS2 := Lib.hid hS2; clear hS2
    have Hg := Lib.hid hg; clear hg
    simp only at kn1 kn2
    obtain ⟨nm, er, rt, dA, dn, dc, ds, rA, rn, rc, rs⟩ := g
    by_cases hE1 : e1 = 0
    · by_cases hE2 : e2 = 0
      · subst hE1
        subst hE2
        obtain ⟨m1, m2, m3, m4, m5⟩ := kn1 rfl rfl
        have HW := Lib.hid (fun W => lawWithin_true ⟨blo, bhi⟩ ⟨alo, ahi⟩ m1 m2 W)
        clear kn1 kn2
        rcases hc with ⟨hlt, rfl, rfl⟩ | ⟨rfl, rfl, rfl⟩ | ⟨hlt, rfl, rfl⟩
        all_goals
          go_enter Tryz.func15, Tryz.ntmps15
          go_wp2_with fail
          go_quiet (fail)
          go_wp2_with fail
          refine (HS1.out _ (Hg.out.grow (by repeat (first | exact Below.refl _ _ | assumption | (refine Below.setCell ?_ (by first | omega | (simp; done) | (simp; omega)) _) | (refine Below.alloc ?_ (by first | omega | (simp; done) | (simp; omega)) _) | refine Below.drew ?_ | (refine below_thru ?_ (by assumption) (by first | omega | (simp; done) | (simp; omega))) | refine below_drewN ?_ _)))).mono ?_
          rintro e w1 ⟨rfl, hb1⟩
          obtain ⟨hc1, hf1⟩ := bcell hb1; have hz1 := hb1.size; (try simp at hz1)
          have hl0 : w.heap.size < w1.heap.size := by omega
          go_wp2_with fail
          refine (HS2.out _ (Hg.out.grow (by repeat (first | exact Below.refl _ _ | assumption | (refine Below.setCell ?_ (by first | omega | (simp; done) | (simp; omega)) _) | (refine Below.alloc ?_ (by first | omega | (simp; done) | (simp; omega)) _) | refine Below.drew ?_ | (refine below_thru ?_ (by assumption) (by first | omega | (simp; done) | (simp; omega))) | refine below_drewN ?_ _)))).mono ?_
          rintro e w2 ⟨rfl, hb2⟩
          obtain ⟨hc2, hf2⟩ := bcell hb2; have hz2 := hb2.size; (try simp at hz2)
          have hl2 : w1.heap.size < w2.heap.size := by omega
          go_wp2_with fail
          refine (HW.out _).mono ?_
          rintro e w3 ⟨rfl, hb3⟩
          obtain ⟨hc3, hf3⟩ := bcell hb3; have hz3 := hb3.size; (try simp at hz3)
          have hl3 : w1.heap.size < w3.heap.size := by omega
          have hl4 : w2.heap.size < w3.heap.size := by omega
          have hl5 : w1.heap.size ≤ w2.heap.size := by omega
          go_wp2_with fail
          refine (Awake_any _).mono ?_
          rintro e w4 ⟨rfl, hb4⟩
          go_wp2
          go_ret
          exact ⟨rfl, (by repeat (first | exact Below.refl _ _ | assumption | (refine Below.setCell ?_ (by first | omega | (simp; done) | (simp; omega)) _) | (refine Below.alloc ?_ (by first | omega | (simp; done) | (simp; omega)) _) | refine Below.drew ?_ | (refine below_thru ?_ (by assumption) (by first | omega | (simp; done) | (simp; omega))) | refine below_drewN ?_ _))⟩
      · subst hE1
        have hE2' : (e2 == 0) = false := by rw [beq_eq_false_iff_ne]; exact hE2
        clear kn1 kn2
        rcases hc with ⟨hlt, rfl, rfl⟩ | ⟨rfl, rfl, rfl⟩ | ⟨hlt, rfl, rfl⟩
        all_goals
          go_enter Tryz.func15, Tryz.ntmps15
          go_wp2_with fail
          go_quiet (fail)
          go_wp2_with fail
          refine (HS1.out _ (Hg.out.grow (by repeat (first | exact Below.refl _ _ | assumption | (refine Below.setCell ?_ (by first | omega | (simp; done) | (simp; omega)) _) | (refine Below.alloc ?_ (by first | omega | (simp; done) | (simp; omega)) _) | refine Below.drew ?_ | (refine below_thru ?_ (by assumption) (by first | omega | (simp; done) | (simp; omega))) | refine below_drewN ?_ _)))).mono ?_
          rintro e w1 ⟨rfl, hb1⟩
          obtain ⟨hc1, hf1⟩ := bcell hb1; have hz1 := hb1.size; (try simp at hz1)
          have hl0 : w.heap.size < w1.heap.size := by omega
          go_wp2_with fail
          refine (HS2.out _ (Hg.out.grow (by repeat (first | exact Below.refl _ _ | assumption | (refine Below.setCell ?_ (by first | omega | (simp; done) | (simp; omega)) _) | (refine Below.alloc ?_ (by first | omega | (simp; done) | (simp; omega)) _) | refine Below.drew ?_ | (refine below_thru ?_ (by assumption) (by first | omega | (simp; done) | (simp; omega))) | refine below_drewN ?_ _)))).mono ?_
          rintro e w2 ⟨rfl, hb2⟩
          obtain ⟨hc2, hf2⟩ := bcell hb2; have hz2 := hb2.size; (try simp at hz2)
          have hl2 : w1.heap.size < w2.heap.size := by omega
          go_wp2_with fail
          refine (Awake_any _).mono ?_
          rintro e w4 ⟨rfl, hb4⟩
          go_wp2
          go_ret
          exact ⟨rfl, (by repeat (first | exact Below.refl _ _ | assumption | (refine Below.setCell ?_ (by first | omega | (simp; done) | (simp; omega)) _) | (refine Below.alloc ?_ (by first | omega | (simp; done) | (simp; omega)) _) | refine Below.drew ?_ | (refine below_thru ?_ (by assumption) (by first | omega | (simp; done) | (simp; omega))) | refine below_drewN ?_ _))⟩
    · have hE1' : (e1 == 0) = false := by rw [beq_eq_false_iff_ne]; exact hE1
      by_cases h9 : e1 = 9
      · have hE2 := kn2 h9
        subst h9
        have hE2' : (e2 != 0) = true := by rw [bne_iff_ne]; exact hE2
        clear kn1 kn2 hE1 hE2 hE1'
        rcases hc with ⟨hlt, rfl, rfl⟩ | ⟨rfl, rfl, rfl⟩ | ⟨hlt, rfl, rfl⟩
        all_goals
          go_enter Tryz.func15, Tryz.ntmps15
          go_wp2_with fail
          go_quiet (fail)
          go_wp2_with fail
          refine (HS1.out _ (Hg.out.grow (by repeat (first | exact Below.refl _ _ | assumption | (refine Below.setCell ?_ (by first | omega | (simp; done) | (simp; omega)) _) | (refine Below.alloc ?_ (by first | omega | (simp; done) | (simp; omega)) _) | refine Below.drew ?_ | (refine below_thru ?_ (by assumption) (by first | omega | (simp; done) | (simp; omega))) | refine below_drewN ?_ _)))).mono ?_
          rintro e w1 ⟨rfl, hb1⟩
          obtain ⟨hc1, hf1⟩ := bcell hb1; have hz1 := hb1.size; (try simp at hz1)
          have hl0 : w.heap.size < w1.heap.size := by omega
          go_wp2_with fail
          refine (HS2.out _ (Hg.out.grow (by repeat (first | exact Below.refl _ _ | assumption | (refine Below.setCell ?_ (by first | omega | (simp; done) | (simp; omega)) _) | (refine Below.alloc ?_ (by first | omega | (simp; done) | (simp; omega)) _) | refine Below.drew ?_ | (refine below_thru ?_ (by assumption) (by first | omega | (simp; done) | (simp; omega))) | refine below_drewN ?_ _)))).mono ?_
          rintro e w2 ⟨rfl, hb2⟩
          obtain ⟨hc2, hf2⟩ := bcell hb2; have hz2 := hb2.size; (try simp at hz2)
          have hl2 : w1.heap.size < w2.heap.size := by omega
          go_wp2_with fail
          refine (Awake_any _).mono ?_
          rintro e w4 ⟨rfl, hb4⟩
          go_wp2
          go_ret
          exact ⟨rfl, (by repeat (first | exact Below.refl _ _ | assumption | (refine Below.setCell ?_ (by first | omega | (simp; done) | (simp; omega)) _) | (refine Below.alloc ?_ (by first | omega | (simp; done) | (simp; omega)) _) | refine Below.drew ?_ | (refine below_thru ?_ (by assumption) (by first | omega | (simp; done) | (simp; omega))) | refine below_drewN ?_ _))⟩
      · have h9' : (e1 != 9) = true := by rw [bne_iff_ne]; exact h9
        clear kn1 kn2 hE1 h9
        rcases hc with ⟨hlt, rfl, rfl⟩ | ⟨rfl, rfl, rfl⟩ | ⟨hlt, rfl, rfl⟩
        all_goals
          go_enter Tryz.func15, Tryz.ntmps15
          go_wp2_with fail
          go_quiet (fail)
          go_wp2_with fail
          refine (HS1.out _ (Hg.out.grow (by repeat (first | exact Below.refl _ _ | assumption | (refine Below.setCell ?_ (by first | omega | (simp; done) | (simp; omega)) _) | (refine Below.alloc ?_ (by first | omega | (simp; done) | (simp; omega)) _) | refine Below.drew ?_ | (refine below_thru ?_ (by assumption) (by first | omega | (simp; done) | (simp; omega))) | refine below_drewN ?_ _)))).mono ?_
          rintro e w1 ⟨rfl, hb1⟩
          obtain ⟨hc1, hf1⟩ := bcell hb1; have hz1 := hb1.size; (try simp at hz1)
          have hl0 : w.heap.size < w1.heap.size := by omega
          go_wp2_with fail
          refine (HS2.out _ (Hg.out.grow (by repeat (first | exact Below.refl _ _ | assumption | (refine Below.setCell ?_ (by first | omega | (simp; done) | (simp; omega)) _) | (refine Below.alloc ?_ (by first | omega | (simp; done) | (simp; omega)) _) | refine Below.drew ?_ | (refine below_thru ?_ (by assumption) (by first | omega | (simp; done) | (simp; omega))) | refine below_drewN ?_ _)))).mono ?_
          rintro e w2 ⟨rfl, hb2⟩
          obtain ⟨hc2, hf2⟩ := bcell hb2; have hz2 := hb2.size; (try simp at hz2)
          have hl2 : w1.heap.size < w2.heap.size := by omega
          go_wp2_with fail
          refine (Awake_any _).mono ?_
          rintro e w4 ⟨rfl, hb4⟩
          go_wp2
          go_ret
          exact ⟨rfl, (by repeat (first | exact Below.refl _ _ | assumption | (refine Below.setCell ?_ (by first | omega | (simp; done) | (simp; omega)) _) | (refine Below.alloc ?_ (by first | omega | (simp; done) | (simp; omega)) _) | refine Below.drew ?_ | (refine below_thru ?_ (by assumption) (by first | omega | (simp; done) | (simp; omega))) | refine below_drewN ?_ _))⟩
  rcases Int.lt_trichotomy x1 x2 with h | h | h
  · exact main x1 x2 (by omega) (.inl ⟨h, rfl, rfl⟩)
  · exact main x1 x1 (Int.le_refl _) (.inr (.inl ⟨h, rfl, rfl⟩))
  · exact main x2 x1 (by omega) (.inr (.inr ⟨h, rfl, rfl⟩))
end Go.Proofs.YtncidhoojgncgaaGreat
