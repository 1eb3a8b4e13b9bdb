/- Fit, whole. -/
import Derived.Test.YtncidhoojgncgaaGreatTdFitX
import Derived.Laws.EntriesVeiled
namespace Go.Proofs.YtncidhoojgncgaaGreat
open Go.RowKit
set_option linter.unusedSimpArgs false
set_option linter.unusedVariables false

/-- fitted behind the checks of Fit. -/
theorem fittedOk_any (g : Gg) (d a : Int) (A : Option Addr) (n c : Nat) (l : List Sp) (w : World) (hg : g.At w w.heap.size) (hl : LvAt w w.heap.size A n l) (h : (firstF (fitL g d a n l)).e = 0) :
    Calls Tryz.prog 103 #[g.v, .int .i64 d, .int .i64 a, .slice A n c] w fun e w' => e = .returned (fitFold g d.toNat a l g.rs).v ∧ Below w.heap.size w w' := by
  obtain ⟨h1, h2, h3, h4, h5, h6⟩ := fitL_zero g d a n l hl.len h
  have hok := gaugeF_zero g w w.heap.size hg h1
  obtain ⟨k, rfl⟩ : ∃ k : Nat, d = k := ⟨d.toNat, by omega⟩
  rw [Int.toNat_natCast]
  rcases Nat.eq_zero_or_pos n with h0 | h0
  · have hl0 : l = [] := List.eq_nil_of_length_eq_zero (by have := hl.len; omega)
    subst hl0
    rw [h0]
    exact fitted0_any g k a A c w hg (by omega)
  · have ha : 0 ≤ a ∧ a ≤ 200000 := by
      rcases h5 with h5 | h5
      · omega
      · exact h5
    exact fitted_any g k a A n c l w hg hl hok (by omega) ha.1 ha.2 h6

set_option maxRecDepth 100000 in
set_option maxHeartbeats 4000000 in
theorem Fit_any (g : Gg) (d a : Int) (A : Option Addr) (n c : Nat) (l : List Sp) (w : World) (hg : g.At w w.heap.size) (hl : LvAt w w.heap.size A n l) :
    Calls Tryz.prog 45 #[g.v, .int .i64 d, .int .i64 a, .slice A n c] w fun e w' => e = .returned (.tuple #[(fitR g d a n l).1.v, .int .i64 (fitR g d a n l).2]) ∧ Below w.heap.size w w' := by
  have Hg := Lib.hid hg; clear hg
  have Hl := Lib.hid hl; clear hl
  have HGood := Lib.hid (fun W b bd ba bl bf (h : g.Box W b) h1 h2 h3 h4 h5 => fitC_good g d a A n c l b bd ba bl bf W h h1 h2 h3 h4 h5)
  have HF := Lib.hid (fun W h1 h2 h3 => fittedOk_any g d a A n c l W h1 h2 h3)
  have hfin : fitR g d a n l = if (firstF (fitL g d a n l)).e = 0 then (if (fitFold g d.toNat a l g.rs).emptyB = true then (⟨0, 0⟩, 9) else (fitFold g d.toNat a l g.rs, 0)) else (⟨0, 0⟩, (firstF (fitL g d a n l)).e) := rfl
  have Hfin := Lib.hid hfin; clear hfin
  go_enter Tryz.func45, Tryz.ntmps45
  go_wp2_with fail
  refine (first_any _ (w.heap.size + 1 + 1 + 1 + 1 + 1 + 1) 0 5 (fitC g d a n l (.pointer (some ⟨w.heap.size, 0, none⟩)) (.pointer (some ⟨w.heap.size + 1, 0, none⟩)) (.pointer (some ⟨w.heap.size + 1 + 1, 0, none⟩)) (.pointer (some ⟨w.heap.size + 1 + 1 + 1, 0, none⟩)) (.pointer (some ⟨w.heap.size + 1 + 1 + 1 + 1 + 1, 0, none⟩))) rfl (by omega) (by first | (simp; done) | (simp; omega) | omega) ?_ (HGood.out _ _ _ _ _ _ ⟨?_, ?_⟩ ?_ ?_ ?_ ?_ ?_) (fitC_plain g d a n l _ _ _ _ _)).mono ?_
  · intro k c hk
    match k, hk with
    | 0, hk => cases hk; exact (Blk.new' _ _ _ (by simp)).cell 0
    | 1, hk => cases hk; exact (Blk.new' _ _ _ (by simp)).cell 1
    | 2, hk => cases hk; exact (Blk.new' _ _ _ (by simp)).cell 2
    | 3, hk => cases hk; exact (Blk.new' _ _ _ (by simp)).cell 3
    | 4, hk => cases hk; exact (Blk.new' _ _ _ (by simp)).cell 4
    | k + 5, hk => simp [fitC] at hk
  · exact ((((((Blk.new w _ _).alloc _).alloc _).alloc _).alloc _).alloc _).alloc _
  · exact Hg.out.grow (by repeat (first | exact Below.refl _ _ | assumption | (refine Below.setCell ?_ (by first | omega | (simp; done) | (simp; omega)) _) | (refine Below.alloc ?_ (by first | omega | (simp; done) | (simp; omega)) _) | refine Below.drew ?_ | (refine below_thru ?_ (by assumption) (by first | omega | (simp; done) | (simp; omega))) | refine below_drewN ?_ _))
  · exact (((((Blk.new' (w.alloc _) _ _ (by simp)).alloc _).alloc _).alloc _).alloc _).alloc _
  · exact ((((Blk.new' ((w.alloc _).alloc _) _ _ (by simp)).alloc _).alloc _).alloc _).alloc _
  · exact (((Blk.new' (((w.alloc _).alloc _).alloc _) _ _ (by simp)).alloc _).alloc _).alloc _
  · exact (Blk.new' (((((w.alloc _).alloc _).alloc _).alloc _).alloc _) _ _ (by simp)).alloc _
  · exact Hl.out.grow (by repeat (first | exact Below.refl _ _ | assumption | (refine Below.setCell ?_ (by first | omega | (simp; done) | (simp; omega)) _) | (refine Below.alloc ?_ (by first | omega | (simp; done) | (simp; omega)) _) | refine Below.drew ?_ | (refine below_thru ?_ (by assumption) (by first | omega | (simp; done) | (simp; omega))) | refine below_drewN ?_ _))
  · rw [fitC_r]
    rintro e w1 ⟨rfl, hb1⟩
    have hfin := Hfin.out
    generalize firstF (fitL g d a n l) = f at *
    obtain ⟨p, x, er⟩ := f
    simp only at hfin HF
    clear Hfin HGood
    obtain ⟨hc1, hf1⟩ := bcell hb1; have hz1 := hb1.size; (try simp at hz1)
    have hl0 : w.heap.size < w1.heap.size := by omega
    have hl1 : w.heap.size + 1 < w1.heap.size := by omega
    have hl2 : w.heap.size + 1 + 1 < w1.heap.size := by omega
    have hl3 : w.heap.size + 1 + 1 + 1 < w1.heap.size := by omega
    have hl4 : w.heap.size + 1 + 1 + 1 + 1 < w1.heap.size := by omega
    by_cases hc : er = 0
    · subst hc
      rw [if_pos rfl] at hfin
      generalize fitFold g d.toNat a l g.rs = s at *
      obtain ⟨lo, hi⟩ := s
      have hE := fun W => empty_any ⟨lo, hi⟩ W
      cases he : Sp.emptyB ⟨lo, hi⟩
      · rw [he] at hE hfin
        have Hf : Hid (fitR g d a n l = (⟨lo, hi⟩, 0)) := by rw [hfin]; rfl
        have HE := Lib.hid hE
        clear hE hfin he
        go_wp2_with fail
        refine (HF.out _ (Hg.out.grow (by repeat (first | exact Below.refl _ _ | assumption | (refine Below.setCell ?_ (by first | omega | (simp; done) | (simp; omega)) _) | (refine Below.alloc ?_ (by first | omega | (simp; done) | (simp; omega)) _) | refine Below.drew ?_ | (refine below_thru ?_ (by assumption) (by first | omega | (simp; done) | (simp; omega))) | refine below_drewN ?_ _))) (Hl.out.grow (by repeat (first | exact Below.refl _ _ | assumption | (refine Below.setCell ?_ (by first | omega | (simp; done) | (simp; omega)) _) | (refine Below.alloc ?_ (by first | omega | (simp; done) | (simp; omega)) _) | refine Below.drew ?_ | (refine below_thru ?_ (by assumption) (by first | omega | (simp; done) | (simp; omega))) | refine below_drewN ?_ _))) trivial).mono ?_
        rintro e w2 ⟨rfl, hb2⟩
        obtain ⟨hc2, hf2⟩ := bcell hb2; have hz2 := hb2.size; (try simp at hz2)
        have hl5 : w.heap.size + 1 + 1 + 1 + 1 < w2.heap.size := by omega
        have hl6 : w.heap.size + 1 + 1 + 1 + 1 < w1.heap.size + 1 := by omega
        go_wp2_with fail
        refine (HE.out _).mono ?_
        rintro e w3 ⟨rfl, hb3⟩
        obtain ⟨hc3, hf3⟩ := bcell hb3; have hz3 := hb3.size; (try simp at hz3)
        have hl7 : w.heap.size + 1 + 1 + 1 + 1 < w3.heap.size := by omega
        have hl8 : w.heap.size + 1 + 1 + 1 + 1 < w2.heap.size + 1 := by omega
        have hl9 : w2.heap.size < w3.heap.size := by omega
        go_wp2
        exact bodyPost_ret (v := .tuple #[Sp.v ⟨lo, hi⟩, .int .i64 0]) (by simp [results, Tryz.results45, go_sem, hc1, hc2, hc3, hl4, hl5, hl6, hl7, hl8] <;> omega) rfl ⟨by rw [Hf.out], (by repeat (first | exact Below.refl _ _ | assumption | (refine Below.setCell ?_ (by first | omega | (simp; done) | (simp; omega)) _) | (refine Below.alloc ?_ (by first | omega | (simp; done) | (simp; omega)) _) | refine Below.drew ?_ | (refine below_thru ?_ (by assumption) (by first | omega | (simp; done) | (simp; omega))) | refine below_drewN ?_ _))⟩
      · rw [he] at hE hfin
        have Hf : Hid (fitR g d a n l = (⟨0, 0⟩, 9)) := by rw [hfin]; rfl
        have HE := Lib.hid hE
        clear hE hfin he
        go_wp2_with fail
        refine (HF.out _ (Hg.out.grow (by repeat (first | exact Below.refl _ _ | assumption | (refine Below.setCell ?_ (by first | omega | (simp; done) | (simp; omega)) _) | (refine Below.alloc ?_ (by first | omega | (simp; done) | (simp; omega)) _) | refine Below.drew ?_ | (refine below_thru ?_ (by assumption) (by first | omega | (simp; done) | (simp; omega))) | refine below_drewN ?_ _))) (Hl.out.grow (by repeat (first | exact Below.refl _ _ | assumption | (refine Below.setCell ?_ (by first | omega | (simp; done) | (simp; omega)) _) | (refine Below.alloc ?_ (by first | omega | (simp; done) | (simp; omega)) _) | refine Below.drew ?_ | (refine below_thru ?_ (by assumption) (by first | omega | (simp; done) | (simp; omega))) | refine below_drewN ?_ _))) trivial).mono ?_
        rintro e w2 ⟨rfl, hb2⟩
        obtain ⟨hc2, hf2⟩ := bcell hb2; have hz2 := hb2.size; (try simp at hz2)
        have hl5 : w.heap.size + 1 + 1 + 1 + 1 < w2.heap.size := by omega
        have hl6 : w.heap.size + 1 + 1 + 1 + 1 < w1.heap.size + 1 := by omega
        go_wp2_with fail
        refine (HE.out _).mono ?_
        rintro e w3 ⟨rfl, hb3⟩
        obtain ⟨hc3, hf3⟩ := bcell hb3; have hz3 := hb3.size; (try simp at hz3)
        have hl7 : w.heap.size + 1 + 1 + 1 + 1 < w3.heap.size := by omega
        have hl8 : w.heap.size + 1 + 1 + 1 + 1 < w2.heap.size + 1 := by omega
        go_wp2
        exact bodyPost_ret (v := .tuple #[Sp.v ⟨0, 0⟩, .int .i64 9]) (by simp [results, Tryz.results45, go_sem, hc1, hc2, hc3, hl4, hl5, hl6, hl7, hl8] <;> omega) rfl ⟨by rw [Hf.out], (by repeat (first | exact Below.refl _ _ | assumption | (refine Below.setCell ?_ (by first | omega | (simp; done) | (simp; omega)) _) | (refine Below.alloc ?_ (by first | omega | (simp; done) | (simp; omega)) _) | refine Below.drew ?_ | (refine below_thru ?_ (by assumption) (by first | omega | (simp; done) | (simp; omega))) | refine below_drewN ?_ _))⟩
    · have hc' : (er != 0) = true := by simpa using hc
      have Hf : Hid (fitR g d a n l = (⟨0, 0⟩, er)) := by rw [hfin, if_neg hc]; rfl
      clear hfin HF
      go_wp2_with fail
      go_region
      all_goals go_wp2
      all_goals exact bodyPost_ret (v := .tuple #[Sp.v ⟨0, 0⟩, .int .i64 er]) (by simp [results, Tryz.results45, go_sem, hc1, hl4] <;> omega) rfl ⟨by rw [Hf.out], (by repeat (first | exact Below.refl _ _ | assumption | (refine Below.setCell ?_ (by first | omega | (simp; done) | (simp; omega)) _) | (refine Below.alloc ?_ (by first | omega | (simp; done) | (simp; omega)) _) | refine Below.drew ?_ | (refine below_thru ?_ (by assumption) (by first | omega | (simp; done) | (simp; omega))) | refine below_drewN ?_ _))⟩
end Go.Proofs.YtncidhoojgncgaaGreat
