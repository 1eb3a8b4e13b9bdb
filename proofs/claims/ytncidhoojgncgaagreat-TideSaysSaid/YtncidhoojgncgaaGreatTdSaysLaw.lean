/- TideSays: CheckGauge and Says return what the reference returns. -/
import Derived.Test.YtncidhoojgncgaaGreatRfSays
import Derived.Test.YtncidhoojgncgaaGreatTdCheck
namespace Go.Proofs.YtncidhoojgncgaaGreat
open Go.RowKit
set_option linter.unusedSimpArgs false
set_option linter.unusedVariables false

set_option maxHeartbeats 2000000 in
theorem rSays_any (g : Gg) (x y : Int) (w : World) (hg : g.At w w.heap.size) :
    Calls Tryz.prog 38 #[g.v, .int .i64 x, .int .i64 y] w fun e w' => e = .returned (.tuple #[(saysF g x y).1.v, .int .i64 (saysF g x y).2]) ∧ Below w.heap.size w w' := by
  have HC := Lib.hid (fun W h => rCheckGauge_any g W h)
  have hz := gaugeF_zero g w w.heap.size hg
  have Hg := Lib.hid hg; clear hg
  have hfin : saysF g x y = if (gaugeF g).e = 0 then (if (tickB x && tickB y) = true then saidF g x y else (⟨0, 0⟩, 7)) else (⟨0, 0⟩, (gaugeF g).e) := rfl
  generalize saysF g x y = s at *
  generalize gaugeF g = f at *
  obtain ⟨p, a, c⟩ := f
  simp only at hz hfin
  have hT1 := rtick_is x
  have hT2 := rtick_is y
  by_cases hc : c = 0
  · subst hc
    have hok := hz rfl
    rw [if_pos rfl] at hfin
    clear hz
    cases e1 : tickB x
    · have Hf : Hid (s = (⟨0, 0⟩, 7)) := by rw [hfin, e1]; rfl
      have HT := Lib.hid (hT1 _ e1)
      clear hfin hT1 hT2 e1 hok
      go_enter Tryz.func38, Tryz.ntmps38
      go_wp2_with fail
      refine (HC.out _ (Hg.out.grow (by repeat (first | exact Below.refl _ _ | assumption | (refine Below.setCell ?_ (by first | omega | (simp; done) | (simp; omega)) _) | (refine Below.alloc ?_ (by first | omega | (simp; done) | (simp; omega)) _) | refine Below.drew ?_ | (refine below_thru ?_ (by assumption) (by first | omega | (simp; done) | (simp; omega))) | refine below_drewN ?_ _)))).mono ?_
      rintro e w1 ⟨rfl, hb1⟩
      unfold tri
      obtain ⟨hc1, hf1⟩ := bcell hb1; have hz1 := hb1.size; (try simp at hz1)
      have hl0 : w.heap.size + 1 < w1.heap.size := by omega
      go_wp2_with fail
      refine (HT.out _).mono ?_
      rintro e w2 ⟨rfl, rfl⟩
      go_wp2
      exact bodyPost_ret (v := .tuple #[Sp.v ⟨0, 0⟩, .int .i64 7]) (by simp [results, Tryz.results38, go_sem, hc1, hl0] <;> omega) rfl ⟨by rw [Hf.out], (by repeat (first | exact Below.refl _ _ | assumption | (refine Below.setCell ?_ (by first | omega | (simp; done) | (simp; omega)) _) | (refine Below.alloc ?_ (by first | omega | (simp; done) | (simp; omega)) _) | refine Below.drew ?_ | (refine below_thru ?_ (by assumption) (by first | omega | (simp; done) | (simp; omega))) | refine below_drewN ?_ _))⟩
    · have HT := Lib.hid (hT1 _ e1)
      cases e2 : tickB y
      · have Hf : Hid (s = (⟨0, 0⟩, 7)) := by rw [hfin, e1, e2]; rfl
        have HT2 := Lib.hid (hT2 _ e2)
        clear hfin hT1 hT2 e1 e2 hok
        go_enter Tryz.func38, Tryz.ntmps38
        go_wp2_with fail
        refine (HC.out _ (Hg.out.grow (by repeat (first | exact Below.refl _ _ | assumption | (refine Below.setCell ?_ (by first | omega | (simp; done) | (simp; omega)) _) | (refine Below.alloc ?_ (by first | omega | (simp; done) | (simp; omega)) _) | refine Below.drew ?_ | (refine below_thru ?_ (by assumption) (by first | omega | (simp; done) | (simp; omega))) | refine below_drewN ?_ _)))).mono ?_
        rintro e w1 ⟨rfl, hb1⟩
        unfold tri
        obtain ⟨hc1, hf1⟩ := bcell hb1; have hz1 := hb1.size; (try simp at hz1)
        have hl0 : w.heap.size + 1 < w1.heap.size := by omega
        go_wp2_with fail
        refine (HT.out _).mono ?_
        rintro e w2 ⟨rfl, rfl⟩
        go_wp2_with fail
        refine (HT2.out _).mono ?_
        rintro e w2 ⟨rfl, rfl⟩
        go_wp2
        exact bodyPost_ret (v := .tuple #[Sp.v ⟨0, 0⟩, .int .i64 7]) (by simp [results, Tryz.results38, go_sem, hc1, hl0] <;> omega) rfl ⟨by rw [Hf.out], (by repeat (first | exact Below.refl _ _ | assumption | (refine Below.setCell ?_ (by first | omega | (simp; done) | (simp; omega)) _) | (refine Below.alloc ?_ (by first | omega | (simp; done) | (simp; omega)) _) | refine Below.drew ?_ | (refine below_thru ?_ (by assumption) (by first | omega | (simp; done) | (simp; omega))) | refine below_drewN ?_ _))⟩
      · have HT2 := Lib.hid (hT2 _ e2)
        have Hf : Hid (s = saidF g x y) := by rw [hfin, e1, e2]; rfl
        have ht : 0 ≤ x ∧ x ≤ 200000 := by simpa [tickB, betw] using e1
        have HS := Lib.hid (fun W h => rsays_any g x y W h hok ht.1 ht.2)
        clear hfin hT1 hT2 e1 e2 hok ht
        go_enter Tryz.func38, Tryz.ntmps38
        go_wp2_with fail
        refine (HC.out _ (Hg.out.grow (by repeat (first | exact Below.refl _ _ | assumption | (refine Below.setCell ?_ (by first | omega | (simp; done) | (simp; omega)) _) | (refine Below.alloc ?_ (by first | omega | (simp; done) | (simp; omega)) _) | refine Below.drew ?_ | (refine below_thru ?_ (by assumption) (by first | omega | (simp; done) | (simp; omega))) | refine below_drewN ?_ _)))).mono ?_
        rintro e w1 ⟨rfl, hb1⟩
        unfold tri
        obtain ⟨hc1, hf1⟩ := bcell hb1; have hz1 := hb1.size; (try simp at hz1)
        have hl0 : w.heap.size + 1 < w1.heap.size := by omega
        go_wp2_with fail
        refine (HT.out _).mono ?_
        rintro e w2 ⟨rfl, rfl⟩
        go_wp2_with fail
        refine (HT2.out _).mono ?_
        rintro e w2 ⟨rfl, rfl⟩
        go_wp2_with fail
        refine (HS.out _ (Hg.out.grow (by repeat (first | exact Below.refl _ _ | assumption | (refine Below.setCell ?_ (by first | omega | (simp; done) | (simp; omega)) _) | (refine Below.alloc ?_ (by first | omega | (simp; done) | (simp; omega)) _) | refine Below.drew ?_ | (refine below_thru ?_ (by assumption) (by first | omega | (simp; done) | (simp; omega))) | refine below_drewN ?_ _)))).mono ?_
        rintro e w2 ⟨rfl, hb2⟩
        generalize hs : saidF g x y = q at *
        have Hs' := Lib.hid hs; clear hs
        obtain ⟨⟨lo, hi⟩, er⟩ := q
        obtain ⟨hc2, hf2⟩ := bcell hb2; have hz2 := hb2.size; (try simp at hz2)
        have hl4 : w.heap.size + 1 < w2.heap.size := by omega
        go_wp2
        exact bodyPost_ret (v := .tuple #[Sp.v ⟨lo, hi⟩, .int .i64 er]) (by simp [results, Tryz.results38, go_sem, hc1, hc2, hl0, hl4] <;> omega) rfl ⟨by rw [Hf.out], (by repeat (first | exact Below.refl _ _ | assumption | (refine Below.setCell ?_ (by first | omega | (simp; done) | (simp; omega)) _) | (refine Below.alloc ?_ (by first | omega | (simp; done) | (simp; omega)) _) | refine Below.drew ?_ | (refine below_thru ?_ (by assumption) (by first | omega | (simp; done) | (simp; omega))) | refine below_drewN ?_ _))⟩
  · have hc' : (c == 0) = false := by simpa using hc
    have hc'' : (c != 0) = true := by simpa using hc
    have Hf : Hid (s = (⟨0, 0⟩, c)) := by rw [hfin, if_neg hc]; rfl
    clear hfin hz hT1 hT2 hc
    go_enter Tryz.func38, Tryz.ntmps38
    go_wp2_with fail
    refine (HC.out _ (Hg.out.grow (by repeat (first | exact Below.refl _ _ | assumption | (refine Below.setCell ?_ (by first | omega | (simp; done) | (simp; omega)) _) | (refine Below.alloc ?_ (by first | omega | (simp; done) | (simp; omega)) _) | refine Below.drew ?_ | (refine below_thru ?_ (by assumption) (by first | omega | (simp; done) | (simp; omega))) | refine below_drewN ?_ _)))).mono ?_
    rintro e w1 ⟨rfl, hb1⟩
    unfold tri
    obtain ⟨hc1, hf1⟩ := bcell hb1; have hz1 := hb1.size; (try simp at hz1)
    have hl0 : w.heap.size + 1 < w1.heap.size := by omega
    go_wp2
    exact bodyPost_ret (v := .tuple #[Sp.v ⟨0, 0⟩, .int .i64 c]) (by simp [results, Tryz.results38, go_sem, hc1, hl0] <;> omega) rfl ⟨by rw [Hf.out], (by repeat (first | exact Below.refl _ _ | assumption | (refine Below.setCell ?_ (by first | omega | (simp; done) | (simp; omega)) _) | (refine Below.alloc ?_ (by first | omega | (simp; done) | (simp; omega)) _) | refine Below.drew ?_ | (refine below_thru ?_ (by assumption) (by first | omega | (simp; done) | (simp; omega))) | refine below_drewN ?_ _))⟩

set_option maxHeartbeats 4000000 in
theorem TideSays_any (g : Gg) (x y : Int) (w : World) (hg : g.At w w.heap.size) :
    Calls Tryz.prog 6 #[g.v, .int .i64 x, .int .i64 y] w fun e w' => e = .returned (.bool true) ∧ Below w.heap.size w w' := by
  have H1 := Lib.hid (fun W h => CheckGauge_any g W h)
  have H2 := Lib.hid (fun W h => rCheckGauge_any g W h)
  have H3 := Lib.hid (fun W h => Says_any g x y W h)
  have H4 := Lib.hid (fun W h => rSays_any g x y W h)
  have Hg := Lib.hid hg; clear hg
  generalize gaugeF g = f at *
  generalize saysF g x y = s at *
  obtain ⟨p, a, c⟩ := f
  obtain ⟨⟨lo, hi⟩, er⟩ := s
  unfold tri at H2
  go_enter Tryz.func6, Tryz.ntmps6
  go_wp2_with fail
  refine (H1.out _ (Hg.out.grow (by repeat (first | exact Below.refl _ _ | assumption | (refine Below.setCell ?_ (by first | omega | (simp; done) | (simp; omega)) _) | (refine Below.alloc ?_ (by first | omega | (simp; done) | (simp; omega)) _) | refine Below.drew ?_ | (refine below_thru ?_ (by assumption) (by first | omega | (simp; done) | (simp; omega))) | refine below_drewN ?_ _)))).mono ?_
  rintro e w1 ⟨rfl, hb1⟩
  obtain ⟨hc1, hf1⟩ := bcell hb1; have hz1 := hb1.size; (try simp at hz1)
  have hl1 : w.heap.size < w1.heap.size := by omega
  go_wp2_with fail
  refine (H2.out _ (Hg.out.grow (by repeat (first | exact Below.refl _ _ | assumption | (refine Below.setCell ?_ (by first | omega | (simp; done) | (simp; omega)) _) | (refine Below.alloc ?_ (by first | omega | (simp; done) | (simp; omega)) _) | refine Below.drew ?_ | (refine below_thru ?_ (by assumption) (by first | omega | (simp; done) | (simp; omega))) | refine below_drewN ?_ _)))).mono ?_
  rintro e w2 ⟨rfl, hb2⟩
  obtain ⟨hc2, hf2⟩ := bcell hb2; have hz2 := hb2.size; (try simp at hz2)
  have hl2 : w.heap.size < w2.heap.size := by omega
  go_wp2_with fail
  refine (H3.out _ (Hg.out.grow (by repeat (first | exact Below.refl _ _ | assumption | (refine Below.setCell ?_ (by first | omega | (simp; done) | (simp; omega)) _) | (refine Below.alloc ?_ (by first | omega | (simp; done) | (simp; omega)) _) | refine Below.drew ?_ | (refine below_thru ?_ (by assumption) (by first | omega | (simp; done) | (simp; omega))) | refine below_drewN ?_ _)))).mono ?_
  rintro e w3 ⟨rfl, hb3⟩
  obtain ⟨hc3, hf3⟩ := bcell hb3; have hz3 := hb3.size; (try simp at hz3)
  have hl3 : w.heap.size < w3.heap.size := by omega
  go_wp2_with fail
  refine (H4.out _ (Hg.out.grow (by repeat (first | exact Below.refl _ _ | assumption | (refine Below.setCell ?_ (by first | omega | (simp; done) | (simp; omega)) _) | (refine Below.alloc ?_ (by first | omega | (simp; done) | (simp; omega)) _) | refine Below.drew ?_ | (refine below_thru ?_ (by assumption) (by first | omega | (simp; done) | (simp; omega))) | refine below_drewN ?_ _)))).mono ?_
  rintro e w4 ⟨rfl, hb4⟩
  obtain ⟨hc4, hf4⟩ := bcell hb4; have hz4 := hb4.size; (try simp at hz4)
  have hl4 : w.heap.size < w4.heap.size := by omega
  have hl34 : w3.heap.size < w4.heap.size := by omega
  have hl24 : w2.heap.size < w4.heap.size := by omega
  go_wp2_with fail
  refine (Awake_any _).mono ?_
  rintro e w5 ⟨rfl, hb5⟩
  have hz5' := hb5.size
  simp at hz5'
  go_wp2
  go_ret
  exact ⟨rfl, (by repeat (first | exact Below.refl _ _ | assumption | (refine Below.setCell ?_ (by first | omega | (simp; done) | (simp; omega)) _) | (refine Below.alloc ?_ (by first | omega | (simp; done) | (simp; omega)) _) | refine Below.drew ?_ | (refine below_thru ?_ (by assumption) (by first | omega | (simp; done) | (simp; omega))) | refine below_drewN ?_ _))⟩
end Go.Proofs.YtncidhoojgncgaaGreat
