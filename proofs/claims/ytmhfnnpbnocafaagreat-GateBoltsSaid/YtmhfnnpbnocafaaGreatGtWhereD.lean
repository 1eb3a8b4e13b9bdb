/- Bolt. -/
import Derived.Test.YtmhfnnpbnocafaaGreatGtWhereC
namespace Go.Proofs.YtmhfnnpbnocafaaGreat
open Go.RowKit
set_option linter.unusedSimpArgs false
set_option linter.unusedVariables false

set_option maxRecDepth 100000 in
set_option maxHeartbeats 4000000 in
theorem Bolt_any (g : Ga) (s : Gs) (on : Bool) (rs : List Int) (rA : Option Addr) (rn rc : Nat) (w : World) (hg : g.At w w.heap.size) (hr : Tab w w.heap.size rA rn 1 (rs.map fun i => [Value.int .i64 i])) :
    Calls Tryz.prog 12 #[g.v, s.v, .bool on, .slice rA rn rc] w fun e w' => e = .returned (boltV (boltF g s on rs rn)) ∧ Below w.heap.size w w' := by
  have Hg := Lib.hid hg
  have HS := Lib.hid (fun (W : World) (hW : Below w.heap.size w W) => Sure_any g rs rA rn rc W (hg.grow hW) (hr.grow hW))
  have hGood : ∀ (W : World) (b0 b1 b2 : Nat), g.Box W b0 → Blk W b1 27 #[.int .i64 s.pos, .int .i64 s.charge, .bool s.bolted] → Blk W b2 4 #[.bool on] → Good W [⟨32, #[.pointer (some ⟨b0, 0, none⟩), .pointer (some ⟨b1, 0, none⟩)], stateFt g s⟩, ⟨34, #[.pointer (some ⟨b2, 0, none⟩), .pointer (some ⟨b1, 0, none⟩)], need (!on || !s.bolted) 5⟩, ⟨36, #[.pointer (some ⟨b2, 0, none⟩), .pointer (some ⟨b1, 0, none⟩)], need (on || s.bolted) 4⟩] := by
    intro W b0 b1 b2 h0 h1 h2 k x hk _ W' hW
    match k, hk with
    | 0, hk => cases hk; exact bolt1_any g s b0 b1 W' (h0.grow hW) (h1.thru hW h1.lt)
    | 1, hk => cases hk; exact bolt2_any on s b2 b1 W' (h2.thru hW h2.lt) (h1.thru hW h1.lt)
    | 2, hk => cases hk; exact bolt3_any on s b2 b1 W' (h2.thru hW h2.lt) (h1.thru hW h1.lt)
    | k + 3, hk => simp at hk
  have HGood := Lib.hid hGood; clear hGood hg hr
  have HF := Lib.hid (show firstF [stateFt g s, need (!on || !s.bolted) 5, need (on || s.bolted) 4] = boltFt g s on from rfl)
  go_enter Tryz.func12, Tryz.ntmps12
  go_wp2_with fail
  refine (first_any _ (w.heap.size + 1 + 1 + 1 + 1) 0 3 [⟨32, #[.pointer (some ⟨w.heap.size, 0, none⟩), .pointer (some ⟨w.heap.size + 1, 0, none⟩)], stateFt g s⟩, ⟨34, #[.pointer (some ⟨w.heap.size + 1 + 1, 0, none⟩), .pointer (some ⟨w.heap.size + 1, 0, none⟩)], need (!on || !s.bolted) 5⟩, ⟨36, #[.pointer (some ⟨w.heap.size + 1 + 1, 0, none⟩), .pointer (some ⟨w.heap.size + 1, 0, none⟩)], need (on || s.bolted) 4⟩] rfl (by omega) (by simp) ?_ (HGood.out _ _ _ _ ?_ ?_ ?_) ?_).mono ?_
  · intro k c hk
    match k, hk with
    | 0, hk => cases hk; exact (Blk.new' _ _ _ (by simp)).cell 0
    | 1, hk => cases hk; exact (Blk.new' _ _ _ (by simp)).cell 1
    | 2, hk => cases hk; exact (Blk.new' _ _ _ (by simp)).cell 2
    | k + 3, hk => simp at hk
  · exact ⟨((((Blk.new w _ _).alloc _).alloc _).alloc _).alloc _, Hg.out.grow (by repeat (first | exact Below.refl _ _ | assumption | (refine Below.setCell ?_ (by first | omega | (simp; done) | (simp; omega)) _) | (refine Below.alloc ?_ (by first | omega | (simp; done) | (simp; omega)) _) | refine Below.drew ?_ | (refine below_thru ?_ (by assumption) (by first | omega | (simp; done) | (simp; omega))) | refine below_drewN ?_ _))⟩
  · exact (((Blk.new' (w.alloc _) _ _ (by simp)).alloc _).alloc _).alloc _
  · exact ((Blk.new' ((w.alloc _).alloc _) _ _ (by simp)).alloc _).alloc _
  · intro k c hk W
    match k, hk with
    | 0, hk => cases hk; show Sem.run Tryz.prog (callFunc _ _) W = _; kernel_rfl
    | 1, hk => cases hk; show Sem.run Tryz.prog (callFunc _ _) W = _; kernel_rfl
    | 2, hk => cases hk; show Sem.run Tryz.prog (callFunc _ _) W = _; kernel_rfl
    | k + 3, hk => simp at hk
  · rintro e w1 ⟨he, hb1⟩
    replace he : e = .returned (boltFt g s on).v := he
    subst he
    obtain ⟨hc1, hf1⟩ := bcell hb1; have hz1 := hb1.size; (try simp at hz1)
    have hB1 : Blk w1 w.heap.size 25 (grow g) := Blk.thru (by (repeat (first | assumption | exact Blk.new _ _ _ | (refine Blk.new' _ _ _ ?_; (simp; done)) | refine Blk.drew ?_ | refine Blk.alloc ?_ _ | (refine Blk.fars ?_ ?_ _ _; rotate_left; (dsimp only; omega)) | (refine Blk.far ?_ ?_ _; rotate_left; (first | (dsimp only; omega) | (simp; done) | (simp; omega) | omega))))) hb1 (by simp <;> omega)
    have hS1 : Blk w1 (w.heap.size + 1) 27 #[.int .i64 s.pos, .int .i64 s.charge, .bool s.bolted] := Blk.thru (by (repeat (first | assumption | exact Blk.new _ _ _ | (refine Blk.new' _ _ _ ?_; (simp; done)) | refine Blk.drew ?_ | refine Blk.alloc ?_ _ | (refine Blk.fars ?_ ?_ _ _; rotate_left; (dsimp only; omega)) | (refine Blk.far ?_ ?_ _; rotate_left; (first | (dsimp only; omega) | (simp; done) | (simp; omega) | omega))))) hb1 (by simp <;> omega)
    have hO1 : Blk w1 (w.heap.size + 1 + 1) 4 #[.bool on] := Blk.thru (by (repeat (first | assumption | exact Blk.new _ _ _ | (refine Blk.new' _ _ _ ?_; (simp; done)) | refine Blk.drew ?_ | refine Blk.alloc ?_ _ | (refine Blk.fars ?_ ?_ _ _; rotate_left; (dsimp only; omega)) | (refine Blk.far ?_ ?_ _; rotate_left; (first | (dsimp only; omega) | (simp; done) | (simp; omega) | omega))))) hb1 (by simp <;> omega)
    have hR1 : Blk w1 (w.heap.size + 1 + 1 + 1) 27 #[.int .i64 0, .int .i64 0, .bool false] := Blk.thru (by (repeat (first | assumption | exact Blk.new _ _ _ | (refine Blk.new' _ _ _ ?_; (simp; done)) | refine Blk.drew ?_ | refine Blk.alloc ?_ _ | (refine Blk.fars ?_ ?_ _ _; rotate_left; (dsimp only; omega)) | (refine Blk.far ?_ ?_ _; rotate_left; (first | (dsimp only; omega) | (simp; done) | (simp; omega) | omega))))) hb1 (by simp <;> omega)
    have hw1 : Below w.heap.size w w1 := (by repeat (first | exact Below.refl _ _ | assumption | (refine Below.setCell ?_ (by first | omega | (simp; done) | (simp; omega)) _) | (refine Below.alloc ?_ (by first | omega | (simp; done) | (simp; omega)) _) | refine Below.drew ?_ | (refine below_thru ?_ (by assumption) (by first | omega | (simp; done) | (simp; omega))) | refine below_drewN ?_ _))
    clear hb1 hc1 hf1
    obtain ⟨s0, s1, s2, s3⟩ := hS1.three
    obtain ⟨r0, r1, r2, r3⟩ := hR1.three
    have o0 := hO1.cell 0
    simp only [List.getElem?_toArray, List.getElem?_cons_zero] at o0
    have hl3 : w.heap.size + 1 + 1 + 1 < w1.heap.size := hR1.lt
    have hl2 : w.heap.size + 1 + 1 < w1.heap.size := by omega
    have hl1 : w.heap.size + 1 < w1.heap.size := by omega
    have hl0 : w.heap.size < w1.heap.size := by omega
    have s4 := hS1.frozen 0
    have s5 := hS1.frozen 1
    have s6 := hS1.frozen 2
    have r4 := hR1.frozen 0
    have r5 := hR1.frozen 1
    have r6 := hR1.frozen 2
    by_cases h0 : (boltFt g s on).e = 0
    · have q0 : ((boltFt g s on).e != 0) = false := by rw [bne_eq_false_iff_eq]; exact h0
      cases on
      · have Hv := Lib.hid (show boltF g s false rs rn = (⟨s.pos, s.charge, false⟩, 0) from (if_pos h0).trans (if_neg (by decide)))
        generalize boltFt g s false = F at *
        obtain ⟨Fp, Fa, Fe⟩ := F
        clear h0 HGood HF hB1 hS1 hO1 hR1
        go_wp2
        rw [Hv.out]
        exact bodyPost_ret (v := boltV (⟨s.pos, s.charge, false⟩, 0)) (by simp [results, Tryz.results12, go_sem, r0, r1, r2, hl3] <;> omega) rfl ⟨rfl, (by repeat (first | exact Below.refl _ _ | assumption | (refine Below.setCell ?_ (by first | omega | (simp; done) | (simp; omega)) _) | (refine Below.alloc ?_ (by first | omega | (simp; done) | (simp; omega)) _) | refine Below.drew ?_ | (refine below_thru ?_ (by assumption) (by first | omega | (simp; done) | (simp; omega))) | refine below_drewN ?_ _))⟩
      · by_cases h1 : (sureF g rs rn).2 = 0
        · have q1 : ((sureF g rs rn).2 == 0) = true := by rw [beq_iff_eq]; exact h1
          have q1' : ((sureF g rs rn).2 != 0) = false := by rw [bne_eq_false_iff_eq]; exact h1
          by_cases h2 : (sureF g rs rn).1 = 0
          · have Hv := Lib.hid (show boltF g s true rs rn = (⟨0, 0, false⟩, 9) from (if_pos h0).trans ((if_pos rfl).trans ((if_pos h1).trans (if_pos h2))))
            have q2 : ((sureF g rs rn).1 == 0) = true := by rw [beq_iff_eq]; exact h2
            generalize sureF g rs rn = su at *
            obtain ⟨sa, sb⟩ := su
            generalize boltFt g s true = F at *
            obtain ⟨Fp, Fa, Fe⟩ := F
            simp only at h1 h2
            subst h1 h2
            clear h0 HGood HF hS1 hO1 q1 q2 q1'
            go_wp2_with (with_reducible refine wpl_g (g := g) (b := w.heap.size) (t := 25) (by (repeat (first | assumption | exact Blk.new _ _ _ | (refine Blk.new' _ _ _ ?_; (simp; done)) | refine Blk.drew ?_ | refine Blk.alloc ?_ _ | (refine Blk.fars ?_ ?_ _ _; rotate_left; (dsimp only; omega)) | (refine Blk.far ?_ ?_ _; rotate_left; (first | (dsimp only; omega) | (simp; done) | (simp; omega) | omega))))) rfl rfl rfl ?_)
            refine (HS.out _ (by repeat (first | exact Below.refl _ _ | assumption | (refine Below.setCell ?_ (by first | omega | (simp; done) | (simp; omega)) _) | (refine Below.alloc ?_ (by first | omega | (simp; done) | (simp; omega)) _) | refine Below.drew ?_ | (refine below_thru ?_ (by assumption) (by first | omega | (simp; done) | (simp; omega))) | refine below_drewN ?_ _))).mono ?_
            rintro e w2 ⟨rfl, hb2⟩
            obtain ⟨hc2, hf2⟩ := bcell hb2; have hz2 := hb2.size; (try simp at hz2)
            have hR2 : Blk w2 (w.heap.size + 1 + 1 + 1) 27 #[.int .i64 0, .int .i64 0, .bool false] := Blk.thru (by (repeat (first | assumption | exact Blk.new _ _ _ | (refine Blk.new' _ _ _ ?_; (simp; done)) | refine Blk.drew ?_ | refine Blk.alloc ?_ _ | (refine Blk.fars ?_ ?_ _ _; rotate_left; (dsimp only; omega)) | (refine Blk.far ?_ ?_ _; rotate_left; (first | (dsimp only; omega) | (simp; done) | (simp; omega) | omega))))) hb2 (by simp <;> omega)
            obtain ⟨u0, u1, u2, u3⟩ := hR2.three
            have u4 := hR2.frozen 0
            have u5 := hR2.frozen 1
            have u6 := hR2.frozen 2
            have hm3 : w.heap.size + 1 + 1 + 1 < w2.heap.size := hR2.lt
            clear hc2 hf2 r0 r1 r2 r3 r4 r5 r6 hR1 hB1 s0 s1 s2 s3 s4 s5 s6 o0
            go_wp2
            rw [Hv.out]
            exact bodyPost_ret (v := boltV (⟨0, 0, false⟩, 9)) (by simp [results, Tryz.results12, go_sem, u0, u1, u2, hm3] <;> omega) rfl ⟨rfl, (by repeat (first | exact Below.refl _ _ | assumption | (refine Below.setCell ?_ (by first | omega | (simp; done) | (simp; omega)) _) | (refine Below.alloc ?_ (by first | omega | (simp; done) | (simp; omega)) _) | refine Below.drew ?_ | (refine below_thru ?_ (by assumption) (by first | omega | (simp; done) | (simp; omega))) | refine below_drewN ?_ _))⟩
          · have Hv := Lib.hid (show boltF g s true rs rn = (⟨s.pos, s.charge, true⟩, 0) from (if_pos h0).trans ((if_pos rfl).trans ((if_pos h1).trans (if_neg h2))))
            have q2 : ((sureF g rs rn).1 == 0) = false := by rw [beq_eq_false_iff_ne]; exact h2
            generalize sureF g rs rn = su at *
            obtain ⟨sa, sb⟩ := su
            generalize boltFt g s true = F at *
            obtain ⟨Fp, Fa, Fe⟩ := F
            simp only at h1 q2
            subst h1
            clear h0 HGood HF q1 q1' h2
            go_wp2_with (with_reducible refine wpl_g (g := g) (b := w.heap.size) (t := 25) (by (repeat (first | assumption | exact Blk.new _ _ _ | (refine Blk.new' _ _ _ ?_; (simp; done)) | refine Blk.drew ?_ | refine Blk.alloc ?_ _ | (refine Blk.fars ?_ ?_ _ _; rotate_left; (dsimp only; omega)) | (refine Blk.far ?_ ?_ _; rotate_left; (first | (dsimp only; omega) | (simp; done) | (simp; omega) | omega))))) rfl rfl rfl ?_)
            refine (HS.out _ (by repeat (first | exact Below.refl _ _ | assumption | (refine Below.setCell ?_ (by first | omega | (simp; done) | (simp; omega)) _) | (refine Below.alloc ?_ (by first | omega | (simp; done) | (simp; omega)) _) | refine Below.drew ?_ | (refine below_thru ?_ (by assumption) (by first | omega | (simp; done) | (simp; omega))) | refine below_drewN ?_ _))).mono ?_
            rintro e w2 ⟨rfl, hb2⟩
            obtain ⟨hc2, hf2⟩ := bcell hb2; have hz2 := hb2.size; (try simp at hz2)
            have hR2 : Blk w2 (w.heap.size + 1 + 1 + 1) 27 #[.int .i64 0, .int .i64 0, .bool false] := Blk.thru (by (repeat (first | assumption | exact Blk.new _ _ _ | (refine Blk.new' _ _ _ ?_; (simp; done)) | refine Blk.drew ?_ | refine Blk.alloc ?_ _ | (refine Blk.fars ?_ ?_ _ _; rotate_left; (dsimp only; omega)) | (refine Blk.far ?_ ?_ _; rotate_left; (first | (dsimp only; omega) | (simp; done) | (simp; omega) | omega))))) hb2 (by simp <;> omega)
            have hS2 : Blk w2 (w.heap.size + 1) 27 #[.int .i64 s.pos, .int .i64 s.charge, .bool s.bolted] := Blk.thru (by (repeat (first | assumption | exact Blk.new _ _ _ | (refine Blk.new' _ _ _ ?_; (simp; done)) | refine Blk.drew ?_ | refine Blk.alloc ?_ _ | (refine Blk.fars ?_ ?_ _ _; rotate_left; (dsimp only; omega)) | (refine Blk.far ?_ ?_ _; rotate_left; (first | (dsimp only; omega) | (simp; done) | (simp; omega) | omega))))) hb2 (by simp <;> omega)
            have hO2 : Blk w2 (w.heap.size + 1 + 1) 4 #[.bool true] := Blk.thru (by (repeat (first | assumption | exact Blk.new _ _ _ | (refine Blk.new' _ _ _ ?_; (simp; done)) | refine Blk.drew ?_ | refine Blk.alloc ?_ _ | (refine Blk.fars ?_ ?_ _ _; rotate_left; (dsimp only; omega)) | (refine Blk.far ?_ ?_ _; rotate_left; (first | (dsimp only; omega) | (simp; done) | (simp; omega) | omega))))) hb2 (by simp <;> omega)
            obtain ⟨u0, u1, u2, u3⟩ := hR2.three
            obtain ⟨v0, v1, v2, v3⟩ := hS2.three
            have p0 := hO2.cell 0
            simp only [List.getElem?_toArray, List.getElem?_cons_zero] at p0
            have u4 := hR2.frozen 0
            have u5 := hR2.frozen 1
            have u6 := hR2.frozen 2
            have v4 := hS2.frozen 0
            have v5 := hS2.frozen 1
            have v6 := hS2.frozen 2
            have hm3 : w.heap.size + 1 + 1 + 1 < w2.heap.size := hR2.lt
            have hm2 : w.heap.size + 1 + 1 < w2.heap.size := by omega
            have hm1 : w.heap.size + 1 < w2.heap.size := by omega
            clear hc2 hf2 r0 r1 r2 r3 r4 r5 r6 hR1 hB1 s0 s1 s2 s3 s4 s5 s6 o0 hS1 hO1 hR2 hS2 hO2
            go_wp2
            rw [Hv.out]
            exact bodyPost_ret (v := boltV (⟨s.pos, s.charge, true⟩, 0)) (by simp [results, Tryz.results12, go_sem, u0, u1, u2, hm3] <;> omega) rfl ⟨rfl, (by repeat (first | exact Below.refl _ _ | assumption | (refine Below.setCell ?_ (by first | omega | (simp; done) | (simp; omega)) _) | (refine Below.alloc ?_ (by first | omega | (simp; done) | (simp; omega)) _) | refine Below.drew ?_ | (refine below_thru ?_ (by assumption) (by first | omega | (simp; done) | (simp; omega))) | refine below_drewN ?_ _))⟩
        · have Hv := Lib.hid (show boltF g s true rs rn = (⟨0, 0, false⟩, (sureF g rs rn).2) from (if_pos h0).trans ((if_pos rfl).trans (if_neg h1)))
          have q1 : ((sureF g rs rn).2 == 0) = false := by rw [beq_eq_false_iff_ne]; exact h1
          have q1' : ((sureF g rs rn).2 != 0) = true := by rw [bne_iff_ne]; exact h1
          generalize sureF g rs rn = su at *
          obtain ⟨sa, sb⟩ := su
          generalize boltFt g s true = F at *
          obtain ⟨Fp, Fa, Fe⟩ := F
          clear h0 HGood HF hS1 hO1 h1
          go_wp2_with (with_reducible refine wpl_g (g := g) (b := w.heap.size) (t := 25) (by (repeat (first | assumption | exact Blk.new _ _ _ | (refine Blk.new' _ _ _ ?_; (simp; done)) | refine Blk.drew ?_ | refine Blk.alloc ?_ _ | (refine Blk.fars ?_ ?_ _ _; rotate_left; (dsimp only; omega)) | (refine Blk.far ?_ ?_ _; rotate_left; (first | (dsimp only; omega) | (simp; done) | (simp; omega) | omega))))) rfl rfl rfl ?_)
          refine (HS.out _ (by repeat (first | exact Below.refl _ _ | assumption | (refine Below.setCell ?_ (by first | omega | (simp; done) | (simp; omega)) _) | (refine Below.alloc ?_ (by first | omega | (simp; done) | (simp; omega)) _) | refine Below.drew ?_ | (refine below_thru ?_ (by assumption) (by first | omega | (simp; done) | (simp; omega))) | refine below_drewN ?_ _))).mono ?_
          rintro e w2 ⟨rfl, hb2⟩
          obtain ⟨hc2, hf2⟩ := bcell hb2; have hz2 := hb2.size; (try simp at hz2)
          have hR2 : Blk w2 (w.heap.size + 1 + 1 + 1) 27 #[.int .i64 0, .int .i64 0, .bool false] := Blk.thru (by (repeat (first | assumption | exact Blk.new _ _ _ | (refine Blk.new' _ _ _ ?_; (simp; done)) | refine Blk.drew ?_ | refine Blk.alloc ?_ _ | (refine Blk.fars ?_ ?_ _ _; rotate_left; (dsimp only; omega)) | (refine Blk.far ?_ ?_ _; rotate_left; (first | (dsimp only; omega) | (simp; done) | (simp; omega) | omega))))) hb2 (by simp <;> omega)
          obtain ⟨u0, u1, u2, u3⟩ := hR2.three
          have u4 := hR2.frozen 0
          have u5 := hR2.frozen 1
          have u6 := hR2.frozen 2
          have hm3 : w.heap.size + 1 + 1 + 1 < w2.heap.size := hR2.lt
          clear hc2 hf2 r0 r1 r2 r3 r4 r5 r6 hR1 hB1 s0 s1 s2 s3 s4 s5 s6 o0
          go_wp2
          rw [Hv.out]
          exact bodyPost_ret (v := boltV (⟨0, 0, false⟩, sb)) (by simp [results, Tryz.results12, go_sem, u0, u1, u2, hm3] <;> omega) rfl ⟨rfl, (by repeat (first | exact Below.refl _ _ | assumption | (refine Below.setCell ?_ (by first | omega | (simp; done) | (simp; omega)) _) | (refine Below.alloc ?_ (by first | omega | (simp; done) | (simp; omega)) _) | refine Below.drew ?_ | (refine below_thru ?_ (by assumption) (by first | omega | (simp; done) | (simp; omega))) | refine below_drewN ?_ _))⟩
    · have q0 : ((boltFt g s on).e != 0) = true := by rw [bne_iff_ne]; exact h0
      have Hv := Lib.hid (show boltF g s on rs rn = (⟨0, 0, false⟩, (boltFt g s on).e) from if_neg h0)
      generalize boltFt g s on = F at *
      obtain ⟨Fp, Fa, Fe⟩ := F
      clear h0 HGood HF hB1 hS1 hO1 hR1 s0 s1 s2 s3 s4 s5 s6 o0
      go_wp2
      go_region
      go_wp2
      rw [Hv.out]
      exact bodyPost_ret (v := boltV (⟨0, 0, false⟩, Fe)) (by simp [results, Tryz.results12, go_sem, r0, r1, r2, hl3] <;> omega) rfl ⟨rfl, (by repeat (first | exact Below.refl _ _ | assumption | (refine Below.setCell ?_ (by first | omega | (simp; done) | (simp; omega)) _) | (refine Below.alloc ?_ (by first | omega | (simp; done) | (simp; omega)) _) | refine Below.drew ?_ | (refine below_thru ?_ (by assumption) (by first | omega | (simp; done) | (simp; omega))) | refine below_drewN ?_ _))⟩
end Go.Proofs.YtmhfnnpbnocafaaGreat
