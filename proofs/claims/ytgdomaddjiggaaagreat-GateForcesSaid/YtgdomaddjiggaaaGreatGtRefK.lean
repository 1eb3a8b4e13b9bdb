/- The reference's Force and Falls. -/
import Derived.Test.YtgdomaddjiggaaaGreatGtRefC
import Derived.Test.YtgdomaddjiggaaaGreatGtRefE
import Derived.Test.YtgdomaddjiggaaaGreatGtForce
import Derived.Test.YtgdomaddjiggaaaGreatGtFalls2
namespace Go.Proofs.YtgdomaddjiggaaaGreat
open Go.RowKit
set_option linter.unusedSimpArgs false
set_option linter.unusedVariables false

theorem force_e (g : Ga) (p a b : Int) : (forceFt g p a b).e = if (gateF g).e = 0 then (if (betw p 0 g.travel && levelB a && levelB b) = true then 0 else 7) else (gateF g).e := by
  unfold forceFt levelsFt levels2B
  by_cases h : (gateF g).e = 0
  · cases h1 : betw p 0 g.travel <;> cases h2 : levelB a <;> cases h3 : levelB b <;> simp [firstF, need, h]
  · simp [firstF, h]
theorem levels_e (g : Ga) (a b : Int) : (levelsFt g a b).e = if (gateF g).e = 0 then (if (levelB a && levelB b) = true then 0 else 7) else (gateF g).e := by
  unfold levelsFt levels2B
  by_cases h : (gateF g).e = 0
  · cases h2 : levelB a <;> cases h3 : levelB b <;> simp [firstF, need, h]
  · simp [firstF, h]

set_option maxRecDepth 100000 in
set_option maxHeartbeats 4000000 in
theorem rForce_any (g : Ga) (p a b : Int) (w : World) (hg : g.At w w.heap.size) :
    Calls Tryz.prog 26 #[g.v, .int .i64 p, .int .i64 a, .int .i64 b] w fun e w' => e = .returned (tripV (forceR g p a b)) ∧ Below w.heap.size w w' := by
  have Hg := Lib.hid hg
  have HC := Lib.hid (fun W h => rCheck_any g W h)
  have H1 := Lib.hid (rin_is p 0 g.travel _ rfl)
  have H2 := Lib.hid (rlevel_is a _ rfl)
  have H3 := Lib.hid (rlevel_is b _ rfl)
  have he := force_e g p a b
  have HF := Lib.hid (fun W h (h0 : (forceFt g p a b).e = 0) => (fun k : g.Ok ∧ (0 ≤ p ∧ p ≤ g.travel) ∧ (-20000 ≤ a ∧ a ≤ 20000) ∧ (-20000 ≤ b ∧ b ≤ 20000) => rforces_any g p a b W h k.1 k.2.1.1 k.2.1.2 k.2.2.1.1 k.2.2.1.2 k.2.2.2.1 k.2.2.2.2) (force_ok hg h0))
  have hr : forceR g p a b = if (forceFt g p a b).e = 0 then (netF g p a b, rubF g p a b, 0) else (0, 0, (forceFt g p a b).e) := rfl
  generalize forceR g p a b = fr at *
  generalize (forceFt g p a b).e = fe at *
  obtain ⟨fp, fa, ge, hfl⟩ : ∃ fp fa ge, gateF g = ⟨fp, fa, ge⟩ := ⟨_, _, _, rfl⟩
  rw [hfl] at HC he
  have HC := Lib.hid (show ∀ W, g.At W W.heap.size → Calls Tryz.prog 23 #[g.v] W fun e w' => e = .returned (.tuple #[.int .i64 fp, .int .i64 fa, .int .i64 ge]) ∧ Below W.heap.size W w' from HC.out)
  simp only at he
  generalize netF g p a b = nt at *
  generalize rubF g p a b = rb at *
  clear hfl hg
  by_cases h0 : ge = 0
  · subst h0
    rw [if_pos rfl] at he
    generalize betw p 0 g.travel = b1 at *
    generalize levelB a = b2 at *
    generalize levelB b = b3 at *
    have hall : (b1 && b2 && b3) = true ∨ ((b1 && b2 && b3) = false) := by cases b1 <;> cases b2 <;> cases b3 <;> simp
    rcases hall with hall | hall
    · rw [hall, if_pos rfl] at he
      subst he
      rw [if_pos rfl] at hr
      subst hr
      have HF2 := Lib.hid (fun W (h : g.At W W.heap.size) => HF.out W h rfl)
      clear HF
      obtain ⟨rfl, rfl, rfl⟩ : b1 = true ∧ b2 = true ∧ b3 = true := by cases b1 <;> cases b2 <;> cases b3 <;> simp_all
      clear hall
      go_enter Tryz.func26, Tryz.ntmps26
      go_wp2_with (with_reducible refine wpl_g (g := g) ((Blk.new w _ _)) rfl rfl rfl ?_)
      refine (HC.out _ (Hg.out.grow (by repeat (first | exact Below.refl _ _ | assumption | (refine Below.setCell ?_ (by first | omega | (simp; done) | (simp; omega)) _) | (refine Below.alloc ?_ (by first | omega | (simp; done) | (simp; omega)) _) | refine Below.drew ?_ | (refine below_thru ?_ (by assumption) (by first | omega | (simp; done) | (simp; omega))) | refine below_drewN ?_ _)))).mono ?_
      rintro e w1 ⟨rfl, hb1⟩
      obtain ⟨hc1, hf1⟩ := bcell hb1; have hz1 := hb1.size; (try simp at hz1)
      have hG1 : Blk w1 w.heap.size 33 (grow g) := Blk.thru (by (repeat (first | assumption | exact Blk.new _ _ _ | (refine Blk.new' _ _ _ ?_; (simp; done)) | refine Blk.drew ?_ | refine Blk.alloc ?_ _ | (refine Blk.fars ?_ ?_ _ _; rotate_left; (dsimp only; omega)) | (refine Blk.far ?_ ?_ _; rotate_left; (first | (dsimp only; omega) | (simp; done) | (simp; omega) | omega))))) hb1 (by simp <;> omega)
      have c2 : w1.cell? ⟨w.heap.size, 2, none⟩ = some (.int .i64 g.travel) := hG1.cell 2
      have HG1 := Lib.hid hG1
      have hw1 : Below w.heap.size w w1 := (by repeat (first | exact Below.refl _ _ | assumption | (refine Below.setCell ?_ (by first | omega | (simp; done) | (simp; omega)) _) | (refine Below.alloc ?_ (by first | omega | (simp; done) | (simp; omega)) _) | refine Below.drew ?_ | (refine below_thru ?_ (by assumption) (by first | omega | (simp; done) | (simp; omega))) | refine below_drewN ?_ _))
      clear hb1 hc1 hf1 hG1
      go_wp2_with fail
      refine (H1.out _).mono ?_
      rintro e w' ⟨rfl, rfl⟩
      go_wp2_with fail
      refine (H2.out _).mono ?_
      rintro e w' ⟨rfl, rfl⟩
      go_wp2_with fail
      refine (H3.out _).mono ?_
      rintro e w' ⟨rfl, rfl⟩
      go_wp2_with (with_reducible refine wpl_g (g := g) (b := w.heap.size) (t := 33) HG1.out rfl rfl rfl ?_)
      refine (HF2.out _ (Hg.out.grow hw1)).mono ?_
      rintro e w2 ⟨rfl, hb2⟩
      have hw2 : Below w.heap.size w w2 := hw1.trans (hb2.mono hw1.size)
      clear hb2
      go_wp2
      go_ret3
      exact ⟨rfl, hw2⟩
    · rw [hall, if_neg (by simp)] at he
      subst he
      rw [if_neg (by simp)] at hr
      subst hr
      clear HF
      cases b1
      · clear hall
        go_enter Tryz.func26, Tryz.ntmps26
        go_wp2_with (with_reducible refine wpl_g (g := g) ((Blk.new w _ _)) rfl rfl rfl ?_)
        refine (HC.out _ (Hg.out.grow (by repeat (first | exact Below.refl _ _ | assumption | (refine Below.setCell ?_ (by first | omega | (simp; done) | (simp; omega)) _) | (refine Below.alloc ?_ (by first | omega | (simp; done) | (simp; omega)) _) | refine Below.drew ?_ | (refine below_thru ?_ (by assumption) (by first | omega | (simp; done) | (simp; omega))) | refine below_drewN ?_ _)))).mono ?_
        rintro e w1 ⟨rfl, hb1⟩
        obtain ⟨hc1, hf1⟩ := bcell hb1; have hz1 := hb1.size; (try simp at hz1)
        have hG1 : Blk w1 w.heap.size 33 (grow g) := Blk.thru (by (repeat (first | assumption | exact Blk.new _ _ _ | (refine Blk.new' _ _ _ ?_; (simp; done)) | refine Blk.drew ?_ | refine Blk.alloc ?_ _ | (refine Blk.fars ?_ ?_ _ _; rotate_left; (dsimp only; omega)) | (refine Blk.far ?_ ?_ _; rotate_left; (first | (dsimp only; omega) | (simp; done) | (simp; omega) | omega))))) hb1 (by simp <;> omega)
        have c2 : w1.cell? ⟨w.heap.size, 2, none⟩ = some (.int .i64 g.travel) := hG1.cell 2
        have hw1 : Below w.heap.size w w1 := (by repeat (first | exact Below.refl _ _ | assumption | (refine Below.setCell ?_ (by first | omega | (simp; done) | (simp; omega)) _) | (refine Below.alloc ?_ (by first | omega | (simp; done) | (simp; omega)) _) | refine Below.drew ?_ | (refine below_thru ?_ (by assumption) (by first | omega | (simp; done) | (simp; omega))) | refine below_drewN ?_ _))
        clear hb1 hc1 hf1 hG1
        go_wp2_with fail
        refine (H1.out _).mono ?_
        rintro e w' ⟨rfl, rfl⟩
        go_wp2
        go_ret3
        exact ⟨rfl, hw1⟩
      · cases b2
        · clear hall
          go_enter Tryz.func26, Tryz.ntmps26
          go_wp2_with (with_reducible refine wpl_g (g := g) ((Blk.new w _ _)) rfl rfl rfl ?_)
          refine (HC.out _ (Hg.out.grow (by repeat (first | exact Below.refl _ _ | assumption | (refine Below.setCell ?_ (by first | omega | (simp; done) | (simp; omega)) _) | (refine Below.alloc ?_ (by first | omega | (simp; done) | (simp; omega)) _) | refine Below.drew ?_ | (refine below_thru ?_ (by assumption) (by first | omega | (simp; done) | (simp; omega))) | refine below_drewN ?_ _)))).mono ?_
          rintro e w1 ⟨rfl, hb1⟩
          obtain ⟨hc1, hf1⟩ := bcell hb1; have hz1 := hb1.size; (try simp at hz1)
          have hG1 : Blk w1 w.heap.size 33 (grow g) := Blk.thru (by (repeat (first | assumption | exact Blk.new _ _ _ | (refine Blk.new' _ _ _ ?_; (simp; done)) | refine Blk.drew ?_ | refine Blk.alloc ?_ _ | (refine Blk.fars ?_ ?_ _ _; rotate_left; (dsimp only; omega)) | (refine Blk.far ?_ ?_ _; rotate_left; (first | (dsimp only; omega) | (simp; done) | (simp; omega) | omega))))) hb1 (by simp <;> omega)
          have c2 : w1.cell? ⟨w.heap.size, 2, none⟩ = some (.int .i64 g.travel) := hG1.cell 2
          have hw1 : Below w.heap.size w w1 := (by repeat (first | exact Below.refl _ _ | assumption | (refine Below.setCell ?_ (by first | omega | (simp; done) | (simp; omega)) _) | (refine Below.alloc ?_ (by first | omega | (simp; done) | (simp; omega)) _) | refine Below.drew ?_ | (refine below_thru ?_ (by assumption) (by first | omega | (simp; done) | (simp; omega))) | refine below_drewN ?_ _))
          clear hb1 hc1 hf1 hG1
          go_wp2_with fail
          refine (H1.out _).mono ?_
          rintro e w' ⟨rfl, rfl⟩
          go_wp2_with fail
          refine (H2.out _).mono ?_
          rintro e w' ⟨rfl, rfl⟩
          go_wp2
          go_ret3
          exact ⟨rfl, hw1⟩
        · obtain rfl : b3 = false := by cases b3 <;> simp_all
          clear hall
          go_enter Tryz.func26, Tryz.ntmps26
          go_wp2_with (with_reducible refine wpl_g (g := g) ((Blk.new w _ _)) rfl rfl rfl ?_)
          refine (HC.out _ (Hg.out.grow (by repeat (first | exact Below.refl _ _ | assumption | (refine Below.setCell ?_ (by first | omega | (simp; done) | (simp; omega)) _) | (refine Below.alloc ?_ (by first | omega | (simp; done) | (simp; omega)) _) | refine Below.drew ?_ | (refine below_thru ?_ (by assumption) (by first | omega | (simp; done) | (simp; omega))) | refine below_drewN ?_ _)))).mono ?_
          rintro e w1 ⟨rfl, hb1⟩
          obtain ⟨hc1, hf1⟩ := bcell hb1; have hz1 := hb1.size; (try simp at hz1)
          have hG1 : Blk w1 w.heap.size 33 (grow g) := Blk.thru (by (repeat (first | assumption | exact Blk.new _ _ _ | (refine Blk.new' _ _ _ ?_; (simp; done)) | refine Blk.drew ?_ | refine Blk.alloc ?_ _ | (refine Blk.fars ?_ ?_ _ _; rotate_left; (dsimp only; omega)) | (refine Blk.far ?_ ?_ _; rotate_left; (first | (dsimp only; omega) | (simp; done) | (simp; omega) | omega))))) hb1 (by simp <;> omega)
          have c2 : w1.cell? ⟨w.heap.size, 2, none⟩ = some (.int .i64 g.travel) := hG1.cell 2
          have hw1 : Below w.heap.size w w1 := (by repeat (first | exact Below.refl _ _ | assumption | (refine Below.setCell ?_ (by first | omega | (simp; done) | (simp; omega)) _) | (refine Below.alloc ?_ (by first | omega | (simp; done) | (simp; omega)) _) | refine Below.drew ?_ | (refine below_thru ?_ (by assumption) (by first | omega | (simp; done) | (simp; omega))) | refine below_drewN ?_ _))
          clear hb1 hc1 hf1 hG1
          go_wp2_with fail
          refine (H1.out _).mono ?_
          rintro e w' ⟨rfl, rfl⟩
          go_wp2_with fail
          refine (H2.out _).mono ?_
          rintro e w' ⟨rfl, rfl⟩
          go_wp2_with fail
          refine (H3.out _).mono ?_
          rintro e w' ⟨rfl, rfl⟩
          go_wp2
          go_ret3
          exact ⟨rfl, hw1⟩
  · rw [if_neg h0] at he
    subst he
    rw [if_neg h0] at hr
    subst hr
    have q0 : (fe == 0) = false := by rw [beq_eq_false_iff_ne]; exact h0
    have q1 : (fe != 0) = true := by rw [bne_iff_ne]; exact h0
    clear HF h0
    go_enter Tryz.func26, Tryz.ntmps26
    go_wp2_with (with_reducible refine wpl_g (g := g) ((Blk.new w _ _)) rfl rfl rfl ?_)
    refine (HC.out _ (Hg.out.grow (by repeat (first | exact Below.refl _ _ | assumption | (refine Below.setCell ?_ (by first | omega | (simp; done) | (simp; omega)) _) | (refine Below.alloc ?_ (by first | omega | (simp; done) | (simp; omega)) _) | refine Below.drew ?_ | (refine below_thru ?_ (by assumption) (by first | omega | (simp; done) | (simp; omega))) | refine below_drewN ?_ _)))).mono ?_
    rintro e w1 ⟨rfl, hb1⟩
    obtain ⟨hc1, hf1⟩ := bcell hb1; have hz1 := hb1.size; (try simp at hz1)
    go_wp2
    go_ret3
    exact ⟨rfl, (by repeat (first | exact Below.refl _ _ | assumption | (refine Below.setCell ?_ (by first | omega | (simp; done) | (simp; omega)) _) | (refine Below.alloc ?_ (by first | omega | (simp; done) | (simp; omega)) _) | refine Below.drew ?_ | (refine below_thru ?_ (by assumption) (by first | omega | (simp; done) | (simp; omega))) | refine below_drewN ?_ _))⟩

set_option maxRecDepth 100000 in
set_option maxHeartbeats 4000000 in
theorem rFalls_any (g : Ga) (a b : Int) (w : World) (hg : g.At w w.heap.size) :
    Calls Tryz.prog 28 #[g.v, .int .i64 a, .int .i64 b] w fun e w' => e = .returned (.tuple #[.int .i64 (fallsR g a b).1, .int .i64 (fallsR g a b).2]) ∧ Below w.heap.size w w' := by
  have Hg := Lib.hid hg
  have HC := Lib.hid (fun W h => rCheck_any g W h)
  have H2 := Lib.hid (rlevel_is a _ rfl)
  have H3 := Lib.hid (rlevel_is b _ rfl)
  have he := levels_e g a b
  have hok : (levelsFt g a b).e = 0 → g.Ok ∧ (-20000 ≤ a ∧ a ≤ 20000) ∧ (-20000 ≤ b ∧ b ≤ 20000) := fun h0 => by
    have hlv := need_e (b := levels2B a b) (c := 7) (by omega) (first0 _ h0 (need (levels2B a b) 7) (by simp))
    simp only [levels2B, levelB, betw, Bool.and_eq_true, decide_eq_true_eq] at hlv
    exact ⟨gateF_ok g w _ hg (first0 _ h0 _ (by simp)), hlv.1, hlv.2⟩
  have hr : fallsR g a b = if (levelsFt g a b).e = 0 then (fallsF g a b, 0) else (0, (levelsFt g a b).e) := rfl
  generalize fallsR g a b = fr at *
  generalize (levelsFt g a b).e = fe at *
  obtain ⟨fp, fa, ge, hfl⟩ : ∃ fp fa ge, gateF g = ⟨fp, fa, ge⟩ := ⟨_, _, _, rfl⟩
  rw [hfl] at HC he
  have HC := Lib.hid (show ∀ W, g.At W W.heap.size → Calls Tryz.prog 23 #[g.v] W fun e w' => e = .returned (.tuple #[.int .i64 fp, .int .i64 fa, .int .i64 ge]) ∧ Below W.heap.size W w' from HC.out)
  simp only at he
  clear hfl hg
  by_cases h0 : ge = 0
  · subst h0
    rw [if_pos rfl] at he
    generalize levelB a = b2 at *
    generalize levelB b = b3 at *
    cases b2
    · rw [if_neg (by simp)] at he
      subst he
      rw [if_neg (by simp)] at hr
      subst hr
      clear hok
      go_enter Tryz.func28, Tryz.ntmps28
      go_wp2_with (with_reducible refine wpl_g (g := g) ((Blk.new w _ _)) rfl rfl rfl ?_)
      refine (HC.out _ (Hg.out.grow (by repeat (first | exact Below.refl _ _ | assumption | (refine Below.setCell ?_ (by first | omega | (simp; done) | (simp; omega)) _) | (refine Below.alloc ?_ (by first | omega | (simp; done) | (simp; omega)) _) | refine Below.drew ?_ | (refine below_thru ?_ (by assumption) (by first | omega | (simp; done) | (simp; omega))) | refine below_drewN ?_ _)))).mono ?_
      rintro e w1 ⟨rfl, hb1⟩
      obtain ⟨hc1, hf1⟩ := bcell hb1; have hz1 := hb1.size; (try simp at hz1)
      have hG1 : Blk w1 w.heap.size 33 (grow g) := Blk.thru (by (repeat (first | assumption | exact Blk.new _ _ _ | (refine Blk.new' _ _ _ ?_; (simp; done)) | refine Blk.drew ?_ | refine Blk.alloc ?_ _ | (refine Blk.fars ?_ ?_ _ _; rotate_left; (dsimp only; omega)) | (refine Blk.far ?_ ?_ _; rotate_left; (first | (dsimp only; omega) | (simp; done) | (simp; omega) | omega))))) hb1 (by simp <;> omega)
      have c2 : w1.cell? ⟨w.heap.size, 2, none⟩ = some (.int .i64 g.travel) := hG1.cell 2
      have HG1 := Lib.hid hG1
      have hw1 : Below w.heap.size w w1 := (by repeat (first | exact Below.refl _ _ | assumption | (refine Below.setCell ?_ (by first | omega | (simp; done) | (simp; omega)) _) | (refine Below.alloc ?_ (by first | omega | (simp; done) | (simp; omega)) _) | refine Below.drew ?_ | (refine below_thru ?_ (by assumption) (by first | omega | (simp; done) | (simp; omega))) | refine below_drewN ?_ _))
      have hl1 := hG1.lt
      clear hb1 hc1 hf1 hG1
      go_wp2_with fail
      refine (H2.out _).mono ?_
      rintro e w' ⟨rfl, rfl⟩
      go_wp2
      go_ret2
      exact ⟨rfl, hw1⟩
    · cases b3
      · rw [if_neg (by simp)] at he
        subst he
        rw [if_neg (by simp)] at hr
        subst hr
        clear hok
        go_enter Tryz.func28, Tryz.ntmps28
        go_wp2_with (with_reducible refine wpl_g (g := g) ((Blk.new w _ _)) rfl rfl rfl ?_)
        refine (HC.out _ (Hg.out.grow (by repeat (first | exact Below.refl _ _ | assumption | (refine Below.setCell ?_ (by first | omega | (simp; done) | (simp; omega)) _) | (refine Below.alloc ?_ (by first | omega | (simp; done) | (simp; omega)) _) | refine Below.drew ?_ | (refine below_thru ?_ (by assumption) (by first | omega | (simp; done) | (simp; omega))) | refine below_drewN ?_ _)))).mono ?_
        rintro e w1 ⟨rfl, hb1⟩
        obtain ⟨hc1, hf1⟩ := bcell hb1; have hz1 := hb1.size; (try simp at hz1)
        have hG1 : Blk w1 w.heap.size 33 (grow g) := Blk.thru (by (repeat (first | assumption | exact Blk.new _ _ _ | (refine Blk.new' _ _ _ ?_; (simp; done)) | refine Blk.drew ?_ | refine Blk.alloc ?_ _ | (refine Blk.fars ?_ ?_ _ _; rotate_left; (dsimp only; omega)) | (refine Blk.far ?_ ?_ _; rotate_left; (first | (dsimp only; omega) | (simp; done) | (simp; omega) | omega))))) hb1 (by simp <;> omega)
        have c2 : w1.cell? ⟨w.heap.size, 2, none⟩ = some (.int .i64 g.travel) := hG1.cell 2
        have HG1 := Lib.hid hG1
        have hw1 : Below w.heap.size w w1 := (by repeat (first | exact Below.refl _ _ | assumption | (refine Below.setCell ?_ (by first | omega | (simp; done) | (simp; omega)) _) | (refine Below.alloc ?_ (by first | omega | (simp; done) | (simp; omega)) _) | refine Below.drew ?_ | (refine below_thru ?_ (by assumption) (by first | omega | (simp; done) | (simp; omega))) | refine below_drewN ?_ _))
        have hl1 := hG1.lt
        clear hb1 hc1 hf1 hG1
        go_wp2_with fail
        refine (H2.out _).mono ?_
        rintro e w' ⟨rfl, rfl⟩
        go_wp2_with fail
        refine (H3.out _).mono ?_
        rintro e w' ⟨rfl, rfl⟩
        go_wp2
        go_ret2
        exact ⟨rfl, hw1⟩
      · rw [if_pos (by simp)] at he
        subst he
        rw [if_pos rfl] at hr
        subst hr
        obtain ⟨hgo, ⟨a0, a1⟩, b0, b1⟩ := hok rfl
        have ht0 := hgo.t0
        have ht1 := hgo.t1
        have HF := Lib.hid (fun (k : Nat) W h (hk : (k : Int) < g.travel) => rforces_any g k a b W h hgo (Int.natCast_nonneg _) (Int.le_of_lt hk) a0 a1 b0 b1)
        obtain ⟨T, hT⟩ : ∃ T : Nat, g.travel = T := ⟨g.travel.toNat, by omega⟩
        have hfin : fallsF g a b = fallsN g a b 0 T := by unfold fallsF; rw [hT]; rfl
        have Hfin := Lib.hid hfin
        have HT := Lib.hid hT
        clear hfin hgo hT hok
        go_enter Tryz.func28, Tryz.ntmps28
        go_wp2_with (with_reducible refine wpl_g (g := g) ((Blk.new w _ _)) rfl rfl rfl ?_)
        refine (HC.out _ (Hg.out.grow (by repeat (first | exact Below.refl _ _ | assumption | (refine Below.setCell ?_ (by first | omega | (simp; done) | (simp; omega)) _) | (refine Below.alloc ?_ (by first | omega | (simp; done) | (simp; omega)) _) | refine Below.drew ?_ | (refine below_thru ?_ (by assumption) (by first | omega | (simp; done) | (simp; omega))) | refine below_drewN ?_ _)))).mono ?_
        rintro e w1 ⟨rfl, hb1⟩
        obtain ⟨hc1, hf1⟩ := bcell hb1; have hz1 := hb1.size; (try simp at hz1)
        have hG1 : Blk w1 w.heap.size 33 (grow g) := Blk.thru (by (repeat (first | assumption | exact Blk.new _ _ _ | (refine Blk.new' _ _ _ ?_; (simp; done)) | refine Blk.drew ?_ | refine Blk.alloc ?_ _ | (refine Blk.fars ?_ ?_ _ _; rotate_left; (dsimp only; omega)) | (refine Blk.far ?_ ?_ _; rotate_left; (first | (dsimp only; omega) | (simp; done) | (simp; omega) | omega))))) hb1 (by simp <;> omega)
        have c2 : w1.cell? ⟨w.heap.size, 2, none⟩ = some (.int .i64 g.travel) := hG1.cell 2
        have HG1 := Lib.hid hG1
        have hw1 : Below w.heap.size w w1 := (by repeat (first | exact Below.refl _ _ | assumption | (refine Below.setCell ?_ (by first | omega | (simp; done) | (simp; omega)) _) | (refine Below.alloc ?_ (by first | omega | (simp; done) | (simp; omega)) _) | refine Below.drew ?_ | (refine below_thru ?_ (by assumption) (by first | omega | (simp; done) | (simp; omega))) | refine below_drewN ?_ _))
        have hl1 := hG1.lt
        clear hb1 hc1 hf1 hG1
        go_wp2_with fail
        refine (H2.out _).mono ?_
        rintro e w' ⟨rfl, rfl⟩
        go_wp2_with fail
        refine (H3.out _).mono ?_
        rintro e w' ⟨rfl, rfl⟩
        go_wp2
        go_loopw [11] (fun i wr => ∃ k : Nat, (k : Int) ≤ g.travel ∧ i = .int .i64 k ∧ Hid (∀ j : Nat, j < k → ¬ netF g j a b ≤ rubF g j a b) ∧ Hid (Blk wr w.heap.size 33 (grow g)) ∧ Below w.heap.size w wr)
          (fun i _ => g.travel.toNat - (intOf i).toNat)
        case atStart => exact ⟨0, by omega, rfl, fun j hj => by omega, HG1.out, hw1⟩
        case round =>
          obtain ⟨k, hk, rfl, hprev, hbg, hbr⟩ := hrel
          have hzr := hbg.out.lt
          have k2 : wr.cell? ⟨w.heap.size, 2, none⟩ = some (.int .i64 g.travel) := hbg.out.cell 2
          by_cases hlt' : (k : Int) < g.travel
          · have HFk := Lib.hid (fun W h => HF.out k W h hlt')
            go_wp2_with (with_reducible refine wpl_g (g := g) hbg.out rfl rfl rfl ?_)
            refine (HFk.out _ (Hg.out.grow hbr)).mono ?_
            rintro e w3 ⟨rfl, hb3⟩
            have hz3 := hb3.size
            have hbg3 : Hid (Blk w3 w.heap.size 33 (grow g)) := hbg.out.thru hb3 hzr
            have hw3 : Below w.heap.size w w3 := hbr.trans (hb3.mono hbr.size)
            by_cases hle : netF g k a b ≤ rubF g k a b
            · have hv : fallsN g a b 0 T = k := by
                rw [falls_skip g a b k 0 T (by have := HT.out; omega) (fun j hj => by rw [Nat.zero_add]; have := hprev.out j hj; omega), Nat.zero_add]
                obtain ⟨m, hm⟩ : ∃ m, T - k = m + 1 := ⟨T - k - 1, by have := HT.out; omega⟩
                rw [hm, fallsN, if_pos hle]
              have Hv := Lib.hid hv; clear hv
              generalize netF g k a b = nt at *
              generalize rubF g k a b = rb at *
              clear hb3
              go_wp2
              go_ret2
              exact ⟨by rw [Hfin.out, Hv.out]; rfl, hw3⟩
            · have Hn : Hid (∀ j : Nat, j < k + 1 → ¬ netF g j a b ≤ rubF g j a b) := fun j hj => by
                rcases Nat.lt_or_ge j k with h | h
                · have := hprev.out j h
                  omega
                · obtain rfl : j = k := by omega
                  exact hle
              generalize netF g k a b = nt at *
              generalize rubF g k a b = rb at *
              clear hb3
              go_wp2
              go_roundw
              case rel => exact ⟨k + 1, by omega, by go_num, fun j hj => by have := Hn.out j hj; omega, hbg3, hw3⟩
              case measure => simp [intOf]; omega
          · have hv : fallsN g a b 0 T = -1 := by
              rw [falls_skip g a b T 0 T (Nat.le_refl _) (fun j hj => by rw [Nat.zero_add]; exact hprev.out j (by have := HT.out; omega)), Nat.sub_self]; rfl
            have Hv := Lib.hid hv; clear hv
            go_wp2
            go_ret2
            exact ⟨by rw [Hfin.out, Hv.out]; rfl, hbr⟩
  · rw [if_neg h0] at he
    subst he
    rw [if_neg h0] at hr
    subst hr
    have q0 : (fe == 0) = false := by rw [beq_eq_false_iff_ne]; exact h0
    have q1 : (fe != 0) = true := by rw [bne_iff_ne]; exact h0
    clear h0 hok
    go_enter Tryz.func28, Tryz.ntmps28
    go_wp2_with (with_reducible refine wpl_g (g := g) ((Blk.new w _ _)) rfl rfl rfl ?_)
    refine (HC.out _ (Hg.out.grow (by repeat (first | exact Below.refl _ _ | assumption | (refine Below.setCell ?_ (by first | omega | (simp; done) | (simp; omega)) _) | (refine Below.alloc ?_ (by first | omega | (simp; done) | (simp; omega)) _) | refine Below.drew ?_ | (refine below_thru ?_ (by assumption) (by first | omega | (simp; done) | (simp; omega))) | refine below_drewN ?_ _)))).mono ?_
    rintro e w1 ⟨rfl, hb1⟩
    obtain ⟨hc1, hf1⟩ := bcell hb1; have hz1 := hb1.size; (try simp at hz1)
    go_wp2
    go_ret2
    exact ⟨rfl, (by repeat (first | exact Below.refl _ _ | assumption | (refine Below.setCell ?_ (by first | omega | (simp; done) | (simp; omega)) _) | (refine Below.alloc ?_ (by first | omega | (simp; done) | (simp; omega)) _) | refine Below.drew ?_ | (refine below_thru ?_ (by assumption) (by first | omega | (simp; done) | (simp; omega))) | refine below_drewN ?_ _))⟩
end Go.Proofs.YtgdomaddjiggaaaGreat
