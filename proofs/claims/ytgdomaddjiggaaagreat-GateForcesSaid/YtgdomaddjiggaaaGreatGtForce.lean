/- Force. -/
import Derived.Test.YtgdomaddjiggaaaGreatGtFalls2
namespace Go.Proofs.YtgdomaddjiggaaaGreat
open Go.RowKit
set_option linter.unusedSimpArgs false
set_option linter.unusedVariables false

def forceFt (g : Ga) (p a b : Int) : Ft := firstF [levelsFt g a b, need (betw p 0 g.travel) 7]
def forceR (g : Ga) (p a b : Int) : Int × Int × Int := if (forceFt g p a b).e = 0 then (netF g p a b, rubF g p a b, 0) else (0, 0, (forceFt g p a b).e)
def tripV (r : Int × Int × Int) : Value := .tuple #[.int .i64 r.1, .int .i64 r.2.1, .int .i64 r.2.2]
theorem force_ok {g : Ga} {p a b : Int} {w : World} {B : Nat} (hg : g.At w B) (h : (forceFt g p a b).e = 0) : g.Ok ∧ (0 ≤ p ∧ p ≤ g.travel) ∧ (-20000 ≤ a ∧ a ≤ 20000) ∧ (-20000 ≤ b ∧ b ≤ 20000) := by
  have h1 := first0 _ h _ (by simp : levelsFt g a b ∈ [levelsFt g a b, need (betw p 0 g.travel) 7])
  have h2 := need_e (b := betw p 0 g.travel) (c := 7) (by omega) (first0 _ h (need (betw p 0 g.travel) 7) (by simp))
  have h3 := first0 _ h1 _ (by simp : gateF g ∈ [gateF g, need (levels2B a b) 7])
  have h4 := need_e (b := levels2B a b) (c := 7) (by omega) (first0 _ h1 (need (levels2B a b) 7) (by simp))
  simp only [levels2B, levelB, betw, Bool.and_eq_true, decide_eq_true_eq] at h2 h4
  exact ⟨gateF_ok g w B hg h3, h2, h4.1, h4.2⟩

theorem ld_g0 {o : Oper} {ev : Operand → Value} {w : World} {x : Operand} {b : Nat} {t : TypeId} {g : Ga} (ho : o.op = .load 33 x) (hx : ev x = .pointer (some ⟨b, 0, none⟩)) (h : Blk w b t (grow g)) :
    (execOp ev o).run Tryz.prog w = .ok (.value g.v) w := by
  obtain ⟨fs, hu⟩ := uGate
  have hr : (Instr.loadAt 33 (.pointer (some ⟨b, 0, none⟩))).run Tryz.prog w = .ok g.v w := by
    simp only [Instr.loadAt, Instr.sureAddr, Sem.run_bind, Sem.run_pure, Result.andThen_ok, run_loadVar_row w b t 33 (grow g) (0, 0) _ h hu rfl iGate]
  unfold execOp
  simp only [ho, hx, Sem.run_bind, hr, Sem.run_pure, Result.andThen_ok]

set_option maxHeartbeats 1000000 in
theorem force1_any (g : Ga) (x y : Int) (b c d : Nat) (w : World) (hg : g.Box w b) (hx : Blk w c 3 #[.int .i64 x]) (hy : Blk w d 3 #[.int .i64 y]) :
    Calls Tryz.prog 61 #[.pointer (some ⟨b, 0, none⟩), .pointer (some ⟨c, 0, none⟩), .pointer (some ⟨d, 0, none⟩)] w fun e w' => e = .returned (levelsFt g x y).v ∧ Below w.heap.size w w' := by
  have hB := Lib.hid hg.blk
  have HA := Lib.hid hg.at_
  have hlt := hg.blk.lt
  have x0 := hx.cell 0
  have y0 := hy.cell 0
  simp only [List.getElem?_toArray, List.getElem?_cons_zero] at x0 y0
  have xl := hx.lt
  have yl := hy.lt
  clear hg hx hy
  go_enter Tryz.func61, Tryz.ntmps61
  go_wp2_with (with_reducible refine wpl_g (hB.out.alloc _) rfl rfl rfl ?_)
  refine (levelsFault_any g x y _ (HA.out.grow (by repeat (first | exact Below.refl _ _ | assumption | (refine Below.setCell ?_ (by first | omega | (simp; done) | (simp; omega)) _) | (refine Below.alloc ?_ (by first | omega | (simp; done) | (simp; omega)) _) | refine Below.drew ?_ | (refine below_thru ?_ (by assumption) (by first | omega | (simp; done) | (simp; omega))) | refine below_drewN ?_ _)))).mono ?_
  rintro e w1 ⟨rfl, hb1⟩
  obtain ⟨hc1, hf1⟩ := bcell hb1; have hz1 := hb1.size; (try simp at hz1)
  go_wp2
  exact bodyPost_ret (v := (levelsFt g x y).v) (by simp [results, Tryz.results61, go_sem, hc1] <;> omega) rfl ⟨by rfl, (by repeat (first | exact Below.refl _ _ | assumption | (refine Below.setCell ?_ (by first | omega | (simp; done) | (simp; omega)) _) | (refine Below.alloc ?_ (by first | omega | (simp; done) | (simp; omega)) _) | refine Below.drew ?_ | (refine below_thru ?_ (by assumption) (by first | omega | (simp; done) | (simp; omega))) | refine below_drewN ?_ _))⟩
set_option maxHeartbeats 1000000 in
theorem force2_any (g : Ga) (p : Int) (b c : Nat) (w : World) (hp : Blk w b 3 #[.int .i64 p]) (hg : g.Box w c) :
    Calls Tryz.prog 63 #[.pointer (some ⟨b, 0, none⟩), .pointer (some ⟨c, 0, none⟩)] w fun e w' => e = .returned (need (betw p 0 g.travel) 7).v ∧ Below w.heap.size w w' := by
  obtain ⟨k0, k1, k2, k3, k4, k5, k6, k7, k8, k9, k10, k11, k12, k13, k14, k15, k16, k17, k18, k19, k20⟩ := hg.cells
  have hlt := hg.blk.lt
  have p0 := hp.cell 0
  simp only [List.getElem?_toArray, List.getElem?_cons_zero] at p0
  have pl := hp.lt
  clear hg hp
  go_enter Tryz.func63, Tryz.ntmps63
  go_wp2_with fail
  refine (between_any _ _ _ _).mono ?_
  rintro e w' ⟨rfl, rfl⟩
  go_wp2_with fail
  refine (need_any _ 7 _).mono ?_
  rintro e w1 ⟨rfl, hb1⟩
  obtain ⟨hc1, hf1⟩ := bcell hb1; have hz1 := hb1.size; (try simp at hz1)
  go_wp2
  exact bodyPost_ret (v := (need (betw p 0 g.travel) 7).v) (by simp [results, Tryz.results63, go_sem, hc1] <;> omega) rfl ⟨by rfl, (by repeat (first | exact Below.refl _ _ | assumption | (refine Below.setCell ?_ (by first | omega | (simp; done) | (simp; omega)) _) | (refine Below.alloc ?_ (by first | omega | (simp; done) | (simp; omega)) _) | refine Below.drew ?_ | (refine below_thru ?_ (by assumption) (by first | omega | (simp; done) | (simp; omega))) | refine below_drewN ?_ _))⟩

set_option maxRecDepth 100000 in
set_option maxHeartbeats 8000000 in
theorem Force_any (g : Ga) (p x y : Int) (w : World) (hg : g.At w w.heap.size) :
    Calls Tryz.prog 25 #[g.v, .int .i64 p, .int .i64 x, .int .i64 y] w fun e w' => e = .returned (tripV (forceR g p x y)) ∧ Below w.heap.size w w' := by
  have Hg := Lib.hid hg
  have hGood : ∀ (W : World) (b0 b1 b2 b3 : Nat), g.Box W b0 → Blk W b1 3 #[.int .i64 p] → Blk W b2 3 #[.int .i64 x] → Blk W b3 3 #[.int .i64 y] → Good W [⟨61, #[.pointer (some ⟨b0, 0, none⟩), .pointer (some ⟨b2, 0, none⟩), .pointer (some ⟨b3, 0, none⟩)], levelsFt g x y⟩, ⟨63, #[.pointer (some ⟨b1, 0, none⟩), .pointer (some ⟨b0, 0, none⟩)], need (betw p 0 g.travel) 7⟩] := by
    intro W b0 b1 b2 b3 h0 h1 h2 h3 k c hk _ W' hW
    match k, hk with
    | 0, hk => cases hk; exact force1_any g x y b0 b2 b3 W' (h0.grow hW) (h2.thru hW h2.lt) (h3.thru hW h3.lt)
    | 1, hk => cases hk; exact force2_any g p b1 b0 W' (h1.thru hW h1.lt) (h0.grow hW)
    | k + 2, hk => simp at hk
  have HGood := Lib.hid hGood
  by_cases h0 : (forceFt g p x y).e = 0
  · obtain ⟨hgo, hp, hx, hy⟩ := force_ok hg h0
    have hf : forceR g p x y = (netF g p x y, rubF g p x y, 0) := by unfold forceR; rw [if_pos h0]
    rw [hf]
    have HF := Lib.hid (fun W h => forces_any g ⟨p, 0, false⟩ x y W h hgo ⟨hp.1, hp.2, Int.le_refl _, hgo.cap0⟩ hx.1 hx.2 hy.1 hy.2)
    clear hf hGood hg hgo hp hx hy
    obtain ⟨fp, fa, fe, hfl⟩ : ∃ fp fa fe, forceFt g p x y = ⟨fp, fa, fe⟩ := ⟨_, _, _, rfl⟩
    have Hfl := Lib.hid hfl
    rw [hfl] at h0
    simp only at h0
    subst h0
    clear hfl
    simp only [Gs.pos] at HF
    generalize netF g p x y = nt at *
    generalize rubF g p x y = rb at *
    go_enter Tryz.func25, Tryz.ntmps25
    go_wp2_with fail
    refine (first_any _ (w.heap.size + 1 + 1 + 1 + 1) 0 2 [⟨61, #[.pointer (some ⟨w.heap.size, 0, none⟩), .pointer (some ⟨w.heap.size + 1 + 1, 0, none⟩), .pointer (some ⟨w.heap.size + 1 + 1 + 1, 0, none⟩)], levelsFt g x y⟩, ⟨63, #[.pointer (some ⟨w.heap.size + 1, 0, none⟩), .pointer (some ⟨w.heap.size, 0, none⟩)], need (betw p 0 g.travel) 7⟩] rfl (by omega) (by simp) ?_ (HGood.out _ _ _ _ _ ⟨?_, ?_⟩ ?_ ?_ ?_) ?_).mono ?_
    · intro k c hk
      match k, hk with
      | 0, hk => cases hk; exact (Blk.new' _ _ _ (by simp)).cell 0
      | 1, hk => cases hk; exact (Blk.new' _ _ _ (by simp)).cell 1
      | k + 2, hk => simp at hk
    · exact ((((Blk.new w _ _).alloc _).alloc _).alloc _).alloc _
    · exact Hg.out.grow (by repeat (first | exact Below.refl _ _ | assumption | (refine Below.setCell ?_ (by first | omega | (simp; done) | (simp; omega)) _) | (refine Below.alloc ?_ (by first | omega | (simp; done) | (simp; omega)) _) | refine Below.drew ?_ | (refine below_thru ?_ (by assumption) (by first | omega | (simp; done) | (simp; omega))) | refine below_drewN ?_ _))
    · exact (((Blk.new' (w.alloc _) _ _ (by simp)).alloc _).alloc _).alloc _
    · exact ((Blk.new' ((w.alloc _).alloc _) _ _ (by simp)).alloc _).alloc _
    · exact (Blk.new' (((w.alloc _).alloc _).alloc _) _ _ (by simp)).alloc _
    · intro k c hk W
      match k, hk with
      | 0, hk => cases hk; show Sem.run Tryz.prog (callFunc _ _) W = _; kernel_rfl
      | 1, hk => cases hk; show Sem.run Tryz.prog (callFunc _ _) W = _; kernel_rfl
      | k + 2, hk => simp at hk
    rintro e w1 ⟨he, hb1⟩
    replace he : e = .returned (forceFt g p x y).v := he
    rw [Hfl.out] at he
    subst he
    obtain ⟨hc1, hf1⟩ := bcell hb1; have hz1 := hb1.size; (try simp at hz1)
    have hB1 : Blk w1 w.heap.size 33 (grow g) := Blk.thru (by (repeat (first | assumption | exact Blk.new _ _ _ | (refine Blk.new' _ _ _ ?_; (simp; done)) | refine Blk.drew ?_ | refine Blk.alloc ?_ _ | (refine Blk.fars ?_ ?_ _ _; rotate_left; (dsimp only; omega)) | (refine Blk.far ?_ ?_ _; rotate_left; (first | (dsimp only; omega) | (simp; done) | (simp; omega) | omega))))) hb1 (by simp <;> omega)
    have hP1 : Blk w1 (w.heap.size + 1) 3 #[.int .i64 p] := Blk.thru (by (repeat (first | assumption | exact Blk.new _ _ _ | (refine Blk.new' _ _ _ ?_; (simp; done)) | refine Blk.drew ?_ | refine Blk.alloc ?_ _ | (refine Blk.fars ?_ ?_ _ _; rotate_left; (dsimp only; omega)) | (refine Blk.far ?_ ?_ _; rotate_left; (first | (dsimp only; omega) | (simp; done) | (simp; omega) | omega))))) hb1 (by simp <;> omega)
    have hX1 : Blk w1 (w.heap.size + 1 + 1) 3 #[.int .i64 x] := Blk.thru (by (repeat (first | assumption | exact Blk.new _ _ _ | (refine Blk.new' _ _ _ ?_; (simp; done)) | refine Blk.drew ?_ | refine Blk.alloc ?_ _ | (refine Blk.fars ?_ ?_ _ _; rotate_left; (dsimp only; omega)) | (refine Blk.far ?_ ?_ _; rotate_left; (first | (dsimp only; omega) | (simp; done) | (simp; omega) | omega))))) hb1 (by simp <;> omega)
    have hY1 : Blk w1 (w.heap.size + 1 + 1 + 1) 3 #[.int .i64 y] := Blk.thru (by (repeat (first | assumption | exact Blk.new _ _ _ | (refine Blk.new' _ _ _ ?_; (simp; done)) | refine Blk.drew ?_ | refine Blk.alloc ?_ _ | (refine Blk.fars ?_ ?_ _ _; rotate_left; (dsimp only; omega)) | (refine Blk.far ?_ ?_ _; rotate_left; (first | (dsimp only; omega) | (simp; done) | (simp; omega) | omega))))) hb1 (by simp <;> omega)
    have hB2 : Below w.heap.size w (w1.alloc (.cells #[.int .i64 fp, .int .i64 fa, .int .i64 0] 94)) := (by repeat (first | exact Below.refl _ _ | assumption | (refine Below.setCell ?_ (by first | omega | (simp; done) | (simp; omega)) _) | (refine Below.alloc ?_ (by first | omega | (simp; done) | (simp; omega)) _) | refine Below.drew ?_ | (refine below_thru ?_ (by assumption) (by first | omega | (simp; done) | (simp; omega))) | refine below_drewN ?_ _))
    have hR := And.intro (hB1.alloc (.cells #[.int .i64 fp, .int .i64 fa, .int .i64 0] 94)) (And.intro (hP1.alloc (.cells #[.int .i64 fp, .int .i64 fa, .int .i64 0] 94)) (And.intro (hX1.alloc (.cells #[.int .i64 fp, .int .i64 fa, .int .i64 0] 94)) (hY1.alloc (.cells #[.int .i64 fp, .int .i64 fa, .int .i64 0] 94))))
    have hz2 : (w1.alloc (.cells #[.int .i64 fp, .int .i64 fa, .int .i64 0] 94)).heap.size = w1.heap.size + 1 := by simp
    clear hB1 hP1 hX1 hY1
    go_wp2_with fail
    generalize hw2 : (w1.alloc (.cells #[.int .i64 fp, .int .i64 fa, .int .i64 0] 94)) = wx at *
    clear hw2
    refine wp_region_held (S := fun W' => Blk W' w.heap.size 33 (grow g) ∧ Blk W' (w.heap.size + 1) 3 #[.int .i64 p] ∧ Blk W' (w.heap.size + 1 + 1) 3 #[.int .i64 x] ∧ Blk W' (w.heap.size + 1 + 1 + 1) 3 #[.int .i64 y]) (by kernel_rfl) (by exact hR) (fun hHeld => ?_)
    refine wpAnyH_take (i := 0) (v := g.v) rfl (by kernel_rfl) (by kernel_rfl) (by kernel_rfl) (fun _ _ _ h => h) (Or.inl ⟨by rfl, fun w hSw => ld_g0 rfl rfl hSw.1⟩) hHeld ?_
    (try simp only [Act.put, List.setIfInBounds_toArray, List.set_cons_zero, List.set_cons_succ])
    refine wpAnyH_take (i := 1) (v := ?_) rfl (by kernel_rfl) (by kernel_rfl) (by kernel_rfl) (fun _ _ _ h => h) (Or.inl ⟨by rfl, ?_⟩) hHeld ?_
    rotate_left
    · intro w hSw; (try dsimp only at hSw); obtain ⟨x1, x2, x3, x4⟩ := hSw; have s0 := x2.cell 0; have t0 := x3.cell 0; have t1 := x4.cell 0; simp only [List.getElem?_toArray, List.getElem?_cons_zero] at s0 t0 t1; go_simp; (try with_reducible rfl)
    (try simp only [Act.put, List.setIfInBounds_toArray, List.set_cons_zero, List.set_cons_succ])
    refine wpAnyH_take (i := 3) (v := ?_) rfl (by kernel_rfl) (by kernel_rfl) (by kernel_rfl) (fun _ _ _ h => h) (Or.inl ⟨by rfl, ?_⟩) hHeld ?_
    rotate_left
    · intro w hSw; (try dsimp only at hSw); obtain ⟨x1, x2, x3, x4⟩ := hSw; have s0 := x2.cell 0; have t0 := x3.cell 0; have t1 := x4.cell 0; simp only [List.getElem?_toArray, List.getElem?_cons_zero] at s0 t0 t1; go_simp; (try with_reducible rfl)
    (try simp only [Act.put, List.setIfInBounds_toArray, List.set_cons_zero, List.set_cons_succ])
    refine wpAnyH_take (i := 4) (v := ?_) rfl (by kernel_rfl) (by kernel_rfl) (by kernel_rfl) (fun _ _ _ h => h) (Or.inl ⟨by rfl, ?_⟩) hHeld ?_
    rotate_left
    · intro w hSw; (try dsimp only at hSw); obtain ⟨x1, x2, x3, x4⟩ := hSw; have s0 := x2.cell 0; have t0 := x3.cell 0; have t1 := x4.cell 0; simp only [List.getElem?_toArray, List.getElem?_cons_zero] at s0 t0 t1; go_simp; (try with_reducible rfl)
    (try simp only [Act.put, List.setIfInBounds_toArray, List.set_cons_zero, List.set_cons_succ])
    (try simp only [List.getElem_toArray, List.getElem_cons_zero, List.getElem_cons_succ, Act.put, List.setIfInBounds_toArray, List.set_cons_zero, List.set_cons_succ])
    refine wpAnyH_ready (rs := [2]) (by kernel_rfl) (by simp) ?_
    refine AllReadyH.cons rfl (fun K hK => ?_) AllReadyH.nil
    go_simp
    refine (machineAt_any g p _).mono ?_
    rintro e w3 ⟨rfl, hb3⟩; have hz3 := hb3.size
    (try dsimp only)
    refine hK.out _ _ (by exact ⟨hHeld.1.thru hb3 hHeld.1.lt, hHeld.2.1.thru hb3 hHeld.2.1.lt, hHeld.2.2.1.thru hb3 hHeld.2.2.1.lt, hHeld.2.2.2.thru hb3 hHeld.2.2.2.lt⟩) (fun hHeld => ?_)
    clear hK K
    (try simp only [Act.put, List.setIfInBounds_toArray, List.set_cons_zero, List.set_cons_succ])
    (try simp at hz3)
    have hB3 : Below w.heap.size w w3 := (Below.drew hB2).trans (hb3.mono (by simp; omega))
    (try simp only [List.getElem_toArray, List.getElem_cons_zero, List.getElem_cons_succ, Act.put, List.setIfInBounds_toArray, List.set_cons_zero, List.set_cons_succ])
    refine wpAnyH_ready (rs := [5]) (by kernel_rfl) (by simp) ?_
    refine AllReadyH.cons rfl (fun K hK => ?_) AllReadyH.nil
    go_simp
    refine (HF.out _ (Hg.out.grow (hB3))).mono ?_
    rintro e w4 ⟨rfl, hb4⟩; have hz4 := hb4.size
    (try dsimp only)
    refine hK.out _ _ (by exact ⟨hHeld.1.thru hb4 hHeld.1.lt, hHeld.2.1.thru hb4 hHeld.2.1.lt, hHeld.2.2.1.thru hb4 hHeld.2.2.1.lt, hHeld.2.2.2.thru hb4 hHeld.2.2.2.lt⟩) (fun hHeld => ?_)
    clear hK K
    (try simp only [Act.put, List.setIfInBounds_toArray, List.set_cons_zero, List.set_cons_succ])
    have hB4 : Below w.heap.size w w4 := hB3.trans (hb4.mono (by omega))
    refine wpAnyH_take (i := 6) (v := ?_) rfl (by kernel_rfl) (by kernel_rfl) (by kernel_rfl) (fun _ _ _ h => h) (Or.inl ⟨by rfl, ?_⟩) hHeld ?_
    rotate_left
    · intro w hSw; (try dsimp only at hSw); skip; go_simp; (try with_reducible rfl)
    (try simp only [Act.put, List.setIfInBounds_toArray, List.set_cons_zero, List.set_cons_succ])
    refine wpAnyH_take (i := 7) (v := ?_) rfl (by kernel_rfl) (by kernel_rfl) (by kernel_rfl) (fun _ _ _ h => h) (Or.inl ⟨by rfl, ?_⟩) hHeld ?_
    rotate_left
    · intro w hSw; (try dsimp only at hSw); skip; go_simp; (try with_reducible rfl)
    (try simp only [Act.put, List.setIfInBounds_toArray, List.set_cons_zero, List.set_cons_succ])
    refine wpAnyH_take (i := 8) (v := ?_) rfl (by kernel_rfl) (by kernel_rfl) (by kernel_rfl) (fun _ _ _ h => h) (Or.inl ⟨by rfl, ?_⟩) hHeld ?_
    rotate_left
    · intro w hSw; (try dsimp only at hSw); skip; go_simp; (try with_reducible rfl)
    (try simp only [Act.put, List.setIfInBounds_toArray, List.set_cons_zero, List.set_cons_succ])
    refine wpAnyH_take (i := 9) (v := ?_) rfl (by kernel_rfl) (by kernel_rfl) (by kernel_rfl) (fun _ _ _ h => h) (Or.inl ⟨by rfl, ?_⟩) hHeld ?_
    rotate_left
    · intro w hSw; (try dsimp only at hSw); skip; go_simp; (try with_reducible rfl)
    (try simp only [Act.put, List.setIfInBounds_toArray, List.set_cons_zero, List.set_cons_succ])
    refine wpAnyH_take (i := 10) (v := ?_) rfl (by kernel_rfl) (by kernel_rfl) (by kernel_rfl) (fun _ _ _ h => h) (Or.inl ⟨by rfl, ?_⟩) hHeld ?_
    rotate_left
    · intro w hSw; (try dsimp only at hSw); skip; go_simp; (try with_reducible rfl)
    (try simp only [Act.put, List.setIfInBounds_toArray, List.set_cons_zero, List.set_cons_succ])
    refine wpAnyH_done (by kernel_rfl) ?_ _
    (try simp only [List.getElem_toArray, List.getElem_cons_zero, List.getElem_cons_succ, Act.put, List.setIfInBounds_toArray, List.set_cons_zero, List.set_cons_succ])
    go_wp2
    exact bodyPost_ret (v := .tuple #[.int .i64 nt, .int .i64 rb, .int .i64 0]) (by simp [results, Tryz.results25, go_sem] <;> omega) rfl ⟨rfl, hB4⟩
  · have hf : forceR g p x y = (0, 0, (forceFt g p x y).e) := by unfold forceR; rw [if_neg h0]
    rw [hf]
    clear hf hGood hg
    obtain ⟨fp, fa, fe, hfl⟩ : ∃ fp fa fe, forceFt g p x y = ⟨fp, fa, fe⟩ := ⟨_, _, _, rfl⟩
    have Hfl := Lib.hid hfl
    rw [hfl] at h0 ⊢
    simp only at h0
    have h0' : (fe != 0) = true := by rw [bne_iff_ne]; exact h0
    clear hfl h0
    go_enter Tryz.func25, Tryz.ntmps25
    go_wp2_with fail
    refine (first_any _ (w.heap.size + 1 + 1 + 1 + 1) 0 2 [⟨61, #[.pointer (some ⟨w.heap.size, 0, none⟩), .pointer (some ⟨w.heap.size + 1 + 1, 0, none⟩), .pointer (some ⟨w.heap.size + 1 + 1 + 1, 0, none⟩)], levelsFt g x y⟩, ⟨63, #[.pointer (some ⟨w.heap.size + 1, 0, none⟩), .pointer (some ⟨w.heap.size, 0, none⟩)], need (betw p 0 g.travel) 7⟩] rfl (by omega) (by simp) ?_ (HGood.out _ _ _ _ _ ⟨?_, ?_⟩ ?_ ?_ ?_) ?_).mono ?_
    · intro k c hk
      match k, hk with
      | 0, hk => cases hk; exact (Blk.new' _ _ _ (by simp)).cell 0
      | 1, hk => cases hk; exact (Blk.new' _ _ _ (by simp)).cell 1
      | k + 2, hk => simp at hk
    · exact ((((Blk.new w _ _).alloc _).alloc _).alloc _).alloc _
    · exact Hg.out.grow (by repeat (first | exact Below.refl _ _ | assumption | (refine Below.setCell ?_ (by first | omega | (simp; done) | (simp; omega)) _) | (refine Below.alloc ?_ (by first | omega | (simp; done) | (simp; omega)) _) | refine Below.drew ?_ | (refine below_thru ?_ (by assumption) (by first | omega | (simp; done) | (simp; omega))) | refine below_drewN ?_ _))
    · exact (((Blk.new' (w.alloc _) _ _ (by simp)).alloc _).alloc _).alloc _
    · exact ((Blk.new' ((w.alloc _).alloc _) _ _ (by simp)).alloc _).alloc _
    · exact (Blk.new' (((w.alloc _).alloc _).alloc _) _ _ (by simp)).alloc _
    · intro k c hk W
      match k, hk with
      | 0, hk => cases hk; show Sem.run Tryz.prog (callFunc _ _) W = _; kernel_rfl
      | 1, hk => cases hk; show Sem.run Tryz.prog (callFunc _ _) W = _; kernel_rfl
      | k + 2, hk => simp at hk
    rintro e w1 ⟨he, hb1⟩
    replace he : e = .returned (forceFt g p x y).v := he
    rw [Hfl.out] at he
    subst he
    obtain ⟨hc1, hf1⟩ := bcell hb1; have hz1 := hb1.size; (try simp at hz1)
    have hl1 : w.heap.size < w1.heap.size := by omega
    go_wp2_with fail
    go_quiet (fail)
    go_wp2
    exact bodyPost_ret (v := .tuple #[.int .i64 0, .int .i64 0, .int .i64 fe]) (by simp [results, Tryz.results25, go_sem] <;> omega) rfl ⟨rfl, (by repeat (first | exact Below.refl _ _ | assumption | (refine Below.setCell ?_ (by first | omega | (simp; done) | (simp; omega)) _) | (refine Below.alloc ?_ (by first | omega | (simp; done) | (simp; omega)) _) | refine Below.drew ?_ | (refine below_thru ?_ (by assumption) (by first | omega | (simp; done) | (simp; omega))) | refine below_drewN ?_ _))⟩
end Go.Proofs.YtgdomaddjiggaaaGreat
