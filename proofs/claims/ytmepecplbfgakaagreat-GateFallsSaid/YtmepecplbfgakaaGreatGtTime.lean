/- Time: after how many steps a gate alone is shut. -/
import Derived.Test.YtmepecplbfgakaaGreatGtDelay
namespace Go.Proofs.YtmepecplbfgakaaGreat
open Go.RowKit
set_option linter.unusedSimpArgs false
set_option linter.unusedVariables false

def timeR (g : Ga) (s : Gs) (t : Gt) : Int × Int := if (stepFt g s t).e = 0 then toShutF [] 0 t 1 2000 0 [(g, s)] else (0, (stepFt g s t).e)
/-- What the end of Time reads. -/
structure TiR (W : World) (gb : Nat) (g : Ga) (sb : Nat) (s : Gs) (tb : Nat) (t : Gt) : Prop where
  g : Blk W gb 33 (grow g)
  s : Blk W sb 42 #[.int .i64 s.pos, .int .i64 s.charge, .bool s.bolted]
  t : Blk W tb 49 #[.int .i64 t.order, .bool t.power, .int .i64 t.outer, .int .i64 t.inner]
section
variable {W W' : World} {gb sb tb : Nat} {g : Ga} {s : Gs} {t : Gt}
theorem TiR.below (h : TiR W gb g sb s tb t) (hb : Below W.heap.size W W') : TiR W' gb g sb s tb t := ⟨h.g.thru hb h.g.lt, h.s.thru hb h.s.lt, h.t.thru hb h.t.lt⟩
theorem TiR.drew (h : TiR W gb g sb s tb t) : TiR W.drew gb g sb s tb t := ⟨h.g, h.s, h.t⟩
theorem TiR.kept {c : Nat} (h : TiR W gb g sb s tb t) (hg : W.grownBy W' (some c)) (h1 : gb ≠ c) (h2 : sb ≠ c) (h3 : tb ≠ c) : TiR W' gb g sb s tb t := ⟨h.g.kept hg h1, h.s.kept hg h2, h.t.kept hg h3⟩
end

set_option maxRecDepth 100000 in
set_option maxHeartbeats 8000000 in
theorem Time_any (g : Ga) (s : Gs) (outer inner : Int) (power : Bool) (w : World) (hg : g.At w w.heap.size) :
    Calls Tryz.prog 34 #[g.v, s.v, .int .i64 outer, .int .i64 inner, .bool power] w fun e w' => e = .returned (pairV (timeR g s ⟨1, power, outer, inner⟩)) ∧ Below w.heap.size w w' := by
  obtain ⟨t, ht⟩ : ∃ t : Gt, t = ⟨1, power, outer, inner⟩ := ⟨_, rfl⟩
  rw [← ht]
  have hto : t.order = 1 ∧ t.power = power ∧ t.outer = outer ∧ t.inner = inner := by subst ht; exact ⟨rfl, rfl, rfl, rfl⟩
  obtain ⟨t0, t1, t2, t3⟩ := hto
  have Hg := Lib.hid hg
  have hSF : ∀ W, g.At W W.heap.size → Calls Tryz.prog 69 #[g.v, s.v, .agg #[.int .i64 1, .bool t.power, .int .i64 t.outer, .int .i64 t.inner]] W fun e w' => e = .returned (stepFt g s t).v ∧ Below W.heap.size W w' := fun W h => by
    have := stepFault_any g s t W h
    rwa [show t.v = .agg #[.int .i64 1, .bool t.power, .int .i64 t.outer, .int .i64 t.inner] by rw [← t0]] at this
  have HS := Lib.hid hSF
  by_cases h0 : (stepFt g s t).e = 0
  · obtain ⟨hgo, hso, hto⟩ := step_ok hg h0
    have hf : timeR g s t = toShutF [] 0 t 1 2000 0 [(g, s)] := by unfold timeR; rw [if_pos h0]
    rw [hf]
    have hTS : ∀ (W : World) (b : Nat), Ms W b [(g, s)] → Below w.heap.size w W → w.heap.size ≤ b →
        Calls Tryz.prog 85 #[setV (some ⟨b, 0, none⟩) 1 1 none 0 0, .agg #[.int .i64 1, .bool t.power, .int .i64 t.outer, .int .i64 t.inner]] W fun e w' => e = .returned (pairV (toShutF [] 0 t 1 2000 0 [(g, s)])) ∧ W.grownBy w' (some b) := by
      intro W b hM hW hbw
      have := toShut_any [(g, s)] [] t b 1 1 none 0 0 W hM ⟨rfl, fun m hm => by simp only [List.mem_singleton] at hm; subst hm; exact (hg.below hW).more hbw, fun m hm => by simp only [List.mem_singleton] at hm; subst hm; exact ⟨hgo, hso⟩⟩ (by omega) (by omega) ⟨rfl, fun h => absurd h (by omega)⟩ (by omega) (fun r hr => by cases hr) hto
      rwa [show t.v = .agg #[.int .i64 1, .bool t.power, .int .i64 t.outer, .int .i64 t.inner] by rw [← t0]] at this
    have HTS := Lib.hid hTS
    obtain ⟨fp, fa, fe, hfl⟩ : ∃ fp fa fe, stepFt g s t = ⟨fp, fa, fe⟩ := ⟨_, _, _, rfl⟩
    rw [hfl] at HS h0
    simp only at h0
    subst h0
    have T0 := Lib.hid t0
    generalize toShutF [] 0 t 1 2000 0 [(g, s)] = ts at *
    obtain ⟨n, er⟩ := ts
    clear hfl ht t0 hf hgo hso hto hTS hSF hg
    subst t1 t2 t3
    go_enter Tryz.func34, Tryz.ntmps34
    go_wp2_with (with_reducible refine wpl_g (g := g) (((Blk.new w _ _).alloc _).alloc _) rfl rfl rfl ?_)
    refine (HS.out _ (Hg.out.grow (by repeat (first | exact Below.refl _ _ | assumption | (refine Below.setCell ?_ (by first | omega | (simp; done) | (simp; omega)) _) | (refine Below.alloc ?_ (by first | omega | (simp; done) | (simp; omega)) _) | refine Below.drew ?_ | (refine below_thru ?_ (by assumption) (by first | omega | (simp; done) | (simp; omega))) | refine below_drewN ?_ _)))).mono ?_
    rintro e w1 ⟨rfl, hb1⟩
    obtain ⟨hc1, hf1⟩ := bcell hb1; have hz1 := hb1.size; (try simp at hz1)
    have hl1 : w.heap.size < w1.heap.size := by omega
    have hT1 : TiR w1 w.heap.size g (w.heap.size + 1) s (w.heap.size + 1 + 1) t :=
      ⟨Blk.thru (by (repeat (first | assumption | exact Blk.new _ _ _ | (refine Blk.new' _ _ _ ?_; (simp; done)) | refine Blk.drew ?_ | refine Blk.alloc ?_ _ | (refine Blk.fars ?_ ?_ _ _; rotate_left; (dsimp only; omega)) | (refine Blk.far ?_ ?_ _; rotate_left; (first | (dsimp only; omega) | (simp; done) | (simp; omega) | omega))))) hb1 (by simp <;> omega), Blk.thru (by (repeat (first | assumption | exact Blk.new _ _ _ | (refine Blk.new' _ _ _ ?_; (simp; done)) | refine Blk.drew ?_ | refine Blk.alloc ?_ _ | (refine Blk.fars ?_ ?_ _ _; rotate_left; (dsimp only; omega)) | (refine Blk.far ?_ ?_ _; rotate_left; (first | (dsimp only; omega) | (simp; done) | (simp; omega) | omega))))) hb1 (by simp <;> omega), Blk.thru (by rw [T0.out]; (repeat (first | assumption | exact Blk.new _ _ _ | (refine Blk.new' _ _ _ ?_; (simp; done)) | refine Blk.drew ?_ | refine Blk.alloc ?_ _ | (refine Blk.fars ?_ ?_ _ _; rotate_left; (dsimp only; omega)) | (refine Blk.far ?_ ?_ _; rotate_left; (first | (dsimp only; omega) | (simp; done) | (simp; omega) | omega))))) hb1 (by simp <;> omega)⟩
    have hT2 := (hT1.below (W' := w1.alloc (.cells #[.int .i64 fp, .int .i64 fa, .int .i64 0] 94)) (by repeat (first | exact Below.refl _ _ | assumption | (refine Below.setCell ?_ (by first | omega | (simp; done) | (simp; omega)) _) | (refine Below.alloc ?_ (by first | omega | (simp; done) | (simp; omega)) _) | refine Below.drew ?_ | (refine below_thru ?_ (by assumption) (by first | omega | (simp; done) | (simp; omega))) | refine below_drewN ?_ _))).drew
    have hB2 : Below w.heap.size w (w1.alloc (.cells #[.int .i64 fp, .int .i64 fa, .int .i64 0] 94)).drew := (by repeat (first | exact Below.refl _ _ | assumption | (refine Below.setCell ?_ (by first | omega | (simp; done) | (simp; omega)) _) | (refine Below.alloc ?_ (by first | omega | (simp; done) | (simp; omega)) _) | refine Below.drew ?_ | (refine below_thru ?_ (by assumption) (by first | omega | (simp; done) | (simp; omega))) | refine below_drewN ?_ _))
    have hz2 : (w1.alloc (.cells #[.int .i64 fp, .int .i64 fa, .int .i64 0] 94)).drew.heap.size = w1.heap.size + 1 := by simp
    clear hT1
    go_wp2_with fail
    generalize hw2 : (w1.alloc (.cells #[.int .i64 fp, .int .i64 fa, .int .i64 0] 94)) = wx at *
    clear hw2
    refine wp_region_held (S := fun W' => TiR W' w.heap.size g (w.heap.size + 1) s (w.heap.size + 1 + 1) t) (by kernel_rfl) (by exact hT2) (fun hHeld => ?_)
    refine wpAnyH_take (i := 0) (v := g.v) rfl (by kernel_rfl) (by kernel_rfl) (by kernel_rfl) (fun _ _ _ h => h) (Or.inl ⟨by rfl, fun w hSw => ld_g rfl rfl hSw.g⟩) hHeld ?_
    (try simp only [Act.put, List.setIfInBounds_toArray, List.set_cons_zero, List.set_cons_succ])
    refine wpAnyH_take (i := 1) (v := ?_) rfl (by kernel_rfl) (by kernel_rfl) (by kernel_rfl) (fun _ _ _ h => h) (Or.inl ⟨by rfl, ?_⟩) hHeld ?_
    rotate_left
    · intro w hSw; (try dsimp only at hSw); obtain ⟨x1, x2, x3⟩ := hSw; have s0 := x2.cell 0; have s1 := x2.cell 1; have s2 := x2.cell 2; have t0 := x3.cell 0; have t1 := x3.cell 1; have t2 := x3.cell 2; have t3 := x3.cell 3; simp only [List.getElem?_toArray, List.getElem?_cons_zero, List.getElem?_cons_succ] at s0 s1 s2 t0 t1 t2 t3; rw [T0.out] at t0; go_simp; (try with_reducible rfl)
    (try simp only [Act.put, List.setIfInBounds_toArray, List.set_cons_zero, List.set_cons_succ])
    refine wpAnyH_take (i := 3) (v := ?_) rfl (by kernel_rfl) (by kernel_rfl) (by kernel_rfl) (fun _ _ _ h => h) (Or.inl ⟨by rfl, ?_⟩) hHeld ?_
    rotate_left
    · intro w hSw; (try dsimp only at hSw); obtain ⟨x1, x2, x3⟩ := hSw; have s0 := x2.cell 0; have s1 := x2.cell 1; have s2 := x2.cell 2; have t0 := x3.cell 0; have t1 := x3.cell 1; have t2 := x3.cell 2; have t3 := x3.cell 3; simp only [List.getElem?_toArray, List.getElem?_cons_zero, List.getElem?_cons_succ] at s0 s1 s2 t0 t1 t2 t3; rw [T0.out] at t0; go_simp; (try with_reducible rfl)
    (try simp only [Act.put, List.setIfInBounds_toArray, List.set_cons_zero, List.set_cons_succ])
    (try simp only [List.getElem_toArray, List.getElem_cons_zero, List.getElem_cons_succ, Act.put, List.setIfInBounds_toArray, List.set_cons_zero, List.set_cons_succ])
    refine wpAnyH_ready (rs := [2]) (by kernel_rfl) (by simp) ?_
    refine AllReadyH.cons rfl (fun K hK => ?_) AllReadyH.nil
    go_simp
    refine (alone_any g s _).mono ?_
    rintro e w3 ⟨b, rfl, hbb, hbm, hb3⟩; have hz3 := hb3.size
    (try dsimp only)
    refine hK.out _ _ (by exact hHeld.below hb3) (fun hHeld => ?_)
    clear hK K
    (try simp only [Act.put, List.setIfInBounds_toArray, List.set_cons_zero, List.set_cons_succ])
    (try simp at hz2 hbb hz3)
    have hB3 : Below w.heap.size w w3 := hB2.trans (hb3.mono (by simp; omega))
    have hbl := hbm.lt
    have hcall : Calls Tryz.prog 85 #[setV (some ⟨b, 0, none⟩) 1 1 none 0 0, .agg #[.int .i64 1, .bool t.power, .int .i64 t.outer, .int .i64 t.inner]] w3 fun e w' => e = .returned (.tuple #[.int .i64 n, .int .i64 er]) ∧ w3.grownBy w' (some b) := HTS.out w3 b (Ms.one hbm) hB3 (by omega)
    (try simp only [List.getElem_toArray, List.getElem_cons_zero, List.getElem_cons_succ, Act.put, List.setIfInBounds_toArray, List.set_cons_zero, List.set_cons_succ])
    refine wpAnyH_ready (rs := [4]) (by kernel_rfl) (by simp) ?_
    refine AllReadyH.cons rfl (fun K hK => ?_) AllReadyH.nil
    go_simp
    refine (hcall).mono ?_
    rintro e w4 ⟨rfl, hg4⟩; have hz4 := hg4.size
    (try dsimp only)
    refine hK.out _ _ (by exact hHeld.kept hg4 (by omega) (by omega) (by omega)) (fun hHeld => ?_)
    clear hK K
    (try simp only [Act.put, List.setIfInBounds_toArray, List.set_cons_zero, List.set_cons_succ])
    have hB4 : Below w.heap.size w w4 := hB3.trans (below_of_grown hg4 (by omega) (by omega))
    clear hg4 hbm hb3 hB3 hB2 hT2
    refine wpAnyH_take (i := 5) (v := ?_) rfl (by kernel_rfl) (by kernel_rfl) (by kernel_rfl) (fun _ _ _ h => h) (Or.inl ⟨by rfl, ?_⟩) hHeld ?_
    rotate_left
    · intro w hSw; (try dsimp only at hSw); skip; go_simp; (try with_reducible rfl)
    (try simp only [Act.put, List.setIfInBounds_toArray, List.set_cons_zero, List.set_cons_succ])
    refine wpAnyH_take (i := 6) (v := ?_) rfl (by kernel_rfl) (by kernel_rfl) (by kernel_rfl) (fun _ _ _ h => h) (Or.inl ⟨by rfl, ?_⟩) hHeld ?_
    rotate_left
    · intro w hSw; (try dsimp only at hSw); skip; go_simp; (try with_reducible rfl)
    (try simp only [Act.put, List.setIfInBounds_toArray, List.set_cons_zero, List.set_cons_succ])
    refine wpAnyH_take (i := 7) (v := ?_) rfl (by kernel_rfl) (by kernel_rfl) (by kernel_rfl) (fun _ _ _ h => h) (Or.inl ⟨by rfl, ?_⟩) hHeld ?_
    rotate_left
    · intro w hSw; (try dsimp only at hSw); skip; go_simp; (try with_reducible rfl)
    (try simp only [Act.put, List.setIfInBounds_toArray, List.set_cons_zero, List.set_cons_succ])
    refine wpAnyH_take (i := 8) (v := ?_) rfl (by kernel_rfl) (by kernel_rfl) (by kernel_rfl) (fun _ _ _ h => h) (Or.inl ⟨by rfl, ?_⟩) hHeld ?_
    rotate_left
    · intro w hSw; (try dsimp only at hSw); skip; go_simp; (try with_reducible rfl)
    (try simp only [Act.put, List.setIfInBounds_toArray, List.set_cons_zero, List.set_cons_succ])
    refine wpAnyH_done (by kernel_rfl) ?_ _
    (try simp only [List.getElem_toArray, List.getElem_cons_zero, List.getElem_cons_succ, Act.put, List.setIfInBounds_toArray, List.set_cons_zero, List.set_cons_succ])
    go_wp2
    go_ret2
    exact ⟨rfl, hB4⟩
  · have hf : timeR g s t = (0, (stepFt g s t).e) := by unfold timeR; rw [if_neg h0]
    rw [hf]
    clear hf hSF hg
    obtain ⟨fp, fa, fe, hfl⟩ : ∃ fp fa fe, stepFt g s t = ⟨fp, fa, fe⟩ := ⟨_, _, _, rfl⟩
    rw [hfl] at HS h0 ⊢
    simp only at h0
    have h0' : (fe != 0) = true := by rw [bne_iff_ne]; exact h0
    clear hfl h0 ht t0
    subst t1 t2 t3
    go_enter Tryz.func34, Tryz.ntmps34
    go_wp2_with (with_reducible refine wpl_g (g := g) (((Blk.new w _ _).alloc _).alloc _) rfl rfl rfl ?_)
    refine (HS.out _ (Hg.out.grow (by repeat (first | exact Below.refl _ _ | assumption | (refine Below.setCell ?_ (by first | omega | (simp; done) | (simp; omega)) _) | (refine Below.alloc ?_ (by first | omega | (simp; done) | (simp; omega)) _) | refine Below.drew ?_ | (refine below_thru ?_ (by assumption) (by first | omega | (simp; done) | (simp; omega))) | refine below_drewN ?_ _)))).mono ?_
    rintro e w1 ⟨rfl, hb1⟩
    obtain ⟨hc1, hf1⟩ := bcell hb1; have hz1 := hb1.size; (try simp at hz1)
    have hl1 : w.heap.size < w1.heap.size := by omega
    go_wp2_with fail
    go_quiet (fail)
    go_wp2
    go_ret2
    exact ⟨rfl, (by repeat (first | exact Below.refl _ _ | assumption | (refine Below.setCell ?_ (by first | omega | (simp; done) | (simp; omega)) _) | (refine Below.alloc ?_ (by first | omega | (simp; done) | (simp; omega)) _) | refine Below.drew ?_ | (refine below_thru ?_ (by assumption) (by first | omega | (simp; done) | (simp; omega))) | refine below_drewN ?_ _))⟩
end Go.Proofs.YtmepecplbfgakaaGreat
