/- The set of the examples. -/
import Derived.Test.YtgdomaddjiggaaaGreatGtWhereS
namespace Go.Proofs.YtgdomaddjiggaaaGreat
open Go.RowKit
set_option linter.unusedSimpArgs false
set_option linter.unusedVariables false

def PairAt (w : World) (e : Ending) (w' : World) : Prop := ∃ a b c d gA rA gc rc, e = .returned (exSt a b c d gA rA gc rc).v ∧ (exSt a b c d gA rA gc rc).At w' w'.heap.size ∧ Below w.heap.size w w'
theorem run_bslice_gg (g h : Ga) (w : World) : (Instr.buildSlice 22 2 #[(0, g.v), (1, h.v)]).run Tryz.prog w = .ok (.slice (some ⟨w.heap.size, 0, none⟩) 2 2) (w.alloc (.cells (g.cells ++ h.cells).toArray 33)) := by
  kernel_rfl
theorem exG_at {w : World} {B : Nat} {n m : ByteArray} {a b : Nat} (h : (exG n a b).At w B) (hm : m.size ≤ maxLen) : (exG m a b).At w B := ⟨h.o, h.s, hm, h.on, h.sn⟩
theorem pair_end {w1 : World} {a b c d G R : Nat} (hG : Blk w1 G 33 ((exG eastName a b).cells ++ (exG westName c d).cells).toArray) (hR : Blk w1 R 92 #[.int .i64 1, .int .i64 0, .int .i64 1000, .int .i64 1000])
    (h1 : (exG eastName a b).At w1 w1.heap.size) (h2 : (exG westName c d).At w1 w1.heap.size) : (exSt a b c d (some ⟨G, 0, none⟩) (some ⟨R, 0, none⟩) 2 1).At w1 w1.heap.size := by
  refine ⟨⟨Tab.of_flat hG hG.lt rfl (by intro r hr; simp [exSt] at hr; rcases hr with rfl | rfl <;> rfl) rfl, fun g hg => ?_⟩, Tab.of_flat hR hR.lt rfl (by intro r hr; simp [exSt] at hr; subst hr; rfl) rfl, ?_, ?_, ?_⟩
  · simp only [exSt, List.mem_cons, List.not_mem_nil, or_false] at hg
    rcases hg with rfl | rfl
    · exact h1
    · exact h2
  · simp only [exSt, maxLen]; decide
  · simp only [exSt, maxLen]; decide
  · simp only [exSt]; decide

theorem uSetS : Tryz.prog.underlying 25 = some (.struct #[Field.mk "Gates" 22 0 false "" "" 0, Field.mk "Rules" 23 1 false "" "" 24]) := by kernel_rfl
theorem iSetS : (Tryz.prog.info? 25).map (·.size) = some 2 := by kernel_rfl
set_option maxRecDepth 100000 in
set_option maxHeartbeats 4000000 in
theorem Pair_any (w : World) : Calls Tryz.prog 47 #[] w (PairAt w) := by
  have hal := fun W => run_alloc_g W
  have hbs := fun a b c d W => run_bslice_gg (exG eastName a b) (exG westName c d) W
  go_enter Tryz.func47, Tryz.ntmps47
  go_wp2_with fail
  refine (Example_any _).mono ?_
  rintro e w1 ⟨c, d, rfl, hat, ⟨hc0, hd0⟩, hb1⟩
  obtain ⟨hc1, hf1⟩ := bcell hb1; have hz1 := hb1.size; (try simp at hz1)
  (try simp at hc0 hd0)
  have Hat := Lib.hid hat
  clear hat
  have hP1 : Blk w1 w.heap.size 25 #[.slice none 0 0, .slice none 0 0] := Blk.thru (by (repeat (first | assumption | exact Blk.new _ _ _ | (refine Blk.new' _ _ _ ?_; (simp; done)) | refine Blk.drew ?_ | refine Blk.alloc ?_ _ | (refine Blk.fars ?_ ?_ _ _; rotate_left; (dsimp only; omega)) | (refine Blk.far ?_ ?_ _; rotate_left; (first | (dsimp only; omega) | (simp; done) | (simp; omega) | omega))))) hb1 (by simp)
  have hBw1 : Below w.heap.size w w1 := (by repeat (first | exact Below.refl _ _ | assumption | (refine Below.setCell ?_ (by first | omega | (simp; done) | (simp; omega)) _) | (refine Below.alloc ?_ (by first | omega | (simp; done) | (simp; omega)) _) | refine Below.drew ?_ | (refine below_thru ?_ (by assumption) (by first | omega | (simp; done) | (simp; omega))) | refine below_drewN ?_ _))
  clear hb1 hc1 hf1
  go_wp2_with (with_reducible refine wpl_sg (cs := zgrow) (g := exG eastName c d) (Blk.new w1 _ _) rfl rfl rfl rfl rfl (put_g _) ?_; intro W hW; refine Hid.out ?_)
  have hsz := hW.size
  simp at hsz
  have hbW : Below w1.heap.size w1 W := hW.below _ _ (Nat.le_refl _) ((Below.refl _ _).alloc (Nat.le_refl _) _)
  have hWest : Blk (W.setCell ⟨w1.heap.size, 0, none⟩ (.string westName)) w1.heap.size 33 (grow (exG westName c d)) := blk_eq (show (grow (exG eastName c d)).setIfInBounds 0 (.string westName) = grow (exG westName c d) from by kernel_rfl) (hW.blk.set_ 0 _)
  have hPW : Blk (W.setCell ⟨w1.heap.size, 0, none⟩ (.string westName)) w.heap.size 25 #[.slice none 0 0, .slice none 0 0] := (hP1.thru hbW (by omega)).far (by simp; omega) _
  have hBW : Below w.heap.size w (W.setCell ⟨w1.heap.size, 0, none⟩ (.string westName)) := Below.setCell (hBw1.trans (hbW.mono (by omega))) (by simp; omega) _
  have hAW : (exG eastName c d).At (W.setCell ⟨w1.heap.size, 0, none⟩ (.string westName)) w1.heap.size := (Hat.out.below hbW).keep (fun p hp => World.cell?_setCell_other _ _ _ _ (by intro h; have := congrArg Addr.block h; simp at this; omega))
  have hzW : (W.setCell ⟨w1.heap.size, 0, none⟩ (.string westName)).heap.size = w1.heap.size + 1 := by simp [World.setCell]; exact hsz
  generalize hWW : W.setCell ⟨w1.heap.size, 0, none⟩ (.string westName) = WW at *
  have q0 : W.cell? ⟨w1.heap.size, 0, none⟩ = some (.string eastName) := hW.blk.cell 0
  have z0 := hW.blk.frozen 0
  clear hW hbW
  refine Lib.hid ?_
  go_wp2_with fail
  have hWW' : W.setCell ⟨w1.heap.size, 0, none⟩ (.string ⟨#[119, 101, 115, 116]⟩) = WW := hWW
  rw [hWW']
  clear hWW hWW' q0 z0 hsz Hat hP1 hBw1
  obtain ⟨GV, hGV⟩ : ∃ GV, GV = (exG westName c d).v := ⟨_, rfl⟩
  obtain ⟨fs, hu⟩ := uGate
  have end_ : ∀ (W3 : World) (a b G R : Nat), Blk W3 G 33 ((exG eastName a b).cells ++ (exG westName c d).cells).toArray → Blk W3 R 92 #[.int .i64 1, .int .i64 0, .int .i64 1000, .int .i64 1000] → (exG eastName a b).At W3 W3.heap.size → w1.heap.size ≤ a → w1.heap.size ≤ b → Below w1.heap.size WW W3 →
      PairAt w (.returned (.agg #[.slice (some ⟨G, 0, none⟩) 2 2, .slice (some ⟨R, 0, none⟩) 1 1])) (W3.setCells w.heap.size 0 [.slice (some ⟨G, 0, none⟩) 2 2, .slice (some ⟨R, 0, none⟩) 1 1]) := by
    intro W3 a b G R hG hR h1 ha0 hb0 hb
    have hne : ∀ g, Blk W3 g 33 ((exG eastName a b).cells ++ (exG westName c d).cells).toArray → g ≠ w.heap.size := fun g hg h => by
      have hp := hPW.thru hb (by omega)
      subst h
      unfold Blk at hg hp
      rw [hp] at hg
      have := congrArg (fun o => match o with | some (Obj.cells c _ _) => c.size | _ => 0) hg
      simp [exG] at this
    have hneR : R ≠ w.heap.size := fun h => by
      have hp := hPW.thru hb (by omega)
      subst h
      unfold Blk at hR hp
      rw [hp] at hR
      have := congrArg (fun o => match o with | some (Obj.cells c _ _) => c.size | _ => 0) hR
      simp at this
    have hk : ∀ p : Addr, p.block ≠ w.heap.size → (W3.setCells w.heap.size 0 [.slice (some ⟨G, 0, none⟩) 2 2, .slice (some ⟨R, 0, none⟩) 1 1]).cell? p = W3.cell? p := fun p hp => World.cell?_setCells_out _ _ _ _ _ (fun h _ => absurd h hp)
    have hz3 := hb.size
    refine ⟨a, b, c, d, some ⟨G, 0, none⟩, some ⟨R, 0, none⟩, 2, 1, rfl, pair_end (w1 := W3.setCells w.heap.size 0 [.slice (some ⟨G, 0, none⟩) 2 2, .slice (some ⟨R, 0, none⟩) 1 1]) (hG.fars (hne G hG) _ _) (hR.fars hneR _ _) ?_ ?_, below_sets (hBW.trans (hb.mono (by omega))) (Nat.le_refl _) _ _⟩
    · rw [size_sets]
      exact ex_far h1 hk (by omega) (by omega)
    · rw [size_sets]
      exact ex_far ((exG_at (hAW.below hb) (m := westName) (by simp only [maxLen]; decide)).more (by omega)) hk (by omega) (by omega)
  go_wp2_with fail
  refine wp_region_held (S := fun W' => Blk W' w1.heap.size 33 (grow (exG westName c d))) (by kernel_rfl) (by exact hWest.drew) (fun hHeld => ?_)
  refine wpAnyH_take (i := 1) (v := (exG westName c d).v) rfl (by kernel_rfl) (by kernel_rfl) (by kernel_rfl) (fun _ _ _ h => h) (Or.inl ⟨by rfl, fun w hSw => ld_g rfl rfl hSw⟩) hHeld ?_
  (try simp only [Act.put, List.setIfInBounds_toArray, List.set_cons_zero, List.set_cons_succ])
  refine wpAnyH_take (i := 3) (v := ?_) rfl (by kernel_rfl) (by kernel_rfl) (by kernel_rfl) (fun _ _ _ h => h) (Or.inl ⟨by rfl, ?_⟩) hHeld ?_
  rotate_left
  · intro w hSw; (try dsimp only at hSw); skip; go_simp; (try with_reducible rfl)
  (try simp only [Act.put, List.setIfInBounds_toArray, List.set_cons_zero, List.set_cons_succ])
  refine wpAnyH_ready (rs := [0, 4]) (by kernel_rfl) (by simp) ?_
  refine AllReadyH.cons rfl (fun K hK => ?_) (AllReadyH.cons rfl (fun K hK => ?_) AllReadyH.nil)
  ·
    go_simp
    refine (Example_any _).mono ?_
    rintro e w2 ⟨a, b, rfl, hat2, ⟨ha0, hb0⟩, hb2⟩
    (try dsimp only)
    have hz2 := hb2.size
    (try simp at hz2 ha0 hb0)
    refine hK.out _ _ (by exact hHeld.thru hb2 hHeld.lt) (fun hHeld => ?_)
    clear hK K
    (try simp only [List.getElem_toArray, List.getElem_cons_zero, List.getElem_cons_succ, Act.put, List.setIfInBounds_toArray, List.set_cons_zero, List.set_cons_succ])
    have hb3 : Below w1.heap.size WW w2 := (Below.drew (Below.refl _ _)).trans (hb2.mono (by simp; omega))
    have hP2 : Blk w2 w.heap.size 25 #[.slice none 0 0, .slice none 0 0] := hPW.thru hb3 (by omega)
    clear hb2
    refine wpAnyH_ready (rs := [2, 4]) (by kernel_rfl) (by simp) ?_
    refine AllReadyH.cons rfl (fun K hK => ?_) (AllReadyH.cons rfl (fun K hK => ?_) AllReadyH.nil)
    ·
      go_simp
      (try dsimp only)
      refine hK.out _ _ (by exact hHeld.alloc _) (fun hHeld => ?_)
      clear hK K
      (try simp only [List.getElem_toArray, List.getElem_cons_zero, List.getElem_cons_succ, Act.put, List.setIfInBounds_toArray, List.set_cons_zero, List.set_cons_succ])
      refine wpAnyH_ready (rs := [4]) (by kernel_rfl) (by simp) ?_
      refine AllReadyH.cons rfl (fun K hK => ?_) AllReadyH.nil
      go_simp
      (try dsimp only)
      refine hK.out _ _ (by exact hHeld.alloc _) (fun hHeld => ?_)
      clear hK K
      (try simp only [List.getElem_toArray, List.getElem_cons_zero, List.getElem_cons_succ, Act.put, List.setIfInBounds_toArray, List.set_cons_zero, List.set_cons_succ])
      refine wpAnyH_take (i := 5) (v := ?_) rfl (by kernel_rfl) (by kernel_rfl) (by kernel_rfl) (fun _ _ _ h => h) (Or.inl ⟨by rfl, ?_⟩) hHeld ?_
      rotate_left
      · intro w hSw; (try dsimp only at hSw); skip; go_simp; (try with_reducible rfl)
      (try simp only [Act.put, List.setIfInBounds_toArray, List.set_cons_zero, List.set_cons_succ])
      (try simp only [List.getElem_toArray, List.getElem_cons_zero, List.getElem_cons_succ, Act.put, List.setIfInBounds_toArray, List.set_cons_zero, List.set_cons_succ])
      refine wpAnyH_ready (rs := [6]) (by kernel_rfl) (by simp) ?_
      refine AllReadyH.cons rfl (fun K hK => ?_) AllReadyH.nil
      refine wanted_of (by rfl) (wp_store_mid (P := Tryz.prog) 25 _ _ rfl (w.heap.size) 0 #[.slice (some ⟨w2.heap.size, 0, none⟩) 2 2, .slice (some ⟨(w2.heap.size + 1), 0, none⟩) 1 1] rfl rfl (Blk.there ((hP2.alloc _).alloc _) (by show 0 + 2 ≤ 2; omega)) (by kernel_rfl) (by simp [Value.oneCell']) ?_)
      refine hK.out _ _ (by exact hHeld.fars (by omega) _ _) (fun hHeld => ?_)
      clear hK K
      (try simp only [Act.put, List.setIfInBounds_toArray, List.set_cons_zero, List.set_cons_succ])
      refine wpAnyH_done (by kernel_rfl) ?_ _
      (try simp only [List.getElem_toArray, List.getElem_cons_zero, List.getElem_cons_succ, Act.put, List.setIfInBounds_toArray, List.set_cons_zero, List.set_cons_succ])
      go_wp2
      refine bodyPost_ret (results_cell_row rfl _ _ w.heap.size 25 #[.slice (some ⟨w2.heap.size, 0, none⟩) 2 2, .slice (some ⟨(w2.heap.size + 1), 0, none⟩) 1 1] (0, 0) _ rfl (Blk.sets ((hP2.alloc _).alloc _) _ _) uSetS rfl iSetS) rfl (end_ _ a b w2.heap.size (w2.heap.size + 1) ?_ ?_ ?_ (by omega) (by omega) ?_)
      · (repeat (first | assumption | exact Blk.new _ _ _ | (refine Blk.new' _ _ _ ?_; (simp; done)) | refine Blk.drew ?_ | refine Blk.alloc ?_ _ | (refine Blk.fars ?_ ?_ _ _; rotate_left; (dsimp only; omega)) | (refine Blk.far ?_ ?_ _; rotate_left; (first | (dsimp only; omega) | (simp; done) | (simp; omega) | omega))))
      · (repeat (first | assumption | exact Blk.new _ _ _ | (refine Blk.new' _ _ _ ?_; (simp; done)) | refine Blk.drew ?_ | refine Blk.alloc ?_ _ | (refine Blk.fars ?_ ?_ _ _; rotate_left; (dsimp only; omega)) | (refine Blk.far ?_ ?_ _; rotate_left; (first | (dsimp only; omega) | (simp; done) | (simp; omega) | omega))))
      · exact hat2.grow (by repeat (first | exact Below.refl _ _ | assumption | (refine Below.setCell ?_ (by first | omega | (simp; done) | (simp; omega)) _) | (refine Below.alloc ?_ (by first | omega | (simp; done) | (simp; omega)) _) | refine Below.drew ?_ | (refine below_thru ?_ (by assumption) (by first | omega | (simp; done) | (simp; omega))) | refine below_drewN ?_ _))
      · exact (by repeat (first | exact Below.refl _ _ | assumption | (refine Below.setCell ?_ (by first | omega | (simp; done) | (simp; omega)) _) | (refine Below.alloc ?_ (by first | omega | (simp; done) | (simp; omega)) _) | refine Below.drew ?_ | (refine below_thru ?_ (by assumption) (by first | omega | (simp; done) | (simp; omega))) | refine below_drewN ?_ _))
    ·
      go_simp
      (try dsimp only)
      refine hK.out _ _ (by exact hHeld.alloc _) (fun hHeld => ?_)
      clear hK K
      (try simp only [List.getElem_toArray, List.getElem_cons_zero, List.getElem_cons_succ, Act.put, List.setIfInBounds_toArray, List.set_cons_zero, List.set_cons_succ])
      refine wpAnyH_ready (rs := [2]) (by kernel_rfl) (by simp) ?_
      refine AllReadyH.cons rfl (fun K hK => ?_) AllReadyH.nil
      go_simp
      (try dsimp only)
      refine hK.out _ _ (by exact hHeld.alloc _) (fun hHeld => ?_)
      clear hK K
      (try simp only [List.getElem_toArray, List.getElem_cons_zero, List.getElem_cons_succ, Act.put, List.setIfInBounds_toArray, List.set_cons_zero, List.set_cons_succ])
      refine wpAnyH_take (i := 5) (v := ?_) rfl (by kernel_rfl) (by kernel_rfl) (by kernel_rfl) (fun _ _ _ h => h) (Or.inl ⟨by rfl, ?_⟩) hHeld ?_
      rotate_left
      · intro w hSw; (try dsimp only at hSw); skip; go_simp; (try with_reducible rfl)
      (try simp only [Act.put, List.setIfInBounds_toArray, List.set_cons_zero, List.set_cons_succ])
      (try simp only [List.getElem_toArray, List.getElem_cons_zero, List.getElem_cons_succ, Act.put, List.setIfInBounds_toArray, List.set_cons_zero, List.set_cons_succ])
      refine wpAnyH_ready (rs := [6]) (by kernel_rfl) (by simp) ?_
      refine AllReadyH.cons rfl (fun K hK => ?_) AllReadyH.nil
      refine wanted_of (by rfl) (wp_store_mid (P := Tryz.prog) 25 _ _ rfl (w.heap.size) 0 #[.slice (some ⟨(w2.heap.size + 1), 0, none⟩) 2 2, .slice (some ⟨w2.heap.size, 0, none⟩) 1 1] rfl rfl (Blk.there ((hP2.alloc _).alloc _) (by show 0 + 2 ≤ 2; omega)) (by kernel_rfl) (by simp [Value.oneCell']) ?_)
      refine hK.out _ _ (by exact hHeld.fars (by omega) _ _) (fun hHeld => ?_)
      clear hK K
      (try simp only [Act.put, List.setIfInBounds_toArray, List.set_cons_zero, List.set_cons_succ])
      refine wpAnyH_done (by kernel_rfl) ?_ _
      (try simp only [List.getElem_toArray, List.getElem_cons_zero, List.getElem_cons_succ, Act.put, List.setIfInBounds_toArray, List.set_cons_zero, List.set_cons_succ])
      go_wp2
      refine bodyPost_ret (results_cell_row rfl _ _ w.heap.size 25 #[.slice (some ⟨(w2.heap.size + 1), 0, none⟩) 2 2, .slice (some ⟨w2.heap.size, 0, none⟩) 1 1] (0, 0) _ rfl (Blk.sets ((hP2.alloc _).alloc _) _ _) uSetS rfl iSetS) rfl (end_ _ a b (w2.heap.size + 1) w2.heap.size ?_ ?_ ?_ (by omega) (by omega) ?_)
      · (repeat (first | assumption | exact Blk.new _ _ _ | (refine Blk.new' _ _ _ ?_; (simp; done)) | refine Blk.drew ?_ | refine Blk.alloc ?_ _ | (refine Blk.fars ?_ ?_ _ _; rotate_left; (dsimp only; omega)) | (refine Blk.far ?_ ?_ _; rotate_left; (first | (dsimp only; omega) | (simp; done) | (simp; omega) | omega))))
      · (repeat (first | assumption | exact Blk.new _ _ _ | (refine Blk.new' _ _ _ ?_; (simp; done)) | refine Blk.drew ?_ | refine Blk.alloc ?_ _ | (refine Blk.fars ?_ ?_ _ _; rotate_left; (dsimp only; omega)) | (refine Blk.far ?_ ?_ _; rotate_left; (first | (dsimp only; omega) | (simp; done) | (simp; omega) | omega))))
      · exact hat2.grow (by repeat (first | exact Below.refl _ _ | assumption | (refine Below.setCell ?_ (by first | omega | (simp; done) | (simp; omega)) _) | (refine Below.alloc ?_ (by first | omega | (simp; done) | (simp; omega)) _) | refine Below.drew ?_ | (refine below_thru ?_ (by assumption) (by first | omega | (simp; done) | (simp; omega))) | refine below_drewN ?_ _))
      · exact (by repeat (first | exact Below.refl _ _ | assumption | (refine Below.setCell ?_ (by first | omega | (simp; done) | (simp; omega)) _) | (refine Below.alloc ?_ (by first | omega | (simp; done) | (simp; omega)) _) | refine Below.drew ?_ | (refine below_thru ?_ (by assumption) (by first | omega | (simp; done) | (simp; omega))) | refine below_drewN ?_ _))
  ·
    go_simp
    (try dsimp only)
    refine hK.out _ _ (by exact hHeld.alloc _) (fun hHeld => ?_)
    clear hK K
    (try simp only [List.getElem_toArray, List.getElem_cons_zero, List.getElem_cons_succ, Act.put, List.setIfInBounds_toArray, List.set_cons_zero, List.set_cons_succ])
    refine wpAnyH_ready (rs := [0]) (by kernel_rfl) (by simp) ?_
    refine AllReadyH.cons rfl (fun K hK => ?_) AllReadyH.nil
    go_simp
    refine (Example_any _).mono ?_
    rintro e w2 ⟨a, b, rfl, hat2, ⟨ha0, hb0⟩, hb2⟩
    (try dsimp only)
    have hz2 := hb2.size
    (try simp at hz2 ha0 hb0)
    refine hK.out _ _ (by exact hHeld.thru hb2 hHeld.lt) (fun hHeld => ?_)
    clear hK K
    (try simp only [List.getElem_toArray, List.getElem_cons_zero, List.getElem_cons_succ, Act.put, List.setIfInBounds_toArray, List.set_cons_zero, List.set_cons_succ])
    have hb3 : Below w1.heap.size WW w2 := (Below.drew ((Below.refl w1.heap.size WW).alloc (by omega) _)).trans (hb2.mono (by simp; omega))
    have hP2 : Blk w2 w.heap.size 25 #[.slice none 0 0, .slice none 0 0] := hPW.thru hb3 (by omega)
    have hR2 : Blk w2 (w1.heap.size + 1) 92 #[.int .i64 1, .int .i64 0, .int .i64 1000, .int .i64 1000] := (Blk.new' WW _ _ hzW).drew.thru hb2 (by simp; omega)
    clear hb2
    refine wpAnyH_ready (rs := [2]) (by kernel_rfl) (by simp) ?_
    refine AllReadyH.cons rfl (fun K hK => ?_) AllReadyH.nil
    go_simp
    (try dsimp only)
    refine hK.out _ _ (by exact hHeld.alloc _) (fun hHeld => ?_)
    clear hK K
    (try simp only [List.getElem_toArray, List.getElem_cons_zero, List.getElem_cons_succ, Act.put, List.setIfInBounds_toArray, List.set_cons_zero, List.set_cons_succ])
    refine wpAnyH_take (i := 5) (v := ?_) rfl (by kernel_rfl) (by kernel_rfl) (by kernel_rfl) (fun _ _ _ h => h) (Or.inl ⟨by rfl, ?_⟩) hHeld ?_
    rotate_left
    · intro w hSw; (try dsimp only at hSw); skip; go_simp; (try with_reducible rfl)
    (try simp only [Act.put, List.setIfInBounds_toArray, List.set_cons_zero, List.set_cons_succ])
    (try simp only [List.getElem_toArray, List.getElem_cons_zero, List.getElem_cons_succ, Act.put, List.setIfInBounds_toArray, List.set_cons_zero, List.set_cons_succ])
    refine wpAnyH_ready (rs := [6]) (by kernel_rfl) (by simp) ?_
    refine AllReadyH.cons rfl (fun K hK => ?_) AllReadyH.nil
    refine wanted_of (by rfl) (wp_store_mid (P := Tryz.prog) 25 _ _ rfl (w.heap.size) 0 #[.slice (some ⟨w2.heap.size, 0, none⟩) 2 2, .slice (some ⟨(w1.heap.size + 1), 0, none⟩) 1 1] rfl rfl (Blk.there (hP2.alloc _) (by show 0 + 2 ≤ 2; omega)) (by kernel_rfl) (by simp [Value.oneCell']) ?_)
    refine hK.out _ _ (by exact hHeld.fars (by omega) _ _) (fun hHeld => ?_)
    clear hK K
    (try simp only [Act.put, List.setIfInBounds_toArray, List.set_cons_zero, List.set_cons_succ])
    refine wpAnyH_done (by kernel_rfl) ?_ _
    (try simp only [List.getElem_toArray, List.getElem_cons_zero, List.getElem_cons_succ, Act.put, List.setIfInBounds_toArray, List.set_cons_zero, List.set_cons_succ])
    go_wp2
    refine bodyPost_ret (results_cell_row rfl _ _ w.heap.size 25 #[.slice (some ⟨w2.heap.size, 0, none⟩) 2 2, .slice (some ⟨(w1.heap.size + 1), 0, none⟩) 1 1] (0, 0) _ rfl (Blk.sets (hP2.alloc _) _ _) uSetS rfl iSetS) rfl (end_ _ a b w2.heap.size (w1.heap.size + 1) ?_ ?_ ?_ (by omega) (by omega) ?_)
    · (repeat (first | assumption | exact Blk.new _ _ _ | (refine Blk.new' _ _ _ ?_; (simp; done)) | refine Blk.drew ?_ | refine Blk.alloc ?_ _ | (refine Blk.fars ?_ ?_ _ _; rotate_left; (dsimp only; omega)) | (refine Blk.far ?_ ?_ _; rotate_left; (first | (dsimp only; omega) | (simp; done) | (simp; omega) | omega))))
    · (repeat (first | assumption | exact Blk.new _ _ _ | (refine Blk.new' _ _ _ ?_; (simp; done)) | refine Blk.drew ?_ | refine Blk.alloc ?_ _ | (refine Blk.fars ?_ ?_ _ _; rotate_left; (dsimp only; omega)) | (refine Blk.far ?_ ?_ _; rotate_left; (first | (dsimp only; omega) | (simp; done) | (simp; omega) | omega))))
    · exact hat2.grow (by repeat (first | exact Below.refl _ _ | assumption | (refine Below.setCell ?_ (by first | omega | (simp; done) | (simp; omega)) _) | (refine Below.alloc ?_ (by first | omega | (simp; done) | (simp; omega)) _) | refine Below.drew ?_ | (refine below_thru ?_ (by assumption) (by first | omega | (simp; done) | (simp; omega))) | refine below_drewN ?_ _))
    · exact (by repeat (first | exact Below.refl _ _ | assumption | (refine Below.setCell ?_ (by first | omega | (simp; done) | (simp; omega)) _) | (refine Below.alloc ?_ (by first | omega | (simp; done) | (simp; omega)) _) | refine Below.drew ?_ | (refine below_thru ?_ (by assumption) (by first | omega | (simp; done) | (simp; omega))) | refine below_drewN ?_ _))
end Go.Proofs.YtgdomaddjiggaaaGreat
