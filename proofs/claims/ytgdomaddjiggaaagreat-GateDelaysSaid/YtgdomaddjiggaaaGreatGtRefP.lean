/- The reference: Step. -/
import Derived.Test.YtgdomaddjiggaaaGreatGtRefM
import Derived.Test.YtgdomaddjiggaaaGreatGtInv
namespace Go.Proofs.YtgdomaddjiggaaaGreat
open Go.RowKit
set_option linter.unusedSimpArgs false
set_option linter.unusedVariables false

theorem uStateS : ∃ fs, Tryz.prog.underlying 42 = some (.struct fs) := isStruct (by kernel_rfl)
theorem uMovedS : ∃ fs, Tryz.prog.underlying 45 = some (.struct fs) := isStruct (by kernel_rfl)

set_option maxRecDepth 100000 in
set_option maxHeartbeats 4000000 in
theorem rStep_any (g : Ga) (s : Gs) (t : Gt) (w : World) (hg : g.At w w.heap.size) :
    Calls Tryz.prog 30 #[g.v, s.v, t.v] w fun e w' => e = .returned (stepV3 (stepU g s t) (stepD g s t) (stepFt g s t).e) ∧ Below w.heap.size w w' := by
  have Hg := Lib.hid hg
  have HC := Lib.hid (fun W h => rCheck_any g W h)
  have HV := Lib.hid (fun W => rvalid_any g s t W)
  have he := step_valid g s t
  have hok : (stepFt g s t).e = 0 → g.Ok ∧ s.Ok g ∧ t.Ok := fun h => step_ok hg h
  have hu : stepU g s t = if (stepFt g s t).e = 0 then afterF g s t (lockF s t) else ⟨0, 0, false⟩ := rfl
  have hd : stepD g s t = if (stepFt g s t).e = 0 then cameF g s t (lockF s t) else ⟨0, 0, 0⟩ := rfl
  rw [hu, hd]
  clear hu hd
  generalize (stepFt g s t).e = fe at *
  obtain ⟨fp, fa, ge, hfl⟩ : ∃ fp fa ge, gateF g = ⟨fp, fa, ge⟩ := ⟨_, _, _, rfl⟩
  rw [hfl] at HC he
  have HC := Lib.hid (show ∀ W, g.At W W.heap.size → Calls Tryz.prog 23 #[g.v] W fun e w' => e = .returned (.tuple #[.int .i64 fp, .int .i64 fa, .int .i64 ge]) ∧ Below W.heap.size W w' from HC.out)
  simp only at he
  generalize validR g s t = ve at *
  clear hfl hg
  by_cases h0 : ge = 0
  · subst h0
    rw [if_pos rfl] at he
    subst he
    by_cases h1 : fe = 0
    · subst h1
      rw [if_pos rfl, if_pos rfl]
      obtain ⟨hgo, hso, hto⟩ := hok rfl
      have HSt := Lib.hid (fun r W h => rstepped_any g s t r W h hgo hso hto)
      have HBo := Lib.hid (fun W => rbolted_any s t W)
      have HSt : Hid (∀ (r : Int) (W : World), g.At W W.heap.size → Calls Tryz.prog 74 #[g.v, .agg #[.int .i64 s.pos, .int .i64 s.charge, .bool s.bolted], .agg #[.int .i64 t.order, .bool t.power, .int .i64 t.outer, .int .i64 t.inner], .int .i64 r] W fun e w' => e = .returned (.tuple #[.agg #[.int .i64 (afterF g s t r).pos, .int .i64 (afterF g s t r).charge, .bool (afterF g s t r).bolted], .agg #[.int .i64 (cameF g s t r).refused, .int .i64 (cameF g s t r).moved, .int .i64 (cameF g s t r).oil]]) ∧ Below W.heap.size W w') := HSt.out
      have HSt := Lib.hid (HSt.out (lockF s t))
      clear hok hgo hso hto
      generalize lockF s t = lk at *
      generalize afterF g s t lk = af at *
      generalize cameF g s t lk = cm at *
      go_enter Tryz.func30, Tryz.ntmps30
      go_wp2_with (with_reducible refine wpl_g (g := g) (((((Blk.new w _ _).alloc _).alloc _).alloc _).alloc _) rfl rfl rfl ?_)
      refine (HC.out _ (Hg.out.grow (by repeat (first | exact Below.refl _ _ | assumption | (refine Below.setCell ?_ (by first | omega | (simp; done) | (simp; omega)) _) | (refine Below.alloc ?_ (by first | omega | (simp; done) | (simp; omega)) _) | refine Below.drew ?_ | (refine below_thru ?_ (by assumption) (by first | omega | (simp; done) | (simp; omega))) | refine below_drewN ?_ _)))).mono ?_
      rintro e w1 ⟨rfl, hb1⟩
      obtain ⟨hc1, hf1⟩ := bcell hb1; have hz1 := hb1.size; (try simp at hz1)
      have hG1 : Blk w1 w.heap.size 33 (grow g) := Blk.thru (by (repeat (first | assumption | exact Blk.new _ _ _ | (refine Blk.new' _ _ _ ?_; (simp; done)) | refine Blk.drew ?_ | refine Blk.alloc ?_ _ | (refine Blk.fars ?_ ?_ _ _; rotate_left; (dsimp only; omega)) | (refine Blk.far ?_ ?_ _; rotate_left; (first | (dsimp only; omega) | (simp; done) | (simp; omega) | omega))))) hb1 (by simp <;> omega)
      have hS1 : Blk w1 (w.heap.size + 1) 42 #[.int .i64 s.pos, .int .i64 s.charge, .bool s.bolted] := Blk.thru (by (repeat (first | assumption | exact Blk.new _ _ _ | (refine Blk.new' _ _ _ ?_; (simp; done)) | refine Blk.drew ?_ | refine Blk.alloc ?_ _ | (refine Blk.fars ?_ ?_ _ _; rotate_left; (dsimp only; omega)) | (refine Blk.far ?_ ?_ _; rotate_left; (first | (dsimp only; omega) | (simp; done) | (simp; omega) | omega))))) hb1 (by simp <;> omega)
      have hT1 : Blk w1 (w.heap.size + 1 + 1) 49 #[.int .i64 t.order, .bool t.power, .int .i64 t.outer, .int .i64 t.inner] := Blk.thru (by (repeat (first | assumption | exact Blk.new _ _ _ | (refine Blk.new' _ _ _ ?_; (simp; done)) | refine Blk.drew ?_ | refine Blk.alloc ?_ _ | (refine Blk.fars ?_ ?_ _ _; rotate_left; (dsimp only; omega)) | (refine Blk.far ?_ ?_ _; rotate_left; (first | (dsimp only; omega) | (simp; done) | (simp; omega) | omega))))) hb1 (by simp <;> omega)
      have hR1 : Blk w1 (w.heap.size + 1 + 1 + 1) 42 #[.int .i64 0, .int .i64 0, .bool false] := Blk.thru (by (repeat (first | assumption | exact Blk.new _ _ _ | (refine Blk.new' _ _ _ ?_; (simp; done)) | refine Blk.drew ?_ | refine Blk.alloc ?_ _ | (refine Blk.fars ?_ ?_ _ _; rotate_left; (dsimp only; omega)) | (refine Blk.far ?_ ?_ _; rotate_left; (first | (dsimp only; omega) | (simp; done) | (simp; omega) | omega))))) hb1 (by simp <;> omega)
      have hQ1 : Blk w1 (w.heap.size + 1 + 1 + 1 + 1) 45 #[.int .i64 0, .int .i64 0, .int .i64 0] := Blk.thru (by (repeat (first | assumption | exact Blk.new _ _ _ | (refine Blk.new' _ _ _ ?_; (simp; done)) | refine Blk.drew ?_ | refine Blk.alloc ?_ _ | (refine Blk.fars ?_ ?_ _ _; rotate_left; (dsimp only; omega)) | (refine Blk.far ?_ ?_ _; rotate_left; (first | (dsimp only; omega) | (simp; done) | (simp; omega) | omega))))) hb1 (by simp <;> omega)
      have hw1 : Below w.heap.size w w1 := (by repeat (first | exact Below.refl _ _ | assumption | (refine Below.setCell ?_ (by first | omega | (simp; done) | (simp; omega)) _) | (refine Below.alloc ?_ (by first | omega | (simp; done) | (simp; omega)) _) | refine Below.drew ?_ | (refine below_thru ?_ (by assumption) (by first | omega | (simp; done) | (simp; omega))) | refine below_drewN ?_ _))
      have hl1 := hT1.lt
      have hl11 := hS1.lt
      clear hb1 hc1 hf1
      obtain ⟨s0, s1, s2, _⟩ := hS1.three
      obtain ⟨t0, t1, t2, t3⟩ := tcells_of hT1
      have HG1 := Lib.hid hG1
      clear hG1
      go_wp2_with (with_reducible refine wpl_g (g := g) (b := w.heap.size) (t := 33) HG1.out rfl rfl rfl ?_)
      refine (HV.out _).mono ?_
      rintro e w2 ⟨rfl, hb2⟩
      have hG2 := HG1.out.thru hb2 HG1.out.lt
      have hS2 := hS1.thru hb2 hS1.lt
      have hT2 := hT1.thru hb2 hT1.lt
      have hR2 := hR1.thru hb2 hR1.lt
      have hQ2 := hQ1.thru hb2 hQ1.lt
      have hw2 : Below w.heap.size w w2 := hw1.trans (hb2.mono hw1.size)
      clear hb2 s0 s1 s2 t0 t1 t2 t3 hS1 hT1 hR1 hQ1 hw1 hl1 hl11
      go_wp2_with fail
      have hl2 := hQ2.lt
      refine wp_region_held (S := fun W' => Blk W' w.heap.size 33 (grow g) ∧ Blk W' (w.heap.size + 1) 42 #[.int .i64 s.pos, .int .i64 s.charge, .bool s.bolted] ∧ Blk W' (w.heap.size + 1 + 1) 49 #[.int .i64 t.order, .bool t.power, .int .i64 t.outer, .int .i64 t.inner]) (by kernel_rfl) (by exact ⟨hG2, hS2, hT2⟩) (fun hHeld => ?_)
      refine wpAnyH_take (i := 0) (v := g.v) rfl (by kernel_rfl) (by kernel_rfl) (by kernel_rfl) (fun _ _ _ h => h) (Or.inl ⟨by rfl, fun w hSw => ld_g rfl rfl hSw.1⟩) hHeld ?_
      (try simp only [Act.put, List.setIfInBounds_toArray, List.set_cons_zero, List.set_cons_succ])
      refine wpAnyH_take (i := 1) (v := ?_) rfl (by kernel_rfl) (by kernel_rfl) (by kernel_rfl) (fun _ _ _ h => h) (Or.inl ⟨by rfl, ?_⟩) hHeld ?_
      rotate_left
      · intro w hSw; (try dsimp only at hSw); obtain ⟨t0, t1, t2, t3⟩ := tcells_of hSw.2.2; obtain ⟨s0, s1, s2, _⟩ := hSw.2.1.three; go_simp; (try with_reducible rfl)
      (try simp only [Act.put, List.setIfInBounds_toArray, List.set_cons_zero, List.set_cons_succ])
      refine wpAnyH_take (i := 2) (v := ?_) rfl (by kernel_rfl) (by kernel_rfl) (by kernel_rfl) (fun _ _ _ h => h) (Or.inl ⟨by rfl, ?_⟩) hHeld ?_
      rotate_left
      · intro w hSw; (try dsimp only at hSw); obtain ⟨t0, t1, t2, t3⟩ := tcells_of hSw.2.2; obtain ⟨s0, s1, s2, _⟩ := hSw.2.1.three; go_simp; (try with_reducible rfl)
      (try simp only [Act.put, List.setIfInBounds_toArray, List.set_cons_zero, List.set_cons_succ])
      refine wpAnyH_take (i := 3) (v := ?_) rfl (by kernel_rfl) (by kernel_rfl) (by kernel_rfl) (fun _ _ _ h => h) (Or.inl ⟨by rfl, ?_⟩) hHeld ?_
      rotate_left
      · intro w hSw; (try dsimp only at hSw); obtain ⟨t0, t1, t2, t3⟩ := tcells_of hSw.2.2; obtain ⟨s0, s1, s2, _⟩ := hSw.2.1.three; go_simp; (try with_reducible rfl)
      (try simp only [Act.put, List.setIfInBounds_toArray, List.set_cons_zero, List.set_cons_succ])
      refine wpAnyH_take (i := 4) (v := ?_) rfl (by kernel_rfl) (by kernel_rfl) (by kernel_rfl) (fun _ _ _ h => h) (Or.inl ⟨by rfl, ?_⟩) hHeld ?_
      rotate_left
      · intro w hSw; (try dsimp only at hSw); obtain ⟨t0, t1, t2, t3⟩ := tcells_of hSw.2.2; obtain ⟨s0, s1, s2, _⟩ := hSw.2.1.three; go_simp; (try with_reducible rfl)
      (try simp only [Act.put, List.setIfInBounds_toArray, List.set_cons_zero, List.set_cons_succ])
      (try simp only [List.getElem_toArray, List.getElem_cons_zero, List.getElem_cons_succ, Act.put, List.setIfInBounds_toArray, List.set_cons_zero, List.set_cons_succ])
      have hw2d : Below w.heap.size w w2.drew := hw2.drew
      refine wpAnyH_each [(5, 37, Kind.val (.int .i64 lk)), (6, 38, Kind.val (.tuple #[.agg #[.int .i64 af.pos, .int .i64 af.charge, .bool af.bolted], .agg #[.int .i64 cm.refused, .int .i64 cm.moved, .int .i64 cm.oil]])), (7, 31, Kind.val (.tuple #[.agg #[.int .i64 af.pos, .int .i64 af.charge, .bool af.bolted], .agg #[.int .i64 cm.refused, .int .i64 cm.moved, .int .i64 cm.oil]])), (8, 39, Kind.val (.agg #[.int .i64 af.pos, .int .i64 af.charge, .bool af.bolted])), (9, 40, Kind.val (.agg #[.int .i64 cm.refused, .int .i64 cm.moved, .int .i64 cm.oil])), (10, 12, Kind.new (w2.heap.size) 42 #[.int .i64 0, .int .i64 0, .bool false]), (11, 13, Kind.new (w2.heap.size) 45 #[.int .i64 0, .int .i64 0, .int .i64 0])] [7, 8, 9] 2 (by kernel_rfl) (by simp [idxs]) (by simp) (fun _ _ d _ _ h => by cases d <;> exact h) (fun W hW => ⟨hHeld.1.thru hW hHeld.1.lt, hHeld.2.1.thru hW hHeld.2.1.lt, hHeld.2.2.thru hW hHeld.2.2.lt⟩) ?_ ?_
      · refine Eachs.cons ?_ (Eachs.cons ?_ (Eachs.cons ?_ (Eachs.cons ?_ (Eachs.cons ?_ (Eachs.cons ?_ (Eachs.cons ?_ (Eachs.nil)))))))
        · refine each_op [] rfl rfl (by kernel_rfl) (fun p hp => by cases hp) rfl ?_
          intro uF w' hw' hps a ha K hK
          simp only [puts, Act.put, List.setIfInBounds_toArray, List.set_cons_zero, List.set_cons_succ] at ha
          subst ha
          have hz' := hw'.size
          (try simp at hz')
          go_simp
          refine (HBo.out _).mono ?_
          rintro e wq ⟨rfl, hq⟩
          (try dsimp only)
          exact hK.out _ (.int .i64 lk) wq rfl hq rfl (fun h => by cases h)
        · refine each_op [(5, 37, Kind.val (.int .i64 lk))] rfl rfl (by kernel_rfl) (fun p hp => by simp only [List.mem_cons, List.not_mem_nil, or_false] at hp; rcases hp with rfl <;> simp only [List.mem_cons, true_or, or_true]) rfl ?_
          intro uF w' hw' hps a ha K hK
          obtain ⟨q5, _⟩ := hps
          have e5 : uF 5 = .int .i64 lk := q5
          simp only [puts, Act.put, List.setIfInBounds_toArray, List.set_cons_zero, List.set_cons_succ, e5] at ha
          subst ha
          have hz' := hw'.size
          (try simp at hz')
          go_simp
          refine (HSt.out _ (Hg.out.grow (hw2d.trans (hw'.mono hw2d.size)))).mono ?_
          rintro e wq ⟨rfl, hq⟩
          (try dsimp only)
          exact hK.out _ (.tuple #[.agg #[.int .i64 af.pos, .int .i64 af.charge, .bool af.bolted], .agg #[.int .i64 cm.refused, .int .i64 cm.moved, .int .i64 cm.oil]]) wq rfl hq rfl (fun h => by cases h)
        · refine each_take [(6, 38, Kind.val (.tuple #[.agg #[.int .i64 af.pos, .int .i64 af.charge, .bool af.bolted], .agg #[.int .i64 cm.refused, .int .i64 cm.moved, .int .i64 cm.oil]]))] rfl rfl (by kernel_rfl) (fun p hp => by simp only [List.mem_cons, List.not_mem_nil, or_false] at hp; rcases hp with rfl <;> simp only [List.mem_cons, true_or, or_true]) rfl ?_
          refine ⟨rfl, ?_⟩
          intro uF w' hw' hps a ha
          obtain ⟨q6, _⟩ := hps
          have e6 : uF 6 = .tuple #[.agg #[.int .i64 af.pos, .int .i64 af.charge, .bool af.bolted], .agg #[.int .i64 cm.refused, .int .i64 cm.moved, .int .i64 cm.oil]] := q6
          simp only [puts, Act.put, List.setIfInBounds_toArray, List.set_cons_zero, List.set_cons_succ, e6] at ha
          subst ha
          exact ⟨.tuple #[.agg #[.int .i64 af.pos, .int .i64 af.charge, .bool af.bolted], .agg #[.int .i64 cm.refused, .int .i64 cm.moved, .int .i64 cm.oil]], rfl, Or.inl ⟨by rfl, fun W => by go_simp <;> (try with_reducible rfl)⟩⟩
        · refine each_take [(7, 31, Kind.val (.tuple #[.agg #[.int .i64 af.pos, .int .i64 af.charge, .bool af.bolted], .agg #[.int .i64 cm.refused, .int .i64 cm.moved, .int .i64 cm.oil]]))] rfl rfl (by kernel_rfl) (fun p hp => by simp only [List.mem_cons, List.not_mem_nil, or_false] at hp; rcases hp with rfl <;> simp only [List.mem_cons, true_or, or_true]) rfl ?_
          refine ⟨rfl, ?_⟩
          intro uF w' hw' hps a ha
          obtain ⟨q7, _⟩ := hps
          have e7 : uF 7 = .tuple #[.agg #[.int .i64 af.pos, .int .i64 af.charge, .bool af.bolted], .agg #[.int .i64 cm.refused, .int .i64 cm.moved, .int .i64 cm.oil]] := q7
          simp only [puts, Act.put, List.setIfInBounds_toArray, List.set_cons_zero, List.set_cons_succ, e7] at ha
          subst ha
          exact ⟨.agg #[.int .i64 af.pos, .int .i64 af.charge, .bool af.bolted], rfl, Or.inl ⟨by rfl, fun W => by go_simp <;> (try with_reducible rfl)⟩⟩
        · refine each_take [(7, 31, Kind.val (.tuple #[.agg #[.int .i64 af.pos, .int .i64 af.charge, .bool af.bolted], .agg #[.int .i64 cm.refused, .int .i64 cm.moved, .int .i64 cm.oil]]))] rfl rfl (by kernel_rfl) (fun p hp => by simp only [List.mem_cons, List.not_mem_nil, or_false] at hp; rcases hp with rfl <;> simp only [List.mem_cons, true_or, or_true]) rfl ?_
          refine ⟨rfl, ?_⟩
          intro uF w' hw' hps a ha
          obtain ⟨q7, _⟩ := hps
          have e7 : uF 7 = .tuple #[.agg #[.int .i64 af.pos, .int .i64 af.charge, .bool af.bolted], .agg #[.int .i64 cm.refused, .int .i64 cm.moved, .int .i64 cm.oil]] := q7
          simp only [puts, Act.put, List.setIfInBounds_toArray, List.set_cons_zero, List.set_cons_succ, e7] at ha
          subst ha
          exact ⟨.agg #[.int .i64 cm.refused, .int .i64 cm.moved, .int .i64 cm.oil], rfl, Or.inl ⟨by rfl, fun W => by go_simp <;> (try with_reducible rfl)⟩⟩
        · refine each_op [] rfl rfl (by kernel_rfl) (fun p hp => by cases hp) rfl ?_
          intro uF w' hw' hps a ha K hK
          simp only [puts, Act.put, List.setIfInBounds_toArray, List.set_cons_zero, List.set_cons_succ] at ha
          subst ha
          have hz' := hw'.size
          (try simp at hz')
          go_simp
          exact hK.out _ (.pointer (some ⟨w'.heap.size, 0, none⟩)) _ rfl ((Below.refl _ _).alloc (Nat.le_refl _) _) ⟨_, rfl, (by omega), Blk.new _ _ _⟩ (fun _ => rfl)
        · refine each_op [] rfl rfl (by kernel_rfl) (fun p hp => by cases hp) rfl ?_
          intro uF w' hw' hps a ha K hK
          simp only [puts, Act.put, List.setIfInBounds_toArray, List.set_cons_zero, List.set_cons_succ] at ha
          subst ha
          have hz' := hw'.size
          (try simp at hz')
          go_simp
          exact hK.out _ (.pointer (some ⟨w'.heap.size, 0, none⟩)) _ rfl ((Below.refl _ _).alloc (Nat.le_refl _) _) ⟨_, rfl, (by omega), Blk.new _ _ _⟩ (fun _ => rfl)
      intro uF wz hwz hps hD a ha
      obtain ⟨q5, q6, q7, q8, q9, q10, q11, _⟩ := hps
      have e5 : uF 5 = .int .i64 lk := q5
      have e6 : uF 6 = .tuple #[.agg #[.int .i64 af.pos, .int .i64 af.charge, .bool af.bolted], .agg #[.int .i64 cm.refused, .int .i64 cm.moved, .int .i64 cm.oil]] := q6
      have e7 : uF 7 = .tuple #[.agg #[.int .i64 af.pos, .int .i64 af.charge, .bool af.bolted], .agg #[.int .i64 cm.refused, .int .i64 cm.moved, .int .i64 cm.oil]] := q7
      have e8 : uF 8 = .agg #[.int .i64 af.pos, .int .i64 af.charge, .bool af.bolted] := q8
      have e9 : uF 9 = .agg #[.int .i64 cm.refused, .int .i64 cm.moved, .int .i64 cm.oil] := q9
      obtain ⟨b10, e10, hB10, hb10⟩ := (show ∃ b, uF 10 = .pointer (some ⟨b, 0, none⟩) ∧ (w2.heap.size) ≤ b ∧ Blk wz b 42 #[.int .i64 0, .int .i64 0, .bool false] from q10)
      obtain ⟨b11, e11, hB11, hb11⟩ := (show ∃ b, uF 11 = .pointer (some ⟨b, 0, none⟩) ∧ (w2.heap.size) ≤ b ∧ Blk wz b 45 #[.int .i64 0, .int .i64 0, .int .i64 0] from q11)
      have hne10_11 : b10 ≠ b11 := fun hc => hD (10, 12, Kind.new (w2.heap.size) 42 #[.int .i64 0, .int .i64 0, .bool false]) (.tail _ (.tail _ (.tail _ (.tail _ (.tail _ (.head _)))))) (11, 13, Kind.new (w2.heap.size) 45 #[.int .i64 0, .int .i64 0, .int .i64 0]) (.tail _ (.tail _ (.tail _ (.tail _ (.tail _ (.tail _ (.head _))))))) (show (10 : Nat) ≠ 11 by decide) rfl rfl (show uF 10 = uF 11 by rw [e10, e11, hc])
      simp only [puts, Act.put, List.setIfInBounds_toArray, List.set_cons_zero, List.set_cons_succ, e5, e6, e7, e8, e9, e10, e11] at ha
      subst ha
      clear hD q5 q6 q7 q8 q9 q10 q11 e5 e6 e7 e8 e9 e10 e11
      have hB2z : Below w.heap.size w wz := hw2d.trans (hwz.mono hw2d.size)
      have hRz : Blk wz (w.heap.size + 1 + 1 + 1) 42 #[.int .i64 0, .int .i64 0, .bool false] := hR2.drew.thru hwz (by simp; omega)
      have hQz : Blk wz (w.heap.size + 1 + 1 + 1 + 1) 45 #[.int .i64 0, .int .i64 0, .int .i64 0] := hQ2.drew.thru hwz (by simp; omega)
      have hl10 := hb10.lt
      have hl11 := hb11.lt
      have hGz : Blk wz w.heap.size 33 (grow g) := hG2.drew.thru hwz (by simp; omega)
      have hSz : Blk wz (w.heap.size + 1) 42 #[.int .i64 s.pos, .int .i64 s.charge, .bool s.bolted] := hS2.drew.thru hwz (by simp; omega)
      have hTz : Blk wz (w.heap.size + 1 + 1) 49 #[.int .i64 t.order, .bool t.power, .int .i64 t.outer, .int .i64 t.inner] := hT2.drew.thru hwz (by simp; omega)
      clear hwz hG2 hS2 hT2 hR2 hQ2 hHeld
      (try simp only [List.getElem_toArray, List.getElem_cons_zero, List.getElem_cons_succ, Act.put, List.setIfInBounds_toArray, List.set_cons_zero, List.set_cons_succ])
      refine wpAnyH_ready (rs := [12]) (by kernel_rfl) (by simp) ?_
      refine AllReadyH.cons rfl (fun K hK => ?_) AllReadyH.nil
      refine wanted_of (by rfl) (wp_store_mid (P := Tryz.prog) 42 _ _ rfl (b10) 0 #[.int .i64 af.pos, .int .i64 af.charge, .bool af.bolted] rfl rfl (Blk.there hb10 (by show 0 + 3 ≤ 3; omega)) (by kernel_rfl) (by simp [Value.oneCell']) ?_)
      refine hK.out _ _ (by exact ⟨hGz.fars (by omega) _ _, hSz.fars (by omega) _ _, hTz.fars (by omega) _ _⟩) (fun hHeld => ?_)
      clear hK K
      (try simp only [Act.put, List.setIfInBounds_toArray, List.set_cons_zero, List.set_cons_succ])
      have hBy := below_sets hB2z (b := b10) (by omega) (#[.int .i64 af.pos, .int .i64 af.charge, .bool af.bolted] : Array Value).toList 0
      have hRy := hRz.fars (b := b10) (by omega) (#[.int .i64 af.pos, .int .i64 af.charge, .bool af.bolted] : Array Value).toList 0
      have hQy := hQz.fars (b := b10) (by omega) (#[.int .i64 af.pos, .int .i64 af.charge, .bool af.bolted] : Array Value).toList 0
      have hb11y := hb11.fars (b := b10) (fun h => hne10_11 h.symm) (#[.int .i64 af.pos, .int .i64 af.charge, .bool af.bolted] : Array Value).toList 0
      have hb10y : Blk _ b10 _ #[.int .i64 af.pos, .int .i64 af.charge, .bool af.bolted] := Blk.sets hb10 (#[.int .i64 af.pos, .int .i64 af.charge, .bool af.bolted] : Array Value).toList 0
      (try simp only [List.getElem_toArray, List.getElem_cons_zero, List.getElem_cons_succ, Act.put, List.setIfInBounds_toArray, List.set_cons_zero, List.set_cons_succ])
      refine wpAnyH_ready (rs := [13]) (by kernel_rfl) (by simp) ?_
      refine AllReadyH.cons rfl (fun K hK => ?_) AllReadyH.nil
      refine wanted_of (by rfl) (wp_store_mid (P := Tryz.prog) 45 _ _ rfl (b11) 0 #[.int .i64 cm.refused, .int .i64 cm.moved, .int .i64 cm.oil] rfl rfl (Blk.there hb11y (by show 0 + 3 ≤ 3; omega)) (by kernel_rfl) (by simp [Value.oneCell']) ?_)
      refine hK.out _ _ (by exact ⟨hHeld.1.fars (by omega) _ _, hHeld.2.1.fars (by omega) _ _, hHeld.2.2.fars (by omega) _ _⟩) (fun hHeld => ?_)
      clear hK K
      (try simp only [Act.put, List.setIfInBounds_toArray, List.set_cons_zero, List.set_cons_succ])
      refine wpAnyH_done (by kernel_rfl) ?_ _
      (try simp only [List.getElem_toArray, List.getElem_cons_zero, List.getElem_cons_succ, Act.put, List.setIfInBounds_toArray, List.set_cons_zero, List.set_cons_succ])
      have hBx := below_sets hBy (b := b11) (by omega) (#[.int .i64 cm.refused, .int .i64 cm.moved, .int .i64 cm.oil] : Array Value).toList 0
      have hRx := hRy.fars (b := b11) (by omega) (#[.int .i64 cm.refused, .int .i64 cm.moved, .int .i64 cm.oil] : Array Value).toList 0
      have hQx := hQy.fars (b := b11) (by omega) (#[.int .i64 cm.refused, .int .i64 cm.moved, .int .i64 cm.oil] : Array Value).toList 0
      have hb10x := hb10y.fars (b := b11) hne10_11 (#[.int .i64 cm.refused, .int .i64 cm.moved, .int .i64 cm.oil] : Array Value).toList 0
      have hb11x : Blk _ b11 _ #[.int .i64 cm.refused, .int .i64 cm.moved, .int .i64 cm.oil] := Blk.sets hb11y (#[.int .i64 cm.refused, .int .i64 cm.moved, .int .i64 cm.oil] : Array Value).toList 0
      clear hHeld hBy hRy hQy hb11y hb10y hB2z hRz hQz hb10 hb11 hGz hSz hTz
      generalize (wz.setCells b10 0 (#[.int .i64 af.pos, .int .i64 af.charge, .bool af.bolted] : Array Value).toList).setCells b11 0 (#[.int .i64 cm.refused, .int .i64 cm.moved, .int .i64 cm.oil] : Array Value).toList = wx at *
      go_wp2_with fail
      refine wp_region_held (S := fun W' => Blk W' b10 42 #[.int .i64 af.pos, .int .i64 af.charge, .bool af.bolted] ∧ Blk W' b11 45 #[.int .i64 cm.refused, .int .i64 cm.moved, .int .i64 cm.oil]) (by kernel_rfl) (by exact ⟨hb10x, hb11x⟩) (fun hHeld => ?_)
      refine wpAnyH_take (i := 0) (v := ?_) rfl (by kernel_rfl) (by kernel_rfl) (by kernel_rfl) (fun _ _ _ h => h) (Or.inl ⟨by rfl, ?_⟩) hHeld ?_
      rotate_left
      · intro w hSw; (try dsimp only at hSw); obtain ⟨s0, s1, s2, _⟩ := hSw.1.three; obtain ⟨m0, m1, m2, _⟩ := hSw.2.three; go_simp; (try with_reducible rfl)
      (try simp only [Act.put, List.setIfInBounds_toArray, List.set_cons_zero, List.set_cons_succ])
      refine wpAnyH_take (i := 1) (v := ?_) rfl (by kernel_rfl) (by kernel_rfl) (by kernel_rfl) (fun _ _ _ h => h) (Or.inl ⟨by rfl, ?_⟩) hHeld ?_
      rotate_left
      · intro w hSw; (try dsimp only at hSw); obtain ⟨s0, s1, s2, _⟩ := hSw.1.three; obtain ⟨m0, m1, m2, _⟩ := hSw.2.three; go_simp; (try with_reducible rfl)
      (try simp only [Act.put, List.setIfInBounds_toArray, List.set_cons_zero, List.set_cons_succ])
      (try simp only [List.getElem_toArray, List.getElem_cons_zero, List.getElem_cons_succ, Act.put, List.setIfInBounds_toArray, List.set_cons_zero, List.set_cons_succ])
      refine wpAnyH_ready (rs := [2]) (by kernel_rfl) (by simp) ?_
      refine AllReadyH.cons rfl (fun K hK => ?_) AllReadyH.nil
      refine wanted_of (by rfl) (wp_store_mid (P := Tryz.prog) 42 _ _ rfl (w.heap.size + 1 + 1 + 1) 0 #[.int .i64 af.pos, .int .i64 af.charge, .bool af.bolted] rfl rfl (Blk.there hRx.drew (by show 0 + 3 ≤ 3; omega)) (by kernel_rfl) (by simp [Value.oneCell']) ?_)
      refine hK.out _ _ (by exact ⟨hHeld.1.fars (by omega) _ _, hHeld.2.fars (by omega) _ _⟩) (fun hHeld => ?_)
      clear hK K
      (try simp only [Act.put, List.setIfInBounds_toArray, List.set_cons_zero, List.set_cons_succ])
      (try simp only [List.getElem_toArray, List.getElem_cons_zero, List.getElem_cons_succ, Act.put, List.setIfInBounds_toArray, List.set_cons_zero, List.set_cons_succ])
      refine wpAnyH_ready (rs := [3]) (by kernel_rfl) (by simp) ?_
      refine AllReadyH.cons rfl (fun K hK => ?_) AllReadyH.nil
      refine wanted_of (by rfl) (wp_store_mid (P := Tryz.prog) 45 _ _ rfl (w.heap.size + 1 + 1 + 1 + 1) 0 #[.int .i64 cm.refused, .int .i64 cm.moved, .int .i64 cm.oil] rfl rfl (Blk.there (hQx.drew.fars (by omega) _ _) (by show 0 + 3 ≤ 3; omega)) (by kernel_rfl) (by simp [Value.oneCell']) ?_)
      refine hK.out _ _ (by exact ⟨hHeld.1.fars (by omega) _ _, hHeld.2.fars (by omega) _ _⟩) (fun hHeld => ?_)
      clear hK K
      (try simp only [Act.put, List.setIfInBounds_toArray, List.set_cons_zero, List.set_cons_succ])
      refine wpAnyH_take (i := 4) (v := ?_) rfl (by kernel_rfl) (by kernel_rfl) (by kernel_rfl) (fun _ _ _ h => h) (Or.inl ⟨by rfl, ?_⟩) hHeld ?_
      rotate_left
      · intro w hSw; (try dsimp only at hSw); skip; go_simp; (try with_reducible rfl)
      (try simp only [Act.put, List.setIfInBounds_toArray, List.set_cons_zero, List.set_cons_succ])
      refine wpAnyH_done (by kernel_rfl) ?_ _
      (try simp only [List.getElem_toArray, List.getElem_cons_zero, List.getElem_cons_succ, Act.put, List.setIfInBounds_toArray, List.set_cons_zero, List.set_cons_succ])
      have hBe := below_sets (below_sets hBx.drew (b := w.heap.size + 1 + 1 + 1) (by omega) (#[.int .i64 af.pos, .int .i64 af.charge, .bool af.bolted] : Array Value).toList 0) (b := w.heap.size + 1 + 1 + 1 + 1) (by omega) (#[.int .i64 cm.refused, .int .i64 cm.moved, .int .i64 cm.oil] : Array Value).toList 0
      have hRe : Blk _ (w.heap.size + 1 + 1 + 1) 42 #[.int .i64 af.pos, .int .i64 af.charge, .bool af.bolted] := (Blk.sets hRx.drew (#[.int .i64 af.pos, .int .i64 af.charge, .bool af.bolted] : Array Value).toList 0).fars (b := w.heap.size + 1 + 1 + 1 + 1) (by omega) (#[.int .i64 cm.refused, .int .i64 cm.moved, .int .i64 cm.oil] : Array Value).toList 0
      have hQe : Blk _ (w.heap.size + 1 + 1 + 1 + 1) 45 #[.int .i64 cm.refused, .int .i64 cm.moved, .int .i64 cm.oil] := Blk.sets (hQx.drew.fars (b := w.heap.size + 1 + 1 + 1) (by omega) (#[.int .i64 af.pos, .int .i64 af.charge, .bool af.bolted] : Array Value).toList 0) (#[.int .i64 cm.refused, .int .i64 cm.moved, .int .i64 cm.oil] : Array Value).toList 0
      go_wp2
      exact bodyPost_ret (results_rows3 rfl _ rfl rfl rfl hRe hQe uState iState uMoved iMoved) rfl ⟨rfl, hBe⟩
    · have q1 : (fe != 0) = true := by rw [bne_iff_ne]; exact h1
      rw [if_neg h1, if_neg h1]
      clear h1 hok
      go_enter Tryz.func30, Tryz.ntmps30
      go_wp2_with (with_reducible refine wpl_g (g := g) (((((Blk.new w _ _).alloc _).alloc _).alloc _).alloc _) rfl rfl rfl ?_)
      refine (HC.out _ (Hg.out.grow (by repeat (first | exact Below.refl _ _ | assumption | (refine Below.setCell ?_ (by first | omega | (simp; done) | (simp; omega)) _) | (refine Below.alloc ?_ (by first | omega | (simp; done) | (simp; omega)) _) | refine Below.drew ?_ | (refine below_thru ?_ (by assumption) (by first | omega | (simp; done) | (simp; omega))) | refine below_drewN ?_ _)))).mono ?_
      rintro e w1 ⟨rfl, hb1⟩
      obtain ⟨hc1, hf1⟩ := bcell hb1; have hz1 := hb1.size; (try simp at hz1)
      have hR1 : Blk w1 (w.heap.size + 1 + 1 + 1) 42 #[.int .i64 0, .int .i64 0, .bool false] := Blk.thru (by (repeat (first | assumption | exact Blk.new _ _ _ | (refine Blk.new' _ _ _ ?_; (simp; done)) | refine Blk.drew ?_ | refine Blk.alloc ?_ _ | (refine Blk.fars ?_ ?_ _ _; rotate_left; (dsimp only; omega)) | (refine Blk.far ?_ ?_ _; rotate_left; (first | (dsimp only; omega) | (simp; done) | (simp; omega) | omega))))) hb1 (by simp <;> omega)
      have hQ1 : Blk w1 (w.heap.size + 1 + 1 + 1 + 1) 45 #[.int .i64 0, .int .i64 0, .int .i64 0] := Blk.thru (by (repeat (first | assumption | exact Blk.new _ _ _ | (refine Blk.new' _ _ _ ?_; (simp; done)) | refine Blk.drew ?_ | refine Blk.alloc ?_ _ | (refine Blk.fars ?_ ?_ _ _; rotate_left; (dsimp only; omega)) | (refine Blk.far ?_ ?_ _; rotate_left; (first | (dsimp only; omega) | (simp; done) | (simp; omega) | omega))))) hb1 (by simp <;> omega)
      have hw1 : Below w.heap.size w w1 := (by repeat (first | exact Below.refl _ _ | assumption | (refine Below.setCell ?_ (by first | omega | (simp; done) | (simp; omega)) _) | (refine Below.alloc ?_ (by first | omega | (simp; done) | (simp; omega)) _) | refine Below.drew ?_ | (refine below_thru ?_ (by assumption) (by first | omega | (simp; done) | (simp; omega))) | refine below_drewN ?_ _))
      have hG1 : Blk w1 w.heap.size 33 (grow g) := Blk.thru (by (repeat (first | assumption | exact Blk.new _ _ _ | (refine Blk.new' _ _ _ ?_; (simp; done)) | refine Blk.drew ?_ | refine Blk.alloc ?_ _ | (refine Blk.fars ?_ ?_ _ _; rotate_left; (dsimp only; omega)) | (refine Blk.far ?_ ?_ _; rotate_left; (first | (dsimp only; omega) | (simp; done) | (simp; omega) | omega))))) hb1 (by simp <;> omega)
      have hS1 : Blk w1 (w.heap.size + 1) 42 #[.int .i64 s.pos, .int .i64 s.charge, .bool s.bolted] := Blk.thru (by (repeat (first | assumption | exact Blk.new _ _ _ | (refine Blk.new' _ _ _ ?_; (simp; done)) | refine Blk.drew ?_ | refine Blk.alloc ?_ _ | (refine Blk.fars ?_ ?_ _ _; rotate_left; (dsimp only; omega)) | (refine Blk.far ?_ ?_ _; rotate_left; (first | (dsimp only; omega) | (simp; done) | (simp; omega) | omega))))) hb1 (by simp <;> omega)
      have hT1 : Blk w1 (w.heap.size + 1 + 1) 49 #[.int .i64 t.order, .bool t.power, .int .i64 t.outer, .int .i64 t.inner] := Blk.thru (by (repeat (first | assumption | exact Blk.new _ _ _ | (refine Blk.new' _ _ _ ?_; (simp; done)) | refine Blk.drew ?_ | refine Blk.alloc ?_ _ | (refine Blk.fars ?_ ?_ _ _; rotate_left; (dsimp only; omega)) | (refine Blk.far ?_ ?_ _; rotate_left; (first | (dsimp only; omega) | (simp; done) | (simp; omega) | omega))))) hb1 (by simp <;> omega)
      have hl1 := hT1.lt
      have hl11 := hS1.lt
      clear hb1 hc1 hf1
      obtain ⟨s0, s1, s2, _⟩ := hS1.three
      obtain ⟨t0, t1, t2, t3⟩ := tcells_of hT1
      have HG1 := Lib.hid hG1
      clear hG1
      go_wp2_with (with_reducible refine wpl_g (g := g) (b := w.heap.size) (t := 33) HG1.out rfl rfl rfl ?_)
      refine (HV.out _).mono ?_
      rintro e w2 ⟨rfl, hb2⟩
      have HR2 := Lib.hid (hR1.thru hb2 hR1.lt)
      have HQ2 := Lib.hid (hQ1.thru hb2 hQ1.lt)
      have hw2 : Below w.heap.size w w2 := hw1.trans (hb2.mono hw1.size)
      clear hb2 s0 s1 s2 t0 t1 t2 t3 hS1 hT1 hw1 hl1 hl11 hR1 hQ1
      go_wp2_with (first | (with_reducible refine wpl_s3 (T := 42) HR2.out iState rfl rfl rfl rfl rfl rfl rfl ?_; intro W8 hW8; have HR8 := Lib.hid hW8.blk; have HQ8 := Lib.hid (hW8.far _ _ _ (by omega) HQ2.out); have Hw8 := Lib.hid (hW8.below _ _ (by omega) hw2); clear hW8) | (with_reducible refine wpl_s3 (T := 45) HQ8.out iMoved rfl rfl rfl rfl rfl rfl rfl ?_; intro W9 hW9; have HQ9 := Lib.hid hW9.blk; have HR9 := Lib.hid (hW9.far _ _ _ (by omega) HR8.out); have Hw9 := Lib.hid (hW9.below _ _ (by omega) Hw8.out); clear hW9))
      exact bodyPost_ret (results_rows3 rfl _ rfl rfl rfl HR9.out HQ9.out uState iState uMoved iMoved) rfl ⟨rfl, Hw9.out⟩
  · rw [if_neg h0] at he
    subst he
    have q0 : (fe == 0) = false := by rw [beq_eq_false_iff_ne]; exact h0
    have q1 : (fe != 0) = true := by rw [bne_iff_ne]; exact h0
    rw [if_neg h0, if_neg h0]
    clear h0 hok
    go_enter Tryz.func30, Tryz.ntmps30
    go_wp2_with (with_reducible refine wpl_g (g := g) (((((Blk.new w _ _).alloc _).alloc _).alloc _).alloc _) rfl rfl rfl ?_)
    refine (HC.out _ (Hg.out.grow (by repeat (first | exact Below.refl _ _ | assumption | (refine Below.setCell ?_ (by first | omega | (simp; done) | (simp; omega)) _) | (refine Below.alloc ?_ (by first | omega | (simp; done) | (simp; omega)) _) | refine Below.drew ?_ | (refine below_thru ?_ (by assumption) (by first | omega | (simp; done) | (simp; omega))) | refine below_drewN ?_ _)))).mono ?_
    rintro e w1 ⟨rfl, hb1⟩
    obtain ⟨hc1, hf1⟩ := bcell hb1; have hz1 := hb1.size; (try simp at hz1)
    have hR1 : Blk w1 (w.heap.size + 1 + 1 + 1) 42 #[.int .i64 0, .int .i64 0, .bool false] := Blk.thru (by (repeat (first | assumption | exact Blk.new _ _ _ | (refine Blk.new' _ _ _ ?_; (simp; done)) | refine Blk.drew ?_ | refine Blk.alloc ?_ _ | (refine Blk.fars ?_ ?_ _ _; rotate_left; (dsimp only; omega)) | (refine Blk.far ?_ ?_ _; rotate_left; (first | (dsimp only; omega) | (simp; done) | (simp; omega) | omega))))) hb1 (by simp <;> omega)
    have hQ1 : Blk w1 (w.heap.size + 1 + 1 + 1 + 1) 45 #[.int .i64 0, .int .i64 0, .int .i64 0] := Blk.thru (by (repeat (first | assumption | exact Blk.new _ _ _ | (refine Blk.new' _ _ _ ?_; (simp; done)) | refine Blk.drew ?_ | refine Blk.alloc ?_ _ | (refine Blk.fars ?_ ?_ _ _; rotate_left; (dsimp only; omega)) | (refine Blk.far ?_ ?_ _; rotate_left; (first | (dsimp only; omega) | (simp; done) | (simp; omega) | omega))))) hb1 (by simp <;> omega)
    have hw1 : Below w.heap.size w w1 := (by repeat (first | exact Below.refl _ _ | assumption | (refine Below.setCell ?_ (by first | omega | (simp; done) | (simp; omega)) _) | (refine Below.alloc ?_ (by first | omega | (simp; done) | (simp; omega)) _) | refine Below.drew ?_ | (refine below_thru ?_ (by assumption) (by first | omega | (simp; done) | (simp; omega))) | refine below_drewN ?_ _))
    have HR2 := Lib.hid hR1
    have HQ2 := Lib.hid hQ1
    have hw2 := hw1
    clear hb1 hc1 hf1 hR1 hQ1 hw1
    go_wp2_with (first | (with_reducible refine wpl_s3 (T := 42) HR2.out iState rfl rfl rfl rfl rfl rfl rfl ?_; intro W8 hW8; have HR8 := Lib.hid hW8.blk; have HQ8 := Lib.hid (hW8.far _ _ _ (by omega) HQ2.out); have Hw8 := Lib.hid (hW8.below _ _ (by omega) hw2); clear hW8) | (with_reducible refine wpl_s3 (T := 45) HQ8.out iMoved rfl rfl rfl rfl rfl rfl rfl ?_; intro W9 hW9; have HQ9 := Lib.hid hW9.blk; have HR9 := Lib.hid (hW9.far _ _ _ (by omega) HR8.out); have Hw9 := Lib.hid (hW9.below _ _ (by omega) Hw8.out); clear hW9))
    exact bodyPost_ret (results_rows3 rfl _ rfl rfl rfl HR9.out HQ9.out uState iState uMoved iMoved) rfl ⟨rfl, Hw9.out⟩
end Go.Proofs.YtgdomaddjiggaaaGreat
