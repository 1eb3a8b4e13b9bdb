/- How much of a machine is below a level. -/
import Derived.Test.YtgdomaddjiggaaaGreatGtReg
import Derived.Laws.Rows
namespace Go.Proofs.YtgdomaddjiggaaaGreat
open Go.RowKit
set_option linter.unusedSimpArgs false
set_option linter.unusedVariables false

abbrev mrow (g : Ga) (s : Gs) : Array Value := #[.string g.name, .int .i64 g.kind, .int .i64 g.travel, .slice g.oA g.on g.oc, .int .i64 g.opn, .int .i64 g.shut, .int .i64 g.height, .int .i64 g.float, .int .i64 g.push, .int .i64 g.slide, .int .i64 g.sealN, .int .i64 g.drive, .int .i64 g.brake, .int .i64 g.speed, .int .i64 g.gravity, .int .i64 g.use, .int .i64 g.pump, .int .i64 g.capacity, .int .i64 g.slack, .slice g.sA g.sn g.sc, .int .i64 g.wrong, .int .i64 s.pos, .int .i64 s.charge, .bool s.bolted]
structure MCells (w : World) (b : Nat) (g : Ga) (s : Gs) : Prop extends GaCells w b g where
  c21 : w.cell? ⟨b, 21, none⟩ = some (.int .i64 s.pos)
  c22 : w.cell? ⟨b, 22, none⟩ = some (.int .i64 s.charge)
  c23 : w.cell? ⟨b, 23, none⟩ = some (.bool s.bolted)
theorem mcells_of {w : World} {b : Nat} {g : Ga} {s : Gs} {t : TypeId} (h : Blk w b t (mrow g s)) : MCells w b g s := by
  have c := h.cell
  exact ⟨⟨c 0, c 1, c 2, c 3, c 4, c 5, c 6, c 7, c 8, c 9, c 10, c 11, c 12, c 13, c 14, c 15, c 16, c 17, c 18, c 19, c 20⟩, c 21, c 22, c 23⟩

theorem uMachine : Tryz.prog.underlying 107 = some (.struct #[Field.mk "GtGate" 33 0 true "" "" 0, Field.mk "GtState" 42 21 true "" "" 208]) := by kernel_rfl
theorem iMachine : (Tryz.prog.info? 107).map (·.size) = some 24 := by kernel_rfl
/-- A machine is loaded whole. -/
theorem run_ld_m {w : World} {b : Nat} {t : TypeId} {g : Ga} {s : Gs} (h : Blk w b t (mrow g s)) : (Instr.loadAt 107 (.pointer (some ⟨b, 0, none⟩))).run Tryz.prog w = .ok (mv g s) w := by
  simp only [Instr.loadAt, Instr.sureAddr, Sem.run_bind, Sem.run_pure, Result.andThen_ok, run_loadVar_row w b t 107 (mrow g s) (0, 0) _ h uMachine rfl iMachine]
theorem ld_m {o : Oper} {ev : Operand → Value} {w : World} {x : Operand} {b : Nat} {t : TypeId} {g : Ga} {s : Gs} (ho : o.op = .load 107 x) (hx : ev x = .pointer (some ⟨b, 0, none⟩)) (h : Blk w b t (mrow g s)) :
    (execOp ev o).run Tryz.prog w = .ok (.value (mv g s)) w := by
  unfold execOp
  simp only [ho, hx, Sem.run_bind, run_ld_m h, Sem.run_pure, Result.andThen_ok]
theorem wpl_m {ops : Array Oper} {rest : List Oper} {o : Oper} {a : Act} {w : World} {Q : Exit → Act → World → Prop} {x : Operand} {b : Nat} {t : TypeId} {g : Ga} {s : Gs} (h : Blk w b t (mrow g s)) (hgd : o.guard = none) (ho : o.op = .load 107 x) (hx : a.eval x = .pointer (some ⟨b, 0, none⟩))
    (hk : wpList Tryz.prog ops Q rest (a.put o.dst (mv g s)) w) : wpList Tryz.prog ops Q (o :: rest) a w :=
  wpList_load_row hgd _ x ho b hx t (mrow g s) (0, 0) _ h uMachine rfl iMachine hk

theorem ret_int {k : IntKind} {a b : Int} (h : a = b) : Ending.returned (.int k a) = Ending.returned (.int k b) := by rw [h]

set_option maxRecDepth 100000 in
set_option maxHeartbeats 2000000 in
theorem under_any (g : Ga) (s : Gs) (l : Int) (w : World) (hg : g.Ok) (hs : s.Ok g) (l0 : -20000 ≤ l) (l1 : l ≤ 20000) :
    Calls Tryz.prog 133 #[mv g s, .int .i64 l] w fun e w' => e = .returned (.int .i64 (underF g s.pos l)) ∧ Below w.heap.size w w' := by
  have p0 := hs.p0
  have p1 := hs.p1
  obtain ⟨x0, x1, x2, x3⟩ := edge_in hg p0 p1
  have h0 := hg.h0
  have h1 := hg.h1
  have H := Lib.hid (fun W => edge_any g s W hg hs)
  have hf : underF g s.pos l = min (max (l - edgeF g s.pos) 0) g.height := rfl
  have Hf := Lib.hid hf
  generalize edgeF g s.pos = ed at *
  have w1 : IntKind.i64.wrap (l - ed) = l - ed := IntWalk.i64_in _ (by omega)
  clear hf hg hs x0 x1
  go_enter Tryz.func133, Tryz.ntmps133
  go_wp2_with fail
  refine wp_region_split (S := fun w' => Blk w' w.heap.size 107 (mrow g s)) 9 (by kernel_rfl) (by kernel_rfl) (by exact Blk.drew (Blk.new w _ _)) (fun hHeld => ?_)
  refine wpAnyH_take (i := 0) (v := ?_) rfl (by kernel_rfl) (by kernel_rfl) (by kernel_rfl) (fun _ _ _ h => h) (Or.inl ⟨by rfl, ?_⟩) hHeld ?_
  rotate_left
  · intro w hSw; (try dsimp only at hSw); skip; go_simp; (try with_reducible rfl)
  (try simp only [Act.put, List.setIfInBounds_toArray, List.set_cons_zero, List.set_cons_succ])
  refine wpAnyH_take (i := 1) (v := mv g s) rfl (by kernel_rfl) (by kernel_rfl) (by kernel_rfl) (fun _ _ _ h => h) (Or.inl ⟨by rfl, fun w hSw => ld_m rfl rfl hSw⟩) hHeld ?_
  (try simp only [Act.put, List.setIfInBounds_toArray, List.set_cons_zero, List.set_cons_succ])
  refine wpAnyH_take (i := 5) (v := ?_) rfl (by kernel_rfl) (by kernel_rfl) (by kernel_rfl) (fun _ _ _ h => h) (Or.inl ⟨by rfl, ?_⟩) hHeld ?_
  rotate_left
  · intro w hSw; (try dsimp only at hSw); obtain ⟨⟨k0, k1, k2, k3, k4, k5, k6, k7, k8, k9, k10, k11, k12, k13, k14, k15, k16, k17, k18, k19, k20⟩, k21, k22, k23⟩ := mcells_of hSw; go_simp; (try with_reducible rfl)
  (try simp only [Act.put, List.setIfInBounds_toArray, List.set_cons_zero, List.set_cons_succ])
  refine wpAnyH_take (i := 6) (v := ?_) rfl (by kernel_rfl) (by kernel_rfl) (by kernel_rfl) (fun _ _ _ h => h) (Or.inl ⟨by rfl, ?_⟩) hHeld ?_
  rotate_left
  · intro w hSw; (try dsimp only at hSw); obtain ⟨⟨k0, k1, k2, k3, k4, k5, k6, k7, k8, k9, k10, k11, k12, k13, k14, k15, k16, k17, k18, k19, k20⟩, k21, k22, k23⟩ := mcells_of hSw; go_simp; (try with_reducible rfl)
  (try simp only [Act.put, List.setIfInBounds_toArray, List.set_cons_zero, List.set_cons_succ])
  refine wpAnyH_take (i := 7) (v := ?_) rfl (by kernel_rfl) (by kernel_rfl) (by kernel_rfl) (fun _ _ _ h => h) (Or.inl ⟨by rfl, ?_⟩) hHeld ?_
  rotate_left
  · intro w hSw; (try dsimp only at hSw); obtain ⟨⟨k0, k1, k2, k3, k4, k5, k6, k7, k8, k9, k10, k11, k12, k13, k14, k15, k16, k17, k18, k19, k20⟩, k21, k22, k23⟩ := mcells_of hSw; go_simp; (try with_reducible rfl)
  (try simp only [Act.put, List.setIfInBounds_toArray, List.set_cons_zero, List.set_cons_succ])
  refine wpAnyH_ready (rs := [2]) (by kernel_rfl) (by simp) ?_
  refine AllReadyH.cons rfl (fun K hK => ?_) AllReadyH.nil
  go_simp
  refine (H.out _).mono ?_
  rintro e w2 ⟨rfl, hb2⟩
  (try dsimp only)
  refine hK.out _ _ (by exact hHeld.thru hb2 hHeld.lt) (fun hHeld => ?_)
  clear hK K
  (try simp only [Act.put, List.setIfInBounds_toArray, List.set_cons_zero, List.set_cons_succ])
  refine wpAnyH_take (i := 3) (v := ?_) rfl (by kernel_rfl) (by kernel_rfl) (by kernel_rfl) (fun _ _ _ h => h) (Or.inl ⟨by rfl, ?_⟩) hHeld ?_
  rotate_left
  · intro w hSw; (try dsimp only at hSw); skip; go_simp; (try with_reducible rfl)
  (try simp only [Act.put, List.setIfInBounds_toArray, List.set_cons_zero, List.set_cons_succ])
  refine wpAnyH_take (i := 4) (v := ?_) rfl (by kernel_rfl) (by kernel_rfl) (by kernel_rfl) (fun _ _ _ h => h) (Or.inl ⟨by rfl, ?_⟩) hHeld ?_
  rotate_left
  · intro w hSw; (try dsimp only at hSw); skip; go_simp; (try with_reducible rfl)
  (try simp only [Act.put, List.setIfInBounds_toArray, List.set_cons_zero, List.set_cons_succ])
  refine wpAnyH_take (i := 8) (v := ?_) rfl (by kernel_rfl) (by kernel_rfl) (by kernel_rfl) (fun _ _ _ h => h) (Or.inl ⟨by rfl, ?_⟩) hHeld ?_
  rotate_left
  · intro w hSw; (try dsimp only at hSw); skip; go_simp; (try with_reducible rfl)
  (try simp only [Act.put, List.setIfInBounds_toArray, List.set_cons_zero, List.set_cons_succ])
  refine wpAnyH_done (by kernel_rfl) ?_ _
  simp only [tailPost, List.drop_succ_cons, List.drop_zero]
  go_wp2
  all_goals
    go_ret
    exact ⟨by rw [Hf.out]; refine ret_int ?_; omega, (by repeat (first | exact Below.refl _ _ | assumption | (refine Below.setCell ?_ (by first | omega | (simp; done) | (simp; omega)) _) | (refine Below.alloc ?_ (by first | omega | (simp; done) | (simp; omega)) _) | refine Below.drew ?_ | (refine below_thru ?_ (by assumption) (by first | omega | (simp; done) | (simp; omega))) | refine below_drewN ?_ _))⟩
end Go.Proofs.YtgdomaddjiggaaaGreat
