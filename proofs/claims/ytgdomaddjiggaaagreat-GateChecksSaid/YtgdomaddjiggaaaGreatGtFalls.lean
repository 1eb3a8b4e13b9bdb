/- The first position at which a gate does not fall. -/
import Derived.Test.YtgdomaddjiggaaaGreatGtFaults
namespace Go.Proofs.YtgdomaddjiggaaaGreat
open Go.RowKit
set_option linter.unusedSimpArgs false
set_option linter.unusedVariables false

/-- A world in which one block has become another, whole. -/
structure Wrote (w W : World) (b : Nat) (t : TypeId) (cs : Array Value) : Prop where
  blk : Blk W b t cs
  far : ∀ g t' cs', g ≠ b → Blk w g t' cs' → Blk W g t' cs'
  below : ∀ B a, B ≤ b → Below B a w → Below B a W
  size : W.heap.size = w.heap.size
theorem blk_eq {w : World} {b : Nat} {t : TypeId} {c d : Array Value} (e : c = d) (h : Blk w b t c) : Blk w b t d := e ▸ h
theorem size_sets {b : Nat} : ∀ (vs : List Value) (o : Nat) (w : World), (w.setCells b o vs).heap.size = w.heap.size
  | [], _, _ => rfl
  | v :: r, o, w => by
    rw [World.setCells, size_sets r (o + 1) _]
    simp [World.setCell]
theorem wpl_sm {ops : Array Oper} {rest : List Oper} {o : Oper} {a : Act} {w : World} {Q : Exit → Act → World → Prop} {x y : Operand} {b : Nat} {cs : Array Value} {t : TypeId} {g : Ga} {s : Gs} (h : Blk w b t cs) (hc : cs.size = 24) (hgd : o.guard = none) (ho : o.op = .store 107 x y) (hx : a.eval x = .pointer (some ⟨b, 0, none⟩)) (hy : a.eval y = mv g s)
    (hp : putRow cs 0 (mrow g s).toList = mrow g s) (hk : ∀ W : World, Wrote w W b t (mrow g s) → wpList Tryz.prog ops Q rest (a.put o.dst undef) W) : wpList Tryz.prog ops Q (o :: rest) a w :=
  wpList_store_mid hgd _ x y ho b 0 (mrow g s) hx hy (Blk.there h (by rw [hc]; show 0 + 24 ≤ 24; omega)) iMachine (by simp [Value.oneCell'])
    (hk _ ⟨blk_eq hp (Blk.sets h (mrow g s).toList 0), fun g' t' cs' hne hb => Blk.fars hb hne _ _, fun B a hB hb => below_sets hb hB _ _, size_sets _ _ _⟩)

def zrow : Array Value := #[.string ByteArray.empty, .int .i64 0, .int .i64 0, .slice none 0 0, .int .i64 0, .int .i64 0, .int .i64 0, .int .i64 0, .int .i64 0, .int .i64 0, .int .i64 0, .int .i64 0, .int .i64 0, .int .i64 0, .int .i64 0, .int .i64 0, .int .i64 0, .int .i64 0, .int .i64 0, .slice none 0 0, .int .i64 0, .int .i64 0, .int .i64 0, .bool false]
theorem put_m (g : Ga) (s : Gs) : putRow zrow 0 (mrow g s).toList = mrow g s := by kernel_rfl
theorem run_alloc_m (w : World) : (Instr.alloc 107 true (.tuple #[])).run Tryz.prog w = .ok (.pointer (some ⟨w.heap.size, 0, none⟩)) (w.alloc (.cells zrow 107)) := by
  kernel_rfl
theorem run_build_m (g : Ga) (s : Gs) (w : World) : (Instr.build 107 #[(0, g.v), (1, s.v)]).run Tryz.prog w = .ok (mv g s) w := by
  kernel_rfl
set_option maxRecDepth 100000 in
set_option maxHeartbeats 1000000 in
theorem machineAt_any (g : Ga) (p : Int) (w : World) :
    Calls Tryz.prog 66 #[g.v, .int .i64 p] w fun e w' => e = .returned (mv g ⟨p, 0, false⟩) ∧ Below w.heap.size w w' := by
  have hbd : ∀ W : World, (Instr.build 107 #[(0, g.v), (1, .agg #[.int .i64 p, .int .i64 0, .bool false])]).run Tryz.prog W = .ok (mv g ⟨p, 0, false⟩) W := fun W => run_build_m g ⟨p, 0, false⟩ W
  have hal := fun W => run_alloc_m W
  go_enter Tryz.func66, Tryz.ntmps66
  go_wp2_with (first | (with_reducible refine wpl_g ((Blk.new w _ _).alloc _) rfl rfl rfl ?_) | (with_reducible refine wpl_sm (cs := zrow) (s := ⟨p, 0, false⟩) (g := g) (Blk.new' (w.alloc _) _ _ (by simp)) rfl rfl rfl rfl rfl (put_m _ _) ?_; intro W hW))
  exact bodyPost_ret (results_cell_row rfl _ _ (w.heap.size + 1) 107 (mrow g ⟨p, 0, false⟩) (0, 0) _ rfl hW.blk uMachine rfl iMachine) rfl ⟨rfl, hW.below _ _ (by omega) (by repeat (first | exact Below.refl _ _ | assumption | (refine Below.setCell ?_ (by first | omega | (simp; done) | (simp; omega)) _) | (refine Below.alloc ?_ (by first | omega | (simp; done) | (simp; omega)) _) | refine Below.drew ?_ | (refine below_thru ?_ (by assumption) (by first | omega | (simp; done) | (simp; omega))) | refine below_drewN ?_ _))⟩
end Go.Proofs.YtgdomaddjiggaaaGreat
