/- A set of machines in memory; a gate alone; the states of a set. -/
import Derived.Test.YtgdomaddjiggaaaGreatGtFalls
import Derived.WalkLawsBesides
import Derived.OwnWalk
namespace Go.Proofs.YtgdomaddjiggaaaGreat
open Go.RowKit
set_option linter.unusedSimpArgs false
set_option linter.unusedVariables false

/-- The machines lie in one block, one after the other, from its head on. -/
structure Ms (w : World) (b : Nat) (ms : List (Ga × Gs)) : Prop where
  rng : ∀ (i : Nat) (m : Ga × Gs), ms[i]? = some m → w.rangeAt b (i * 24) (mrow m.1 m.2).toList
  fro : ∀ o, w.frozen? ⟨b, o, none⟩ = false
  lt : b < w.heap.size
theorem Ms.same {w w' : World} {b : Nat} {ms : List (Ga × Gs)} (h : Ms w b ms) (hb : w'.heap[b]? = w.heap[b]?) (hs : w.heap.size ≤ w'.heap.size) : Ms w' b ms :=
  ⟨fun i m hm j v hv => (World.cell?_of_block (a := ⟨b, _, none⟩) hb).trans (h.rng i m hm j v hv), fun o => by
    have := h.fro o
    unfold World.frozen? at *
    simpa [hb] using this, by have := h.lt; omega⟩
theorem Ms.below {w w' : World} {b B : Nat} {ms : List (Ga × Gs)} (h : Ms w b ms) (hb : Below B w w') (hB : b < B) : Ms w' b ms := h.same (hb.block b hB) hb.size
theorem Ms.grow {w w' : World} {b : Nat} {ms : List (Ga × Gs)} (h : Ms w b ms) (hb : Below w.heap.size w w') : Ms w' b ms := h.below hb h.lt
theorem Ms.one {w : World} {b : Nat} {g : Ga} {s : Gs} {t : TypeId} (h : Blk w b t (mrow g s)) : Ms w b [(g, s)] :=
  ⟨fun i m hm => by
    match i, hm with
    | 0, hm => cases hm; exact Blk.range h (by rfl)
    | i + 1, hm => simp at hm, fun o => h.frozen o, h.lt⟩
/-- All gates are where they were. -/
def MsAt (w : World) (ms : List (Ga × Gs)) : Prop := ∀ m ∈ ms, m.1.At w w.heap.size
theorem MsAt.grow {w w' : World} {ms : List (Ga × Gs)} (h : MsAt w ms) (hb : Below w.heap.size w w') : MsAt w' ms := fun m hm => (h m hm).grow hb

theorem run_bslice_m (g : Ga) (s : Gs) (w : World) : (Instr.buildSlice 112 1 #[(0, mv g s)]).run Tryz.prog w = .ok (.slice (some ⟨w.heap.size, 0, none⟩) 1 1) (w.alloc (.cells (mrow g s) 107)) := by
  kernel_rfl
/-- What alone and setOf return. -/
abbrev setV (A : Option Addr) (n c : Nat) (rA : Option Addr) (rn rc : Nat) : Value := .agg #[.slice A n c, .slice rA rn rc]

set_option maxRecDepth 100000 in
set_option maxHeartbeats 1000000 in
theorem alone_any (g : Ga) (s : Gs) (w : World) :
    Calls Tryz.prog 70 #[g.v, s.v] w fun e w' => ∃ b, e = .returned (setV (some ⟨b, 0, none⟩) 1 1 none 0 0) ∧ w.heap.size ≤ b ∧ Blk w' b 107 (mrow g s) ∧ Below w.heap.size w w' := by
  have hbd : ∀ W : World, (Instr.build 107 #[(0, g.v), (1, .agg #[.int .i64 s.pos, .int .i64 s.charge, .bool s.bolted])]).run Tryz.prog W = .ok (mv g s) W := fun W => run_build_m g s W
  have hbs := fun W => run_bslice_m g s W
  go_enter Tryz.func70, Tryz.ntmps70
  go_wp2_with (with_reducible refine wpl_g (g := g) (((Blk.new w _ _).alloc _).alloc _) rfl rfl rfl ?_)
  exact bodyPost_ret (v := setV (some ⟨w.heap.size + 1 + 1 + 1, 0, none⟩) 1 1 none 0 0) (by simp [results, Tryz.results70, go_sem] <;> omega) rfl ⟨_, rfl, by omega, by (repeat (first | assumption | exact Blk.new _ _ _ | (refine Blk.new' _ _ _ ?_; (simp; done)) | refine Blk.drew ?_ | refine Blk.alloc ?_ _ | (refine Blk.fars ?_ ?_ _ _; rotate_left; (dsimp only; omega)) | (refine Blk.far ?_ ?_ _; rotate_left; (first | (dsimp only; omega) | (simp; done) | (simp; omega) | omega)))), (by repeat (first | exact Below.refl _ _ | assumption | (refine Below.setCell ?_ (by first | omega | (simp; done) | (simp; omega)) _) | (refine Below.alloc ?_ (by first | omega | (simp; done) | (simp; omega)) _) | refine Below.drew ?_ | (refine below_thru ?_ (by assumption) (by first | omega | (simp; done) | (simp; omega))) | refine below_drewN ?_ _))⟩
end Go.Proofs.YtgdomaddjiggaaaGreat
