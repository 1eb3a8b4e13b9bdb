/- slices.Repeat of one span, once. -/
import Derived.Test.YtncidhoojgncgaaGreatTdTf
namespace Go.Proofs.YtncidhoojgncgaaGreat
open Go.RowKit
set_option linter.unusedSimpArgs false
set_option linter.unusedVariables false

def OneSpan (s : Sp) (w : World) (e : Ending) (w' : World) : Prop :=
  ∃ g, e = .returned (.slice (some ⟨g, 0, none⟩) 1 1) ∧ Blk w' g 107 #[.int .i64 s.lo, .int .i64 s.hi] ∧ w.heap.size ≤ g ∧ Below w.heap.size w w'

theorem mul11 (w : World) : Calls Tryz.prog 158 #[.int .u64 1, .int .u64 1] w fun e w' => e = .returned (.tuple #[.int .u64 0, .int .u64 1]) ∧ w = w' := by
  go_enter Tryz.func158, Tryz.ntmps158
  go_wp2
  go_ret2
  exact ⟨rfl, rfl⟩

theorem run_copy_two (w : World) (g b : Nat) (x y u v : Value) (hx : w.cell? ⟨b, 0, none⟩ = some x) (hy : w.cell? ⟨b, 1, none⟩ = some y) (hu : w.cell? ⟨g, 0, none⟩ = some u) (hv : w.cell? ⟨g, 1, none⟩ = some v)
    (hf0 : w.frozen? ⟨g, 0, none⟩ = false) (hf1 : w.frozen? ⟨g, 1, none⟩ = false) (h1 : x.oneCell' = true) (h2 : y.oneCell' = true) :
    (Builtin.copy_ #[108, 108] 3 #[.slice (some ⟨g, 0, none⟩) 1 1, .slice (some ⟨b, 0, none⟩) 1 1]).run Tryz.prog w = .ok (.int .i64 1) ((w.setCell ⟨g, 0, none⟩ x).setCell ⟨g, 1, none⟩ y) := by
  have hl := run_loadCells_list (P := Tryz.prog) w ⟨b, 0, none⟩ [x, y] (by
    intro j z hj
    match j, hj with
    | 0, hj => cases hj; exact hx
    | 1, hj => cases hj; simpa [Addr.add] using hy
    | j + 2, hj => simp at hj)
  have hst := run_storeCells_cells (P := Tryz.prog) g 0 [x, y] 0 w (by
    intro j hj
    match j, hj with
    | 0, _ => simp [hu]
    | 1, _ => simp [hv]
    | j + 2, hj => exact absurd hj (by simp only [List.length_cons, List.length_nil]; omega)) (by
    intro j hj
    match j, hj with
    | 0, _ => simpa using hf0
    | 1, _ => simpa using hf1
    | j + 2, hj => exact absurd hj (by simp only [List.length_cons, List.length_nil]; omega)) (by intro z hz; simp at hz; rcases hz with rfl | rfl <;> assumption)
  have hsz : (Tryz.prog.info? 107).map (·.size) = some 2 := by kernel_rfl
  have hun : Tryz.prog.underlying 108 = some (.slice 107) := by kernel_rfl
  cases hq : Tryz.prog.info? 107 with
  | none => rw [hq] at hsz; simp at hsz
  | some i =>
    have hi : i.size = 2 := by rw [hq] at hsz; simpa using hsz
    simp only [List.length_cons, List.length_nil, Nat.reduceAdd] at hl
    simp only [Nat.add_zero, World.setCells] at hst
    simp [Builtin.copy_, run_underlying hun, Builtin.lenOf, Builtin.firstCells, sizeOf, typeInfo, hq, hi, hl, hst, goInt]

set_option maxRecDepth 100000 in
set_option maxHeartbeats 1000000 in
theorem repeat1_any (b : Nat) (s : Sp) (w : World) (hb : Blk w b 107 #[.int .i64 s.lo, .int .i64 s.hi]) :
    Calls Tryz.prog 112 #[.slice (some ⟨b, 0, none⟩) 1 1, .int .i64 1] w (OneSpan s w) := by
  obtain ⟨g0, g1, g2, g3⟩ := hb.two
  have hlt := hb.lt
  have hmk : ∀ w : World, (Instr.makeSlice 108 (.int .i64 1) (.int .i64 1)).run Tryz.prog w = .ok (.slice (some ⟨w.heap.size, 0, none⟩) 1 1) (w.alloc (.cells #[.int .i64 0, .int .i64 0] 107)) := fun _ => by kernel_rfl
  go_enter Tryz.func112, Tryz.ntmps112
  go_wp2_with (go_at_call 158; refine (mul11 _).mono ?_; rintro e w1 ⟨rfl, rfl⟩)
  rw [run_copy_two _ w.heap.size b (.int .i64 s.lo) (.int .i64 s.hi) (.int .i64 0) (.int .i64 0) (keep_new g0 _) (keep_new g1 _) ((Blk.new w _ _).cell 0) ((Blk.new w _ _).cell 1) ((Blk.new w _ _).frozen 0) ((Blk.new w _ _).frozen 1) rfl rfl]
  go_wp2
  go_loop [8] (fun i => i = .int .i64 1) (fun _ => 0)
  case atStart => rfl
  case round =>
    subst hrel
    go_wp2
    go_ret
    refine ⟨w.heap.size, rfl, ?_, Nat.le_refl _, (by repeat (first | exact Below.refl _ _ | assumption | (refine Below.setCell ?_ (by first | omega | (simp; done) | (simp; omega)) _) | (refine Below.alloc ?_ (by first | omega | (simp; done) | (simp; omega)) _) | refine Below.drew ?_ | (refine below_thru ?_ (by assumption) (by first | omega | (simp; done) | (simp; omega))) | refine below_drewN ?_ _))⟩
    first | exact Blk.new _ _ _ | (exact ((Blk.new w _ #[.int .i64 0, .int .i64 0]).set_ 0 _).set_ 1 _)

/-- The level of the tide: the Mean, and the parts of all constituents together. -/
def tideFold (t : Tb) (tick : Int) (l : List Cn) : Sp := l.foldl (fun s c => s.plus (partS c (((c.offset + c.step * tick) % c.cycle) / c.den).toNat (((c.offset + c.step * tick) % c.cycle) % c.den))) ⟨t.mean, t.mean⟩
theorem tideFold_take {t : Tb} {tick : Int} {l : List Cn} {k : Nat} {c : Cn} (h : l[k]? = some c) :
    tideFold t tick (l.take (k + 1)) = (tideFold t tick (l.take k)).plus (partS c (((c.offset + c.step * tick) % c.cycle) / c.den).toNat (((c.offset + c.step * tick) % c.cycle) % c.den)) := by
  have h' := List.getElem?_eq_some_iff.1 h
  unfold tideFold
  rw [List.take_succ_eq_append_getElem h'.1, List.foldl_append, h'.2]; rfl
structure Tb.Ok (t : Tb) : Prop where
  m0 : -20000 ≤ t.mean
  m1 : t.mean ≤ 20000
  n : t.cn ≤ 12
  c : ∀ c ∈ t.cs, c.Ok
end Go.Proofs.YtncidhoojgncgaaGreat
