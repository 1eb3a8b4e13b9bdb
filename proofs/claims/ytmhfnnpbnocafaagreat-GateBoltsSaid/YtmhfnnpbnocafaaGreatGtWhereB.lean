/- where, the whole: the span of the positions on which the sensors agree. -/
import Derived.Test.YtmhfnnpbnocafaaGreatGtWhere
import Derived.Test.YtmhfnnpbnocafaaGreatGtAwake
namespace Go.Proofs.YtmhfnnpbnocafaaGreat
open Go.RowKit
set_option linter.unusedSimpArgs false
set_option linter.unusedVariables false
attribute [local go_sem] Oper.semAt_some

def loW : List Nat → Int
  | [] => -1
  | x :: _ => x
def hiW (xs : List Nat) : Int := match xs.getLast? with
  | none => -1
  | some x => x
theorem loW_snoc (pre : List Nat) (x : Nat) : loW (pre ++ [x]) = if loW pre < 0 then (x : Int) else loW pre := by
  cases pre with
  | nil => rfl
  | cons y ys => show (y : Int) = if (y : Int) < 0 then (x : Int) else (y : Int); rw [if_neg (by omega)]
theorem hiW_snoc (pre : List Nat) (x : Nat) : hiW (pre ++ [x]) = x := by unfold hiW; simp
theorem loW_neg (xs : List Nat) : loW xs < 0 ↔ xs = [] := by
  cases xs with
  | nil => simp [loW]
  | cons y ys => simp only [loW]; constructor <;> intro h <;> first | omega | cases h
/-- What where says of the positions with which enough sensors agree. -/
def whereV (xs : List Nat) : Value := if loW xs < 0 then .tuple #[.agg #[.int .i64 0, .int .i64 0], .int .i64 9] else .tuple #[.agg #[.int .i64 (loW xs), .int .i64 (hiW xs)], .int .i64 0]

theorem blk_ownf {W W' : World} {row : Option Nat} {b : Nat} {t : TypeId} {cs : Array Value} (h : Blk W b t cs) (hg : W.grownBy W' row) (hr : ∀ r, row = some r → ∃ o : Obj, W.heap[r]? = some o ∧ o.isCells = false) : Blk W' b t cs :=
  (hg.block b h.lt (fun e => by obtain ⟨o, ho, hc⟩ := hr b e.symm; rw [show W.heap[b]? = _ from h] at ho; cases ho; cases hc)).trans h
theorem Blk.one {w : World} {g : Nat} {t : TypeId} {a : Value} (h : Blk w g t #[a]) : w.cell? ⟨g, 0, none⟩ = some a ∧ w.frozen? ⟨g, 0, none⟩ = false := ⟨h.cell 0, h.frozen 0⟩
theorem wp_named {P : Program} {c : Code} {Q : Exit → Act → World → Prop} {a : Act} {w : World} {facts : World → Prop} (h : facts w) (k : ∀ W, facts W → c.wp P Q a W) : c.wp P Q a w := k w h

set_option maxRecDepth 100000 in
set_option maxHeartbeats 4000000 in
theorem agreed_any (g : Ga) (rA : Option Addr) (rn rc : Nat) (w : World) :
    Calls Tryz.prog 80 #[g.v, .slice rA rn rc] w fun e w' => e = .returned (.func (.func 127) #[] #[.pointer (some ⟨w.heap.size, 0, none⟩), .pointer (some ⟨w.heap.size + 1, 0, none⟩)]) ∧ w' = (w.alloc (.cells (grow g) 25)).alloc (.cells #[.slice rA rn rc] 22) := by
  go_enter Tryz.func80, Tryz.ntmps80
  go_wp2
  go_ret
  exact ⟨rfl, rfl⟩

set_option maxRecDepth 100000 in
set_option maxHeartbeats 4000000 in
theorem where_any (g : Ga) (rs : List Int) (rA : Option Addr) (rn rc : Nat) (w : World) (hg : g.At w w.heap.size) (hr : Tab w w.heap.size rA rn 1 (rs.map fun i => [Value.int .i64 i])) (hrn : rn = g.sn) (ok : g.Ok) :
    Calls Tryz.prog 27 #[g.v, .slice rA rn rc] w fun e w' => e = .returned (whereV (okL g.ss rs g.sn g.wrong (g.travel.toNat + 1))) ∧ Below w.heap.size w w' := by
  refine (callsIn_wide (n := 10)).1 ?_
  refine callsIn_of_wp_marks Tryz.func27 rfl trivial ?_ rfl
  simp only [Tryz.ntmps27, List.size_toArray, List.length_cons, List.length_nil, Nat.reduceAdd, Nat.reduceSub, Array.replicate_succ, Array.replicate_zero, List.push_toArray, List.append_toArray, List.nil_append, List.cons_append]
  have hne : ((g.sn : Int) != (g.sn : Int)) = false := by simp
  subst hrn
  refine wpIn_wide.2 ?_
  go_wp2_with (with_reducible refine wpl_g (g := g) (b := w.heap.size) (t := 25) (by (repeat (first | assumption | exact Blk.new _ _ _ | (refine Blk.new' _ _ _ ?_; (simp; done)) | refine Blk.drew ?_ | refine Blk.alloc ?_ _ | (refine Blk.fars ?_ ?_ _ _; rotate_left; (dsimp only; omega)) | (refine Blk.far ?_ ?_ _; rotate_left; (first | (dsimp only; omega) | (simp; done) | (simp; omega) | omega))))) rfl rfl rfl ?_)
  refine (agreed_any g rA g.sn rc _).mono ?_
  rintro e w1 ⟨rfl, rfl⟩
  (try dsimp only)
  go_wp2_with fail
  simp only [World.size_alloc]
  refine wp_named (facts := fun W => (Below w.heap.size w W ∧ W.heap.size = w.heap.size + 6) ∧ Blk W (w.heap.size + 1) 31 #[.int .i64 0, .int .i64 0] ∧ Blk W (w.heap.size + 1 + 1) 3 #[.int .i64 (-1)] ∧ Blk W (w.heap.size + 1 + 1 + 1) 3 #[.int .i64 (-1)] ∧ Blk W (w.heap.size + 1 + 1 + 1 + 1) 25 (grow g) ∧ Blk W (w.heap.size + 1 + 1 + 1 + 1 + 1) 22 #[.slice rA g.sn rc]) ⟨⟨(by repeat (first | exact Below.refl _ _ | assumption | (refine Below.setCell ?_ (by first | omega | (simp; done) | (simp; omega)) _) | (refine Below.alloc ?_ (by first | omega | (simp; done) | (simp; omega)) _) | refine Below.drew ?_ | (refine below_thru ?_ (by assumption) (by first | omega | (simp; done) | (simp; omega))) | refine below_drewN ?_ _)), by simp⟩, (by (repeat (first | assumption | exact Blk.new _ _ _ | (refine Blk.new' _ _ _ ?_; (simp; done)) | refine Blk.drew ?_ | refine Blk.alloc ?_ _ | (refine Blk.fars ?_ ?_ _ _; rotate_left; (dsimp only; omega)) | (refine Blk.far ?_ ?_ _; rotate_left; (first | (dsimp only; omega) | (simp; done) | (simp; omega) | omega))))), (by (repeat (first | assumption | exact Blk.new _ _ _ | (refine Blk.new' _ _ _ ?_; (simp; done)) | refine Blk.drew ?_ | refine Blk.alloc ?_ _ | (refine Blk.fars ?_ ?_ _ _; rotate_left; (dsimp only; omega)) | (refine Blk.far ?_ ?_ _; rotate_left; (first | (dsimp only; omega) | (simp; done) | (simp; omega) | omega))))), (by (repeat (first | assumption | exact Blk.new _ _ _ | (refine Blk.new' _ _ _ ?_; (simp; done)) | refine Blk.drew ?_ | refine Blk.alloc ?_ _ | (refine Blk.fars ?_ ?_ _ _; rotate_left; (dsimp only; omega)) | (refine Blk.far ?_ ?_ _; rotate_left; (first | (dsimp only; omega) | (simp; done) | (simp; omega) | omega))))), (by (repeat (first | assumption | exact Blk.new _ _ _ | (refine Blk.new' _ _ _ ?_; (simp; done)) | refine Blk.drew ?_ | refine Blk.alloc ?_ _ | (refine Blk.fars ?_ ?_ _ _; rotate_left; (dsimp only; omega)) | (refine Blk.far ?_ ?_ _; rotate_left; (first | (dsimp only; omega) | (simp; done) | (simp; omega) | omega))))), (by (repeat (first | assumption | exact Blk.new _ _ _ | (refine Blk.new' _ _ _ ?_; (simp; done)) | refine Blk.drew ?_ | refine Blk.alloc ?_ _ | (refine Blk.fars ?_ ?_ _ _; rotate_left; (dsimp only; omega)) | (refine Blk.far ?_ ?_ _; rotate_left; (first | (dsimp only; omega) | (simp; done) | (simp; omega) | omega)))))⟩ ?_
  rintro W0 ⟨⟨hB0, hz0⟩, hS0, hL0, hH0, hG0, hR0⟩
  have hs1 := hS0.lt
  refine wpIn_wide.1 (?_ : Code.wpIn Fence.wide 10 _ _ _ _ _)
  refine wpIn_rangeFunc_ownF (encs := fun x : Nat => #[Value.int .i64 (x : Int)]) (Kp := KpG w.heap.size (w.heap.size + 1 + 1 + 1 + 1) (w.heap.size + 1 + 1 + 1 + 1 + 1)) (S := fun xs => xs = okL g.ss rs g.sn g.wrong (g.travel.toNat + 1)) (Sp := fun _ => True) (N := g.travel.toNat + 1) (w0 := W0) rfl (by decide) (gf := 127) (lb := #[.pointer (some ⟨w.heap.size + 1 + 1 + 1 + 1, 0, none⟩), .pointer (some ⟨w.heap.size + 1 + 1 + 1 + 1 + 1, 0, none⟩)]) rfl trivial (enters_of Tryz.func127 (by kernel_rfl) rfl)
    (fun l J Jx W hW hJ hJx hY h0 => agreed1_in g rs rA g.sn rc w hg hr rfl ok 9 l _ _ J Jx W (hB0.trans (hW.mono hB0.size)) (hG0.thru hW hG0.lt) (hR0.thru hW hR0.lt) hJ hY h0)
    kpG_t (kpG_b hB0.size hG0.lt hR0.lt) (Below.refl _ _) (fun _ => rfl)
    (fun pre W => (Blk W (w.heap.size + 1) 31 #[.int .i64 0, .int .i64 0] ∧ Blk W (w.heap.size + 1 + 1) 3 #[.int .i64 (loW pre)] ∧ Blk W (w.heap.size + 1 + 1 + 1) 3 #[.int .i64 (hiW pre)]) ∧ Below w.heap.size w W)
    (fun _ _ _ => False)
    (OwnFrom.and (Own.from (fun s A B row hs hg hr => ⟨blk_ownf hs.1 hg hr, blk_ownf hs.2.1 hg hr, blk_ownf hs.2.2 hg hr⟩) _) (ownFrom_below (Nat.le_refl _) hB0.size))
    (fun _ _ _ _ _ hs _ _ => hs)
    ⟨⟨hS0, hL0, hH0⟩, hB0⟩
    (fun x => { tmps := #[g.v, .slice rA g.sn rc, .pointer (some ⟨w.heap.size, 0, none⟩), undef, .pointer (some ⟨w.heap.size + 1, 0, none⟩), .int .i64 0, .pointer (some ⟨w.heap.size + 1 + 1, 0, none⟩), .pointer (some ⟨w.heap.size + 1 + 1 + 1, 0, none⟩), .int .i64 x, .slice rA g.sn rc, .int .i64 (g.sn : Int), .pointer (some ⟨w.heap.size, 19, none⟩), .slice g.sA g.sn g.sc, .int .i64 (g.sn : Int), .bool false, undef, g.v, .slice rA g.sn rc, .func (.func 127) #[] #[.pointer (some ⟨w.heap.size + 1 + 1 + 1 + 1, 0, none⟩), .pointer (some ⟨w.heap.size + 1 + 1 + 1 + 1 + 1, 0, none⟩)], .int .i64 x, undef, undef, undef, undef, undef, undef, undef, undef, undef, undef], defers := [] }) ?assign ?body ?done ?stop
  case assign =>
    intro l x W K hK
    gi_wp2
    exact hK
  case body =>
    rintro l pre x W ⟨⟨hS, hL, hH⟩, hB⟩ _
    obtain ⟨l0, l1⟩ := hL.one
    obtain ⟨h0, h1⟩ := hH.one
    have hs2 := hS.lt
    by_cases hn : loW pre < 0
    · have hv : loW (pre ++ [x]) = x := by rw [loW_snoc, if_pos hn]
      have hw := hiW_snoc pre x
      gi_wp2
      refine ⟨(KeepsOthers.setCell W _ _).trans (KeepsOthers.setCell _ _ _), ⟨((Below.refl _ W).setCell (p := ⟨w.heap.size + 1 + 1, 0, none⟩) (by simp; omega) _).setCell (p := ⟨w.heap.size + 1 + 1 + 1, 0, none⟩) (by simp; omega) _, ?_, ?_⟩, ⟨(hS.far (by simp) _).far (by simp) _, ?_, ?_⟩, (hB.setCell (p := ⟨w.heap.size + 1 + 1, 0, none⟩) (by simp; omega) _).setCell (p := ⟨w.heap.size + 1 + 1 + 1, 0, none⟩) (by simp; omega) _⟩
      · rw [Below.heap_setCell _ _ _ _ (by simp), Below.heap_setCell _ _ _ _ (by simp; omega)]
      · rw [Below.heap_setCell _ _ _ _ (by simp; omega), Below.heap_setCell _ _ _ _ (by simp; omega)]
      · rw [hv]; exact (hL.set_ 0 (.int .i64 x)).far (by simp) _
      · rw [hw]; exact (hH.far (p := ⟨w.heap.size + 1 + 1, 0, none⟩) (by simp) (.int .i64 x)).set_ 0 (.int .i64 x)
    · have hv : loW (pre ++ [x]) = loW pre := by rw [loW_snoc, if_neg hn]
      have hw := hiW_snoc pre x
      gi_wp2
      refine ⟨KeepsOthers.setCell _ _ _, ⟨(Below.refl _ W).setCell (p := ⟨w.heap.size + 1 + 1 + 1, 0, none⟩) (by simp; omega) _, ?_, ?_⟩, ⟨hS.far (by simp) _, ?_, ?_⟩, hB.setCell (p := ⟨w.heap.size + 1 + 1 + 1, 0, none⟩) (by simp; omega) _⟩
      · rw [Below.heap_setCell _ _ _ _ (by simp)]
      · rw [Below.heap_setCell _ _ _ _ (by simp; omega)]
      · rw [hv]; exact hL.far (by simp) _
      · rw [hw]; exact hH.set_ 0 (.int .i64 x)
  case done =>
    rintro D ys W hD rfl ⟨⟨hS, hL, hH⟩, hB⟩ hK
    obtain ⟨l0, l1⟩ := hL.one
    obtain ⟨h0, h1⟩ := hH.one
    have hs2 := hS.lt
    obtain ⟨s0, s1, f0, f1⟩ := hS.two
    have Hv := Lib.hid (show whereV (okL g.ss rs g.sn g.wrong (g.travel.toNat + 1)) = if loW (okL g.ss rs g.sn g.wrong (g.travel.toNat + 1)) < 0 then .tuple #[.agg #[.int .i64 0, .int .i64 0], .int .i64 9] else .tuple #[.agg #[.int .i64 (loW (okL g.ss rs g.sn g.wrong (g.travel.toNat + 1))), .int .i64 (hiW (okL g.ss rs g.sn g.wrong (g.travel.toNat + 1)))], .int .i64 0] from rfl)
    generalize loW (okL g.ss rs g.sn g.wrong (g.travel.toNat + 1)) = lo at *
    generalize hiW (okL g.ss rs g.sn g.wrong (g.travel.toNat + 1)) = hi at *
    have hDl : D < W.heap.size := (Array.getElem?_eq_some_iff.1 hK).1
    by_cases hn : lo < 0
    · have Hv := Lib.hid (Hv.out.trans (if_pos hn))
      go_wp2
      have hK' := ((KeepsOthers.setCell W ⟨w.heap.size + 1, 0, none⟩ (.int .i64 0)).trans (KeepsOthers.setCell _ ⟨w.heap.size + 1, 1, none⟩ (.int .i64 0))).same D _ hK rfl
      have hS2 : Blk ((W.setCell ⟨w.heap.size + 1, 0, none⟩ (.int .i64 0)).setCell ⟨w.heap.size + 1, 1, none⟩ (.int .i64 0)) (w.heap.size + 1) 31 #[.int .i64 0, .int .i64 0] := (hS.set_ 0 (.int .i64 0)).set_ 1 (.int .i64 0)
      have hS3 : Blk (((W.setCell ⟨w.heap.size + 1, 0, none⟩ (.int .i64 0)).setCell ⟨w.heap.size + 1, 1, none⟩ (.int .i64 0)).putObj D (.deferred none)) (w.heap.size + 1) 31 #[.int .i64 0, .int .i64 0] := (World.putObj_heap_other (by omega)).trans hS2
      obtain ⟨r0, r1, _, _⟩ := hS3.two
      have hlt3 := hS3.lt
      refine ⟨by simp, .inl ⟨_, _, rfl, run_takeDeferred hK', ?_⟩⟩
      refine ⟨.tuple #[.agg #[.int .i64 0, .int .i64 0], .int .i64 9], ?_, by rw [Hv.out], ((hB.setCell (p := ⟨w.heap.size + 1, 0, none⟩) (by simp) _).setCell (p := ⟨w.heap.size + 1, 1, none⟩) (by simp) _).trans (belowK_b (w := w) (Nat.le_refl _) _ D _ _ (by omega) hK' rfl rfl)⟩
      clear hK' hS2 hS3 hK hS hL hH
      simp [results, Tryz.results27, go_sem, r0, r1, hlt3]
    · have Hv := Lib.hid (Hv.out.trans (if_neg hn))
      go_wp2
      have hK' := ((KeepsOthers.setCell W ⟨w.heap.size + 1, 0, none⟩ (.int .i64 lo)).trans (KeepsOthers.setCell _ ⟨w.heap.size + 1, 1, none⟩ (.int .i64 hi))).same D _ hK rfl
      have hS2 : Blk ((W.setCell ⟨w.heap.size + 1, 0, none⟩ (.int .i64 lo)).setCell ⟨w.heap.size + 1, 1, none⟩ (.int .i64 hi)) (w.heap.size + 1) 31 #[.int .i64 lo, .int .i64 hi] := (hS.set_ 0 (.int .i64 lo)).set_ 1 (.int .i64 hi)
      have hS3 : Blk (((W.setCell ⟨w.heap.size + 1, 0, none⟩ (.int .i64 lo)).setCell ⟨w.heap.size + 1, 1, none⟩ (.int .i64 hi)).putObj D (.deferred none)) (w.heap.size + 1) 31 #[.int .i64 lo, .int .i64 hi] := (World.putObj_heap_other (by omega)).trans hS2
      obtain ⟨r0, r1, _, _⟩ := hS3.two
      have hlt3 := hS3.lt
      refine ⟨by simp, .inl ⟨_, _, rfl, run_takeDeferred hK', ?_⟩⟩
      refine ⟨.tuple #[.agg #[.int .i64 lo, .int .i64 hi], .int .i64 0], ?_, by rw [Hv.out], ((hB.setCell (p := ⟨w.heap.size + 1, 0, none⟩) (by simp) _).setCell (p := ⟨w.heap.size + 1, 1, none⟩) (by simp) _).trans (belowK_b (w := w) (Nat.le_refl _) _ D _ _ (by omega) hK' rfl rfl)⟩
      clear hK' hS2 hS3 hK hS hL hH
      simp [results, Tryz.results27, go_sem, r0, r1, hlt3]
  case stop =>
    rintro D c pre W hD _ h _
    exact h.elim
end Go.Proofs.YtmhfnnpbnocafaaGreat
