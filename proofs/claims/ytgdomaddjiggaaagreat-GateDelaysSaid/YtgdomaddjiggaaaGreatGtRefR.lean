/- The reference: Run. -/
import Derived.Test.YtgdomaddjiggaaaGreatGtRefP
import Derived.Test.YtgdomaddjiggaaaGreatGtRun
namespace Go.Proofs.YtgdomaddjiggaaaGreat
open Go.RowKit
set_option linter.unusedSimpArgs false
set_option linter.unusedVariables false

theorem valid_order {g : Ga} {s : Gs} {t : Gt} (h : stateB g s = true) : validR g s t = (orderFt t).e := by
  unfold validR orderFt
  rw [if_pos h]
  cases betw t.order 0 2 <;> cases levels2B t.outer t.inner <;> rfl
theorem state_true {g : Ga} {s : Gs} (hs : s.Ok g) : stateB g s = true := by simp [stateB, betw, hs.p0, hs.p1, hs.c0, hs.c1]
theorem run_e1 {g : Ga} {s : Gs} {n : Nat} {ts : List Gt} (h : (gateF g).e ≠ 0) : (runFt g s n ts).e = (gateF g).e := by
  unfold runFt runFL
  rw [firstF_at _ 0 (gateF g) rfl h fun j f hj => by omega]
theorem run_e2 {g : Ga} {s : Gs} {n : Nat} {ts : List Gt} (h : (gateF g).e = 0) (hn : ¬ n ≤ 2000) : (runFt g s n ts).e = 3 := by
  have hd : decide ((n : Int) ≤ 2000) = false := by rw [decide_eq_false_iff_not]; omega
  unfold runFt runFL
  simp only [firstF, h, hd, if_true]
  rfl
theorem run_e3 {g : Ga} {s : Gs} {n : Nat} {ts : List Gt} (h : (gateF g).e = 0) (hn : n ≤ 2000) (hs : stateB g s = false) : (runFt g s n ts).e = 7 := by
  have hd : decide ((n : Int) ≤ 2000) = true := by rw [decide_eq_true_eq]; omega
  unfold runFt runFL stateFt
  simp only [firstF, h, hd, hs, if_true, need]
  simp
theorem run_e4 {g : Ga} {s : Gs} {n : Nat} {ts : List Gt} (h : (gateF g).e = 0) (hn : n ≤ 2000) (hs : stateB g s = true) : (runFt g s n ts).e = (eachF (fun i => orderFt (tAt ts i)) 0 n).e := by
  have hd : decide ((n : Int) ≤ 2000) = true := by rw [decide_eq_true_eq]; omega
  unfold runFt runFL stateFt
  simp only [firstF, h, hd, hs, if_true, need]
  split
  · rename_i h0; rw [h0]
  · rfl
theorem run_e5 {g : Ga} {s : Gs} {n : Nat} {ts : List Gt} (h : (gateF g).e = 0) (hn : n ≤ 2000) (hs : stateB g s = true) {k : Nat} (hk : k < n) (hp : ∀ j, j < k → (orderFt (tAt ts j)).e = 0) (hb : (orderFt (tAt ts k)).e ≠ 0) : (runFt g s n ts).e = (orderFt (tAt ts k)).e := by
  rw [run_e4 h hn hs, each_at _ n k hk hp hb]
theorem run_e6 {g : Ga} {s : Gs} {n : Nat} {ts : List Gt} (h : (gateF g).e = 0) (hn : n ≤ 2000) (hs : stateB g s = true) (hp : ∀ j, j < n → (orderFt (tAt ts j)).e = 0) : (runFt g s n ts).e = 0 := by
  rw [run_e4 h hn hs, each_none _ n hp]

/-- What a round reads besides the state. -/
structure RnR (W : World) (gb : Nat) (g : Ga) (tb tp : Nat) (t : Gt) : Prop where
  g : Blk W gb 33 (grow g)
  d0 : W.cell? ⟨tb, tp, none⟩ = some (.int .i64 t.order)
  d1 : W.cell? ⟨tb, tp + 1, none⟩ = some (.bool t.power)
  d2 : W.cell? ⟨tb, tp + 2, none⟩ = some (.int .i64 t.outer)
  d3 : W.cell? ⟨tb, tp + 3, none⟩ = some (.int .i64 t.inner)
section
variable {W W' : World} {gb tb tp : Nat} {t : Gt} {g : Ga}
theorem RnR.below (h : RnR W gb g tb tp t) (hb : Below W.heap.size W W') : RnR W' gb g tb tp t := by
  have k : ∀ (q : Addr) (v : Value), W.cell? q = some v → W'.cell? q = some v := fun q v hq => (hb.cell (World.block_lt_of_cell? W q hq)).trans hq
  exact ⟨h.g.thru hb h.g.lt, k _ _ h.d0, k _ _ h.d1, k _ _ h.d2, k _ _ h.d3⟩
theorem RnR.drew (h : RnR W gb g tb tp t) : RnR W.drew gb g tb tp t := ⟨h.g, h.d0, h.d1, h.d2, h.d3⟩
theorem RnR.sets (h : RnR W gb g tb tp t) {d : Nat} (h1 : gb ≠ d) (h2 : tb ≠ d) (vs : List Value) (o : Nat) : RnR (W.setCells d o vs) gb g tb tp t := by
  have k : ∀ (q : Addr) (v : Value), q.block ≠ d → W.cell? q = some v → (W.setCells d o vs).cell? q = some v := fun q v hq h => (World.cell?_setCells_out d vs o W q (fun hb _ => absurd hb hq)).trans h
  exact ⟨h.g.fars h1 _ _, k _ _ h2 h.d0, k _ _ h2 h.d1, k _ _ h2 h.d2, k _ _ h2 h.d3⟩
end

/-- What a round reads. -/
structure RnS (W : World) (gb : Nat) (g : Ga) (sb : Nat) (s : Gs) (tb tp : Nat) (t : Gt) : Prop where
  r : RnR W gb g tb tp t
  s : Blk W sb 42 #[.int .i64 s.pos, .int .i64 s.charge, .bool s.bolted]
section
variable {W W' : World} {gb sb tb tp : Nat} {t : Gt} {g : Ga} {s : Gs}
theorem RnS.below (h : RnS W gb g sb s tb tp t) (hb : Below W.heap.size W W') : RnS W' gb g sb s tb tp t := ⟨h.r.below hb, h.s.thru hb h.s.lt⟩
theorem RnS.drew (h : RnS W gb g sb s tb tp t) : RnS W.drew gb g sb s tb tp t := ⟨h.r.drew, h.s⟩
theorem RnS.sets (h : RnS W gb g sb s tb tp t) {d : Nat} (h1 : gb ≠ d) (h2 : tb ≠ d) (h3 : sb ≠ d) (vs : List Value) (o : Nat) : RnS (W.setCells d o vs) gb g sb s tb tp t := ⟨h.r.sets h1 h2 vs o, h.s.fars h3 _ _⟩
end

theorem owns_sets {w : World} {base b : Nat} {e : TypeId} {size n : Nat} {v : Value} {xs : List Value} (h : w.ownsRow base e size v n xs) (hb : b < base) (vs : List Value) (o : Nat) : (w.setCells b o vs).ownsRow base e size v n xs := by
  refine ⟨h.1, ?_⟩
  rcases h.2 with h1 | ⟨g, cap, cur, h1, h2, h3, h4⟩
  · exact .inl h1
  · exact .inr ⟨g, cap, cur, h1, h2, Blk.fars (show Blk w g e cur from h3) (by omega) vs o, h4⟩
theorem owns_drew {w : World} {base : Nat} {e : TypeId} {size n : Nat} {v : Value} {xs : List Value} (h : w.ownsRow base e size v n xs) : w.drew.ownsRow base e size v n xs := h
def RunPost (g : Ga) (s : Gs) (n : Nat) (ts : List Gt) (w : World) (e : Ending) (w' : World) : Prop :=
  ((runFt g s n ts).e = 0 → ∃ RA rc, e = .returned (.tuple #[.slice RA n rc, .int .i64 0]) ∧ Tab w' w'.heap.size RA n 3 ((runL g s ts).map Gs.cells) ∧ n ≤ rc ∧ Below w.heap.size w w') ∧
  ((runFt g s n ts).e ≠ 0 → e = .returned (.tuple #[.slice none 0 0, .int .i64 (runFt g s n ts).e]) ∧ Below w.heap.size w w')

set_option maxRecDepth 100000 in
set_option maxHeartbeats 16000000 in
theorem rRun_any (g : Ga) (s : Gs) (ts : List Gt) (A : Option Addr) (n c : Nat) (w : World) (hg : g.At w w.heap.size) (ht : Tab w w.heap.size A n 4 (ts.map Gt.cells)) (hn : n ≤ maxLen) :
    Calls Tryz.prog 32 #[g.v, s.v, .slice A n c] w fun e w' => RunPost g s n ts w e w' := by
  have hl : ts.length = n := by have := ht.1; simpa using this
  unfold maxLen at hn
  have Hg := Lib.hid hg
  have Ht := Lib.hid ht
  have Hl := Lib.hid hl
  have HC := Lib.hid (fun W h => rCheck_any g W h)
  have HS := Lib.hid (fun W => rstate_any g s W)
  obtain ⟨fp, fa, ge, hfl⟩ : ∃ fp fa ge, gateF g = ⟨fp, fa, ge⟩ := ⟨_, _, _, rfl⟩
  have hge : (gateF g).e = ge := by rw [hfl]
  rw [hfl] at HC
  have HC := Lib.hid (show ∀ W, g.At W W.heap.size → Calls Tryz.prog 23 #[g.v] W fun e w' => e = .returned (.tuple #[.int .i64 fp, .int .i64 fa, .int .i64 ge]) ∧ Below W.heap.size W w' from HC.out)
  obtain ⟨i0, hi, hz0, hz1, hz2⟩ := info_parts infoState
  have HI := Lib.hid (And.intro hi (And.intro hz0 (And.intro hz1 hz2)))
  -- what holds at the loop's head
  obtain ⟨Rel, hRel⟩ : ∃ Rel : Int → Nat → Gs → Value → World → Prop, Rel = fun ee k u v wr => (ee = 0 ∧ (gateF g).e = 0 ∧ n ≤ 2000 ∧ g.Ok ∧ s.Ok g ∧ u = endF g s (ts.take k) ∧ (∀ j, j < k → (orderFt (tAt ts j)).e = 0) ∧ wr.ownsRow (w.heap.size + 1 + 1) 42 3 v k (gsCells (runL g s (ts.take k)))) ∨ (ee ≠ 0 ∧ (runFt g s n ts).e = ee) := ⟨_, rfl⟩
  have start : (ge ≠ 0 ∧ (runFt g s n ts).e = ge) ∨ (ge = 0 ∧ ¬ n ≤ 2000 ∧ (runFt g s n ts).e = 3) ∨ (ge = 0 ∧ n ≤ 2000 ∧ stateR g s = 7 ∧ (runFt g s n ts).e = 7) ∨ (ge = 0 ∧ n ≤ 2000 ∧ stateR g s = 0 ∧ g.Ok ∧ s.Ok g) := by
    by_cases h0 : ge = 0
    · by_cases hn2 : n ≤ 2000
      · cases hsb : stateB g s
        · exact .inr (.inr (.inl ⟨h0, hn2, by unfold stateR; rw [hsb]; rfl, run_e3 (hge.trans h0) hn2 hsb⟩))
        · refine .inr (.inr (.inr ⟨h0, hn2, by unfold stateR; rw [hsb]; rfl, state_ok hg (s := s) ?_⟩))
          unfold stateFt
          simp only [firstF, hge.trans h0, hsb, if_true, need]
      · exact .inr (.inl ⟨h0, hn2, run_e2 (hge.trans h0) hn2⟩)
    · exact .inl ⟨h0, by rw [run_e1 (by rw [hge]; exact h0)]; exact hge⟩
  have Hge := Lib.hid hge
  have HRel := Lib.hid hRel
  clear hfl hge hg ht hl hi hz0 hz1 hz2 hRel
  rcases start with ⟨h0, hE⟩ | ⟨h0, hn2, hE⟩ | ⟨h0, hn2, hsr, hE⟩ | ⟨h0, hn2, hsr, hgo, hso⟩
  case' inl =>
    have hst : Hid (∀ wr, Rel ge 0 s (.slice none 0 0) wr) := fun wr => by rw [HRel.out]; exact .inr ⟨h0, hE⟩
    have q0 : (ge == 0) = false := by rw [beq_eq_false_iff_ne]; exact h0
    clear h0 hE
    go_enter Tryz.func32, Tryz.ntmps32
    go_wp2_with (with_reducible refine wpl_g (g := g) ((Blk.new w _ _).alloc _) rfl rfl rfl ?_)
    refine (HC.out _ (Hg.out.grow (by repeat (first | exact Below.refl _ _ | assumption | (refine Below.setCell ?_ (by first | omega | (simp; done) | (simp; omega)) _) | (refine Below.alloc ?_ (by first | omega | (simp; done) | (simp; omega)) _) | refine Below.drew ?_ | (refine below_thru ?_ (by assumption) (by first | omega | (simp; done) | (simp; omega))) | refine below_drewN ?_ _)))).mono ?_
    rintro e ws ⟨rfl, hb1⟩
    have hGs : Blk ws w.heap.size 33 (grow g) := Blk.thru (by (repeat (first | assumption | exact Blk.new _ _ _ | (refine Blk.new' _ _ _ ?_; (simp; done)) | refine Blk.drew ?_ | refine Blk.alloc ?_ _ | (refine Blk.fars ?_ ?_ _ _; rotate_left; (dsimp only; omega)) | (refine Blk.far ?_ ?_ _; rotate_left; (first | (dsimp only; omega) | (simp; done) | (simp; omega) | omega))))) hb1 (by simp <;> omega)
    have hSs : Blk ws (w.heap.size + 1) 42 #[.int .i64 s.pos, .int .i64 s.charge, .bool s.bolted] := Blk.thru (by (repeat (first | assumption | exact Blk.new _ _ _ | (refine Blk.new' _ _ _ ?_; (simp; done)) | refine Blk.drew ?_ | refine Blk.alloc ?_ _ | (refine Blk.fars ?_ ?_ _ _; rotate_left; (dsimp only; omega)) | (refine Blk.far ?_ ?_ _; rotate_left; (first | (dsimp only; omega) | (simp; done) | (simp; omega) | omega))))) hb1 (by simp <;> omega)
    have hws : Below w.heap.size w ws := (by repeat (first | exact Below.refl _ _ | assumption | (refine Below.setCell ?_ (by first | omega | (simp; done) | (simp; omega)) _) | (refine Below.alloc ?_ (by first | omega | (simp; done) | (simp; omega)) _) | refine Below.drew ?_ | (refine below_thru ?_ (by assumption) (by first | omega | (simp; done) | (simp; omega))) | refine below_drewN ?_ _))
    have hst := Lib.hid (hst.out ws)
    have HGs := Lib.hid hGs
    have HSs := Lib.hid hSs
    clear hb1 hGs hSs
    go_wp2
  case' inr.inl =>
    subst h0
    have hst : Hid (∀ wr, Rel 3 0 s (.slice none 0 0) wr) := fun wr => by rw [HRel.out]; exact .inr ⟨by omega, hE⟩
    have q1 : (2000 : Int) < (n : Int) := by omega
    clear hn2 hE
    go_enter Tryz.func32, Tryz.ntmps32
    go_wp2_with (with_reducible refine wpl_g (g := g) ((Blk.new w _ _).alloc _) rfl rfl rfl ?_)
    refine (HC.out _ (Hg.out.grow (by repeat (first | exact Below.refl _ _ | assumption | (refine Below.setCell ?_ (by first | omega | (simp; done) | (simp; omega)) _) | (refine Below.alloc ?_ (by first | omega | (simp; done) | (simp; omega)) _) | refine Below.drew ?_ | (refine below_thru ?_ (by assumption) (by first | omega | (simp; done) | (simp; omega))) | refine below_drewN ?_ _)))).mono ?_
    rintro e ws ⟨rfl, hb1⟩
    have hGs : Blk ws w.heap.size 33 (grow g) := Blk.thru (by (repeat (first | assumption | exact Blk.new _ _ _ | (refine Blk.new' _ _ _ ?_; (simp; done)) | refine Blk.drew ?_ | refine Blk.alloc ?_ _ | (refine Blk.fars ?_ ?_ _ _; rotate_left; (dsimp only; omega)) | (refine Blk.far ?_ ?_ _; rotate_left; (first | (dsimp only; omega) | (simp; done) | (simp; omega) | omega))))) hb1 (by simp <;> omega)
    have hSs : Blk ws (w.heap.size + 1) 42 #[.int .i64 s.pos, .int .i64 s.charge, .bool s.bolted] := Blk.thru (by (repeat (first | assumption | exact Blk.new _ _ _ | (refine Blk.new' _ _ _ ?_; (simp; done)) | refine Blk.drew ?_ | refine Blk.alloc ?_ _ | (refine Blk.fars ?_ ?_ _ _; rotate_left; (dsimp only; omega)) | (refine Blk.far ?_ ?_ _; rotate_left; (first | (dsimp only; omega) | (simp; done) | (simp; omega) | omega))))) hb1 (by simp <;> omega)
    have hws : Below w.heap.size w ws := (by repeat (first | exact Below.refl _ _ | assumption | (refine Below.setCell ?_ (by first | omega | (simp; done) | (simp; omega)) _) | (refine Below.alloc ?_ (by first | omega | (simp; done) | (simp; omega)) _) | refine Below.drew ?_ | (refine below_thru ?_ (by assumption) (by first | omega | (simp; done) | (simp; omega))) | refine below_drewN ?_ _))
    have hst := Lib.hid (hst.out ws)
    have HGs := Lib.hid hGs
    have HSs := Lib.hid hSs
    clear hb1 hGs hSs
    go_wp2
  case' inr.inr.inl =>
    subst h0
    have hst : Hid (∀ wr, Rel 7 0 s (.slice none 0 0) wr) := fun wr => by rw [HRel.out]; exact .inr ⟨by omega, hE⟩
    have q1 : (n : Int) ≤ 2000 := by omega
    rw [hsr] at HS
    clear hn2 hE hsr
    go_enter Tryz.func32, Tryz.ntmps32
    go_wp2_with (with_reducible refine wpl_g (g := g) ((Blk.new w _ _).alloc _) rfl rfl rfl ?_)
    refine (HC.out _ (Hg.out.grow (by repeat (first | exact Below.refl _ _ | assumption | (refine Below.setCell ?_ (by first | omega | (simp; done) | (simp; omega)) _) | (refine Below.alloc ?_ (by first | omega | (simp; done) | (simp; omega)) _) | refine Below.drew ?_ | (refine below_thru ?_ (by assumption) (by first | omega | (simp; done) | (simp; omega))) | refine below_drewN ?_ _)))).mono ?_
    rintro e w1 ⟨rfl, hb1⟩
    have hGs : Blk w1 w.heap.size 33 (grow g) := Blk.thru (by (repeat (first | assumption | exact Blk.new _ _ _ | (refine Blk.new' _ _ _ ?_; (simp; done)) | refine Blk.drew ?_ | refine Blk.alloc ?_ _ | (refine Blk.fars ?_ ?_ _ _; rotate_left; (dsimp only; omega)) | (refine Blk.far ?_ ?_ _; rotate_left; (first | (dsimp only; omega) | (simp; done) | (simp; omega) | omega))))) hb1 (by simp <;> omega)
    have hSs : Blk w1 (w.heap.size + 1) 42 #[.int .i64 s.pos, .int .i64 s.charge, .bool s.bolted] := Blk.thru (by (repeat (first | assumption | exact Blk.new _ _ _ | (refine Blk.new' _ _ _ ?_; (simp; done)) | refine Blk.drew ?_ | refine Blk.alloc ?_ _ | (refine Blk.fars ?_ ?_ _ _; rotate_left; (dsimp only; omega)) | (refine Blk.far ?_ ?_ _; rotate_left; (first | (dsimp only; omega) | (simp; done) | (simp; omega) | omega))))) hb1 (by simp <;> omega)
    have hws : Below w.heap.size w w1 := (by repeat (first | exact Below.refl _ _ | assumption | (refine Below.setCell ?_ (by first | omega | (simp; done) | (simp; omega)) _) | (refine Below.alloc ?_ (by first | omega | (simp; done) | (simp; omega)) _) | refine Below.drew ?_ | (refine below_thru ?_ (by assumption) (by first | omega | (simp; done) | (simp; omega))) | refine below_drewN ?_ _))
    obtain ⟨s0, s1, s2, _⟩ := hSs.three
    have hsl := hSs.lt
    have HG1 := Lib.hid hGs
    clear hb1 hGs
    go_wp2_with (with_reducible refine wpl_g (g := g) (b := w.heap.size) (t := 33) HG1.out rfl rfl rfl ?_)
    refine (HS.out _).mono ?_
    rintro e ws ⟨rfl, hb2⟩
    have hGs := HG1.out.thru hb2 HG1.out.lt
    have hSs := hSs.thru hb2 hSs.lt
    have hws : Below w.heap.size w ws := hws.trans (hb2.mono hws.size)
    have hst := Lib.hid (hst.out ws)
    have HGs := Lib.hid hGs
    have HSs := Lib.hid hSs
    clear hb2 s0 s1 s2 hGs hSs
    go_wp2
  case' inr.inr.inr =>
    subst h0
    have hst : Hid (∀ wr, Rel 0 0 s (.slice none 0 0) wr) := fun wr => by rw [HRel.out]; exact .inl ⟨rfl, Hge.out, hn2, hgo, hso, rfl, fun j hj => by omega, rfl, .inl ⟨rfl, rfl⟩⟩
    have q1 : (n : Int) ≤ 2000 := by omega
    rw [hsr] at HS
    clear hn2 hsr hgo hso
    go_enter Tryz.func32, Tryz.ntmps32
    go_wp2_with (with_reducible refine wpl_g (g := g) ((Blk.new w _ _).alloc _) rfl rfl rfl ?_)
    refine (HC.out _ (Hg.out.grow (by repeat (first | exact Below.refl _ _ | assumption | (refine Below.setCell ?_ (by first | omega | (simp; done) | (simp; omega)) _) | (refine Below.alloc ?_ (by first | omega | (simp; done) | (simp; omega)) _) | refine Below.drew ?_ | (refine below_thru ?_ (by assumption) (by first | omega | (simp; done) | (simp; omega))) | refine below_drewN ?_ _)))).mono ?_
    rintro e w1 ⟨rfl, hb1⟩
    have hGs : Blk w1 w.heap.size 33 (grow g) := Blk.thru (by (repeat (first | assumption | exact Blk.new _ _ _ | (refine Blk.new' _ _ _ ?_; (simp; done)) | refine Blk.drew ?_ | refine Blk.alloc ?_ _ | (refine Blk.fars ?_ ?_ _ _; rotate_left; (dsimp only; omega)) | (refine Blk.far ?_ ?_ _; rotate_left; (first | (dsimp only; omega) | (simp; done) | (simp; omega) | omega))))) hb1 (by simp <;> omega)
    have hSs : Blk w1 (w.heap.size + 1) 42 #[.int .i64 s.pos, .int .i64 s.charge, .bool s.bolted] := Blk.thru (by (repeat (first | assumption | exact Blk.new _ _ _ | (refine Blk.new' _ _ _ ?_; (simp; done)) | refine Blk.drew ?_ | refine Blk.alloc ?_ _ | (refine Blk.fars ?_ ?_ _ _; rotate_left; (dsimp only; omega)) | (refine Blk.far ?_ ?_ _; rotate_left; (first | (dsimp only; omega) | (simp; done) | (simp; omega) | omega))))) hb1 (by simp <;> omega)
    have hws : Below w.heap.size w w1 := (by repeat (first | exact Below.refl _ _ | assumption | (refine Below.setCell ?_ (by first | omega | (simp; done) | (simp; omega)) _) | (refine Below.alloc ?_ (by first | omega | (simp; done) | (simp; omega)) _) | refine Below.drew ?_ | (refine below_thru ?_ (by assumption) (by first | omega | (simp; done) | (simp; omega))) | refine below_drewN ?_ _))
    obtain ⟨s0, s1, s2, _⟩ := hSs.three
    have hsl := hSs.lt
    have HG1 := Lib.hid hGs
    clear hb1 hGs
    go_wp2_with (with_reducible refine wpl_g (g := g) (b := w.heap.size) (t := 33) HG1.out rfl rfl rfl ?_)
    refine (HS.out _).mono ?_
    rintro e ws ⟨rfl, hb2⟩
    have hGs := HG1.out.thru hb2 HG1.out.lt
    have hSs := hSs.thru hb2 hSs.lt
    have hws : Below w.heap.size w ws := hws.trans (hb2.mono hws.size)
    have hst := Lib.hid (hst.out ws)
    have HGs := Lib.hid hGs
    have HSs := Lib.hid hSs
    clear hb2 s0 s1 s2 hGs hSs
    go_wp2
  all_goals
    go_loopw [10, 11, 12] (fun e v i wr => ∃ (k : Nat) (u : Gs) (ee : Int) (OA : Option Addr) (on oc : Nat), k ≤ n ∧ i = .int .i64 k ∧ e = .int .i64 ee ∧ v = .slice OA on oc ∧ Hid (Rel ee k u (.slice OA on oc) wr) ∧ Hid (Blk wr w.heap.size 33 (grow g)) ∧ Hid (Blk wr (w.heap.size + 1) 42 #[.int .i64 u.pos, .int .i64 u.charge, .bool u.bolted]) ∧ Below w.heap.size w wr)
      (fun e v i _ => n - (intOf i).toNat)
    case atStart => exact ⟨0, s, _, none, 0, 0, Nat.zero_le _, rfl, rfl, rfl, hst.out, HGs.out, HSs.out, hws⟩
    case round =>
      obtain ⟨k, u, ee, OA, on, oc, hk, rfl, rfl, rfl, hR, hG, hS, hbr⟩ := hrel
      clear hst HGs HSs
      have hzs := hS.out.lt
      have hzg := hG.out.lt
      by_cases hee : ee = 0
      · subst hee
        have hR' := hR.out
        rw [HRel.out] at hR'
        obtain ⟨_, hge0, hn2, hgo, hso, hu, hp, hown⟩ := hR'.resolve_right (fun h => h.1 rfl)
        clear hR' hR
        by_cases hlt : k < n
        · obtain ⟨t, htk⟩ := get_lt Hl.out hlt
          obtain ⟨tb, off, hA, htb, d0, d1, d2, d3⟩ := Ht.out.four (k := k) (x := .int .i64 t.order) (y := .bool t.power) (z := .int .i64 t.outer) (u := .int .i64 t.inner) (by simp [htk])
          have huo : u.Ok g := by rw [hu]; exact endF_ok hgo s _ hso
          have hvo := valid_order (t := t) (state_true huo)
          have HV := Lib.hid (fun W => rvalid_any g u t W)
          rw [hvo] at HV
          have hRn : RnR wr w.heap.size g tb (off + k * 4) t := ⟨hG.out, (hbr.cell (p := ⟨tb, off + k * 4, none⟩) htb).trans d0, (hbr.cell (p := ⟨tb, off + k * 4 + 1, none⟩) htb).trans d1, (hbr.cell (p := ⟨tb, off + k * 4 + 2, none⟩) htb).trans d2, (hbr.cell (p := ⟨tb, off + k * 4 + 3, none⟩) htb).trans d3⟩
          have HSd : Hid (Blk wr.drew (w.heap.size + 1) 42 #[.int .i64 u.pos, .int .i64 u.charge, .bool u.bolted]) := hS.out
          have HRd := Lib.hid hRn.drew
          have Hown := Lib.hid hown
          have Hst := Lib.hid (And.intro hge0 (And.intro hn2 (And.intro hgo (And.intro hso (And.intro hu (And.intro hp htk))))))
          have Huo := Lib.hid huo
          have j0 : (0 : Int) ≤ (k : Int) := Int.natCast_nonneg _
          have j1 : (k : Int) < (n : Int) := by omega
          have htb' : tb < wr.heap.size := by have := hbr.size; omega
          subst hA
          clear d0 d1 d2 d3 hvo hge0 hn2 hgo hso hu hp htk hown huo hRn hS hG
          by_cases hv : (orderFt t).e = 0
          · rw [hv] at HV
            have HSt := Lib.hid (fun r W h => rstepped_any g u t r W h Hst.out.2.2.1 Huo.out (order_ok hv))
            have HBo := Lib.hid (fun W => rbolted_any u t W)
            have HSt : Hid (∀ (r : Int) (W : World), g.At W W.heap.size → Calls Tryz.prog 74 #[g.v, .agg #[.int .i64 u.pos, .int .i64 u.charge, .bool u.bolted], .agg #[.int .i64 t.order, .bool t.power, .int .i64 t.outer, .int .i64 t.inner], .int .i64 r] W fun e w' => e = .returned (.tuple #[.agg #[.int .i64 (afterF g u t r).pos, .int .i64 (afterF g u t r).charge, .bool (afterF g u t r).bolted], .agg #[.int .i64 (cameF g u t r).refused, .int .i64 (cameF g u t r).moved, .int .i64 (cameF g u t r).oil]]) ∧ Below W.heap.size W w') := HSt.out
            have HSt := Lib.hid (HSt.out (lockF u t))
            have Hnx : Hid (afterF g u t (lockF u t) = lone g u t) := rfl
            generalize afterF g u t (lockF u t) = af at *
            generalize cameF g u t (lockF u t) = cm at *
            generalize lockF u t = lk at *
            have Hv := Lib.hid hv
            clear hv
            go_wp2_with fail
            refine wp_region_held (S := fun W' => RnR W' w.heap.size g tb (off + k * 4) t ∧ Blk W' (w.heap.size + 1) 42 #[.int .i64 u.pos, .int .i64 u.charge, .bool u.bolted]) (by kernel_rfl) (by exact ⟨HRd.out, HSd.out⟩) (fun hHeld => ?_)
            refine wpAnyH_take (i := 0) (v := g.v) rfl (by kernel_rfl) (by kernel_rfl) (by kernel_rfl) (fun _ _ _ h => h) (Or.inl ⟨by rfl, fun w hSw => ld_g rfl rfl hSw.1.g⟩) hHeld ?_
            (try simp only [Act.put, List.setIfInBounds_toArray, List.set_cons_zero, List.set_cons_succ])
            refine wpAnyH_take (i := 1) (v := ?_) rfl (by kernel_rfl) (by kernel_rfl) (by kernel_rfl) (fun _ _ _ h => h) (Or.inl ⟨by kernel_rfl, ?_⟩) hHeld ?_
            rotate_left
            · intro w hSw; (try dsimp only at hSw); obtain ⟨_, d0, d1, d2, d3⟩ := hSw.1; obtain ⟨s0, s1, s2, _⟩ := hSw.2.three; go_simp; (try with_reducible rfl)
            (try simp only [Act.put, List.setIfInBounds_toArray, List.set_cons_zero, List.set_cons_succ])
            refine wpAnyH_take (i := 2) (v := ?_) rfl (by kernel_rfl) (by kernel_rfl) (by kernel_rfl) (fun _ _ _ h => h) (Or.inl ⟨by kernel_rfl, ?_⟩) hHeld ?_
            rotate_left
            · intro w hSw; (try dsimp only at hSw); obtain ⟨_, d0, d1, d2, d3⟩ := hSw.1; obtain ⟨s0, s1, s2, _⟩ := hSw.2.three; go_simp; (try with_reducible rfl)
            (try simp only [Act.put, List.setIfInBounds_toArray, List.set_cons_zero, List.set_cons_succ])
            refine wpAnyH_take (i := 3) (v := ?_) rfl (by kernel_rfl) (by kernel_rfl) (by kernel_rfl) (fun _ _ _ h => h) (Or.inl ⟨by kernel_rfl, ?_⟩) hHeld ?_
            rotate_left
            · intro w hSw; (try dsimp only at hSw); obtain ⟨_, d0, d1, d2, d3⟩ := hSw.1; obtain ⟨s0, s1, s2, _⟩ := hSw.2.three; go_simp; (try with_reducible rfl)
            (try simp only [Act.put, List.setIfInBounds_toArray, List.set_cons_zero, List.set_cons_succ])
            refine wpAnyH_take (i := 4) (v := ?_) rfl (by kernel_rfl) (by kernel_rfl) (by kernel_rfl) (fun _ _ _ h => h) (Or.inl ⟨by kernel_rfl, ?_⟩) hHeld ?_
            rotate_left
            · intro w hSw; (try dsimp only at hSw); obtain ⟨_, d0, d1, d2, d3⟩ := hSw.1; obtain ⟨s0, s1, s2, _⟩ := hSw.2.three; go_simp; (try with_reducible rfl)
            (try simp only [Act.put, List.setIfInBounds_toArray, List.set_cons_zero, List.set_cons_succ])
            refine wpAnyH_take (i := 5) (v := ?_) rfl (by kernel_rfl) (by kernel_rfl) (by kernel_rfl) (fun _ _ _ h => h) (Or.inl ⟨by kernel_rfl, ?_⟩) hHeld ?_
            rotate_left
            · intro w hSw; (try dsimp only at hSw); obtain ⟨_, d0, d1, d2, d3⟩ := hSw.1; obtain ⟨s0, s1, s2, _⟩ := hSw.2.three; go_simp; (try with_reducible rfl)
            (try simp only [Act.put, List.setIfInBounds_toArray, List.set_cons_zero, List.set_cons_succ])
            refine wpAnyH_ready (rs := [6]) (by kernel_rfl) (by simp) ?_
            refine AllReadyH.cons rfl (fun K hK => ?_) AllReadyH.nil
            go_simp
            refine (HV.out _).mono ?_
            rintro e w3 ⟨rfl, hb3⟩; have hz3 := hb3.size; (try simp at hz3)
            (try dsimp only)
            refine hK.out _ _ (by exact ⟨hHeld.1.below hb3, hHeld.2.thru hb3 hHeld.2.lt⟩) (fun hHeld => ?_)
            clear hK K
            (try simp only [Act.put, List.setIfInBounds_toArray, List.set_cons_zero, List.set_cons_succ])
            refine wpAnyH_take (i := 7) (v := ?_) rfl (by kernel_rfl) (by kernel_rfl) (by kernel_rfl) (fun _ _ _ h => h) (Or.inl ⟨by kernel_rfl, ?_⟩) hHeld ?_
            rotate_left
            · intro w hSw; (try dsimp only at hSw); skip; go_simp; (try with_reducible rfl)
            (try simp only [Act.put, List.setIfInBounds_toArray, List.set_cons_zero, List.set_cons_succ])
            refine wpAnyH_done (by kernel_rfl) ?_ _
            (try simp only [List.getElem_toArray, List.getElem_cons_zero, List.getElem_cons_succ, Act.put, List.setIfInBounds_toArray, List.set_cons_zero, List.set_cons_succ])
            have HR3 := Lib.hid hHeld.1.drew
            have HS3 : Hid (Blk w3.drew (w.heap.size + 1) 42 #[.int .i64 u.pos, .int .i64 u.charge, .bool u.bolted]) := hHeld.2
            have hw3 : Below w.heap.size w w3.drew := ((hbr.drew).trans (hb3.mono (show w.heap.size ≤ wr.heap.size by omega))).drew
            have Hown3 := Lib.hid (owns_below (owns_drew Hown.out) hb3)
            clear hHeld hb3 HRd HSd Hown HV
            go_wp2_with fail
            refine wp_region_held (S := fun W' => RnR W' w.heap.size g tb (off + k * 4) t) (by kernel_rfl) (by exact HR3.out) (fun hHeld => ?_)
            refine wpAnyH_take (i := 0) (v := g.v) rfl (by kernel_rfl) (by kernel_rfl) (by kernel_rfl) (fun _ _ _ h => h) (Or.inl ⟨by rfl, fun w hSw => ld_g rfl rfl hSw.g⟩) hHeld ?_
            (try simp only [Act.put, List.setIfInBounds_toArray, List.set_cons_zero, List.set_cons_succ])
            refine wpAnyH_take (i := 2) (v := ?_) rfl (by kernel_rfl) (by kernel_rfl) (by kernel_rfl) (fun _ _ _ h => h) (Or.inl ⟨by kernel_rfl, ?_⟩) hHeld ?_
            rotate_left
            · intro w hSw; (try dsimp only at hSw); obtain ⟨_, d0, d1, d2, d3⟩ := hSw; go_simp; (try with_reducible rfl)
            (try simp only [Act.put, List.setIfInBounds_toArray, List.set_cons_zero, List.set_cons_succ])
            refine wpAnyH_take (i := 3) (v := ?_) rfl (by kernel_rfl) (by kernel_rfl) (by kernel_rfl) (fun _ _ _ h => h) (Or.inl ⟨by kernel_rfl, ?_⟩) hHeld ?_
            rotate_left
            · intro w hSw; (try dsimp only at hSw); obtain ⟨_, d0, d1, d2, d3⟩ := hSw; go_simp; (try with_reducible rfl)
            (try simp only [Act.put, List.setIfInBounds_toArray, List.set_cons_zero, List.set_cons_succ])
            refine wpAnyH_take (i := 4) (v := ?_) rfl (by kernel_rfl) (by kernel_rfl) (by kernel_rfl) (fun _ _ _ h => h) (Or.inl ⟨by kernel_rfl, ?_⟩) hHeld ?_
            rotate_left
            · intro w hSw; (try dsimp only at hSw); obtain ⟨_, d0, d1, d2, d3⟩ := hSw; go_simp; (try with_reducible rfl)
            (try simp only [Act.put, List.setIfInBounds_toArray, List.set_cons_zero, List.set_cons_succ])
            refine wpAnyH_take (i := 5) (v := ?_) rfl (by kernel_rfl) (by kernel_rfl) (by kernel_rfl) (fun _ _ _ h => h) (Or.inl ⟨by kernel_rfl, ?_⟩) hHeld ?_
            rotate_left
            · intro w hSw; (try dsimp only at hSw); obtain ⟨_, d0, d1, d2, d3⟩ := hSw; go_simp; (try with_reducible rfl)
            (try simp only [Act.put, List.setIfInBounds_toArray, List.set_cons_zero, List.set_cons_succ])
            refine wpAnyH_take (i := 7) (v := ?_) rfl (by kernel_rfl) (by kernel_rfl) (by kernel_rfl) (fun _ _ _ h => h) (Or.inl ⟨by kernel_rfl, ?_⟩) hHeld ?_
            rotate_left
            · intro w hSw; (try dsimp only at hSw); obtain ⟨_, d0, d1, d2, d3⟩ := hSw; go_simp; (try with_reducible rfl)
            (try simp only [Act.put, List.setIfInBounds_toArray, List.set_cons_zero, List.set_cons_succ])
            refine wpAnyH_take (i := 8) (v := ?_) rfl (by kernel_rfl) (by kernel_rfl) (by kernel_rfl) (fun _ _ _ h => h) (Or.inl ⟨by kernel_rfl, ?_⟩) hHeld ?_
            rotate_left
            · intro w hSw; (try dsimp only at hSw); obtain ⟨_, d0, d1, d2, d3⟩ := hSw; go_simp; (try with_reducible rfl)
            (try simp only [Act.put, List.setIfInBounds_toArray, List.set_cons_zero, List.set_cons_succ])
            refine wpAnyH_take (i := 9) (v := ?_) rfl (by kernel_rfl) (by kernel_rfl) (by kernel_rfl) (fun _ _ _ h => h) (Or.inl ⟨by kernel_rfl, ?_⟩) hHeld ?_
            rotate_left
            · intro w hSw; (try dsimp only at hSw); obtain ⟨_, d0, d1, d2, d3⟩ := hSw; go_simp; (try with_reducible rfl)
            (try simp only [Act.put, List.setIfInBounds_toArray, List.set_cons_zero, List.set_cons_succ])
            refine wpAnyH_take (i := 10) (v := ?_) rfl (by kernel_rfl) (by kernel_rfl) (by kernel_rfl) (fun _ _ _ h => h) (Or.inl ⟨by kernel_rfl, ?_⟩) hHeld ?_
            rotate_left
            · intro w hSw; (try dsimp only at hSw); obtain ⟨_, d0, d1, d2, d3⟩ := hSw; go_simp; (try with_reducible rfl)
            (try simp only [Act.put, List.setIfInBounds_toArray, List.set_cons_zero, List.set_cons_succ])
            (try simp only [List.getElem_toArray, List.getElem_cons_zero, List.getElem_cons_succ, Act.put, List.setIfInBounds_toArray, List.set_cons_zero, List.set_cons_succ])
            refine wpAnyH_each [(1, 52, Kind.val (.agg #[.int .i64 u.pos, .int .i64 u.charge, .bool u.bolted])), (6, 57, Kind.val (.agg #[.int .i64 u.pos, .int .i64 u.charge, .bool u.bolted])), (11, 62, Kind.val (.int .i64 lk)), (12, 63, Kind.val (.tuple #[.agg #[.int .i64 af.pos, .int .i64 af.charge, .bool af.bolted], .agg #[.int .i64 cm.refused, .int .i64 cm.moved, .int .i64 cm.oil]])), (13, 50, Kind.val (.tuple #[.agg #[.int .i64 af.pos, .int .i64 af.charge, .bool af.bolted], .agg #[.int .i64 cm.refused, .int .i64 cm.moved, .int .i64 cm.oil]])), (14, 64, Kind.val (.agg #[.int .i64 af.pos, .int .i64 af.charge, .bool af.bolted])), (15, 65, Kind.val (.agg #[.int .i64 cm.refused, .int .i64 cm.moved, .int .i64 cm.oil]))] [13, 14, 15] 1 (by kernel_rfl) (by simp [idxs]) (by simp) (fun _ _ d _ _ h => by cases d <;> exact h) (fun W hW => hHeld.below hW) ?_ ?_
            · refine Eachs.cons ?_ (Eachs.cons ?_ (Eachs.cons ?_ (Eachs.cons ?_ (Eachs.cons ?_ (Eachs.cons ?_ (Eachs.cons ?_ (Eachs.nil)))))))
              · refine each_op [] rfl rfl (by kernel_rfl) (fun p hp => by cases hp) rfl ?_
                intro uF w' hw' hps a ha K hK
                simp only [puts, Act.put, List.setIfInBounds_toArray, List.set_cons_zero, List.set_cons_succ] at ha
                subst ha
                obtain ⟨s0, s1, s2, _⟩ := (HS3.out.thru hw' HS3.out.lt).three; have hsl := (HS3.out.thru hw' HS3.out.lt).lt
                go_simp
                exact hK.out _ (.agg #[.int .i64 u.pos, .int .i64 u.charge, .bool u.bolted]) _ rfl (Below.refl _ _) rfl (fun h => by cases h)
              · refine each_op [] rfl rfl (by kernel_rfl) (fun p hp => by cases hp) rfl ?_
                intro uF w' hw' hps a ha K hK
                simp only [puts, Act.put, List.setIfInBounds_toArray, List.set_cons_zero, List.set_cons_succ] at ha
                subst ha
                obtain ⟨s0, s1, s2, _⟩ := (HS3.out.thru hw' HS3.out.lt).three; have hsl := (HS3.out.thru hw' HS3.out.lt).lt
                go_simp
                exact hK.out _ (.agg #[.int .i64 u.pos, .int .i64 u.charge, .bool u.bolted]) _ rfl (Below.refl _ _) rfl (fun h => by cases h)
              · refine each_op [(6, 57, Kind.val (.agg #[.int .i64 u.pos, .int .i64 u.charge, .bool u.bolted]))] rfl rfl (by kernel_rfl) (fun p hp => by simp only [List.mem_cons, List.not_mem_nil, or_false] at hp; rcases hp with rfl <;> simp only [List.mem_cons, true_or, or_true]) rfl ?_
                intro uF w' hw' hps a ha K hK
                obtain ⟨q6, _⟩ := hps
                have e6 : uF 6 = .agg #[.int .i64 u.pos, .int .i64 u.charge, .bool u.bolted] := q6
                simp only [puts, Act.put, List.setIfInBounds_toArray, List.set_cons_zero, List.set_cons_succ, e6] at ha
                subst ha
                have hz' := hw'.size
                (try simp at hz')
                go_simp
                refine (HBo.out _).mono ?_
                rintro e wq ⟨rfl, hq⟩
                (try dsimp only)
                exact hK.out _ (.int .i64 lk) wq rfl hq rfl (fun h => by cases h)
              · refine each_op [(1, 52, Kind.val (.agg #[.int .i64 u.pos, .int .i64 u.charge, .bool u.bolted])), (11, 62, Kind.val (.int .i64 lk))] rfl rfl (by kernel_rfl) (fun p hp => by simp only [List.mem_cons, List.not_mem_nil, or_false] at hp; rcases hp with rfl | rfl <;> simp only [List.mem_cons, true_or, or_true]) rfl ?_
                intro uF w' hw' hps a ha K hK
                obtain ⟨q1, q11, _⟩ := hps
                have e1 : uF 1 = .agg #[.int .i64 u.pos, .int .i64 u.charge, .bool u.bolted] := q1
                have e11 : uF 11 = .int .i64 lk := q11
                simp only [puts, Act.put, List.setIfInBounds_toArray, List.set_cons_zero, List.set_cons_succ, e1, e11] at ha
                subst ha
                have hz' := hw'.size
                (try simp at hz')
                go_simp
                refine (HSt.out _ (Hg.out.grow (hw3.trans (hw'.mono hw3.size)))).mono ?_
                rintro e wq ⟨rfl, hq⟩
                (try dsimp only)
                exact hK.out _ (.tuple #[.agg #[.int .i64 af.pos, .int .i64 af.charge, .bool af.bolted], .agg #[.int .i64 cm.refused, .int .i64 cm.moved, .int .i64 cm.oil]]) wq rfl hq rfl (fun h => by cases h)
              · refine each_take [(12, 63, Kind.val (.tuple #[.agg #[.int .i64 af.pos, .int .i64 af.charge, .bool af.bolted], .agg #[.int .i64 cm.refused, .int .i64 cm.moved, .int .i64 cm.oil]]))] rfl rfl (by kernel_rfl) (fun p hp => by simp only [List.mem_cons, List.not_mem_nil, or_false] at hp; rcases hp with rfl <;> simp only [List.mem_cons, true_or, or_true]) rfl ?_
                refine ⟨rfl, ?_⟩
                intro uF w' hw' hps a ha
                obtain ⟨q12, _⟩ := hps
                have e12 : uF 12 = .tuple #[.agg #[.int .i64 af.pos, .int .i64 af.charge, .bool af.bolted], .agg #[.int .i64 cm.refused, .int .i64 cm.moved, .int .i64 cm.oil]] := q12
                simp only [puts, Act.put, List.setIfInBounds_toArray, List.set_cons_zero, List.set_cons_succ, e12] at ha
                subst ha
                exact ⟨.tuple #[.agg #[.int .i64 af.pos, .int .i64 af.charge, .bool af.bolted], .agg #[.int .i64 cm.refused, .int .i64 cm.moved, .int .i64 cm.oil]], rfl, Or.inl ⟨by rfl, fun W => by go_simp <;> (try with_reducible rfl)⟩⟩
              · refine each_take [(13, 50, Kind.val (.tuple #[.agg #[.int .i64 af.pos, .int .i64 af.charge, .bool af.bolted], .agg #[.int .i64 cm.refused, .int .i64 cm.moved, .int .i64 cm.oil]]))] rfl rfl (by kernel_rfl) (fun p hp => by simp only [List.mem_cons, List.not_mem_nil, or_false] at hp; rcases hp with rfl <;> simp only [List.mem_cons, true_or, or_true]) rfl ?_
                refine ⟨rfl, ?_⟩
                intro uF w' hw' hps a ha
                obtain ⟨q13, _⟩ := hps
                have e13 : uF 13 = .tuple #[.agg #[.int .i64 af.pos, .int .i64 af.charge, .bool af.bolted], .agg #[.int .i64 cm.refused, .int .i64 cm.moved, .int .i64 cm.oil]] := q13
                simp only [puts, Act.put, List.setIfInBounds_toArray, List.set_cons_zero, List.set_cons_succ, e13] at ha
                subst ha
                exact ⟨.agg #[.int .i64 af.pos, .int .i64 af.charge, .bool af.bolted], rfl, Or.inl ⟨by rfl, fun W => by go_simp <;> (try with_reducible rfl)⟩⟩
              · refine each_take [(13, 50, Kind.val (.tuple #[.agg #[.int .i64 af.pos, .int .i64 af.charge, .bool af.bolted], .agg #[.int .i64 cm.refused, .int .i64 cm.moved, .int .i64 cm.oil]]))] rfl rfl (by kernel_rfl) (fun p hp => by simp only [List.mem_cons, List.not_mem_nil, or_false] at hp; rcases hp with rfl <;> simp only [List.mem_cons, true_or, or_true]) rfl ?_
                refine ⟨rfl, ?_⟩
                intro uF w' hw' hps a ha
                obtain ⟨q13, _⟩ := hps
                have e13 : uF 13 = .tuple #[.agg #[.int .i64 af.pos, .int .i64 af.charge, .bool af.bolted], .agg #[.int .i64 cm.refused, .int .i64 cm.moved, .int .i64 cm.oil]] := q13
                simp only [puts, Act.put, List.setIfInBounds_toArray, List.set_cons_zero, List.set_cons_succ, e13] at ha
                subst ha
                exact ⟨.agg #[.int .i64 cm.refused, .int .i64 cm.moved, .int .i64 cm.oil], rfl, Or.inl ⟨by rfl, fun W => by go_simp <;> (try with_reducible rfl)⟩⟩
            intro uF wz hwz hps hD a ha
            obtain ⟨q1, q6, q11, q12, q13, q14, q15, _⟩ := hps
            have e1 : uF 1 = .agg #[.int .i64 u.pos, .int .i64 u.charge, .bool u.bolted] := q1
            have e6 : uF 6 = .agg #[.int .i64 u.pos, .int .i64 u.charge, .bool u.bolted] := q6
            have e11 : uF 11 = .int .i64 lk := q11
            have e12 : uF 12 = .tuple #[.agg #[.int .i64 af.pos, .int .i64 af.charge, .bool af.bolted], .agg #[.int .i64 cm.refused, .int .i64 cm.moved, .int .i64 cm.oil]] := q12
            have e13 : uF 13 = .tuple #[.agg #[.int .i64 af.pos, .int .i64 af.charge, .bool af.bolted], .agg #[.int .i64 cm.refused, .int .i64 cm.moved, .int .i64 cm.oil]] := q13
            have e14 : uF 14 = .agg #[.int .i64 af.pos, .int .i64 af.charge, .bool af.bolted] := q14
            have e15 : uF 15 = .agg #[.int .i64 cm.refused, .int .i64 cm.moved, .int .i64 cm.oil] := q15
            simp only [puts, Act.put, List.setIfInBounds_toArray, List.set_cons_zero, List.set_cons_succ, e1, e6, e11, e12, e13, e14, e15] at ha
            subst ha
            clear hD q1 q6 q11 q12 q13 q14 q15 e1 e6 e11 e12 e13 e14 e15
            have hSz := HS3.out.thru hwz HS3.out.lt
            have hBz : Below w.heap.size w wz := hw3.trans (hwz.mono hw3.size)
            have hRz := HR3.out.below hwz
            have Hownz := Lib.hid (owns_below (owns_drew Hown3.out) hwz)
            have hzz := hwz.size
            (try simp at hzz)
            clear hHeld hwz HR3 HS3 Hown3 hw3 HSt HBo
            (try simp only [List.getElem_toArray, List.getElem_cons_zero, List.getElem_cons_succ, Act.put, List.setIfInBounds_toArray, List.set_cons_zero, List.set_cons_succ])
            refine wpAnyH_ready (rs := [16]) (by kernel_rfl) (by simp) ?_
            refine AllReadyH.cons rfl (fun K hK => ?_) AllReadyH.nil
            refine wanted_of (by rfl) (wp_store_mid (P := Tryz.prog) 42 _ _ rfl (w.heap.size + 1) 0 #[.int .i64 af.pos, .int .i64 af.charge, .bool af.bolted] rfl rfl (Blk.there hSz (by show 0 + 3 ≤ 3; omega)) (by kernel_rfl) (by simp [Value.oneCell']) ?_)
            refine hK.out _ _ (by exact hRz.sets (by omega) (by omega) _ _) (fun hHeld => ?_)
            clear hK K
            (try simp only [Act.put, List.setIfInBounds_toArray, List.set_cons_zero, List.set_cons_succ])
            refine wpAnyH_done (by kernel_rfl) ?_ _
            (try simp only [List.getElem_toArray, List.getElem_cons_zero, List.getElem_cons_succ, Act.put, List.setIfInBounds_toArray, List.set_cons_zero, List.set_cons_succ])
            have hS5 : Blk (wz.setCells (w.heap.size + 1) 0 (#[.int .i64 af.pos, .int .i64 af.charge, .bool af.bolted] : Array Value).toList) (w.heap.size + 1) 42 #[.int .i64 af.pos, .int .i64 af.charge, .bool af.bolted] := Blk.sets hSz _ _
            have hB5 := below_sets hBz (b := w.heap.size + 1) (by omega) (#[.int .i64 af.pos, .int .i64 af.charge, .bool af.bolted] : Array Value).toList 0
            have hG5 := Lib.hid hHeld.g
            have hz5 : (wz.setCells (w.heap.size + 1) 0 (#[.int .i64 af.pos, .int .i64 af.charge, .bool af.bolted] : Array Value).toList).heap.size = wz.heap.size := size_sets _ _ _
            have Hown5 := Lib.hid (owns_sets Hownz.out (b := w.heap.size + 1) (by omega) (#[.int .i64 af.pos, .int .i64 af.charge, .bool af.bolted] : Array Value).toList 0)
            clear hHeld hSz hBz hRz Hownz
            generalize wz.setCells (w.heap.size + 1) 0 (#[.int .i64 af.pos, .int .i64 af.charge, .bool af.bolted] : Array Value).toList = w5 at *
            have hz5' : wz.heap.size ≤ w5.heap.size := Nat.le_of_eq hz5.symm
            clear hz5
            obtain ⟨s0, s1, s2, _⟩ := hS5.three
            have HS5 := Lib.hid hS5
            have hl5 := hS5.lt
            have n1 : Hid (∀ v ∈ [Value.int .i64 af.pos, .int .i64 af.charge, .bool af.bolted], v.oneCell' = true) := fun v hv => by
              simp only [List.mem_cons, List.not_mem_nil, or_false] at hv
              rcases hv with rfl | rfl | rfl <;> rfl
            have b63 : k + 1 ≤ maxLen := by have := Hst.out.2.1; unfold maxLen; omega
            have b47 : (k + 1) * 24 ≤ 140737488355328 := by have := Hst.out.2.1; omega
            have hlo : Hid (∀ k', (Value.slice OA on oc).ownBlock = some k' → w.heap.size + 1 + 1 ≤ k') := fun k' hk' => (Hown5.out.lt k' hk').1
            have hbs : Hid (∀ o', w.heap.size + 1 + 1 ≤ (w5.alloc o').heap.size) := fun o' => by simp; omega
            clear hS5
            go_wp2_with (at_builtin; refine wpList_append_own _ rfl _ _ 50 rfl (w.heap.size + 1 + 1) 42 i0 (.agg #[.int .i64 0, .int .i64 0, .bool false]) 3 24 undStates HI.out.1 HI.out.2.1 HI.out.2.2.1 HI.out.2.2.2 rfl (by decide) _ _ _ rfl (World.ownsRow.alloc (w := w5) Hown5.out _) ⟨w5.heap.size, 0, none⟩ 1 1 [.int .i64 af.pos, .int .i64 af.charge, .bool af.bolted] rfl rfl (news3 w5 _ _ _ _) n1.out b63 b47 (hbs.out _) ?_; intro v' w6 hown6 hgrow _; have hb6 : Below (w.heap.size + 1 + 1) (w5.alloc (.cells #[.int .i64 af.pos, .int .i64 af.charge, .bool af.bolted] 42)) w6 := grown_below hgrow hlo.out (hbs.out _); have Hown6 := Lib.hid hown6; clear hgrow hown6)
            all_goals
              obtain ⟨A2, n2, c2, rfl⟩ := owns_slice Hown6.out
              have hrel : Hid (Rel 0 (k + 1) af (.slice A2 n2 c2) w6) := by
                unfold Hid
                rw [HRel.out]
                obtain ⟨r0, r1, r2, r3, r4, r5, r6⟩ := Hst.out
                refine .inl ⟨rfl, r0, r1, r2, r3, ?_, fun j hj => ?_, ?_⟩
                · rw [endF_next g s r6, ← r4]; exact Hnx.out
                · rcases Nat.lt_or_ge j k with h | h
                  · exact r5 j h
                  · obtain rfl : j = k := by omega
                    rw [tAt_of r6]; exact Hv.out
                · rw [runL_next g s r6, gsCells_next, ← r4, ← Hnx.out]; exact Hown6.out
              have hG6 := Lib.hid (show Blk w6 w.heap.size 33 (grow g) from (hb6.block _ (by omega)).trans (hG5.out.alloc _))
              have hS6 := Lib.hid (show Blk w6 (w.heap.size + 1) 42 #[.int .i64 af.pos, .int .i64 af.charge, .bool af.bolted] from (hb6.block _ (by omega)).trans (HS5.out.alloc _))
              have hw6 := Lib.hid (show Below w.heap.size w w6 from (hB5.alloc (by omega) _).trans (hb6.mono (by omega)))
              clear Hown6 hb6 s0 s1 s2 Hown5 HS5 hG5 hB5
              go_wp2
              go_roundw
              case rel => exact ⟨k + 1, af, 0, A2, n2, c2, by omega, by go_num, rfl, rfl, hrel.out, hG6.out, hS6.out, hw6.out⟩
              case measure => simp [intOf]; omega
          · have hE : (runFt g s n ts).e = (orderFt t).e := by
              obtain ⟨r0, r1, r2, r3, r4, r5, r6⟩ := Hst.out
              have := run_e5 r0 r1 (state_true r3) hlt r5 (by rw [tAt_of r6]; exact hv)
              rwa [tAt_of r6] at this
            have HE := Lib.hid hE
            have q := (show ((orderFt t).e == 0) = false by rw [beq_eq_false_iff_ne]; exact hv)
            have Hv := Lib.hid hv
            clear hv hE
            generalize (orderFt t).e = vk at *
            go_wp2_with fail
            refine wp_region_held (S := fun W' => RnR W' w.heap.size g tb (off + k * 4) t ∧ Blk W' (w.heap.size + 1) 42 #[.int .i64 u.pos, .int .i64 u.charge, .bool u.bolted]) (by kernel_rfl) (by exact ⟨HRd.out, HSd.out⟩) (fun hHeld => ?_)
            refine wpAnyH_take (i := 0) (v := g.v) rfl (by kernel_rfl) (by kernel_rfl) (by kernel_rfl) (fun _ _ _ h => h) (Or.inl ⟨by rfl, fun w hSw => ld_g rfl rfl hSw.1.g⟩) hHeld ?_
            (try simp only [Act.put, List.setIfInBounds_toArray, List.set_cons_zero, List.set_cons_succ])
            refine wpAnyH_take (i := 1) (v := ?_) rfl (by kernel_rfl) (by kernel_rfl) (by kernel_rfl) (fun _ _ _ h => h) (Or.inl ⟨by kernel_rfl, ?_⟩) hHeld ?_
            rotate_left
            · intro w hSw; (try dsimp only at hSw); obtain ⟨_, d0, d1, d2, d3⟩ := hSw.1; obtain ⟨s0, s1, s2, _⟩ := hSw.2.three; go_simp; (try with_reducible rfl)
            (try simp only [Act.put, List.setIfInBounds_toArray, List.set_cons_zero, List.set_cons_succ])
            refine wpAnyH_take (i := 2) (v := ?_) rfl (by kernel_rfl) (by kernel_rfl) (by kernel_rfl) (fun _ _ _ h => h) (Or.inl ⟨by kernel_rfl, ?_⟩) hHeld ?_
            rotate_left
            · intro w hSw; (try dsimp only at hSw); obtain ⟨_, d0, d1, d2, d3⟩ := hSw.1; obtain ⟨s0, s1, s2, _⟩ := hSw.2.three; go_simp; (try with_reducible rfl)
            (try simp only [Act.put, List.setIfInBounds_toArray, List.set_cons_zero, List.set_cons_succ])
            refine wpAnyH_take (i := 3) (v := ?_) rfl (by kernel_rfl) (by kernel_rfl) (by kernel_rfl) (fun _ _ _ h => h) (Or.inl ⟨by kernel_rfl, ?_⟩) hHeld ?_
            rotate_left
            · intro w hSw; (try dsimp only at hSw); obtain ⟨_, d0, d1, d2, d3⟩ := hSw.1; obtain ⟨s0, s1, s2, _⟩ := hSw.2.three; go_simp; (try with_reducible rfl)
            (try simp only [Act.put, List.setIfInBounds_toArray, List.set_cons_zero, List.set_cons_succ])
            refine wpAnyH_take (i := 4) (v := ?_) rfl (by kernel_rfl) (by kernel_rfl) (by kernel_rfl) (fun _ _ _ h => h) (Or.inl ⟨by kernel_rfl, ?_⟩) hHeld ?_
            rotate_left
            · intro w hSw; (try dsimp only at hSw); obtain ⟨_, d0, d1, d2, d3⟩ := hSw.1; obtain ⟨s0, s1, s2, _⟩ := hSw.2.three; go_simp; (try with_reducible rfl)
            (try simp only [Act.put, List.setIfInBounds_toArray, List.set_cons_zero, List.set_cons_succ])
            refine wpAnyH_take (i := 5) (v := ?_) rfl (by kernel_rfl) (by kernel_rfl) (by kernel_rfl) (fun _ _ _ h => h) (Or.inl ⟨by kernel_rfl, ?_⟩) hHeld ?_
            rotate_left
            · intro w hSw; (try dsimp only at hSw); obtain ⟨_, d0, d1, d2, d3⟩ := hSw.1; obtain ⟨s0, s1, s2, _⟩ := hSw.2.three; go_simp; (try with_reducible rfl)
            (try simp only [Act.put, List.setIfInBounds_toArray, List.set_cons_zero, List.set_cons_succ])
            refine wpAnyH_ready (rs := [6]) (by kernel_rfl) (by simp) ?_
            refine AllReadyH.cons rfl (fun K hK => ?_) AllReadyH.nil
            go_simp
            refine (HV.out _).mono ?_
            rintro e w3 ⟨rfl, hb3⟩; have hz3 := hb3.size; (try simp at hz3)
            (try dsimp only)
            refine hK.out _ _ (by exact ⟨hHeld.1.below hb3, hHeld.2.thru hb3 hHeld.2.lt⟩) (fun hHeld => ?_)
            clear hK K
            (try simp only [Act.put, List.setIfInBounds_toArray, List.set_cons_zero, List.set_cons_succ])
            refine wpAnyH_take (i := 7) (v := ?_) rfl (by kernel_rfl) (by kernel_rfl) (by kernel_rfl) (fun _ _ _ h => h) (Or.inl ⟨by kernel_rfl, ?_⟩) hHeld ?_
            rotate_left
            · intro w hSw; (try dsimp only at hSw); skip; go_simp; (try with_reducible rfl)
            (try simp only [Act.put, List.setIfInBounds_toArray, List.set_cons_zero, List.set_cons_succ])
            refine wpAnyH_done (by kernel_rfl) ?_ _
            (try simp only [List.getElem_toArray, List.getElem_cons_zero, List.getElem_cons_succ, Act.put, List.setIfInBounds_toArray, List.set_cons_zero, List.set_cons_succ])
            have HG3 := Lib.hid hHeld.1.g
            have HS3 := Lib.hid hHeld.2
            have hw3 : Below w.heap.size w w3 := (hbr.drew).trans (hb3.mono (show w.heap.size ≤ wr.heap.size by omega))
            have hrel : Hid (∀ v, Rel vk (k + 1) u v w3) := fun v => by rw [HRel.out]; exact .inr ⟨Hv.out, HE.out⟩
            clear hHeld hb3 HRd HSd Hown HV
            go_wp2
            go_roundw
            case rel => exact ⟨k + 1, u, vk, OA, on, oc, by omega, by go_num, rfl, rfl, hrel.out _, HG3.out, HS3.out, hw3⟩
            case measure => simp [intOf]; omega
        · obtain rfl : k = n := by omega
          have hfin : ts.take k = ts := List.take_of_length_le (by have := Hl.out; omega)
          have hrl := runL_len g s ts
          have hE : (runFt g s k ts).e = 0 := run_e6 hge0 hn2 (state_true hso) hp
          rw [hfin] at hown
          obtain ⟨A', c', hv, htab, hle, _, _⟩ := owns_tabN (rows := (runL g s ts).map Gs.cells) hown (fun r hr => by obtain ⟨q, _, rfl⟩ := List.mem_map.1 hr; rfl) (by omega)
          have Hfin := Lib.hid (show RunPost g s k ts w (.returned (.tuple #[.slice OA on oc, .int .i64 0])) wr from ⟨fun _ => ⟨A', c', by rw [hv], htab, hle, hbr⟩, fun h => absurd hE h⟩)
          clear hown hv htab hle hfin hrl hp hu hE hlt hk hge0 hn2 hgo hso
          go_wp2
          go_ret2
          exact Hfin.out
      · have hR' := hR.out
        rw [HRel.out] at hR'
        obtain ⟨h1, h2⟩ := hR'.resolve_left (fun h => hee h.1)
        have q := (show (ee == 0) = false by rw [beq_eq_false_iff_ne]; exact hee)
        have q2 := (show (ee != 0) = true by rw [bne_iff_ne]; exact hee)
        have Hfin := Lib.hid (show RunPost g s n ts w (.returned (.tuple #[.slice none 0 0, .int .i64 ee])) wr from ⟨fun h => absurd (h2.symm.trans h) hee, fun _ => ⟨by rw [h2], hbr⟩⟩)
        clear hR' hR h1 h2 hee
        by_cases hlt : k < n
        · go_wp2
          go_ret2
          exact Hfin.out
        · go_wp2
          go_ret2
          exact Hfin.out
end Go.Proofs.YtgdomaddjiggaaaGreat
