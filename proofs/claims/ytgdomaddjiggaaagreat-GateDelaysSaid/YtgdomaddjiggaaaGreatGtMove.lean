/- Move: a step of all gates of a set. -/
import Derived.Test.YtgdomaddjiggaaaGreatGtRun
import Derived.Test.YtgdomaddjiggaaaGreatGtSetOf
namespace Go.Proofs.YtgdomaddjiggaaaGreat
open Go.RowKit
set_option linter.unusedSimpArgs false
set_option linter.unusedVariables false

def lensB (sn tn pn n : Nat) : Bool := (((sn : Int) == (n : Int)) && ((tn : Int) == (n : Int))) && ((pn : Int) == (n : Int))
def moveE (l : St) (ss : List Gs) (ts : List Gt) (i : Nat) : Ft := stepFt (gAt l.gs i) (sAt ss i) (tAt ts i)
def moveFL (l : St) (ss : List Gs) (sn : Nat) (ts : List Gt) (tn pn : Nat) : List Ft := [setFt l, need (lensB sn tn pn l.gn) 2, eachF (moveE l ss ts) 0 l.gn]
def moveFt (l : St) (ss : List Gs) (sn : Nat) (ts : List Gt) (tn pn : Nat) : Ft := firstF (moveFL l ss sn ts tn pn)
theorem lens_of {sn tn pn n : Nat} (h : lensB sn tn pn n = true) : sn = n ∧ tn = n ∧ pn = n := by
  unfold lensB at h
  simp only [Bool.and_eq_true, beq_iff_eq] at h
  omega
set_option maxHeartbeats 1000000 in
theorem mo1_any (l : St) (lb : Nat) (w : World) (hl : l.Box w lb) :
    Calls Tryz.prog 92 #[.pointer (some ⟨lb, 0, none⟩)] w fun e w' => e = .returned (setFt l).v ∧ Below w.heap.size w w' := by
  obtain ⟨s0, s1, _, _⟩ := hl.blk.two
  have hlt := hl.blk.lt
  have Hl := Lib.hid hl
  clear hl
  go_enter Tryz.func92, Tryz.ntmps92
  go_wp2_with fail
  refine (setFault_any l _ (Hl.out.at_.grow (by repeat (first | exact Below.refl _ _ | assumption | (refine Below.setCell ?_ (by first | omega | (simp; done) | (simp; omega)) _) | (refine Below.alloc ?_ (by first | omega | (simp; done) | (simp; omega)) _) | refine Below.drew ?_ | (refine below_thru ?_ (by assumption) (by first | omega | (simp; done) | (simp; omega))) | refine below_drewN ?_ _)))).mono ?_
  rintro e w1 ⟨rfl, hb1⟩
  obtain ⟨hc1, hf1⟩ := bcell hb1; have hz1 := hb1.size; (try simp at hz1)
  go_wp2
  exact bodyPost_ret (v := (setFt l).v) (by simp [results, Tryz.results92, go_sem, hc1] <;> omega) rfl ⟨by rfl, (by repeat (first | exact Below.refl _ _ | assumption | (refine Below.setCell ?_ (by first | omega | (simp; done) | (simp; omega)) _) | (refine Below.alloc ?_ (by first | omega | (simp; done) | (simp; omega)) _) | refine Below.drew ?_ | (refine below_thru ?_ (by assumption) (by first | omega | (simp; done) | (simp; omega))) | refine below_drewN ?_ _))⟩
set_option maxHeartbeats 1000000 in
theorem mo2_any (sA tA pA : Option Addr) (sn sc tn tc pn pc n xb yb zb nb : Nat) (w : World) (hx : Blk w xb 50 #[.slice sA sn sc]) (hn : Blk w nb 3 #[.int .i64 (n : Int)]) (hy : Blk w yb 43 #[.slice tA tn tc]) (hz : Blk w zb 69 #[.slice pA pn pc]) :
    Calls Tryz.prog 93 #[.pointer (some ⟨xb, 0, none⟩), .pointer (some ⟨nb, 0, none⟩), .pointer (some ⟨yb, 0, none⟩), .pointer (some ⟨zb, 0, none⟩)] w fun e w' => e = .returned (need (lensB sn tn pn n) 2).v ∧ Below w.heap.size w w' := by
  have x0 := hx.cell 0
  have n0 := hn.cell 0
  have y0 := hy.cell 0
  have z0 := hz.cell 0
  simp only [List.getElem?_toArray, List.getElem?_cons_zero] at x0 n0 y0 z0
  have hxl := hx.lt
  have hnl := hn.lt
  have hyl := hy.lt
  have hzl := hz.lt
  unfold lensB
  clear hx hn hy hz
  cases h1 : ((sn : Int) == (n : Int))
  · go_enter Tryz.func93, Tryz.ntmps93
    go_wp2_with fail
    refine (need_any false 2 _).mono ?_
    rintro e w1 ⟨rfl, hb1⟩
    obtain ⟨hc1, hf1⟩ := bcell hb1; have hz1 := hb1.size; (try simp at hz1)
    go_wp2
    exact bodyPost_ret (v := (need false 2).v) (by simp [results, Tryz.results93, go_sem, hc1] <;> omega) rfl ⟨by rfl, (by repeat (first | exact Below.refl _ _ | assumption | (refine Below.setCell ?_ (by first | omega | (simp; done) | (simp; omega)) _) | (refine Below.alloc ?_ (by first | omega | (simp; done) | (simp; omega)) _) | refine Below.drew ?_ | (refine below_thru ?_ (by assumption) (by first | omega | (simp; done) | (simp; omega))) | refine below_drewN ?_ _))⟩
  · cases h2 : ((tn : Int) == (n : Int))
    · go_enter Tryz.func93, Tryz.ntmps93
      go_wp2_with fail
      refine (need_any false 2 _).mono ?_
      rintro e w1 ⟨rfl, hb1⟩
      obtain ⟨hc1, hf1⟩ := bcell hb1; have hz1 := hb1.size; (try simp at hz1)
      go_wp2
      exact bodyPost_ret (v := (need false 2).v) (by simp [results, Tryz.results93, go_sem, hc1] <;> omega) rfl ⟨by rfl, (by repeat (first | exact Below.refl _ _ | assumption | (refine Below.setCell ?_ (by first | omega | (simp; done) | (simp; omega)) _) | (refine Below.alloc ?_ (by first | omega | (simp; done) | (simp; omega)) _) | refine Below.drew ?_ | (refine below_thru ?_ (by assumption) (by first | omega | (simp; done) | (simp; omega))) | refine below_drewN ?_ _))⟩
    · go_enter Tryz.func93, Tryz.ntmps93
      go_wp2_with fail
      refine (need_any ((pn : Int) == (n : Int)) 2 _).mono ?_
      rintro e w1 ⟨rfl, hb1⟩
      obtain ⟨hc1, hf1⟩ := bcell hb1; have hz1 := hb1.size; (try simp at hz1)
      go_wp2
      exact bodyPost_ret (v := (need ((pn : Int) == (n : Int)) 2).v) (by simp [results, Tryz.results93, go_sem, hc1] <;> omega) rfl ⟨by rfl, (by repeat (first | exact Below.refl _ _ | assumption | (refine Below.setCell ?_ (by first | omega | (simp; done) | (simp; omega)) _) | (refine Below.alloc ?_ (by first | omega | (simp; done) | (simp; omega)) _) | refine Below.drew ?_ | (refine below_thru ?_ (by assumption) (by first | omega | (simp; done) | (simp; omega))) | refine below_drewN ?_ _))⟩

/-- What the check of one gate, its state and its step reads. -/
structure MoR (W : World) (lb : Nat) (gv rv : Value) (xb : Nat) (sv : Value) (yb : Nat) (tv : Value) (gb go : Nat) (g : Ga) (sb so : Nat) (s : Gs) (tb to : Nat) (t : Gt) : Prop where
  l : Blk W lb 25 #[gv, rv]
  x : Blk W xb 50 #[sv]
  y : Blk W yb 43 #[tv]
  g : W.rangeAt gb go g.cells
  c0 : W.cell? ⟨sb, so, none⟩ = some (.int .i64 s.pos)
  c1 : W.cell? ⟨sb, so + 1, none⟩ = some (.int .i64 s.charge)
  c2 : W.cell? ⟨sb, so + 2, none⟩ = some (.bool s.bolted)
  d0 : W.cell? ⟨tb, to, none⟩ = some (.int .i64 t.order)
  d1 : W.cell? ⟨tb, to + 1, none⟩ = some (.bool t.power)
  d2 : W.cell? ⟨tb, to + 2, none⟩ = some (.int .i64 t.outer)
  d3 : W.cell? ⟨tb, to + 3, none⟩ = some (.int .i64 t.inner)
section
variable {W W' : World} {lb xb yb gb go sb so tb to : Nat} {gv rv sv tv : Value} {t : Gt} {g : Ga} {s : Gs}
theorem MoR.below (h : MoR W lb gv rv xb sv yb tv gb go g sb so s tb to t) (hb : Below W.heap.size W W') : MoR W' lb gv rv xb sv yb tv gb go g sb so s tb to t := by
  have k : ∀ (q : Addr) (v : Value), W.cell? q = some v → W'.cell? q = some v := fun q v hq => (hb.cell (World.block_lt_of_cell? W q hq)).trans hq
  exact ⟨h.l.thru hb h.l.lt, h.x.thru hb h.x.lt, h.y.thru hb h.y.lt, fun j v hv => k _ _ (h.g j v hv), k _ _ h.c0, k _ _ h.c1, k _ _ h.c2, k _ _ h.d0, k _ _ h.d1, k _ _ h.d2, k _ _ h.d3⟩
theorem MoR.drew (h : MoR W lb gv rv xb sv yb tv gb go g sb so s tb to t) : MoR W.drew lb gv rv xb sv yb tv gb go g sb so s tb to t := ⟨h.l, h.x, h.y, h.g, h.c0, h.c1, h.c2, h.d0, h.d1, h.d2, h.d3⟩
theorem MoR.sets (h : MoR W lb gv rv xb sv yb tv gb go g sb so s tb to t) {d : Nat} (h1 : lb ≠ d) (h2 : xb ≠ d) (h3 : yb ≠ d) (h4 : gb ≠ d) (h5 : sb ≠ d) (h6 : tb ≠ d) (vs : List Value) (o : Nat) : MoR (W.setCells d o vs) lb gv rv xb sv yb tv gb go g sb so s tb to t := by
  have k : ∀ (q : Addr) (v : Value), q.block ≠ d → W.cell? q = some v → (W.setCells d o vs).cell? q = some v := fun q v hq h => (World.cell?_setCells_out d vs o W q (fun hb _ => absurd hb hq)).trans h
  exact ⟨h.l.fars h1 _ _, h.x.fars h2 _ _, h.y.fars h3 _ _, fun j v hv => k _ _ h4 (h.g j v hv), k _ _ h5 h.c0, k _ _ h5 h.c1, k _ _ h5 h.c2, k _ _ h6 h.d0, k _ _ h6 h.d1, k _ _ h6 h.d2, k _ _ h6 h.d3⟩
end

set_option maxRecDepth 100000 in
set_option maxHeartbeats 4000000 in
theorem mo31_any (l : St) (ss : List Gs) (ts : List Gt) (sA tA : Option Addr) (sn sc tn tc i lb xb yb : Nat) (w : World) (hl : l.Box w lb) (hx : Blk w xb 50 #[.slice sA sn sc]) (hy : Blk w yb 43 #[.slice tA tn tc])
    (hs : Tab w w.heap.size sA sn 3 (ss.map Gs.cells)) (ht : Tab w w.heap.size tA tn 4 (ts.map Gt.cells)) (hi : i < l.gn) (hn : l.gn ≤ 1000) (hsn : sn = l.gn) (htn : tn = l.gn) :
    Calls Tryz.prog 95 #[.int .i64 (i : Int), .pointer (some ⟨lb, 0, none⟩), .pointer (some ⟨xb, 0, none⟩), .pointer (some ⟨yb, 0, none⟩)] w fun e w' => e = .returned (moveE l ss ts i).v ∧ Below w.heap.size w w' := by
  have hsl : ss.length = sn := by have := hs.1; simpa using this
  have htl : ts.length = tn := by have := ht.1; simpa using this
  obtain ⟨g, hgi⟩ := get_lt hl.at_.g.len hi
  obtain ⟨s, hsi⟩ := get_lt hsl (by omega : i < sn)
  obtain ⟨t, hti⟩ := get_lt htl (by omega : i < tn)
  obtain ⟨gb, off, hA, hgb, hrow⟩ := hl.at_.g.row hgi
  obtain ⟨sb, so, hB, hsb, c0, c1, c2⟩ := hs.three (k := i) (x := .int .i64 s.pos) (y := .int .i64 s.charge) (z := .bool s.bolted) (by simp [hsi])
  obtain ⟨tb, to, hC, htb, d0, d1, d2, d3⟩ := ht.four (k := i) (x := .int .i64 t.order) (y := .bool t.power) (z := .int .i64 t.outer) (u := .int .i64 t.inner) (by simp [hti])
  have hga := hl.at_.g.at_ g (List.mem_of_getElem? hgi)
  have hme : moveE l ss ts i = stepFt g s t := by unfold moveE; rw [gAt_of hgi, sAt_of hsi, tAt_of hti]
  rw [hme]
  have hst := hl.blk
  rw [hA] at hst
  rw [hB] at hx
  rw [hC] at hy
  have hR : MoR w lb (.slice (some ⟨gb, off, none⟩) l.gn l.gc) (.slice l.rA l.rn l.rc) xb (.slice (some ⟨sb, so, none⟩) sn sc) yb (.slice (some ⟨tb, to, none⟩) tn tc) gb (off + i * 21) g sb (so + i * 3) s tb (to + i * 4) t := ⟨hst, hx, hy, hrow, c0, c1, c2, d0, d1, d2, d3⟩
  have hR1 := (hR.below (W' := w.alloc (.cells #[.int .i64 0, .int .i64 0, .int .i64 0] 94)) (by repeat (first | exact Below.refl _ _ | assumption | (refine Below.setCell ?_ (by first | omega | (simp; done) | (simp; omega)) _) | (refine Below.alloc ?_ (by first | omega | (simp; done) | (simp; omega)) _) | refine Below.drew ?_ | (refine below_thru ?_ (by assumption) (by first | omega | (simp; done) | (simp; omega))) | refine below_drewN ?_ _))).drew
  have j0 : (0 : Int) ≤ (i : Int) := Int.natCast_nonneg _
  have j1 : (i : Int) < (l.gn : Int) := by omega
  have j2 : (i : Int) < (sn : Int) := by omega
  have j3 : (i : Int) < (tn : Int) := by omega
  have HF := Lib.hid (fun W h => stepFault_any g s t W h)
  have Hga := Lib.hid hga
  generalize stepFt g s t = f at *
  have hll := hst.lt
  have hxl := hx.lt
  have hyl := hy.lt
  clear hl hA hB hC hgi hsi hti hsl htl hs ht c0 c1 c2 d0 d1 d2 d3 hR hst hga hrow hx hy hme
  go_enter Tryz.func95, Tryz.ntmps95
  go_wp2_with fail
  refine wp_region_held (S := fun W' => MoR W' lb (.slice (some ⟨gb, off, none⟩) l.gn l.gc) (.slice l.rA l.rn l.rc) xb (.slice (some ⟨sb, so, none⟩) sn sc) yb (.slice (some ⟨tb, to, none⟩) tn tc) gb (off + i * 21) g sb (so + i * 3) s tb (to + i * 4) t) (by kernel_rfl) (by exact hR1) (fun hHeld => ?_)
  refine wpAnyH_take (i := 0) (v := ?_) rfl (by kernel_rfl) (by kernel_rfl) (by kernel_rfl) (fun _ _ _ h => h) (Or.inl ⟨by kernel_rfl, ?_⟩) hHeld ?_
  rotate_left
  · intro w hSw; (try dsimp only at hSw); obtain ⟨x1, x2, x3, x4, y0, y1, y2, v0, v1, v2, v3⟩ := hSw; have s0 := x1.cell 0; have s1 := x2.cell 0; have t0 := x3.cell 0; simp only [List.getElem?_toArray, List.getElem?_cons_zero, List.getElem?_cons_succ] at s0 s1 t0; go_simp; (try with_reducible rfl)
  (try simp only [Act.put, List.setIfInBounds_toArray, List.set_cons_zero, List.set_cons_succ])
  refine wpAnyH_take (i := 1) (v := ?_) rfl (by kernel_rfl) (by kernel_rfl) (by kernel_rfl) (fun _ _ _ h => h) (Or.inl ⟨by kernel_rfl, ?_⟩) hHeld ?_
  rotate_left
  · intro w hSw; (try dsimp only at hSw); obtain ⟨x1, x2, x3, x4, y0, y1, y2, v0, v1, v2, v3⟩ := hSw; have s0 := x1.cell 0; have s1 := x2.cell 0; have t0 := x3.cell 0; simp only [List.getElem?_toArray, List.getElem?_cons_zero, List.getElem?_cons_succ] at s0 s1 t0; go_simp; (try with_reducible rfl)
  (try simp only [Act.put, List.setIfInBounds_toArray, List.set_cons_zero, List.set_cons_succ])
  refine wpAnyH_take (i := 2) (v := ?_) rfl (by kernel_rfl) (by kernel_rfl) (by kernel_rfl) (fun _ _ _ h => h) (Or.inl ⟨by kernel_rfl, ?_⟩) hHeld ?_
  rotate_left
  · intro w hSw; (try dsimp only at hSw); obtain ⟨x1, x2, x3, x4, y0, y1, y2, v0, v1, v2, v3⟩ := hSw; have s0 := x1.cell 0; have s1 := x2.cell 0; have t0 := x3.cell 0; simp only [List.getElem?_toArray, List.getElem?_cons_zero, List.getElem?_cons_succ] at s0 s1 t0; go_simp; (try with_reducible rfl)
  (try simp only [Act.put, List.setIfInBounds_toArray, List.set_cons_zero, List.set_cons_succ])
  refine wpAnyH_take (i := 3) (v := ?_) rfl (by kernel_rfl) (by kernel_rfl) (by kernel_rfl) (fun _ _ _ h => h) (Or.inl ⟨by kernel_rfl, ?_⟩) hHeld ?_
  rotate_left
  · intro w hSw; (try dsimp only at hSw); obtain ⟨x1, x2, x3, x4, y0, y1, y2, v0, v1, v2, v3⟩ := hSw; have s0 := x1.cell 0; have s1 := x2.cell 0; have t0 := x3.cell 0; simp only [List.getElem?_toArray, List.getElem?_cons_zero, List.getElem?_cons_succ] at s0 s1 t0; go_simp; (try with_reducible rfl)
  (try simp only [Act.put, List.setIfInBounds_toArray, List.set_cons_zero, List.set_cons_succ])
  (try simp only [List.getElem_toArray, List.getElem_cons_zero, List.getElem_cons_succ, Act.put, List.setIfInBounds_toArray, List.set_cons_zero, List.set_cons_succ])
  refine wpAnyH_take (i := 4) (v := g.v) rfl (by kernel_rfl) (by kernel_rfl) (by kernel_rfl) (fun _ _ _ h => h) (Or.inl ⟨by rfl, fun w hSw => ld_gm rfl rfl hSw.g⟩) hHeld ?_
  (try simp only [Act.put, List.setIfInBounds_toArray, List.set_cons_zero, List.set_cons_succ])
  refine wpAnyH_take (i := 5) (v := ?_) rfl (by kernel_rfl) (by kernel_rfl) (by kernel_rfl) (fun _ _ _ h => h) (Or.inl ⟨by kernel_rfl, ?_⟩) hHeld ?_
  rotate_left
  · intro w hSw; (try dsimp only at hSw); obtain ⟨x1, x2, x3, x4, y0, y1, y2, v0, v1, v2, v3⟩ := hSw; have s0 := x1.cell 0; have s1 := x2.cell 0; have t0 := x3.cell 0; simp only [List.getElem?_toArray, List.getElem?_cons_zero, List.getElem?_cons_succ] at s0 s1 t0; go_simp; (try with_reducible rfl)
  (try simp only [Act.put, List.setIfInBounds_toArray, List.set_cons_zero, List.set_cons_succ])
  refine wpAnyH_take (i := 6) (v := ?_) rfl (by kernel_rfl) (by kernel_rfl) (by kernel_rfl) (fun _ _ _ h => h) (Or.inl ⟨by kernel_rfl, ?_⟩) hHeld ?_
  rotate_left
  · intro w hSw; (try dsimp only at hSw); obtain ⟨x1, x2, x3, x4, y0, y1, y2, v0, v1, v2, v3⟩ := hSw; have s0 := x1.cell 0; have s1 := x2.cell 0; have t0 := x3.cell 0; simp only [List.getElem?_toArray, List.getElem?_cons_zero, List.getElem?_cons_succ] at s0 s1 t0; go_simp; (try with_reducible rfl)
  (try simp only [Act.put, List.setIfInBounds_toArray, List.set_cons_zero, List.set_cons_succ])
  refine wpAnyH_take (i := 7) (v := ?_) rfl (by kernel_rfl) (by kernel_rfl) (by kernel_rfl) (fun _ _ _ h => h) (Or.inl ⟨by kernel_rfl, ?_⟩) hHeld ?_
  rotate_left
  · intro w hSw; (try dsimp only at hSw); obtain ⟨x1, x2, x3, x4, y0, y1, y2, v0, v1, v2, v3⟩ := hSw; have s0 := x1.cell 0; have s1 := x2.cell 0; have t0 := x3.cell 0; simp only [List.getElem?_toArray, List.getElem?_cons_zero, List.getElem?_cons_succ] at s0 s1 t0; go_simp; (try with_reducible rfl)
  (try simp only [Act.put, List.setIfInBounds_toArray, List.set_cons_zero, List.set_cons_succ])
  refine wpAnyH_take (i := 8) (v := ?_) rfl (by kernel_rfl) (by kernel_rfl) (by kernel_rfl) (fun _ _ _ h => h) (Or.inl ⟨by kernel_rfl, ?_⟩) hHeld ?_
  rotate_left
  · intro w hSw; (try dsimp only at hSw); obtain ⟨x1, x2, x3, x4, y0, y1, y2, v0, v1, v2, v3⟩ := hSw; have s0 := x1.cell 0; have s1 := x2.cell 0; have t0 := x3.cell 0; simp only [List.getElem?_toArray, List.getElem?_cons_zero, List.getElem?_cons_succ] at s0 s1 t0; go_simp; (try with_reducible rfl)
  (try simp only [Act.put, List.setIfInBounds_toArray, List.set_cons_zero, List.set_cons_succ])
  refine wpAnyH_take (i := 9) (v := ?_) rfl (by kernel_rfl) (by kernel_rfl) (by kernel_rfl) (fun _ _ _ h => h) (Or.inl ⟨by kernel_rfl, ?_⟩) hHeld ?_
  rotate_left
  · intro w hSw; (try dsimp only at hSw); obtain ⟨x1, x2, x3, x4, y0, y1, y2, v0, v1, v2, v3⟩ := hSw; have s0 := x1.cell 0; have s1 := x2.cell 0; have t0 := x3.cell 0; simp only [List.getElem?_toArray, List.getElem?_cons_zero, List.getElem?_cons_succ] at s0 s1 t0; go_simp; (try with_reducible rfl)
  (try simp only [Act.put, List.setIfInBounds_toArray, List.set_cons_zero, List.set_cons_succ])
  refine wpAnyH_take (i := 10) (v := ?_) rfl (by kernel_rfl) (by kernel_rfl) (by kernel_rfl) (fun _ _ _ h => h) (Or.inl ⟨by kernel_rfl, ?_⟩) hHeld ?_
  rotate_left
  · intro w hSw; (try dsimp only at hSw); obtain ⟨x1, x2, x3, x4, y0, y1, y2, v0, v1, v2, v3⟩ := hSw; have s0 := x1.cell 0; have s1 := x2.cell 0; have t0 := x3.cell 0; simp only [List.getElem?_toArray, List.getElem?_cons_zero, List.getElem?_cons_succ] at s0 s1 t0; go_simp; (try with_reducible rfl)
  (try simp only [Act.put, List.setIfInBounds_toArray, List.set_cons_zero, List.set_cons_succ])
  refine wpAnyH_take (i := 11) (v := ?_) rfl (by kernel_rfl) (by kernel_rfl) (by kernel_rfl) (fun _ _ _ h => h) (Or.inl ⟨by kernel_rfl, ?_⟩) hHeld ?_
  rotate_left
  · intro w hSw; (try dsimp only at hSw); obtain ⟨x1, x2, x3, x4, y0, y1, y2, v0, v1, v2, v3⟩ := hSw; have s0 := x1.cell 0; have s1 := x2.cell 0; have t0 := x3.cell 0; simp only [List.getElem?_toArray, List.getElem?_cons_zero, List.getElem?_cons_succ] at s0 s1 t0; go_simp; (try with_reducible rfl)
  (try simp only [Act.put, List.setIfInBounds_toArray, List.set_cons_zero, List.set_cons_succ])
  refine wpAnyH_take (i := 12) (v := ?_) rfl (by kernel_rfl) (by kernel_rfl) (by kernel_rfl) (fun _ _ _ h => h) (Or.inl ⟨by kernel_rfl, ?_⟩) hHeld ?_
  rotate_left
  · intro w hSw; (try dsimp only at hSw); obtain ⟨x1, x2, x3, x4, y0, y1, y2, v0, v1, v2, v3⟩ := hSw; have s0 := x1.cell 0; have s1 := x2.cell 0; have t0 := x3.cell 0; simp only [List.getElem?_toArray, List.getElem?_cons_zero, List.getElem?_cons_succ] at s0 s1 t0; go_simp; (try with_reducible rfl)
  (try simp only [Act.put, List.setIfInBounds_toArray, List.set_cons_zero, List.set_cons_succ])
  (try simp only [List.getElem_toArray, List.getElem_cons_zero, List.getElem_cons_succ, Act.put, List.setIfInBounds_toArray, List.set_cons_zero, List.set_cons_succ])
  refine wpAnyH_ready (rs := [13]) (by kernel_rfl) (by simp) ?_
  refine AllReadyH.cons rfl (fun K hK => ?_) AllReadyH.nil
  go_simp
  refine (HF.out _ (Hga.out.grow (by repeat (first | exact Below.refl _ _ | assumption | (refine Below.setCell ?_ (by first | omega | (simp; done) | (simp; omega)) _) | (refine Below.alloc ?_ (by first | omega | (simp; done) | (simp; omega)) _) | refine Below.drew ?_ | (refine below_thru ?_ (by assumption) (by first | omega | (simp; done) | (simp; omega))) | refine below_drewN ?_ _)))).mono ?_
  rintro e w1 ⟨rfl, hb1⟩; have hz1 := hb1.size; (try simp at hz1)
  (try dsimp only)
  refine hK.out _ _ (by exact hHeld.below hb1) (fun hHeld => ?_)
  clear hK K
  (try simp only [Act.put, List.setIfInBounds_toArray, List.set_cons_zero, List.set_cons_succ])
  have hF1 : Blk w1 w.heap.size 94 #[.int .i64 0, .int .i64 0, .int .i64 0] := Blk.thru (by (repeat (first | assumption | exact Blk.new _ _ _ | (refine Blk.new' _ _ _ ?_; (simp; done)) | refine Blk.drew ?_ | refine Blk.alloc ?_ _ | (refine Blk.fars ?_ ?_ _ _; rotate_left; (dsimp only; omega)) | (refine Blk.far ?_ ?_ _; rotate_left; (first | (dsimp only; omega) | (simp; done) | (simp; omega) | omega))))) hb1 (by simp)
  have hB1 : Below w.heap.size w w1 := (by repeat (first | exact Below.refl _ _ | assumption | (refine Below.setCell ?_ (by first | omega | (simp; done) | (simp; omega)) _) | (refine Below.alloc ?_ (by first | omega | (simp; done) | (simp; omega)) _) | refine Below.drew ?_ | (refine below_thru ?_ (by assumption) (by first | omega | (simp; done) | (simp; omega))) | refine below_drewN ?_ _))
  (try simp only [List.getElem_toArray, List.getElem_cons_zero, List.getElem_cons_succ, Act.put, List.setIfInBounds_toArray, List.set_cons_zero, List.set_cons_succ])
  refine wpAnyH_ready (rs := [14]) (by kernel_rfl) (by simp) ?_
  refine AllReadyH.cons rfl (fun K hK => ?_) AllReadyH.nil
  refine wanted_of (by rfl) (wp_store_mid (P := Tryz.prog) 94 _ _ rfl (w.heap.size) 0 #[.int .i64 f.part, .int .i64 f.at_, .int .i64 f.e] rfl rfl (Blk.there hF1 (by show 0 + 3 ≤ 3; omega)) (by kernel_rfl) (by simp [Value.oneCell']) ?_)
  refine hK.out _ _ (by exact hHeld.sets (by omega) (by omega) (by omega) (by omega) (by omega) (by omega) _ _) (fun hHeld => ?_)
  clear hK K
  (try simp only [Act.put, List.setIfInBounds_toArray, List.set_cons_zero, List.set_cons_succ])
  refine wpAnyH_done (by kernel_rfl) ?_ _
  (try simp only [List.getElem_toArray, List.getElem_cons_zero, List.getElem_cons_succ, Act.put, List.setIfInBounds_toArray, List.set_cons_zero, List.set_cons_succ])
  have hFe : Blk (w1.setCells w.heap.size 0 (#[.int .i64 f.part, .int .i64 f.at_, .int .i64 f.e] : Array Value).toList) w.heap.size 94 #[.int .i64 f.part, .int .i64 f.at_, .int .i64 f.e] := Blk.sets hF1 _ _
  have hBe : Below w.heap.size w (w1.setCells w.heap.size 0 (#[.int .i64 f.part, .int .i64 f.at_, .int .i64 f.e] : Array Value).toList) := below_sets hB1 (Nat.le_refl _) _ _
  obtain ⟨fs, hu⟩ := uFault
  go_wp2
  exact bodyPost_ret (results_cell_row rfl _ _ w.heap.size 94 #[.int .i64 f.part, .int .i64 f.at_, .int .i64 f.e] (0, 0) _ rfl hFe hu rfl iFault) rfl ⟨rfl, hBe⟩
set_option maxHeartbeats 1000000 in
theorem mo3_any (l : St) (ss : List Gs) (ts : List Gt) (sA tA : Option Addr) (sn sc tn tc lb xb yb nb : Nat) (w : World) (hl : l.Box w lb) (hx : Blk w xb 50 #[.slice sA sn sc]) (hy : Blk w yb 43 #[.slice tA tn tc])
    (hnb : Blk w nb 3 #[.int .i64 (l.gn : Int)]) (hs : Tab w w.heap.size sA sn 3 (ss.map Gs.cells)) (ht : Tab w w.heap.size tA tn 4 (ts.map Gt.cells)) (hn : l.gn ≤ 1000) (hsn : sn = l.gn) (htn : tn = l.gn) :
    Calls Tryz.prog 94 #[.pointer (some ⟨nb, 0, none⟩), .pointer (some ⟨lb, 0, none⟩), .pointer (some ⟨xb, 0, none⟩), .pointer (some ⟨yb, 0, none⟩)] w fun e w' => e = .returned (eachF (moveE l ss ts) 0 l.gn).v ∧ Below w.heap.size w w' := by
  have HE := Lib.hid (fun (W : World) (hW : Below w.heap.size w W) => each3_any W l.gn hn 95 (.pointer (some ⟨lb, 0, none⟩)) (.pointer (some ⟨xb, 0, none⟩)) (.pointer (some ⟨yb, 0, none⟩)) (moveE l ss ts) (fun k W' => by show Sem.run Tryz.prog (callFunc _ _) W' = _; kernel_rfl)
    (fun k hk _ W' hb => mo31_any l ss ts sA tA sn sc tn tc k lb xb yb W' ((hl.grow hW).grow hb) ((hx.thru hW hx.lt).thru hb (hx.thru hW hx.lt).lt) ((hy.thru hW hy.lt).thru hb (hy.thru hW hy.lt).lt) ((hs.grow hW).grow hb) ((ht.grow hW).grow hb) hk hn hsn htn))
  have n0 := hnb.cell 0
  simp only [List.getElem?_toArray, List.getElem?_cons_zero] at n0
  have hnl := hnb.lt
  clear hl hx hy hnb hs ht
  generalize eachF (moveE l ss ts) 0 l.gn = ef at *
  go_enter Tryz.func94, Tryz.ntmps94
  go_wp2_with fail
  refine (HE.out _ (by repeat (first | exact Below.refl _ _ | assumption | (refine Below.setCell ?_ (by first | omega | (simp; done) | (simp; omega)) _) | (refine Below.alloc ?_ (by first | omega | (simp; done) | (simp; omega)) _) | refine Below.drew ?_ | (refine below_thru ?_ (by assumption) (by first | omega | (simp; done) | (simp; omega))) | refine below_drewN ?_ _))).mono ?_
  rintro e w1 ⟨rfl, hb1⟩
  obtain ⟨hc1, hf1⟩ := bcell hb1; have hz1 := hb1.size; (try simp at hz1)
  go_wp2
  exact bodyPost_ret (v := ef.v) (by simp [results, Tryz.results94, go_sem, hc1] <;> omega) rfl ⟨by rfl, (by repeat (first | exact Below.refl _ _ | assumption | (refine Below.setCell ?_ (by first | omega | (simp; done) | (simp; omega)) _) | (refine Below.alloc ?_ (by first | omega | (simp; done) | (simp; omega)) _) | refine Below.drew ?_ | (refine below_thru ?_ (by assumption) (by first | omega | (simp; done) | (simp; omega))) | refine below_drewN ?_ _))⟩

def moveC (lb xb yb zb nb : Nat) (l : St) (ss : List Gs) (sn : Nat) (ts : List Gt) (tn pn : Nat) : List Chk :=
  [⟨92, #[.pointer (some ⟨lb, 0, none⟩)], setFt l⟩, ⟨93, #[.pointer (some ⟨xb, 0, none⟩), .pointer (some ⟨nb, 0, none⟩), .pointer (some ⟨yb, 0, none⟩), .pointer (some ⟨zb, 0, none⟩)], need (lensB sn tn pn l.gn) 2⟩, ⟨94, #[.pointer (some ⟨nb, 0, none⟩), .pointer (some ⟨lb, 0, none⟩), .pointer (some ⟨xb, 0, none⟩), .pointer (some ⟨yb, 0, none⟩)], eachF (moveE l ss ts) 0 l.gn⟩]
theorem moveC_good (lb xb yb zb nb : Nat) (l : St) (ss : List Gs) (ts : List Gt) (sA tA pA : Option Addr) (sn sc tn tc pn pc : Nat) (W : World) (hl : l.Box W lb) (hx : Blk W xb 50 #[.slice sA sn sc]) (hy : Blk W yb 43 #[.slice tA tn tc]) (hz : Blk W zb 69 #[.slice pA pn pc])
    (hnb : Blk W nb 3 #[.int .i64 (l.gn : Int)]) (hs : Tab W W.heap.size sA sn 3 (ss.map Gs.cells)) (ht : Tab W W.heap.size tA tn 4 (ts.map Gt.cells)) : Good W (moveC lb xb yb zb nb l ss sn ts tn pn) := by
  intro k x hk hprev W' hW
  match k, hk with
  | 0, hk => cases hk; exact mo1_any l lb W' (hl.grow hW)
  | 1, hk => cases hk; exact mo2_any sA tA pA sn sc tn tc pn pc l.gn xb yb zb nb W' (hx.thru hW hx.lt) (hnb.thru hW hnb.lt) (hy.thru hW hy.lt) (hz.thru hW hz.lt)
  | 2, hk =>
    cases hk
    have e1 := setFt_ok l W W.heap.size hl.at_ (hprev 0 _ (by omega) rfl)
    have e2 := lens_of (need_e (b := lensB sn tn pn l.gn) (c := 2) (by omega) (hprev 1 _ (by omega) rfl))
    have n1 := e1.n1
    exact mo3_any l ss ts sA tA sn sc tn tc lb xb yb nb W' (hl.grow hW) (hx.thru hW hx.lt) (hy.thru hW hy.lt) (hnb.thru hW hnb.lt) (hs.grow hW) (ht.grow hW) (by omega) e2.1 e2.2.1
  | k + 3, hk => simp [moveC] at hk
theorem moveC_plain (lb xb yb zb nb : Nat) (l : St) (ss : List Gs) (sn : Nat) (ts : List Gt) (tn pn : Nat) : ∀ (k : Nat) (c : Chk), (moveC lb xb yb zb nb l ss sn ts tn pn)[k]? = some c → Plain c.f c.caps := by
  intro k c hk W
  match k, hk with
  | 0, hk => cases hk; show Sem.run Tryz.prog (callFunc _ _) W = _; kernel_rfl
  | 1, hk => cases hk; show Sem.run Tryz.prog (callFunc _ _) W = _; kernel_rfl
  | 2, hk => cases hk; show Sem.run Tryz.prog (callFunc _ _) W = _; kernel_rfl
  | k + 3, hk => simp [moveC] at hk
theorem move_ok {l : St} {ss : List Gs} {sn : Nat} {ts : List Gt} {tn pn : Nat} {w : World} {B : Nat} {A C : Option Addr} (hl : l.At w B) (hs : Tab w B A sn 3 (ss.map Gs.cells)) (ht : Tab w B C tn 4 (ts.map Gt.cells)) (h : (moveFt l ss sn ts tn pn).e = 0) :
    l.Ok ∧ sn = l.gn ∧ tn = l.gn ∧ pn = l.gn ∧ (∀ t ∈ ts, t.Ok) ∧ ∀ m ∈ machs l.gs ss, m.1.Ok ∧ m.2.Ok m.1 := by
  have h1 := first0 _ h (setFt l) (by simp [moveFL])
  have h2 := lens_of (need_e (b := lensB sn tn pn l.gn) (c := 2) (by omega) (first0 _ h (need (lensB sn tn pn l.gn) 2) (by simp [moveFL])))
  have h3 := each0 _ _ _ (first0 _ h (eachF (moveE l ss ts) 0 l.gn) (by simp [moveFL]))
  have hlo := setFt_ok l w B hl h1
  have hsl : ss.length = sn := by have := hs.1; simpa using this
  have htl : ts.length = tn := by have := ht.1; simpa using this
  have hgl := hl.g.len
  have hk : ∀ (k : Nat) (g : Ga) (s : Gs) (t : Gt), l.gs[k]? = some g → ss[k]? = some s → ts[k]? = some t → g.Ok ∧ s.Ok g ∧ t.Ok := fun k g s t hg hs' ht' => by
    have hlt := (List.getElem?_eq_some_iff.1 hg).1
    have := h3 k (by omega) (by omega)
    unfold moveE at this
    rw [gAt_of hg, sAt_of hs', tAt_of ht'] at this
    exact step_ok (hl.g.at_ g (List.mem_of_getElem? hg)) this
  refine ⟨hlo, h2.1, h2.2.1, h2.2.2, fun t htm => ?_, fun m hm => ?_⟩
  · obtain ⟨k, hkt⟩ := List.getElem?_of_mem htm
    have hlt := (List.getElem?_eq_some_iff.1 hkt).1
    obtain ⟨g, hg⟩ := get_lt hgl (by omega : k < l.gn)
    obtain ⟨s, hs'⟩ := get_lt hsl (by omega : k < sn)
    exact (hk k g s t hg hs' hkt).2.2
  · obtain ⟨k, hkm⟩ := List.getElem?_of_mem hm
    unfold machs at hkm
    rw [List.getElem?_zip_eq_some] at hkm
    have hlt := (List.getElem?_eq_some_iff.1 hkm.1).1
    obtain ⟨t, ht'⟩ := get_lt htl (by omega : k < tn)
    have := hk k m.1 m.2 t hkm.1 hkm.2 ht'
    exact ⟨this.1, this.2.1⟩

set_option maxRecDepth 100000 in
set_option maxHeartbeats 4000000 in
theorem Move_bad (l : St) (ss : List Gs) (ts : List Gt) (sA tA pA : Option Addr) (sn sc tn tc pn pc : Nat) (w : World) (hl : l.At w w.heap.size) (hs : Tab w w.heap.size sA sn 3 (ss.map Gs.cells)) (ht : Tab w w.heap.size tA tn 4 (ts.map Gt.cells)) (h0 : (moveFt l ss sn ts tn pn).e ≠ 0) :
    Calls Tryz.prog 42 #[l.v, .slice sA sn sc, .slice tA tn tc, .slice pA pn pc] w fun e w' => e = .returned (.tuple #[.slice none 0 0, .slice none 0 0, .int .i64 (moveFt l ss sn ts tn pn).e]) ∧ Below w.heap.size w w' := by
  have Hl := Lib.hid hl
  have Hs := Lib.hid hs
  have Ht := Lib.hid ht
  have hgm := hl.gn
  have HGood := Lib.hid (fun W lb xb yb zb nb h1 h2 h3 h4 h5 h6 h7 => moveC_good lb xb yb zb nb l ss ts sA tA pA sn sc tn tc pn pc W h1 h2 h3 h4 h5 h6 h7)
  obtain ⟨fp, fa, fe, hfl⟩ : ∃ fp fa fe, moveFt l ss sn ts tn pn = ⟨fp, fa, fe⟩ := ⟨_, _, _, rfl⟩
  have Hfl := Lib.hid hfl
  rw [hfl] at h0 ⊢
  simp only at h0
  have h0' : (fe != 0) = true := by rw [bne_iff_ne]; exact h0
  clear hfl h0 hl hs ht
  go_enter Tryz.func42, Tryz.ntmps42
  go_wp2_with fail
  refine (first_any _ (w.heap.size + 1 + 1 + 1 + 1 + 1) 0 3 (moveC w.heap.size (w.heap.size + 1) (w.heap.size + 1 + 1) (w.heap.size + 1 + 1 + 1) (w.heap.size + 1 + 1 + 1 + 1) l ss sn ts tn pn) rfl (by omega) (by simp) ?_ (HGood.out _ _ _ _ _ _ ⟨?_, ?_⟩ ?_ ?_ ?_ ?_ ?_ ?_) (moveC_plain _ _ _ _ _ l ss sn ts tn pn)).mono ?_
  · intro k c hk
    match k, hk with
    | 0, hk => cases hk; exact (Blk.new' _ _ _ (by simp)).cell 0
    | 1, hk => cases hk; exact (Blk.new' _ _ _ (by simp)).cell 1
    | 2, hk => cases hk; exact (Blk.new' _ _ _ (by simp)).cell 2
    | k + 3, hk => simp [moveC] at hk
  · exact (((((Blk.new w _ _).alloc _).alloc _).alloc _).alloc _).alloc _
  · exact Hl.out.grow (by repeat (first | exact Below.refl _ _ | assumption | (refine Below.setCell ?_ (by first | omega | (simp; done) | (simp; omega)) _) | (refine Below.alloc ?_ (by first | omega | (simp; done) | (simp; omega)) _) | refine Below.drew ?_ | (refine below_thru ?_ (by assumption) (by first | omega | (simp; done) | (simp; omega))) | refine below_drewN ?_ _))
  · exact ((((Blk.new' (w.alloc _) _ _ (by simp)).alloc _).alloc _).alloc _).alloc _
  · exact (((Blk.new' ((w.alloc _).alloc _) _ _ (by simp)).alloc _).alloc _).alloc _
  · exact ((Blk.new' (((w.alloc _).alloc _).alloc _) _ _ (by simp)).alloc _).alloc _
  · exact (Blk.new' ((((w.alloc _).alloc _).alloc _).alloc _) _ _ (by simp)).alloc _
  · exact Hs.out.grow (by repeat (first | exact Below.refl _ _ | assumption | (refine Below.setCell ?_ (by first | omega | (simp; done) | (simp; omega)) _) | (refine Below.alloc ?_ (by first | omega | (simp; done) | (simp; omega)) _) | refine Below.drew ?_ | (refine below_thru ?_ (by assumption) (by first | omega | (simp; done) | (simp; omega))) | refine below_drewN ?_ _))
  · exact Ht.out.grow (by repeat (first | exact Below.refl _ _ | assumption | (refine Below.setCell ?_ (by first | omega | (simp; done) | (simp; omega)) _) | (refine Below.alloc ?_ (by first | omega | (simp; done) | (simp; omega)) _) | refine Below.drew ?_ | (refine below_thru ?_ (by assumption) (by first | omega | (simp; done) | (simp; omega))) | refine below_drewN ?_ _))
  rintro e w1 ⟨he, hb1⟩
  replace he : e = .returned (moveFt l ss sn ts tn pn).v := he
  rw [Hfl.out] at he
  subst he
  obtain ⟨hc1, hf1⟩ := bcell hb1; have hz1 := hb1.size; (try simp at hz1)
  have hl1 : w.heap.size < w1.heap.size := by omega
  go_wp2_with fail
  go_quiet (fail)
  go_wp2
  go_ret3
  exact ⟨rfl, (by repeat (first | exact Below.refl _ _ | assumption | (refine Below.setCell ?_ (by first | omega | (simp; done) | (simp; omega)) _) | (refine Below.alloc ?_ (by first | omega | (simp; done) | (simp; omega)) _) | refine Below.drew ?_ | (refine below_thru ?_ (by assumption) (by first | omega | (simp; done) | (simp; omega))) | refine below_drewN ?_ _))⟩
end Go.Proofs.YtgdomaddjiggaaaGreat
