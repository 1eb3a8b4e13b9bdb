/- The faults of what Delay is asked. Delay and Time. Time: after how many steps a gate alone is shut. -/
import Derived.Test.YtmhfnnpbnocafaaGreatGtSetOf
import Derived.Test.YtmhfnnpbnocafaaGreatGtToShut
namespace Go.Proofs.YtmhfnnpbnocafaaGreat
open Go.RowKit
set_option linter.unusedSimpArgs false
set_option linter.unusedVariables false

set_option maxRecDepth 100000 in
set_option maxHeartbeats 1000000 in
theorem each3_any (w : World) (n : Nat) (hmax : n ≤ 1000) (f : FuncId) (c0 c1 c2 : Value) (r : Nat → Ft)
    (hp : ∀ (k : Nat) (W : World), Sem.run Tryz.prog (callFunc f #[.int .i64 k, c0, c1, c2]) W = .ok (.enter f #[.int .i64 k, c0, c1, c2]) W)
    (hg : ∀ k, k < n → (∀ j, j < k → (r j).e = 0) → ∀ W, Below w.heap.size w W → Calls Tryz.prog f #[.int .i64 k, c0, c1, c2] W fun e w' => e = .returned (r k).v ∧ Below W.heap.size W w') :
    Calls Tryz.prog 54 #[.int .i64 n, .func (.func f) #[] #[c0, c1, c2]] w fun e w' => e = .returned (eachF r 0 n).v ∧ Below w.heap.size w w' := by
  have Hg := Lib.hid hg; clear hg
  have Hp := Lib.hid hp; clear hp
  go_enter Tryz.func54, Tryz.ntmps54
  go_wp2
  go_loopw [8] (fun i wr => ∃ k : Nat, k ≤ n ∧ i = .int .i64 k ∧ Hid (∀ j, j < k → (r j).e = 0) ∧ Below (w.heap.size + 1) (w.alloc (.cells #[.int .i64 0, .int .i64 0, .int .i64 0] 80)) wr)
    (fun i _ => n - (intOf i).toNat)
  case atStart => exact ⟨0, Nat.zero_le _, rfl, fun j h => by omega, Below.refl _ _⟩
  case round =>
    obtain ⟨k, hk, rfl, hprev, hbr⟩ := hrel
    obtain ⟨hcr, hfr⟩ := bcell (W := w.alloc (.cells #[.int .i64 0, .int .i64 0, .int .i64 0] 80)) (by simpa using hbr)
    have hzr := hbr.size
    simp at hzr
    have hlr : w.heap.size < wr.heap.size := by omega
    by_cases hlt : k < n
    · have hpl : ∀ W : World, Sem.run Tryz.prog (callFunc f #[.int .i64 k, c0, c1, c2]) W = .ok (.enter f #[.int .i64 k, c0, c1, c2]) W := Hp.out k
      go_wp2_with fail
      refine (Hg.out k hlt hprev.out wr ⟨hbr.os, hbr.tape, hbr.output, by omega, fun i hi => (hbr.block i (by omega)).trans (Below.heap_alloc w _ i hi)⟩).mono ?_
      rintro e w1 ⟨rfl, hb1⟩
      obtain ⟨hc1, hf1⟩ := bcell hb1; have hz1 := hb1.size; (try simp at hz1)
      have hl1 : w.heap.size < w1.heap.size := by omega
      obtain ⟨r1, r2, r3, hr⟩ : ∃ r1 r2 r3, r k = ⟨r1, r2, r3⟩ := ⟨_, _, _, rfl⟩
      have Hr := Lib.hid hr
      rw [hr]
      clear hr
      by_cases h0 : r3 = 0
      · subst h0
        go_wp2
        go_roundw
        case rel =>
          refine ⟨k + 1, by omega, by go_num, ?_, ?_⟩
          · intro j hj
            rcases Nat.lt_or_ge j k with h | h
            · exact hprev.out j h
            · obtain rfl : j = k := by omega
              rw [Hr.out]
          · exact (by repeat (first | exact Below.refl _ _ | assumption | (refine Below.setCell ?_ (by first | omega | (simp; done) | (simp; omega)) _) | (refine Below.alloc ?_ (by first | omega | (simp; done) | (simp; omega)) _) | refine Below.drew ?_ | (refine below_thru ?_ (by assumption) (by first | omega | (simp; done) | (simp; omega))) | refine below_drewN ?_ _))
        case measure => simp [intOf]; omega
      · have h0' : (r3 != 0) = true := by simpa using h0
        go_wp2
        have hfin : eachF r 0 n = ⟨r1, k, r3⟩ := by
          rw [eachF_skip r k 0 n (by omega) (by simpa using hprev.out)]
          obtain ⟨m, hm⟩ : ∃ m, n - k = m + 1 := ⟨n - k - 1, by omega⟩
          rw [hm, eachF, Nat.zero_add, Hr.out]
          simp [h0]
        exact bodyPost_ret (v := Ft.v ⟨r1, k, r3⟩) (by simp [results, Tryz.results54, go_sem, hc1, hl1, hcr, hlr] <;> omega) rfl ⟨by rw [hfin], (by repeat (first | exact Below.refl _ _ | assumption | (refine Below.setCell ?_ (by first | omega | (simp; done) | (simp; omega)) _) | (refine Below.alloc ?_ (by first | omega | (simp; done) | (simp; omega)) _) | refine Below.drew ?_ | (refine below_thru ?_ (by assumption) (by first | omega | (simp; done) | (simp; omega))) | refine below_drewN ?_ _))⟩
    · obtain rfl : k = n := by omega
      go_wp2
      have hfin : eachF r 0 k = ⟨0, 0, 0⟩ := by
        rw [eachF_skip r k 0 k (by omega) (by simpa using hprev.out), Nat.sub_self]; rfl
      exact bodyPost_ret (v := Ft.v ⟨0, 0, 0⟩) (by simp [results, Tryz.results54, go_sem, hcr, hlr] <;> omega) rfl ⟨by rw [hfin], (by repeat (first | exact Below.refl _ _ | assumption | (refine Below.setCell ?_ (by first | omega | (simp; done) | (simp; omega)) _) | (refine Below.alloc ?_ (by first | omega | (simp; done) | (simp; omega)) _) | refine Below.drew ?_ | (refine below_thru ?_ (by assumption) (by first | omega | (simp; done) | (simp; omega))) | refine below_drewN ?_ _))⟩

def sAt (ss : List Gs) (i : Nat) : Gs := (ss[i]?).getD ⟨0, 0, false⟩
theorem sAt_of {ss : List Gs} {i : Nat} {s : Gs} (h : ss[i]? = some s) : sAt ss i = s := by unfold sAt; rw [h]; rfl
theorem ld_gm {o : Oper} {ev : Operand → Value} {w : World} {x : Operand} {b off : Nat} {g : Ga} (ho : o.op = .load 25 x) (hx : ev x = .pointer (some ⟨b, off, none⟩)) (h : w.rangeAt b off g.cells) :
    (execOp ev o).run Tryz.prog w = .ok (.value g.v) w := by
  obtain ⟨fs, hu⟩ := uGate
  have hr : (Instr.loadAt 25 (.pointer (some ⟨b, off, none⟩))).run Tryz.prog w = .ok g.v w := by
    simp only [Instr.loadAt, Instr.sureAddr, Sem.run_bind, Sem.run_pure, Result.andThen_ok, run_loadVar_mid w b off 25 g.cells (.struct fs) h hu rfl iGate]
  unfold execOp
  simp only [ho, hx, Sem.run_bind, hr, Sem.run_pure, Result.andThen_ok]

/-- What the check of one gate, its state and a step reads. -/
structure DeR (W : World) (lb : Nat) (gv rv : Value) (xb : Nat) (sv : Value) (tb : Nat) (t : Gt) (gb go : Nat) (g : Ga) (sb so : Nat) (s : Gs) : Prop where
  l : Blk W lb 61 #[gv, rv]
  x : Blk W xb 54 #[sv]
  t : Blk W tb 51 #[.int .i64 t.order, .bool t.power, .int .i64 t.outer, .int .i64 t.inner]
  g : W.rangeAt gb go g.cells
  c0 : W.cell? ⟨sb, so, none⟩ = some (.int .i64 s.pos)
  c1 : W.cell? ⟨sb, so + 1, none⟩ = some (.int .i64 s.charge)
  c2 : W.cell? ⟨sb, so + 2, none⟩ = some (.bool s.bolted)
section
variable {W W' : World} {lb xb tb gb go sb so : Nat} {gv rv sv : Value} {t : Gt} {g : Ga} {s : Gs}
theorem DeR.below (h : DeR W lb gv rv xb sv tb t gb go g sb so s) (hb : Below W.heap.size W W') : DeR W' lb gv rv xb sv tb t gb go g sb so s := by
  have k : ∀ (q : Addr) (v : Value), W.cell? q = some v → W'.cell? q = some v := fun q v hq => (hb.cell (World.block_lt_of_cell? W q hq)).trans hq
  exact ⟨h.l.thru hb h.l.lt, h.x.thru hb h.x.lt, h.t.thru hb h.t.lt, fun j v hv => k _ _ (h.g j v hv), k _ _ h.c0, k _ _ h.c1, k _ _ h.c2⟩
theorem DeR.drew (h : DeR W lb gv rv xb sv tb t gb go g sb so s) : DeR W.drew lb gv rv xb sv tb t gb go g sb so s := ⟨h.l, h.x, h.t, h.g, h.c0, h.c1, h.c2⟩
theorem DeR.sets (h : DeR W lb gv rv xb sv tb t gb go g sb so s) {d : Nat} (h1 : lb ≠ d) (h2 : xb ≠ d) (h3 : tb ≠ d) (h4 : gb ≠ d) (h5 : sb ≠ d) (vs : List Value) (o : Nat) : DeR (W.setCells d o vs) lb gv rv xb sv tb t gb go g sb so s := by
  have k : ∀ (q : Addr) (v : Value), q.block ≠ d → W.cell? q = some v → (W.setCells d o vs).cell? q = some v := fun q v hq h => (World.cell?_setCells_out d vs o W q (fun hb _ => absurd hb hq)).trans h
  exact ⟨h.l.fars h1 _ _, h.x.fars h2 _ _, h.t.fars h3 _ _, fun j v hv => k _ _ h4 (h.g j v hv), k _ _ h5 h.c0, k _ _ h5 h.c1, k _ _ h5 h.c2⟩
end

set_option maxRecDepth 100000 in
set_option maxHeartbeats 4000000 in
theorem de31_any (l : St) (ss : List Gs) (t : Gt) (sA : Option Addr) (sn sc i lb xb tb : Nat) (w : World) (hl : l.Box w lb) (hx : Blk w xb 54 #[.slice sA sn sc]) (ht : Blk w tb 51 #[.int .i64 t.order, .bool t.power, .int .i64 t.outer, .int .i64 t.inner])
    (hs : Tab w w.heap.size sA sn 3 (ss.map Gs.cells)) (hi : i < l.gn) (hn : l.gn ≤ 1000) (hsn : sn = l.gn) :
    Calls Tryz.prog 95 #[.int .i64 (i : Int), .pointer (some ⟨lb, 0, none⟩), .pointer (some ⟨xb, 0, none⟩), .pointer (some ⟨tb, 0, none⟩)] w fun e w' => e = .returned (stepFt (gAt l.gs i) (sAt ss i) t).v ∧ Below w.heap.size w w' := by
  have hsl : ss.length = sn := by have := hs.1; simpa using this
  obtain ⟨g, hgi⟩ := get_lt hl.at_.g.len hi
  obtain ⟨s, hsi⟩ := get_lt hsl (by omega : i < sn)
  obtain ⟨gb, off, hA, hgb, hrow⟩ := hl.at_.g.row hgi
  obtain ⟨sb, so, hB, hsb, c0, c1, c2⟩ := hs.three (k := i) (x := .int .i64 s.pos) (y := .int .i64 s.charge) (z := .bool s.bolted) (by simp [hsi])
  have hga := hl.at_.g.at_ g (List.mem_of_getElem? hgi)
  rw [gAt_of hgi, sAt_of hsi]
  have hst := hl.blk
  rw [hA] at hst
  rw [hB] at hx
  have hR : DeR w lb (.slice (some ⟨gb, off, none⟩) l.gn l.gc) (.slice l.rA l.rn l.rc) xb (.slice (some ⟨sb, so, none⟩) sn sc) tb t gb (off + i * 21) g sb (so + i * 3) s := ⟨hst, hx, ht, hrow, c0, c1, c2⟩
  have hR1 := (hR.below (W' := w.alloc (.cells #[.int .i64 0, .int .i64 0, .int .i64 0] 80)) (by repeat (first | exact Below.refl _ _ | assumption | (refine Below.setCell ?_ (by first | omega | (simp; done) | (simp; omega)) _) | (refine Below.alloc ?_ (by first | omega | (simp; done) | (simp; omega)) _) | refine Below.drew ?_ | (refine below_thru ?_ (by assumption) (by first | omega | (simp; done) | (simp; omega))) | refine below_drewN ?_ _))).drew
  have j0 : (0 : Int) ≤ (i : Int) := Int.natCast_nonneg _
  have j1 : (i : Int) < (l.gn : Int) := by omega
  have j2 : (i : Int) < (sn : Int) := by omega
  have HF := Lib.hid (fun W h => stepFault_any g s t W h)
  have Hga := Lib.hid hga
  generalize stepFt g s t = f at *
  have hll := hst.lt
  have hxl := hx.lt
  have htl := ht.lt
  clear hl hA hB hgi hsi hsl hs c0 c1 c2 hR hst hga hrow hx ht
  go_enter Tryz.func95, Tryz.ntmps95
  go_wp2_with fail
  refine wp_region_held (S := fun W' => DeR W' lb (.slice (some ⟨gb, off, none⟩) l.gn l.gc) (.slice l.rA l.rn l.rc) xb (.slice (some ⟨sb, so, none⟩) sn sc) tb t gb (off + i * 21) g sb (so + i * 3) s) (by kernel_rfl) (by exact hR1) (fun hHeld => ?_)
  refine wpAnyH_take (i := 0) (v := ?_) rfl (by kernel_rfl) (by kernel_rfl) (by kernel_rfl) (fun _ _ _ h => h) (Or.inl ⟨by kernel_rfl, ?_⟩) hHeld ?_
  rotate_left
  · intro w hSw; (try dsimp only at hSw); obtain ⟨x1, x2, x3, x4, y0, y1, y2⟩ := hSw; have s0 := x1.cell 0; have s1 := x2.cell 0; have t0 := x3.cell 0; have t1 := x3.cell 1; have t2 := x3.cell 2; have t3 := x3.cell 3; simp only [List.getElem?_toArray, List.getElem?_cons_zero, List.getElem?_cons_succ] at s0 s1 t0 t1 t2 t3; go_simp; (try with_reducible rfl)
  (try simp only [Act.put, List.setIfInBounds_toArray, List.set_cons_zero, List.set_cons_succ])
  refine wpAnyH_take (i := 1) (v := ?_) rfl (by kernel_rfl) (by kernel_rfl) (by kernel_rfl) (fun _ _ _ h => h) (Or.inl ⟨by kernel_rfl, ?_⟩) hHeld ?_
  rotate_left
  · intro w hSw; (try dsimp only at hSw); obtain ⟨x1, x2, x3, x4, y0, y1, y2⟩ := hSw; have s0 := x1.cell 0; have s1 := x2.cell 0; have t0 := x3.cell 0; have t1 := x3.cell 1; have t2 := x3.cell 2; have t3 := x3.cell 3; simp only [List.getElem?_toArray, List.getElem?_cons_zero, List.getElem?_cons_succ] at s0 s1 t0 t1 t2 t3; go_simp; (try with_reducible rfl)
  (try simp only [Act.put, List.setIfInBounds_toArray, List.set_cons_zero, List.set_cons_succ])
  refine wpAnyH_take (i := 2) (v := ?_) rfl (by kernel_rfl) (by kernel_rfl) (by kernel_rfl) (fun _ _ _ h => h) (Or.inl ⟨by kernel_rfl, ?_⟩) hHeld ?_
  rotate_left
  · intro w hSw; (try dsimp only at hSw); obtain ⟨x1, x2, x3, x4, y0, y1, y2⟩ := hSw; have s0 := x1.cell 0; have s1 := x2.cell 0; have t0 := x3.cell 0; have t1 := x3.cell 1; have t2 := x3.cell 2; have t3 := x3.cell 3; simp only [List.getElem?_toArray, List.getElem?_cons_zero, List.getElem?_cons_succ] at s0 s1 t0 t1 t2 t3; go_simp; (try with_reducible rfl)
  (try simp only [Act.put, List.setIfInBounds_toArray, List.set_cons_zero, List.set_cons_succ])
  refine wpAnyH_take (i := 3) (v := ?_) rfl (by kernel_rfl) (by kernel_rfl) (by kernel_rfl) (fun _ _ _ h => h) (Or.inl ⟨by kernel_rfl, ?_⟩) hHeld ?_
  rotate_left
  · intro w hSw; (try dsimp only at hSw); obtain ⟨x1, x2, x3, x4, y0, y1, y2⟩ := hSw; have s0 := x1.cell 0; have s1 := x2.cell 0; have t0 := x3.cell 0; have t1 := x3.cell 1; have t2 := x3.cell 2; have t3 := x3.cell 3; simp only [List.getElem?_toArray, List.getElem?_cons_zero, List.getElem?_cons_succ] at s0 s1 t0 t1 t2 t3; go_simp; (try with_reducible rfl)
  (try simp only [Act.put, List.setIfInBounds_toArray, List.set_cons_zero, List.set_cons_succ])
  (try simp only [List.getElem_toArray, List.getElem_cons_zero, List.getElem_cons_succ, Act.put, List.setIfInBounds_toArray, List.set_cons_zero, List.set_cons_succ])
  refine wpAnyH_take (i := 4) (v := g.v) rfl (by kernel_rfl) (by kernel_rfl) (by kernel_rfl) (fun _ _ _ h => h) (Or.inl ⟨by rfl, fun w hSw => ld_gm rfl rfl hSw.g⟩) hHeld ?_
  (try simp only [Act.put, List.setIfInBounds_toArray, List.set_cons_zero, List.set_cons_succ])
  refine wpAnyH_take (i := 5) (v := ?_) rfl (by kernel_rfl) (by kernel_rfl) (by kernel_rfl) (fun _ _ _ h => h) (Or.inl ⟨by kernel_rfl, ?_⟩) hHeld ?_
  rotate_left
  · intro w hSw; (try dsimp only at hSw); obtain ⟨x1, x2, x3, x4, y0, y1, y2⟩ := hSw; have s0 := x1.cell 0; have s1 := x2.cell 0; have t0 := x3.cell 0; have t1 := x3.cell 1; have t2 := x3.cell 2; have t3 := x3.cell 3; simp only [List.getElem?_toArray, List.getElem?_cons_zero, List.getElem?_cons_succ] at s0 s1 t0 t1 t2 t3; go_simp; (try with_reducible rfl)
  (try simp only [Act.put, List.setIfInBounds_toArray, List.set_cons_zero, List.set_cons_succ])
  refine wpAnyH_take (i := 6) (v := ?_) rfl (by kernel_rfl) (by kernel_rfl) (by kernel_rfl) (fun _ _ _ h => h) (Or.inl ⟨by kernel_rfl, ?_⟩) hHeld ?_
  rotate_left
  · intro w hSw; (try dsimp only at hSw); obtain ⟨x1, x2, x3, x4, y0, y1, y2⟩ := hSw; have s0 := x1.cell 0; have s1 := x2.cell 0; have t0 := x3.cell 0; have t1 := x3.cell 1; have t2 := x3.cell 2; have t3 := x3.cell 3; simp only [List.getElem?_toArray, List.getElem?_cons_zero, List.getElem?_cons_succ] at s0 s1 t0 t1 t2 t3; go_simp; (try with_reducible rfl)
  (try simp only [Act.put, List.setIfInBounds_toArray, List.set_cons_zero, List.set_cons_succ])
  refine wpAnyH_take (i := 7) (v := ?_) rfl (by kernel_rfl) (by kernel_rfl) (by kernel_rfl) (fun _ _ _ h => h) (Or.inl ⟨by kernel_rfl, ?_⟩) hHeld ?_
  rotate_left
  · intro w hSw; (try dsimp only at hSw); obtain ⟨x1, x2, x3, x4, y0, y1, y2⟩ := hSw; have s0 := x1.cell 0; have s1 := x2.cell 0; have t0 := x3.cell 0; have t1 := x3.cell 1; have t2 := x3.cell 2; have t3 := x3.cell 3; simp only [List.getElem?_toArray, List.getElem?_cons_zero, List.getElem?_cons_succ] at s0 s1 t0 t1 t2 t3; go_simp; (try with_reducible rfl)
  (try simp only [Act.put, List.setIfInBounds_toArray, List.set_cons_zero, List.set_cons_succ])
  refine wpAnyH_take (i := 8) (v := ?_) rfl (by kernel_rfl) (by kernel_rfl) (by kernel_rfl) (fun _ _ _ h => h) (Or.inl ⟨by kernel_rfl, ?_⟩) hHeld ?_
  rotate_left
  · intro w hSw; (try dsimp only at hSw); obtain ⟨x1, x2, x3, x4, y0, y1, y2⟩ := hSw; have s0 := x1.cell 0; have s1 := x2.cell 0; have t0 := x3.cell 0; have t1 := x3.cell 1; have t2 := x3.cell 2; have t3 := x3.cell 3; simp only [List.getElem?_toArray, List.getElem?_cons_zero, List.getElem?_cons_succ] at s0 s1 t0 t1 t2 t3; go_simp; (try with_reducible rfl)
  (try simp only [Act.put, List.setIfInBounds_toArray, List.set_cons_zero, List.set_cons_succ])
  refine wpAnyH_take (i := 9) (v := ?_) rfl (by kernel_rfl) (by kernel_rfl) (by kernel_rfl) (fun _ _ _ h => h) (Or.inl ⟨by kernel_rfl, ?_⟩) hHeld ?_
  rotate_left
  · intro w hSw; (try dsimp only at hSw); obtain ⟨x1, x2, x3, x4, y0, y1, y2⟩ := hSw; have s0 := x1.cell 0; have s1 := x2.cell 0; have t0 := x3.cell 0; have t1 := x3.cell 1; have t2 := x3.cell 2; have t3 := x3.cell 3; simp only [List.getElem?_toArray, List.getElem?_cons_zero, List.getElem?_cons_succ] at s0 s1 t0 t1 t2 t3; go_simp; (try with_reducible rfl)
  (try simp only [Act.put, List.setIfInBounds_toArray, List.set_cons_zero, List.set_cons_succ])
  (try simp only [List.getElem_toArray, List.getElem_cons_zero, List.getElem_cons_succ, Act.put, List.setIfInBounds_toArray, List.set_cons_zero, List.set_cons_succ])
  refine wpAnyH_ready (rs := [10]) (by kernel_rfl) (by simp) ?_
  refine AllReadyH.cons rfl (fun K hK => ?_) AllReadyH.nil
  go_simp
  refine (HF.out _ (Hga.out.grow (by repeat (first | exact Below.refl _ _ | assumption | (refine Below.setCell ?_ (by first | omega | (simp; done) | (simp; omega)) _) | (refine Below.alloc ?_ (by first | omega | (simp; done) | (simp; omega)) _) | refine Below.drew ?_ | (refine below_thru ?_ (by assumption) (by first | omega | (simp; done) | (simp; omega))) | refine below_drewN ?_ _)))).mono ?_
  rintro e w1 ⟨rfl, hb1⟩; have hz1 := hb1.size; (try simp at hz1)
  (try dsimp only)
  refine hK.out _ _ (by exact hHeld.below hb1) (fun hHeld => ?_)
  clear hK K
  (try simp only [Act.put, List.setIfInBounds_toArray, List.set_cons_zero, List.set_cons_succ])
  have hF1 : Blk w1 w.heap.size 80 #[.int .i64 0, .int .i64 0, .int .i64 0] := Blk.thru (by (repeat (first | assumption | exact Blk.new _ _ _ | (refine Blk.new' _ _ _ ?_; (simp; done)) | refine Blk.drew ?_ | refine Blk.alloc ?_ _ | (refine Blk.fars ?_ ?_ _ _; rotate_left; (dsimp only; omega)) | (refine Blk.far ?_ ?_ _; rotate_left; (first | (dsimp only; omega) | (simp; done) | (simp; omega) | omega))))) hb1 (by simp)
  have hB1 : Below w.heap.size w w1 := (by repeat (first | exact Below.refl _ _ | assumption | (refine Below.setCell ?_ (by first | omega | (simp; done) | (simp; omega)) _) | (refine Below.alloc ?_ (by first | omega | (simp; done) | (simp; omega)) _) | refine Below.drew ?_ | (refine below_thru ?_ (by assumption) (by first | omega | (simp; done) | (simp; omega))) | refine below_drewN ?_ _))
  (try simp only [List.getElem_toArray, List.getElem_cons_zero, List.getElem_cons_succ, Act.put, List.setIfInBounds_toArray, List.set_cons_zero, List.set_cons_succ])
  refine wpAnyH_ready (rs := [11]) (by kernel_rfl) (by simp) ?_
  refine AllReadyH.cons rfl (fun K hK => ?_) AllReadyH.nil
  refine wanted_of (by rfl) (wp_store_mid (P := Tryz.prog) 80 _ _ rfl (w.heap.size) 0 #[.int .i64 f.part, .int .i64 f.at_, .int .i64 f.e] rfl rfl (Blk.there hF1 (by show 0 + 3 ≤ 3; omega)) (by kernel_rfl) (by simp [Value.oneCell']) ?_)
  refine hK.out _ _ (by exact hHeld.sets (by omega) (by omega) (by omega) (by omega) (by omega) _ _) (fun hHeld => ?_)
  clear hK K
  (try simp only [Act.put, List.setIfInBounds_toArray, List.set_cons_zero, List.set_cons_succ])
  refine wpAnyH_done (by kernel_rfl) ?_ _
  (try simp only [List.getElem_toArray, List.getElem_cons_zero, List.getElem_cons_succ, Act.put, List.setIfInBounds_toArray, List.set_cons_zero, List.set_cons_succ])
  have hFe : Blk (w1.setCells w.heap.size 0 (#[.int .i64 f.part, .int .i64 f.at_, .int .i64 f.e] : Array Value).toList) w.heap.size 80 #[.int .i64 f.part, .int .i64 f.at_, .int .i64 f.e] := Blk.sets hF1 _ _
  have hBe : Below w.heap.size w (w1.setCells w.heap.size 0 (#[.int .i64 f.part, .int .i64 f.at_, .int .i64 f.e] : Array Value).toList) := below_sets hB1 (Nat.le_refl _) _ _
  obtain ⟨fs, hu⟩ := uFault
  go_wp2
  exact bodyPost_ret (results_cell_row rfl _ _ w.heap.size 80 #[.int .i64 f.part, .int .i64 f.at_, .int .i64 f.e] (0, 0) _ rfl hFe hu rfl iFault) rfl ⟨rfl, hBe⟩

def delayE (l : St) (ss : List Gs) (t : Gt) (i : Nat) : Ft := stepFt (gAt l.gs i) (sAt ss i) t
def delayFt (l : St) (ss : List Gs) (sn : Nat) (t : Gt) : Ft := firstF [setFt l, need ((sn : Int) == (l.gn : Int)) 2, eachF (delayE l ss t) 0 l.gn]
set_option maxHeartbeats 1000000 in
theorem de1_any (l : St) (lb : Nat) (w : World) (hl : l.Box w lb) :
    Calls Tryz.prog 92 #[.pointer (some ⟨lb, 0, none⟩)] w fun e w' => e = .returned (setFt l).v ∧ Below w.heap.size w w' := by
  obtain ⟨s0, s1, _, _⟩ := hl.blk.two
  have hlt := hl.blk.lt
  have Hl := Lib.hid hl
  clear hl
  go_enter Tryz.func92, Tryz.ntmps92
  go_wp2_with fail
  refine (setFault_any l _ (Hl.out.at_.grow (by repeat (first | exact Below.refl _ _ | assumption | (refine Below.setCell ?_ (by first | omega | (simp; done) | (simp; omega)) _) | (refine Below.alloc ?_ (by first | omega | (simp; done) | (simp; omega)) _) | refine Below.drew ?_ | (refine below_thru ?_ (by assumption) (by first | omega | (simp; done) | (simp; omega))) | refine below_drewN ?_ _)))).mono ?_
  rintro e w1 ⟨rfl, hb1⟩
  obtain ⟨hc1, hf1⟩ := bcell hb1; have hz1 := hb1.size; (try simp at hz1)
  go_wp2
  exact bodyPost_ret (v := (setFt l).v) (by simp [results, Tryz.results92, go_sem, hc1] <;> omega) rfl ⟨by rfl, (by repeat (first | exact Below.refl _ _ | assumption | (refine Below.setCell ?_ (by first | omega | (simp; done) | (simp; omega)) _) | (refine Below.alloc ?_ (by first | omega | (simp; done) | (simp; omega)) _) | refine Below.drew ?_ | (refine below_thru ?_ (by assumption) (by first | omega | (simp; done) | (simp; omega))) | refine below_drewN ?_ _))⟩
set_option maxHeartbeats 1000000 in
theorem de2_any (sA : Option Addr) (sn sc n xb nb : Nat) (w : World) (hx : Blk w xb 54 #[.slice sA sn sc]) (hn : Blk w nb 3 #[.int .i64 (n : Int)]) :
    Calls Tryz.prog 93 #[.pointer (some ⟨xb, 0, none⟩), .pointer (some ⟨nb, 0, none⟩)] w fun e w' => e = .returned (need ((sn : Int) == (n : Int)) 2).v ∧ Below w.heap.size w w' := by
  have x0 := hx.cell 0
  have n0 := hn.cell 0
  simp only [List.getElem?_toArray, List.getElem?_cons_zero] at x0 n0
  have hxl := hx.lt
  have hnl := hn.lt
  clear hx hn
  go_enter Tryz.func93, Tryz.ntmps93
  go_wp2_with fail
  refine (need_any ((sn : Int) == (n : Int)) 2 _).mono ?_
  rintro e w1 ⟨rfl, hb1⟩
  obtain ⟨hc1, hf1⟩ := bcell hb1; have hz1 := hb1.size; (try simp at hz1)
  go_wp2
  exact bodyPost_ret (v := (need ((sn : Int) == (n : Int)) 2).v) (by simp [results, Tryz.results93, go_sem, hc1] <;> omega) rfl ⟨by rfl, (by repeat (first | exact Below.refl _ _ | assumption | (refine Below.setCell ?_ (by first | omega | (simp; done) | (simp; omega)) _) | (refine Below.alloc ?_ (by first | omega | (simp; done) | (simp; omega)) _) | refine Below.drew ?_ | (refine below_thru ?_ (by assumption) (by first | omega | (simp; done) | (simp; omega))) | refine below_drewN ?_ _))⟩
set_option maxHeartbeats 1000000 in
theorem de3_any (l : St) (ss : List Gs) (t : Gt) (sA : Option Addr) (sn sc lb xb tb nb : Nat) (w : World) (hl : l.Box w lb) (hx : Blk w xb 54 #[.slice sA sn sc]) (ht : Blk w tb 51 #[.int .i64 t.order, .bool t.power, .int .i64 t.outer, .int .i64 t.inner])
    (hnb : Blk w nb 3 #[.int .i64 (l.gn : Int)]) (hs : Tab w w.heap.size sA sn 3 (ss.map Gs.cells)) (hn : l.gn ≤ 1000) (hsn : sn = l.gn) :
    Calls Tryz.prog 94 #[.pointer (some ⟨nb, 0, none⟩), .pointer (some ⟨lb, 0, none⟩), .pointer (some ⟨xb, 0, none⟩), .pointer (some ⟨tb, 0, none⟩)] w fun e w' => e = .returned (eachF (delayE l ss t) 0 l.gn).v ∧ Below w.heap.size w w' := by
  have HE := Lib.hid (fun (W : World) (hW : Below w.heap.size w W) => each3_any W l.gn hn 95 (.pointer (some ⟨lb, 0, none⟩)) (.pointer (some ⟨xb, 0, none⟩)) (.pointer (some ⟨tb, 0, none⟩)) (delayE l ss t) (fun k W' => by show Sem.run Tryz.prog (callFunc _ _) W' = _; kernel_rfl)
    (fun k hk _ W' hb => de31_any l ss t sA sn sc k lb xb tb W' ((hl.grow hW).grow hb) ((hx.thru hW hx.lt).thru hb (hx.thru hW hx.lt).lt) ((ht.thru hW ht.lt).thru hb (ht.thru hW ht.lt).lt) ((hs.grow hW).grow hb) hk hn hsn))
  have n0 := hnb.cell 0
  simp only [List.getElem?_toArray, List.getElem?_cons_zero] at n0
  have hnl := hnb.lt
  clear hl hx ht hnb hs
  generalize eachF (delayE l ss t) 0 l.gn = ef at *
  go_enter Tryz.func94, Tryz.ntmps94
  go_wp2_with fail
  refine (HE.out _ (by repeat (first | exact Below.refl _ _ | assumption | (refine Below.setCell ?_ (by first | omega | (simp; done) | (simp; omega)) _) | (refine Below.alloc ?_ (by first | omega | (simp; done) | (simp; omega)) _) | refine Below.drew ?_ | (refine below_thru ?_ (by assumption) (by first | omega | (simp; done) | (simp; omega))) | refine below_drewN ?_ _))).mono ?_
  rintro e w1 ⟨rfl, hb1⟩
  obtain ⟨hc1, hf1⟩ := bcell hb1; have hz1 := hb1.size; (try simp at hz1)
  go_wp2
  exact bodyPost_ret (v := ef.v) (by simp [results, Tryz.results94, go_sem, hc1] <;> omega) rfl ⟨by rfl, (by repeat (first | exact Below.refl _ _ | assumption | (refine Below.setCell ?_ (by first | omega | (simp; done) | (simp; omega)) _) | (refine Below.alloc ?_ (by first | omega | (simp; done) | (simp; omega)) _) | refine Below.drew ?_ | (refine below_thru ?_ (by assumption) (by first | omega | (simp; done) | (simp; omega))) | refine below_drewN ?_ _))⟩
end Go.Proofs.YtmhfnnpbnocafaaGreat

namespace Go.Proofs.YtmhfnnpbnocafaaGreat
open Go.RowKit
set_option linter.unusedSimpArgs false
set_option linter.unusedVariables false

def delayR (l : St) (ss : List Gs) (sn : Nat) (t : Gt) : Int × Int :=
  if (delayFt l ss sn t).e = 0 then (-(-(toShutF l.rs l.rn t l.gn 2000 0 (machs l.gs ss)).1 / 10), (toShutF l.rs l.rn t l.gn 2000 0 (machs l.gs ss)).2) else (0, (delayFt l ss sn t).e)
theorem nat_of_beq {a b : Nat} (h : ((a : Int) == (b : Int)) = true) : a = b := by
  have : (a : Int) = (b : Int) := by simpa using h
  omega
theorem toShut_in (rs : List Gr) (rn : Nat) (t : Gt) (n : Nat) : ∀ (f k : Nat) (ms : List (Ga × Gs)), f + k ≤ 2000 → 0 ≤ (toShutF rs rn t n f k ms).1 ∧ (toShutF rs rn t n f k ms).1 ≤ 2000
  | 0, k, ms, h => by
    unfold toShutF
    split
    · simp only; omega
    · simp only; omega
  | f + 1, k, ms, h => by
    unfold toShutF
    split
    · simp only; omega
    · exact toShut_in rs rn t n f (k + 1) _ (by omega)
theorem delay_ok {l : St} {ss : List Gs} {sn : Nat} {t : Gt} {w : World} {B : Nat} {A : Option Addr} (hl : l.At w B) (hs : Tab w B A sn 3 (ss.map Gs.cells)) (h : (delayFt l ss sn t).e = 0) : l.Ok ∧ sn = l.gn ∧ t.Ok ∧ ∀ m ∈ machs l.gs ss, m.1.Ok ∧ m.2.Ok m.1 := by
  have h1 := first0 _ h _ (by simp : setFt l ∈ [setFt l, need ((sn : Int) == (l.gn : Int)) 2, eachF (delayE l ss t) 0 l.gn])
  have h2 := need_e (b := ((sn : Int) == (l.gn : Int))) (c := 2) (by omega) (first0 _ h (need ((sn : Int) == (l.gn : Int)) 2) (by simp))
  have h3 := each0 _ _ _ (first0 _ h (eachF (delayE l ss t) 0 l.gn) (by simp))
  have hlo := setFt_ok l w B hl h1
  have hsn : sn = l.gn := nat_of_beq h2
  have hsl : ss.length = sn := by have := hs.1; simpa using this
  have hgl := hl.g.len
  have hk : ∀ (k : Nat) (g : Ga) (s : Gs), l.gs[k]? = some g → ss[k]? = some s → g.Ok ∧ s.Ok g ∧ t.Ok := fun k g s hg hs => by
    have hlt := (List.getElem?_eq_some_iff.1 hg).1
    have := h3 k (by omega) (by omega)
    unfold delayE at this
    rw [gAt_of hg, sAt_of hs] at this
    exact step_ok (hl.g.at_ g (List.mem_of_getElem? hg)) this
  refine ⟨hlo, hsn, ?_, fun m hm => ?_⟩
  · have n0 := hlo.n0
    obtain ⟨g, hg⟩ := get_lt hgl (by omega : 0 < l.gn)
    obtain ⟨s, hs'⟩ := get_lt hsl (by omega : 0 < sn)
    exact (hk 0 g s hg hs').2.2
  · obtain ⟨k, hkm⟩ := List.getElem?_of_mem hm
    unfold machs at hkm
    rw [List.getElem?_zip_eq_some] at hkm
    have := hk k m.1 m.2 hkm.1 hkm.2
    exact ⟨this.1, this.2.1⟩

/-- What the end of Delay reads. -/
structure DlR (W : World) (lb : Nat) (lv : Array Value) (xb : Nat) (sv : Value) (tb : Nat) (t : Gt) : Prop where
  l : Blk W lb 61 lv
  x : Blk W xb 54 #[sv]
  t : Blk W tb 51 #[.int .i64 t.order, .bool t.power, .int .i64 t.outer, .int .i64 t.inner]
section
variable {W W' : World} {lb xb tb : Nat} {lv : Array Value} {sv : Value} {t : Gt}
theorem DlR.below (h : DlR W lb lv xb sv tb t) (hb : Below W.heap.size W W') : DlR W' lb lv xb sv tb t := ⟨h.l.thru hb h.l.lt, h.x.thru hb h.x.lt, h.t.thru hb h.t.lt⟩
theorem DlR.drew (h : DlR W lb lv xb sv tb t) : DlR W.drew lb lv xb sv tb t := ⟨h.l, h.x, h.t⟩
theorem DlR.kept {c : Nat} (h : DlR W lb lv xb sv tb t) (hg : W.grownBy W' (some c)) (h1 : lb ≠ c) (h2 : xb ≠ c) (h3 : tb ≠ c) : DlR W' lb lv xb sv tb t := ⟨h.l.kept hg h1, h.x.kept hg h2, h.t.kept hg h3⟩
end

set_option maxRecDepth 100000 in
set_option maxHeartbeats 8000000 in
theorem Delay_any (l : St) (ss : List Gs) (sA : Option Addr) (sn sc : Nat) (outer inner : Int) (power : Bool) (w : World) (hl : l.At w w.heap.size) (hs : Tab w w.heap.size sA sn 3 (ss.map Gs.cells)) (hsm : sn ≤ maxLen) :
    Calls Tryz.prog 38 #[l.v, .slice sA sn sc, .int .i64 outer, .int .i64 inner, .bool power] w fun e w' => e = .returned (pairV (delayR l ss sn ⟨1, power, outer, inner⟩)) ∧ Below w.heap.size w w' := by
  obtain ⟨t, ht⟩ : ∃ t : Gt, t = ⟨1, power, outer, inner⟩ := ⟨_, rfl⟩
  rw [← ht]
  have hto : t.order = 1 ∧ t.power = power ∧ t.outer = outer ∧ t.inner = inner := by subst ht; exact ⟨rfl, rfl, rfl, rfl⟩
  obtain ⟨t0, t1, t2, t3⟩ := hto
  have hGood : ∀ (W : World) (b0 b1 b2 b3 : Nat), l.Box W b0 → Blk W b1 54 #[.slice sA sn sc] → Tab W W.heap.size sA sn 3 (ss.map Gs.cells) → Blk W b2 51 #[.int .i64 t.order, .bool t.power, .int .i64 t.outer, .int .i64 t.inner] → Blk W b3 3 #[.int .i64 (l.gn : Int)] →
      Good W [⟨92, #[.pointer (some ⟨b0, 0, none⟩)], setFt l⟩, ⟨93, #[.pointer (some ⟨b1, 0, none⟩), .pointer (some ⟨b3, 0, none⟩)], need ((sn : Int) == (l.gn : Int)) 2⟩, ⟨94, #[.pointer (some ⟨b3, 0, none⟩), .pointer (some ⟨b0, 0, none⟩), .pointer (some ⟨b1, 0, none⟩), .pointer (some ⟨b2, 0, none⟩)], eachF (delayE l ss t) 0 l.gn⟩] := by
    intro W b0 b1 b2 b3 h0 h1 hT h2 h3 k x hk hprev W' hW
    match k, hk with
    | 0, hk => cases hk; exact de1_any l b0 W' (h0.grow hW)
    | 1, hk => cases hk; exact de2_any sA sn sc l.gn b1 b3 W' (h1.thru hW h1.lt) (h3.thru hW h3.lt)
    | 2, hk =>
      cases hk
      have e1 := setFt_ok l W W.heap.size h0.at_ (hprev 0 _ (by omega) rfl)
      have e2 := need_e (b := ((sn : Int) == (l.gn : Int))) (c := 2) (by omega) (hprev 1 _ (by omega) rfl)
      have n1 := e1.n1
      exact de3_any l ss t sA sn sc b0 b1 b2 b3 W' (h0.grow hW) (h1.thru hW h1.lt) (h2.thru hW h2.lt) (h3.thru hW h3.lt) (hT.grow hW) (by omega) (nat_of_beq e2)
    | k + 3, hk => simp at hk
  have HGood := Lib.hid hGood
  have Hl := Lib.hid hl
  have Hs := Lib.hid hs
  by_cases h0 : (delayFt l ss sn t).e = 0
  · have hd := delay_ok hl hs h0
    have hf : delayR l ss sn t = (-(-(toShutF l.rs l.rn t l.gn 2000 0 (machs l.gs ss)).1 / 10), (toShutF l.rs l.rn t l.gn 2000 0 (machs l.gs ss)).2) := by unfold delayR; rw [if_pos h0]
    rw [hf]
    clear hf hGood
    obtain ⟨hlo, hsn, hto, hmo⟩ := hd
    rw [← hsn]
    obtain ⟨s0, s1⟩ := toShut_in l.rs l.rn t sn 2000 0 (machs l.gs ss) (by omega)
    have HSO := Lib.hid (fun (W : World) (hW : Below w.heap.size w W) => setOf_any l ss sA sn sc W (hl.grow hW) (hs.grow hW) hsn.symm (by have := hlo.n1; omega))
    have hTS : ∀ (W : World) (b c : Nat), Ms W b (machs l.gs ss) → Below w.heap.size w W → w.heap.size ≤ b → (machs l.gs ss).length = sn →
        Calls Tryz.prog 47 #[setV (some ⟨b, 0, none⟩) sn c l.rA l.rn l.rc, t.v] W fun e w' => e = .returned (pairV (toShutF l.rs l.rn t sn 2000 0 (machs l.gs ss))) ∧ W.grownBy w' (some b) := by
      intro W b c hM hW hbw hml
      exact toShut_any (machs l.gs ss) l.rs t b sn c l.rA l.rn l.rc W hM
        ⟨hml, fun m hm => ((hl.below hW).g.at_ m.1 (by obtain ⟨k, hk⟩ := List.getElem?_of_mem hm; unfold machs at hk; rw [List.getElem?_zip_eq_some] at hk; exact List.mem_of_getElem? hk.1)).more hbw, hmo⟩ (by have := hlo.n0; omega) (by have := hlo.n1; omega) ((hl.below hW).r.more hbw) (by have := hlo.rn; omega) (fun r hr => by have := (hlo.r r hr).2.1; omega) hto
    have HTS := Lib.hid hTS
    clear hTS
    have h0n : 1 ≤ sn := by have := hlo.n0; omega
    obtain ⟨fp, fa, fe, hfl⟩ : ∃ fp fa fe, delayFt l ss sn t = ⟨fp, fa, fe⟩ := ⟨_, _, _, rfl⟩
    have Hfl := Lib.hid hfl
    rw [hfl] at h0
    simp only at h0
    subst h0
    have T0 := Lib.hid t0
    have Hsn := Lib.hid hsn
    generalize toShutF l.rs l.rn t sn 2000 0 (machs l.gs ss) = ts at *
    obtain ⟨n, er⟩ := ts
    simp only at s0 s1
    clear hfl ht t0 hl hs hlo hto hmo hsn
    subst t1 t2 t3
    go_enter Tryz.func38, Tryz.ntmps38
    go_wp2_with fail
    refine (first_any _ (w.heap.size + 1 + 1 + 1 + 1) 0 3 [⟨92, #[.pointer (some ⟨w.heap.size, 0, none⟩)], setFt l⟩, ⟨93, #[.pointer (some ⟨w.heap.size + 1, 0, none⟩), .pointer (some ⟨w.heap.size + 1 + 1 + 1, 0, none⟩)], need ((sn : Int) == (l.gn : Int)) 2⟩, ⟨94, #[.pointer (some ⟨w.heap.size + 1 + 1 + 1, 0, none⟩), .pointer (some ⟨w.heap.size, 0, none⟩), .pointer (some ⟨w.heap.size + 1, 0, none⟩), .pointer (some ⟨w.heap.size + 1 + 1, 0, none⟩)], eachF (delayE l ss t) 0 l.gn⟩] rfl (by omega) (by simp) ?_ (HGood.out _ _ _ _ _ ⟨?_, ?_⟩ ?_ ?_ ?_ ?_) ?_).mono ?_
    · intro k c hk
      match k, hk with
      | 0, hk => cases hk; exact (Blk.new' _ _ _ (by simp)).cell 0
      | 1, hk => cases hk; exact (Blk.new' _ _ _ (by simp)).cell 1
      | 2, hk => cases hk; exact (Blk.new' _ _ _ (by simp)).cell 2
      | k + 3, hk => simp at hk
    · exact ((((Blk.new w _ _).alloc _).alloc _).alloc _).alloc _
    · exact Hl.out.grow (by repeat (first | exact Below.refl _ _ | assumption | (refine Below.setCell ?_ (by first | omega | (simp; done) | (simp; omega)) _) | (refine Below.alloc ?_ (by first | omega | (simp; done) | (simp; omega)) _) | refine Below.drew ?_ | (refine below_thru ?_ (by assumption) (by first | omega | (simp; done) | (simp; omega))) | refine below_drewN ?_ _))
    · exact (((Blk.new' (w.alloc _) _ _ (by simp)).alloc _).alloc _).alloc _
    · exact Hs.out.grow (by repeat (first | exact Below.refl _ _ | assumption | (refine Below.setCell ?_ (by first | omega | (simp; done) | (simp; omega)) _) | (refine Below.alloc ?_ (by first | omega | (simp; done) | (simp; omega)) _) | refine Below.drew ?_ | (refine below_thru ?_ (by assumption) (by first | omega | (simp; done) | (simp; omega))) | refine below_drewN ?_ _))
    · rw [T0.out]; exact ((Blk.new' ((w.alloc _).alloc _) _ _ (by simp)).alloc _).alloc _
    · exact (Blk.new' (((w.alloc _).alloc _).alloc _) _ _ (by simp)).alloc _
    · intro k c hk W
      match k, hk with
      | 0, hk => cases hk; show Sem.run Tryz.prog (callFunc _ _) W = _; kernel_rfl
      | 1, hk => cases hk; show Sem.run Tryz.prog (callFunc _ _) W = _; kernel_rfl
      | 2, hk => cases hk; show Sem.run Tryz.prog (callFunc _ _) W = _; kernel_rfl
      | k + 3, hk => simp at hk
    rintro e w1 ⟨he, hb1⟩
    replace he : e = .returned (delayFt l ss sn t).v := he
    rw [Hfl.out] at he
    subst he
    obtain ⟨hc1, hf1⟩ := bcell hb1; have hz1 := hb1.size; (try simp at hz1)
    have hD1 : DlR w1 w.heap.size #[.slice l.gA l.gn l.gc, .slice l.rA l.rn l.rc] (w.heap.size + 1) (.slice sA sn sc) (w.heap.size + 1 + 1) t :=
      ⟨Blk.thru (by (repeat (first | assumption | exact Blk.new _ _ _ | (refine Blk.new' _ _ _ ?_; (simp; done)) | refine Blk.drew ?_ | refine Blk.alloc ?_ _ | (refine Blk.fars ?_ ?_ _ _; rotate_left; (dsimp only; omega)) | (refine Blk.far ?_ ?_ _; rotate_left; (first | (dsimp only; omega) | (simp; done) | (simp; omega) | omega))))) hb1 (by simp <;> omega), Blk.thru (by (repeat (first | assumption | exact Blk.new _ _ _ | (refine Blk.new' _ _ _ ?_; (simp; done)) | refine Blk.drew ?_ | refine Blk.alloc ?_ _ | (refine Blk.fars ?_ ?_ _ _; rotate_left; (dsimp only; omega)) | (refine Blk.far ?_ ?_ _; rotate_left; (first | (dsimp only; omega) | (simp; done) | (simp; omega) | omega))))) hb1 (by simp <;> omega), Blk.thru (by rw [T0.out]; (repeat (first | assumption | exact Blk.new _ _ _ | (refine Blk.new' _ _ _ ?_; (simp; done)) | refine Blk.drew ?_ | refine Blk.alloc ?_ _ | (refine Blk.fars ?_ ?_ _ _; rotate_left; (dsimp only; omega)) | (refine Blk.far ?_ ?_ _; rotate_left; (first | (dsimp only; omega) | (simp; done) | (simp; omega) | omega))))) hb1 (by simp <;> omega)⟩
    have hD2 := (hD1.below (W' := w1.alloc (.cells #[.int .i64 fp, .int .i64 fa, .int .i64 0] 80)) (by repeat (first | exact Below.refl _ _ | assumption | (refine Below.setCell ?_ (by first | omega | (simp; done) | (simp; omega)) _) | (refine Below.alloc ?_ (by first | omega | (simp; done) | (simp; omega)) _) | refine Below.drew ?_ | (refine below_thru ?_ (by assumption) (by first | omega | (simp; done) | (simp; omega))) | refine below_drewN ?_ _))).drew
    have hB2 : Below w.heap.size w (w1.alloc (.cells #[.int .i64 fp, .int .i64 fa, .int .i64 0] 80)).drew := (by repeat (first | exact Below.refl _ _ | assumption | (refine Below.setCell ?_ (by first | omega | (simp; done) | (simp; omega)) _) | (refine Below.alloc ?_ (by first | omega | (simp; done) | (simp; omega)) _) | refine Below.drew ?_ | (refine below_thru ?_ (by assumption) (by first | omega | (simp; done) | (simp; omega))) | refine below_drewN ?_ _))
    have hz2 : (w1.alloc (.cells #[.int .i64 fp, .int .i64 fa, .int .i64 0] 80)).drew.heap.size = w1.heap.size + 1 := by simp
    clear hD1
    go_wp2_with fail
    generalize hw2 : (w1.alloc (.cells #[.int .i64 fp, .int .i64 fa, .int .i64 0] 80)) = wx at *
    clear hw2
    refine wp_region_held (S := fun W' => DlR W' w.heap.size #[.slice l.gA l.gn l.gc, .slice l.rA l.rn l.rc] (w.heap.size + 1) (.slice sA sn sc) (w.heap.size + 1 + 1) t) (by kernel_rfl) (by exact hD2) (fun hHeld => ?_)
    refine wpAnyH_take (i := 0) (v := ?_) rfl (by kernel_rfl) (by kernel_rfl) (by kernel_rfl) (fun _ _ _ h => h) (Or.inl ⟨by kernel_rfl, ?_⟩) hHeld ?_
    rotate_left
    · intro w hSw; (try dsimp only at hSw); obtain ⟨x1, x2, x3⟩ := hSw; have s0 := x1.cell 0; have s1 := x1.cell 1; have y0 := x2.cell 0; have t0 := x3.cell 0; have t1 := x3.cell 1; have t2 := x3.cell 2; have t3 := x3.cell 3; simp only [List.getElem?_toArray, List.getElem?_cons_zero, List.getElem?_cons_succ] at s0 s1 y0 t0 t1 t2 t3; go_simp; (try with_reducible rfl)
    (try simp only [Act.put, List.setIfInBounds_toArray, List.set_cons_zero, List.set_cons_succ])
    refine wpAnyH_take (i := 1) (v := ?_) rfl (by kernel_rfl) (by kernel_rfl) (by kernel_rfl) (fun _ _ _ h => h) (Or.inl ⟨by kernel_rfl, ?_⟩) hHeld ?_
    rotate_left
    · intro w hSw; (try dsimp only at hSw); obtain ⟨x1, x2, x3⟩ := hSw; have s0 := x1.cell 0; have s1 := x1.cell 1; have y0 := x2.cell 0; have t0 := x3.cell 0; have t1 := x3.cell 1; have t2 := x3.cell 2; have t3 := x3.cell 3; simp only [List.getElem?_toArray, List.getElem?_cons_zero, List.getElem?_cons_succ] at s0 s1 y0 t0 t1 t2 t3; go_simp; (try with_reducible rfl)
    (try simp only [Act.put, List.setIfInBounds_toArray, List.set_cons_zero, List.set_cons_succ])
    refine wpAnyH_take (i := 3) (v := ?_) rfl (by kernel_rfl) (by kernel_rfl) (by kernel_rfl) (fun _ _ _ h => h) (Or.inl ⟨by kernel_rfl, ?_⟩) hHeld ?_
    rotate_left
    · intro w hSw; (try dsimp only at hSw); obtain ⟨x1, x2, x3⟩ := hSw; have s0 := x1.cell 0; have s1 := x1.cell 1; have y0 := x2.cell 0; have t0 := x3.cell 0; have t1 := x3.cell 1; have t2 := x3.cell 2; have t3 := x3.cell 3; simp only [List.getElem?_toArray, List.getElem?_cons_zero, List.getElem?_cons_succ] at s0 s1 y0 t0 t1 t2 t3; go_simp; (try with_reducible rfl)
    (try simp only [Act.put, List.setIfInBounds_toArray, List.set_cons_zero, List.set_cons_succ])
    (try simp only [List.getElem_toArray, List.getElem_cons_zero, List.getElem_cons_succ, Act.put, List.setIfInBounds_toArray, List.set_cons_zero, List.set_cons_succ])
    refine wpAnyH_ready (rs := [2]) (by kernel_rfl) (by simp) ?_
    refine AllReadyH.cons rfl (fun K hK => ?_) AllReadyH.nil
    go_simp
    refine (HSO.out _ hB2).mono ?_
    rintro e w3 ⟨A, c, rfl, hown, hb3⟩; have hz3 := hb3.size
    (try dsimp only)
    refine hK.out _ _ (by exact hHeld.below hb3) (fun hHeld => ?_)
    clear hK K
    (try simp only [Act.put, List.setIfInBounds_toArray, List.set_cons_zero, List.set_cons_succ])
    obtain ⟨b, rfl, _, hbb, hms, hml⟩ := ms_of_owns hown (by omega)
    (try simp at hz2 hbb)
    have hB3 : Below w.heap.size w w3 := hB2.trans (hb3.mono (by simp; omega))
    have hbl := hms.lt
    (try simp only [List.getElem_toArray, List.getElem_cons_zero, List.getElem_cons_succ, Act.put, List.setIfInBounds_toArray, List.set_cons_zero, List.set_cons_succ])
    have hcall : Calls Tryz.prog 47 #[setV (some ⟨b, 0, none⟩) sn c l.rA l.rn l.rc, t.v] w3 fun e w' => e = .returned (.tuple #[.int .i64 n, .int .i64 er]) ∧ w3.grownBy w' (some b) := HTS.out w3 b c hms hB3 (by omega) hml
    refine wpAnyH_ready (rs := [4]) (by kernel_rfl) (by simp) ?_
    refine AllReadyH.cons rfl (fun K hK => ?_) AllReadyH.nil
    go_simp
    refine (hcall).mono ?_
    rintro e w4 ⟨rfl, hg4⟩; have hz4 := hg4.size
    (try dsimp only)
    refine hK.out _ _ (by exact hHeld.kept hg4 (by omega) (by omega) (by omega)) (fun hHeld => ?_)
    clear hK K
    (try simp only [Act.put, List.setIfInBounds_toArray, List.set_cons_zero, List.set_cons_succ])
    have hB4 : Below w.heap.size w w4 := hB3.trans (below_of_grown hg4 (by omega) (by omega))
    clear hg4 hms hown hb3 hB3 hB2 hD2
    (try simp only [List.getElem_toArray, List.getElem_cons_zero, List.getElem_cons_succ, Act.put, List.setIfInBounds_toArray, List.set_cons_zero, List.set_cons_succ])
    refine wpAnyH_take (i := 5) (v := ?_) rfl (by kernel_rfl) (by kernel_rfl) (by kernel_rfl) (fun _ _ _ h => h) (Or.inl ⟨by kernel_rfl, ?_⟩) hHeld ?_
    rotate_left
    · intro w hSw; (try dsimp only at hSw); skip; go_simp; (try with_reducible rfl)
    (try simp only [Act.put, List.setIfInBounds_toArray, List.set_cons_zero, List.set_cons_succ])
    refine wpAnyH_take (i := 6) (v := ?_) rfl (by kernel_rfl) (by kernel_rfl) (by kernel_rfl) (fun _ _ _ h => h) (Or.inl ⟨by kernel_rfl, ?_⟩) hHeld ?_
    rotate_left
    · intro w hSw; (try dsimp only at hSw); skip; go_simp; (try with_reducible rfl)
    (try simp only [Act.put, List.setIfInBounds_toArray, List.set_cons_zero, List.set_cons_succ])
    refine wpAnyH_take (i := 7) (v := ?_) rfl (by kernel_rfl) (by kernel_rfl) (by kernel_rfl) (fun _ _ _ h => h) (Or.inl ⟨by kernel_rfl, ?_⟩) hHeld ?_
    rotate_left
    · intro w hSw; (try dsimp only at hSw); skip; go_simp; (try with_reducible rfl)
    (try simp only [Act.put, List.setIfInBounds_toArray, List.set_cons_zero, List.set_cons_succ])
    refine wpAnyH_take (i := 8) (v := ?_) rfl (by kernel_rfl) (by kernel_rfl) (by kernel_rfl) (fun _ _ _ h => h) (Or.inl ⟨by kernel_rfl, ?_⟩) hHeld ?_
    rotate_left
    · intro w hSw; (try dsimp only at hSw); skip; go_simp; (try with_reducible rfl)
    (try simp only [Act.put, List.setIfInBounds_toArray, List.set_cons_zero, List.set_cons_succ])
    refine wpAnyH_take (i := 9) (v := ?_) rfl (by kernel_rfl) (by kernel_rfl) (by kernel_rfl) (fun _ _ _ h => h) (Or.inl ⟨by kernel_rfl, ?_⟩) hHeld ?_
    rotate_left
    · intro w hSw; (try dsimp only at hSw); skip; go_simp; (try with_reducible rfl)
    (try simp only [Act.put, List.setIfInBounds_toArray, List.set_cons_zero, List.set_cons_succ])
    refine wpAnyH_done (by kernel_rfl) ?_ _
    (try simp only [List.getElem_toArray, List.getElem_cons_zero, List.getElem_cons_succ, Act.put, List.setIfInBounds_toArray, List.set_cons_zero, List.set_cons_succ])
    go_wp2_with fail
    refine (ceilDiv_any n 10 _ (by omega) (by omega) (by omega)).mono ?_
    rintro e w5 ⟨rfl, rfl⟩
    go_wp2
    go_ret2
    exact ⟨rfl, hB4⟩
  · have hf : delayR l ss sn t = (0, (delayFt l ss sn t).e) := by unfold delayR; rw [if_neg h0]
    rw [hf]
    clear hf hGood hl hs
    obtain ⟨fp, fa, fe, hfl⟩ : ∃ fp fa fe, delayFt l ss sn t = ⟨fp, fa, fe⟩ := ⟨_, _, _, rfl⟩
    have Hfl := Lib.hid hfl
    rw [hfl] at h0 ⊢
    simp only at h0
    have h0' : (fe != 0) = true := by rw [bne_iff_ne]; exact h0
    have T0 := Lib.hid t0
    clear hfl h0 ht t0
    subst t1 t2 t3
    go_enter Tryz.func38, Tryz.ntmps38
    go_wp2_with fail
    refine (first_any _ (w.heap.size + 1 + 1 + 1 + 1) 0 3 [⟨92, #[.pointer (some ⟨w.heap.size, 0, none⟩)], setFt l⟩, ⟨93, #[.pointer (some ⟨w.heap.size + 1, 0, none⟩), .pointer (some ⟨w.heap.size + 1 + 1 + 1, 0, none⟩)], need ((sn : Int) == (l.gn : Int)) 2⟩, ⟨94, #[.pointer (some ⟨w.heap.size + 1 + 1 + 1, 0, none⟩), .pointer (some ⟨w.heap.size, 0, none⟩), .pointer (some ⟨w.heap.size + 1, 0, none⟩), .pointer (some ⟨w.heap.size + 1 + 1, 0, none⟩)], eachF (delayE l ss t) 0 l.gn⟩] rfl (by omega) (by simp) ?_ (HGood.out _ _ _ _ _ ⟨?_, ?_⟩ ?_ ?_ ?_ ?_) ?_).mono ?_
    · intro k c hk
      match k, hk with
      | 0, hk => cases hk; exact (Blk.new' _ _ _ (by simp)).cell 0
      | 1, hk => cases hk; exact (Blk.new' _ _ _ (by simp)).cell 1
      | 2, hk => cases hk; exact (Blk.new' _ _ _ (by simp)).cell 2
      | k + 3, hk => simp at hk
    · exact ((((Blk.new w _ _).alloc _).alloc _).alloc _).alloc _
    · exact Hl.out.grow (by repeat (first | exact Below.refl _ _ | assumption | (refine Below.setCell ?_ (by first | omega | (simp; done) | (simp; omega)) _) | (refine Below.alloc ?_ (by first | omega | (simp; done) | (simp; omega)) _) | refine Below.drew ?_ | (refine below_thru ?_ (by assumption) (by first | omega | (simp; done) | (simp; omega))) | refine below_drewN ?_ _))
    · exact (((Blk.new' (w.alloc _) _ _ (by simp)).alloc _).alloc _).alloc _
    · exact Hs.out.grow (by repeat (first | exact Below.refl _ _ | assumption | (refine Below.setCell ?_ (by first | omega | (simp; done) | (simp; omega)) _) | (refine Below.alloc ?_ (by first | omega | (simp; done) | (simp; omega)) _) | refine Below.drew ?_ | (refine below_thru ?_ (by assumption) (by first | omega | (simp; done) | (simp; omega))) | refine below_drewN ?_ _))
    · rw [T0.out]; exact ((Blk.new' ((w.alloc _).alloc _) _ _ (by simp)).alloc _).alloc _
    · exact (Blk.new' (((w.alloc _).alloc _).alloc _) _ _ (by simp)).alloc _
    · intro k c hk W
      match k, hk with
      | 0, hk => cases hk; show Sem.run Tryz.prog (callFunc _ _) W = _; kernel_rfl
      | 1, hk => cases hk; show Sem.run Tryz.prog (callFunc _ _) W = _; kernel_rfl
      | 2, hk => cases hk; show Sem.run Tryz.prog (callFunc _ _) W = _; kernel_rfl
      | k + 3, hk => simp at hk
    rintro e w1 ⟨he, hb1⟩
    replace he : e = .returned (delayFt l ss sn t).v := he
    rw [Hfl.out] at he
    subst he
    obtain ⟨hc1, hf1⟩ := bcell hb1; have hz1 := hb1.size; (try simp at hz1)
    have hl1 : w.heap.size < w1.heap.size := by omega
    go_wp2_with fail
    go_quiet (fail)
    go_wp2
    go_ret2
    exact ⟨rfl, (by repeat (first | exact Below.refl _ _ | assumption | (refine Below.setCell ?_ (by first | omega | (simp; done) | (simp; omega)) _) | (refine Below.alloc ?_ (by first | omega | (simp; done) | (simp; omega)) _) | refine Below.drew ?_ | (refine below_thru ?_ (by assumption) (by first | omega | (simp; done) | (simp; omega))) | refine below_drewN ?_ _))⟩
end Go.Proofs.YtmhfnnpbnocafaaGreat

namespace Go.Proofs.YtmhfnnpbnocafaaGreat
open Go.RowKit
set_option linter.unusedSimpArgs false
set_option linter.unusedVariables false

def timeR (g : Ga) (s : Gs) (t : Gt) : Int × Int := if (stepFt g s t).e = 0 then toShutF [] 0 t 1 2000 0 [(g, s)] else (0, (stepFt g s t).e)
/-- What the end of Time reads. -/
structure TiR (W : World) (gb : Nat) (g : Ga) (sb : Nat) (s : Gs) (tb : Nat) (t : Gt) : Prop where
  g : Blk W gb 25 (grow g)
  s : Blk W sb 27 #[.int .i64 s.pos, .int .i64 s.charge, .bool s.bolted]
  t : Blk W tb 51 #[.int .i64 t.order, .bool t.power, .int .i64 t.outer, .int .i64 t.inner]
section
variable {W W' : World} {gb sb tb : Nat} {g : Ga} {s : Gs} {t : Gt}
theorem TiR.below (h : TiR W gb g sb s tb t) (hb : Below W.heap.size W W') : TiR W' gb g sb s tb t := ⟨h.g.thru hb h.g.lt, h.s.thru hb h.s.lt, h.t.thru hb h.t.lt⟩
theorem TiR.drew (h : TiR W gb g sb s tb t) : TiR W.drew gb g sb s tb t := ⟨h.g, h.s, h.t⟩
theorem TiR.kept {c : Nat} (h : TiR W gb g sb s tb t) (hg : W.grownBy W' (some c)) (h1 : gb ≠ c) (h2 : sb ≠ c) (h3 : tb ≠ c) : TiR W' gb g sb s tb t := ⟨h.g.kept hg h1, h.s.kept hg h2, h.t.kept hg h3⟩
end

set_option maxRecDepth 100000 in
set_option maxHeartbeats 8000000 in
theorem Time_any (g : Ga) (s : Gs) (outer inner : Int) (power : Bool) (w : World) (hg : g.At w w.heap.size) :
    Calls Tryz.prog 18 #[g.v, s.v, .int .i64 outer, .int .i64 inner, .bool power] w fun e w' => e = .returned (pairV (timeR g s ⟨1, power, outer, inner⟩)) ∧ Below w.heap.size w w' := by
  obtain ⟨t, ht⟩ : ∃ t : Gt, t = ⟨1, power, outer, inner⟩ := ⟨_, rfl⟩
  rw [← ht]
  have hto : t.order = 1 ∧ t.power = power ∧ t.outer = outer ∧ t.inner = inner := by subst ht; exact ⟨rfl, rfl, rfl, rfl⟩
  obtain ⟨t0, t1, t2, t3⟩ := hto
  have Hg := Lib.hid hg
  have hSF : ∀ W, g.At W W.heap.size → Calls Tryz.prog 45 #[g.v, s.v, .agg #[.int .i64 1, .bool t.power, .int .i64 t.outer, .int .i64 t.inner]] W fun e w' => e = .returned (stepFt g s t).v ∧ Below W.heap.size W w' := fun W h => by
    have := stepFault_any g s t W h
    rwa [show t.v = .agg #[.int .i64 1, .bool t.power, .int .i64 t.outer, .int .i64 t.inner] by rw [← t0]] at this
  have HS := Lib.hid hSF
  by_cases h0 : (stepFt g s t).e = 0
  · obtain ⟨hgo, hso, hto⟩ := step_ok hg h0
    have hf : timeR g s t = toShutF [] 0 t 1 2000 0 [(g, s)] := by unfold timeR; rw [if_pos h0]
    rw [hf]
    have hTS : ∀ (W : World) (b : Nat), Ms W b [(g, s)] → Below w.heap.size w W → w.heap.size ≤ b →
        Calls Tryz.prog 47 #[setV (some ⟨b, 0, none⟩) 1 1 none 0 0, .agg #[.int .i64 1, .bool t.power, .int .i64 t.outer, .int .i64 t.inner]] W fun e w' => e = .returned (pairV (toShutF [] 0 t 1 2000 0 [(g, s)])) ∧ W.grownBy w' (some b) := by
      intro W b hM hW hbw
      have := toShut_any [(g, s)] [] t b 1 1 none 0 0 W hM ⟨rfl, fun m hm => by simp only [List.mem_singleton] at hm; subst hm; exact (hg.below hW).more hbw, fun m hm => by simp only [List.mem_singleton] at hm; subst hm; exact ⟨hgo, hso⟩⟩ (by omega) (by omega) ⟨rfl, fun h => absurd h (by omega)⟩ (by omega) (fun r hr => by cases hr) hto
      rwa [show t.v = .agg #[.int .i64 1, .bool t.power, .int .i64 t.outer, .int .i64 t.inner] by rw [← t0]] at this
    have HTS := Lib.hid hTS
    obtain ⟨fp, fa, fe, hfl⟩ : ∃ fp fa fe, stepFt g s t = ⟨fp, fa, fe⟩ := ⟨_, _, _, rfl⟩
    rw [hfl] at HS h0
    simp only at h0
    subst h0
    have T0 := Lib.hid t0
    generalize toShutF [] 0 t 1 2000 0 [(g, s)] = ts at *
    obtain ⟨n, er⟩ := ts
    clear hfl ht t0 hf hgo hso hto hTS hSF hg
    subst t1 t2 t3
    go_enter Tryz.func18, Tryz.ntmps18
    go_wp2_with (with_reducible refine wpl_g (g := g) (((Blk.new w _ _).alloc _).alloc _) rfl rfl rfl ?_)
    refine (HS.out _ (Hg.out.grow (by repeat (first | exact Below.refl _ _ | assumption | (refine Below.setCell ?_ (by first | omega | (simp; done) | (simp; omega)) _) | (refine Below.alloc ?_ (by first | omega | (simp; done) | (simp; omega)) _) | refine Below.drew ?_ | (refine below_thru ?_ (by assumption) (by first | omega | (simp; done) | (simp; omega))) | refine below_drewN ?_ _)))).mono ?_
    rintro e w1 ⟨rfl, hb1⟩
    obtain ⟨hc1, hf1⟩ := bcell hb1; have hz1 := hb1.size; (try simp at hz1)
    have hl1 : w.heap.size < w1.heap.size := by omega
    have hT1 : TiR w1 w.heap.size g (w.heap.size + 1) s (w.heap.size + 1 + 1) t :=
      ⟨Blk.thru (by (repeat (first | assumption | exact Blk.new _ _ _ | (refine Blk.new' _ _ _ ?_; (simp; done)) | refine Blk.drew ?_ | refine Blk.alloc ?_ _ | (refine Blk.fars ?_ ?_ _ _; rotate_left; (dsimp only; omega)) | (refine Blk.far ?_ ?_ _; rotate_left; (first | (dsimp only; omega) | (simp; done) | (simp; omega) | omega))))) hb1 (by simp <;> omega), Blk.thru (by (repeat (first | assumption | exact Blk.new _ _ _ | (refine Blk.new' _ _ _ ?_; (simp; done)) | refine Blk.drew ?_ | refine Blk.alloc ?_ _ | (refine Blk.fars ?_ ?_ _ _; rotate_left; (dsimp only; omega)) | (refine Blk.far ?_ ?_ _; rotate_left; (first | (dsimp only; omega) | (simp; done) | (simp; omega) | omega))))) hb1 (by simp <;> omega), Blk.thru (by rw [T0.out]; (repeat (first | assumption | exact Blk.new _ _ _ | (refine Blk.new' _ _ _ ?_; (simp; done)) | refine Blk.drew ?_ | refine Blk.alloc ?_ _ | (refine Blk.fars ?_ ?_ _ _; rotate_left; (dsimp only; omega)) | (refine Blk.far ?_ ?_ _; rotate_left; (first | (dsimp only; omega) | (simp; done) | (simp; omega) | omega))))) hb1 (by simp <;> omega)⟩
    have hT2 := (hT1.below (W' := w1.alloc (.cells #[.int .i64 fp, .int .i64 fa, .int .i64 0] 80)) (by repeat (first | exact Below.refl _ _ | assumption | (refine Below.setCell ?_ (by first | omega | (simp; done) | (simp; omega)) _) | (refine Below.alloc ?_ (by first | omega | (simp; done) | (simp; omega)) _) | refine Below.drew ?_ | (refine below_thru ?_ (by assumption) (by first | omega | (simp; done) | (simp; omega))) | refine below_drewN ?_ _))).drew
    have hB2 : Below w.heap.size w (w1.alloc (.cells #[.int .i64 fp, .int .i64 fa, .int .i64 0] 80)).drew := (by repeat (first | exact Below.refl _ _ | assumption | (refine Below.setCell ?_ (by first | omega | (simp; done) | (simp; omega)) _) | (refine Below.alloc ?_ (by first | omega | (simp; done) | (simp; omega)) _) | refine Below.drew ?_ | (refine below_thru ?_ (by assumption) (by first | omega | (simp; done) | (simp; omega))) | refine below_drewN ?_ _))
    have hz2 : (w1.alloc (.cells #[.int .i64 fp, .int .i64 fa, .int .i64 0] 80)).drew.heap.size = w1.heap.size + 1 := by simp
    clear hT1
    go_wp2_with fail
    generalize hw2 : (w1.alloc (.cells #[.int .i64 fp, .int .i64 fa, .int .i64 0] 80)) = wx at *
    clear hw2
    refine wp_region_held (S := fun W' => TiR W' w.heap.size g (w.heap.size + 1) s (w.heap.size + 1 + 1) t) (by kernel_rfl) (by exact hT2) (fun hHeld => ?_)
    refine wpAnyH_take (i := 0) (v := g.v) rfl (by kernel_rfl) (by kernel_rfl) (by kernel_rfl) (fun _ _ _ h => h) (Or.inl ⟨by rfl, fun w hSw => ld_g rfl rfl hSw.g⟩) hHeld ?_
    (try simp only [Act.put, List.setIfInBounds_toArray, List.set_cons_zero, List.set_cons_succ])
    refine wpAnyH_take (i := 1) (v := ?_) rfl (by kernel_rfl) (by kernel_rfl) (by kernel_rfl) (fun _ _ _ h => h) (Or.inl ⟨by kernel_rfl, ?_⟩) hHeld ?_
    rotate_left
    · intro w hSw; (try dsimp only at hSw); obtain ⟨x1, x2, x3⟩ := hSw; have s0 := x2.cell 0; have s1 := x2.cell 1; have s2 := x2.cell 2; have t0 := x3.cell 0; have t1 := x3.cell 1; have t2 := x3.cell 2; have t3 := x3.cell 3; simp only [List.getElem?_toArray, List.getElem?_cons_zero, List.getElem?_cons_succ] at s0 s1 s2 t0 t1 t2 t3; rw [T0.out] at t0; go_simp; (try with_reducible rfl)
    (try simp only [Act.put, List.setIfInBounds_toArray, List.set_cons_zero, List.set_cons_succ])
    refine wpAnyH_take (i := 3) (v := ?_) rfl (by kernel_rfl) (by kernel_rfl) (by kernel_rfl) (fun _ _ _ h => h) (Or.inl ⟨by kernel_rfl, ?_⟩) hHeld ?_
    rotate_left
    · intro w hSw; (try dsimp only at hSw); obtain ⟨x1, x2, x3⟩ := hSw; have s0 := x2.cell 0; have s1 := x2.cell 1; have s2 := x2.cell 2; have t0 := x3.cell 0; have t1 := x3.cell 1; have t2 := x3.cell 2; have t3 := x3.cell 3; simp only [List.getElem?_toArray, List.getElem?_cons_zero, List.getElem?_cons_succ] at s0 s1 s2 t0 t1 t2 t3; rw [T0.out] at t0; go_simp; (try with_reducible rfl)
    (try simp only [Act.put, List.setIfInBounds_toArray, List.set_cons_zero, List.set_cons_succ])
    (try simp only [List.getElem_toArray, List.getElem_cons_zero, List.getElem_cons_succ, Act.put, List.setIfInBounds_toArray, List.set_cons_zero, List.set_cons_succ])
    refine wpAnyH_ready (rs := [2]) (by kernel_rfl) (by simp) ?_
    refine AllReadyH.cons rfl (fun K hK => ?_) AllReadyH.nil
    go_simp
    refine (alone_any g s _).mono ?_
    rintro e w3 ⟨b, rfl, hbb, hbm, hb3⟩; have hz3 := hb3.size
    (try dsimp only)
    refine hK.out _ _ (by exact hHeld.below hb3) (fun hHeld => ?_)
    clear hK K
    (try simp only [Act.put, List.setIfInBounds_toArray, List.set_cons_zero, List.set_cons_succ])
    (try simp at hz2 hbb hz3)
    have hB3 : Below w.heap.size w w3 := hB2.trans (hb3.mono (by simp; omega))
    have hbl := hbm.lt
    have hcall : Calls Tryz.prog 47 #[setV (some ⟨b, 0, none⟩) 1 1 none 0 0, .agg #[.int .i64 1, .bool t.power, .int .i64 t.outer, .int .i64 t.inner]] w3 fun e w' => e = .returned (.tuple #[.int .i64 n, .int .i64 er]) ∧ w3.grownBy w' (some b) := HTS.out w3 b (Ms.one hbm) hB3 (by omega)
    (try simp only [List.getElem_toArray, List.getElem_cons_zero, List.getElem_cons_succ, Act.put, List.setIfInBounds_toArray, List.set_cons_zero, List.set_cons_succ])
    refine wpAnyH_ready (rs := [4]) (by kernel_rfl) (by simp) ?_
    refine AllReadyH.cons rfl (fun K hK => ?_) AllReadyH.nil
    go_simp
    refine (hcall).mono ?_
    rintro e w4 ⟨rfl, hg4⟩; have hz4 := hg4.size
    (try dsimp only)
    refine hK.out _ _ (by exact hHeld.kept hg4 (by omega) (by omega) (by omega)) (fun hHeld => ?_)
    clear hK K
    (try simp only [Act.put, List.setIfInBounds_toArray, List.set_cons_zero, List.set_cons_succ])
    have hB4 : Below w.heap.size w w4 := hB3.trans (below_of_grown hg4 (by omega) (by omega))
    clear hg4 hbm hb3 hB3 hB2 hT2
    refine wpAnyH_take (i := 5) (v := ?_) rfl (by kernel_rfl) (by kernel_rfl) (by kernel_rfl) (fun _ _ _ h => h) (Or.inl ⟨by kernel_rfl, ?_⟩) hHeld ?_
    rotate_left
    · intro w hSw; (try dsimp only at hSw); skip; go_simp; (try with_reducible rfl)
    (try simp only [Act.put, List.setIfInBounds_toArray, List.set_cons_zero, List.set_cons_succ])
    refine wpAnyH_take (i := 6) (v := ?_) rfl (by kernel_rfl) (by kernel_rfl) (by kernel_rfl) (fun _ _ _ h => h) (Or.inl ⟨by kernel_rfl, ?_⟩) hHeld ?_
    rotate_left
    · intro w hSw; (try dsimp only at hSw); skip; go_simp; (try with_reducible rfl)
    (try simp only [Act.put, List.setIfInBounds_toArray, List.set_cons_zero, List.set_cons_succ])
    refine wpAnyH_take (i := 7) (v := ?_) rfl (by kernel_rfl) (by kernel_rfl) (by kernel_rfl) (fun _ _ _ h => h) (Or.inl ⟨by kernel_rfl, ?_⟩) hHeld ?_
    rotate_left
    · intro w hSw; (try dsimp only at hSw); skip; go_simp; (try with_reducible rfl)
    (try simp only [Act.put, List.setIfInBounds_toArray, List.set_cons_zero, List.set_cons_succ])
    refine wpAnyH_take (i := 8) (v := ?_) rfl (by kernel_rfl) (by kernel_rfl) (by kernel_rfl) (fun _ _ _ h => h) (Or.inl ⟨by kernel_rfl, ?_⟩) hHeld ?_
    rotate_left
    · intro w hSw; (try dsimp only at hSw); skip; go_simp; (try with_reducible rfl)
    (try simp only [Act.put, List.setIfInBounds_toArray, List.set_cons_zero, List.set_cons_succ])
    refine wpAnyH_done (by kernel_rfl) ?_ _
    (try simp only [List.getElem_toArray, List.getElem_cons_zero, List.getElem_cons_succ, Act.put, List.setIfInBounds_toArray, List.set_cons_zero, List.set_cons_succ])
    go_wp2
    go_ret2
    exact ⟨rfl, hB4⟩
  · have hf : timeR g s t = (0, (stepFt g s t).e) := by unfold timeR; rw [if_neg h0]
    rw [hf]
    clear hf hSF hg
    obtain ⟨fp, fa, fe, hfl⟩ : ∃ fp fa fe, stepFt g s t = ⟨fp, fa, fe⟩ := ⟨_, _, _, rfl⟩
    rw [hfl] at HS h0 ⊢
    simp only at h0
    have h0' : (fe != 0) = true := by rw [bne_iff_ne]; exact h0
    clear hfl h0 ht t0
    subst t1 t2 t3
    go_enter Tryz.func18, Tryz.ntmps18
    go_wp2_with (with_reducible refine wpl_g (g := g) (((Blk.new w _ _).alloc _).alloc _) rfl rfl rfl ?_)
    refine (HS.out _ (Hg.out.grow (by repeat (first | exact Below.refl _ _ | assumption | (refine Below.setCell ?_ (by first | omega | (simp; done) | (simp; omega)) _) | (refine Below.alloc ?_ (by first | omega | (simp; done) | (simp; omega)) _) | refine Below.drew ?_ | (refine below_thru ?_ (by assumption) (by first | omega | (simp; done) | (simp; omega))) | refine below_drewN ?_ _)))).mono ?_
    rintro e w1 ⟨rfl, hb1⟩
    obtain ⟨hc1, hf1⟩ := bcell hb1; have hz1 := hb1.size; (try simp at hz1)
    have hl1 : w.heap.size < w1.heap.size := by omega
    go_wp2_with fail
    go_quiet (fail)
    go_wp2
    go_ret2
    exact ⟨rfl, (by repeat (first | exact Below.refl _ _ | assumption | (refine Below.setCell ?_ (by first | omega | (simp; done) | (simp; omega)) _) | (refine Below.alloc ?_ (by first | omega | (simp; done) | (simp; omega)) _) | refine Below.drew ?_ | (refine below_thru ?_ (by assumption) (by first | omega | (simp; done) | (simp; omega))) | refine below_drewN ?_ _))⟩
end Go.Proofs.YtmhfnnpbnocafaaGreat
