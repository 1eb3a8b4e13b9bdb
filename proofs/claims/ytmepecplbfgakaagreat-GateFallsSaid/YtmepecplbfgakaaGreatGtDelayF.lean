/- The faults of what Delay is asked. -/
import Derived.Test.YtmepecplbfgakaaGreatGtSetOf
import Derived.Test.YtmepecplbfgakaaGreatGtToShut
namespace Go.Proofs.YtmepecplbfgakaaGreat
open Go.RowKit
set_option linter.unusedSimpArgs false
set_option linter.unusedVariables false

set_option maxRecDepth 100000 in
set_option maxHeartbeats 1000000 in
theorem each3_any (w : World) (n : Nat) (hmax : n ≤ 1000) (f : FuncId) (c0 c1 c2 : Value) (r : Nat → Ft)
    (hp : ∀ (k : Nat) (W : World), Sem.run Tryz.prog (callFunc f #[.int .i64 k, c0, c1, c2]) W = .ok (.enter f #[.int .i64 k, c0, c1, c2]) W)
    (hg : ∀ k, k < n → (∀ j, j < k → (r j).e = 0) → ∀ W, Below w.heap.size w W → Calls Tryz.prog f #[.int .i64 k, c0, c1, c2] W fun e w' => e = .returned (r k).v ∧ Below W.heap.size W w') :
    Calls Tryz.prog 81 #[.int .i64 n, .func (.func f) #[] #[c0, c1, c2]] w fun e w' => e = .returned (eachF r 0 n).v ∧ Below w.heap.size w w' := by
  have Hg := Lib.hid hg; clear hg
  have Hp := Lib.hid hp; clear hp
  go_enter Tryz.func81, Tryz.ntmps81
  go_wp2
  go_loopw [8] (fun i wr => ∃ k : Nat, k ≤ n ∧ i = .int .i64 k ∧ Hid (∀ j, j < k → (r j).e = 0) ∧ Below (w.heap.size + 1) (w.alloc (.cells #[.int .i64 0, .int .i64 0, .int .i64 0] 94)) wr)
    (fun i _ => n - (intOf i).toNat)
  case atStart => exact ⟨0, Nat.zero_le _, rfl, fun j h => by omega, Below.refl _ _⟩
  case round =>
    obtain ⟨k, hk, rfl, hprev, hbr⟩ := hrel
    obtain ⟨hcr, hfr⟩ := bcell (W := w.alloc (.cells #[.int .i64 0, .int .i64 0, .int .i64 0] 94)) (by simpa using hbr)
    have hzr := hbr.size
    simp at hzr
    have hlr : w.heap.size < wr.heap.size := by omega
    by_cases hlt : k < n
    · have hpl : ∀ W : World, Sem.run Tryz.prog (callFunc f #[.int .i64 k, c0, c1, c2]) W = .ok (.enter f #[.int .i64 k, c0, c1, c2]) W := Hp.out k
      go_wp2_with fail
      refine (Hg.out k hlt hprev.out wr ⟨hbr.os, hbr.tape, hbr.output, by omega, fun i hi => (hbr.block i (by omega)).trans (Below.heap_alloc w _ i hi)⟩).mono ?_
      rintro e w1 ⟨rfl, hb1⟩
      obtain ⟨hc1, hf1⟩ := bcell hb1; have hz1 := hb1.size; (try simp at hz1)
      have hl1 : w.heap.size < w1.heap.size := by omega
      obtain ⟨r1, r2, r3, hr⟩ : ∃ r1 r2 r3, r k = ⟨r1, r2, r3⟩ := ⟨_, _, _, rfl⟩
      have Hr := Lib.hid hr
      rw [hr]
      clear hr
      by_cases h0 : r3 = 0
      · subst h0
        go_wp2
        go_roundw
        case rel =>
          refine ⟨k + 1, by omega, by go_num, ?_, ?_⟩
          · intro j hj
            rcases Nat.lt_or_ge j k with h | h
            · exact hprev.out j h
            · obtain rfl : j = k := by omega
              rw [Hr.out]
          · exact (by repeat (first | exact Below.refl _ _ | assumption | (refine Below.setCell ?_ (by first | omega | (simp; done) | (simp; omega)) _) | (refine Below.alloc ?_ (by first | omega | (simp; done) | (simp; omega)) _) | refine Below.drew ?_ | (refine below_thru ?_ (by assumption) (by first | omega | (simp; done) | (simp; omega))) | refine below_drewN ?_ _))
        case measure => simp [intOf]; omega
      · have h0' : (r3 != 0) = true := by simpa using h0
        go_wp2
        have hfin : eachF r 0 n = ⟨r1, k, r3⟩ := by
          rw [eachF_skip r k 0 n (by omega) (by simpa using hprev.out)]
          obtain ⟨m, hm⟩ : ∃ m, n - k = m + 1 := ⟨n - k - 1, by omega⟩
          rw [hm, eachF, Nat.zero_add, Hr.out]
          simp [h0]
        exact bodyPost_ret (v := Ft.v ⟨r1, k, r3⟩) (by simp [results, Tryz.results81, go_sem, hc1, hl1, hcr, hlr] <;> omega) rfl ⟨by rw [hfin], (by repeat (first | exact Below.refl _ _ | assumption | (refine Below.setCell ?_ (by first | omega | (simp; done) | (simp; omega)) _) | (refine Below.alloc ?_ (by first | omega | (simp; done) | (simp; omega)) _) | refine Below.drew ?_ | (refine below_thru ?_ (by assumption) (by first | omega | (simp; done) | (simp; omega))) | refine below_drewN ?_ _))⟩
    · obtain rfl : k = n := by omega
      go_wp2
      have hfin : eachF r 0 k = ⟨0, 0, 0⟩ := by
        rw [eachF_skip r k 0 k (by omega) (by simpa using hprev.out), Nat.sub_self]; rfl
      exact bodyPost_ret (v := Ft.v ⟨0, 0, 0⟩) (by simp [results, Tryz.results81, go_sem, hcr, hlr] <;> omega) rfl ⟨by rw [hfin], (by repeat (first | exact Below.refl _ _ | assumption | (refine Below.setCell ?_ (by first | omega | (simp; done) | (simp; omega)) _) | (refine Below.alloc ?_ (by first | omega | (simp; done) | (simp; omega)) _) | refine Below.drew ?_ | (refine below_thru ?_ (by assumption) (by first | omega | (simp; done) | (simp; omega))) | refine below_drewN ?_ _))⟩

def sAt (ss : List Gs) (i : Nat) : Gs := (ss[i]?).getD ⟨0, 0, false⟩
theorem sAt_of {ss : List Gs} {i : Nat} {s : Gs} (h : ss[i]? = some s) : sAt ss i = s := by unfold sAt; rw [h]; rfl
theorem ld_gm {o : Oper} {ev : Operand → Value} {w : World} {x : Operand} {b off : Nat} {g : Ga} (ho : o.op = .load 33 x) (hx : ev x = .pointer (some ⟨b, off, none⟩)) (h : w.rangeAt b off g.cells) :
    (execOp ev o).run Tryz.prog w = .ok (.value g.v) w := by
  obtain ⟨fs, hu⟩ := uGate
  have hr : (Instr.loadAt 33 (.pointer (some ⟨b, off, none⟩))).run Tryz.prog w = .ok g.v w := by
    simp only [Instr.loadAt, Instr.sureAddr, Sem.run_bind, Sem.run_pure, Result.andThen_ok, run_loadVar_mid w b off 33 g.cells (.struct fs) h hu rfl iGate]
  unfold execOp
  simp only [ho, hx, Sem.run_bind, hr, Sem.run_pure, Result.andThen_ok]

/-- What the check of one gate, its state and a step reads. -/
structure DeR (W : World) (lb : Nat) (gv rv : Value) (xb : Nat) (sv : Value) (tb : Nat) (t : Gt) (gb go : Nat) (g : Ga) (sb so : Nat) (s : Gs) : Prop where
  l : Blk W lb 25 #[gv, rv]
  x : Blk W xb 50 #[sv]
  t : Blk W tb 49 #[.int .i64 t.order, .bool t.power, .int .i64 t.outer, .int .i64 t.inner]
  g : W.rangeAt gb go g.cells
  c0 : W.cell? ⟨sb, so, none⟩ = some (.int .i64 s.pos)
  c1 : W.cell? ⟨sb, so + 1, none⟩ = some (.int .i64 s.charge)
  c2 : W.cell? ⟨sb, so + 2, none⟩ = some (.bool s.bolted)
section
variable {W W' : World} {lb xb tb gb go sb so : Nat} {gv rv sv : Value} {t : Gt} {g : Ga} {s : Gs}
theorem DeR.below (h : DeR W lb gv rv xb sv tb t gb go g sb so s) (hb : Below W.heap.size W W') : DeR W' lb gv rv xb sv tb t gb go g sb so s := by
  have k : ∀ (q : Addr) (v : Value), W.cell? q = some v → W'.cell? q = some v := fun q v hq => (hb.cell (World.block_lt_of_cell? W q hq)).trans hq
  exact ⟨h.l.thru hb h.l.lt, h.x.thru hb h.x.lt, h.t.thru hb h.t.lt, fun j v hv => k _ _ (h.g j v hv), k _ _ h.c0, k _ _ h.c1, k _ _ h.c2⟩
theorem DeR.drew (h : DeR W lb gv rv xb sv tb t gb go g sb so s) : DeR W.drew lb gv rv xb sv tb t gb go g sb so s := ⟨h.l, h.x, h.t, h.g, h.c0, h.c1, h.c2⟩
theorem DeR.sets (h : DeR W lb gv rv xb sv tb t gb go g sb so s) {d : Nat} (h1 : lb ≠ d) (h2 : xb ≠ d) (h3 : tb ≠ d) (h4 : gb ≠ d) (h5 : sb ≠ d) (vs : List Value) (o : Nat) : DeR (W.setCells d o vs) lb gv rv xb sv tb t gb go g sb so s := by
  have k : ∀ (q : Addr) (v : Value), q.block ≠ d → W.cell? q = some v → (W.setCells d o vs).cell? q = some v := fun q v hq h => (World.cell?_setCells_out d vs o W q (fun hb _ => absurd hb hq)).trans h
  exact ⟨h.l.fars h1 _ _, h.x.fars h2 _ _, h.t.fars h3 _ _, fun j v hv => k _ _ h4 (h.g j v hv), k _ _ h5 h.c0, k _ _ h5 h.c1, k _ _ h5 h.c2⟩
end

set_option maxRecDepth 100000 in
set_option maxHeartbeats 4000000 in
theorem de31_any (l : St) (ss : List Gs) (t : Gt) (sA : Option Addr) (sn sc i lb xb tb : Nat) (w : World) (hl : l.Box w lb) (hx : Blk w xb 50 #[.slice sA sn sc]) (ht : Blk w tb 49 #[.int .i64 t.order, .bool t.power, .int .i64 t.outer, .int .i64 t.inner])
    (hs : Tab w w.heap.size sA sn 3 (ss.map Gs.cells)) (hi : i < l.gn) (hn : l.gn ≤ 1000) (hsn : sn = l.gn) :
    Calls Tryz.prog 101 #[.int .i64 (i : Int), .pointer (some ⟨lb, 0, none⟩), .pointer (some ⟨xb, 0, none⟩), .pointer (some ⟨tb, 0, none⟩)] w fun e w' => e = .returned (stepFt (gAt l.gs i) (sAt ss i) t).v ∧ Below w.heap.size w w' := by
  have hsl : ss.length = sn := by have := hs.1; simpa using this
  obtain ⟨g, hgi⟩ := get_lt hl.at_.g.len hi
  obtain ⟨s, hsi⟩ := get_lt hsl (by omega : i < sn)
  obtain ⟨gb, off, hA, hgb, hrow⟩ := hl.at_.g.row hgi
  obtain ⟨sb, so, hB, hsb, c0, c1, c2⟩ := hs.three (k := i) (x := .int .i64 s.pos) (y := .int .i64 s.charge) (z := .bool s.bolted) (by simp [hsi])
  have hga := hl.at_.g.at_ g (List.mem_of_getElem? hgi)
  rw [gAt_of hgi, sAt_of hsi]
  have hst := hl.blk
  rw [hA] at hst
  rw [hB] at hx
  have hR : DeR w lb (.slice (some ⟨gb, off, none⟩) l.gn l.gc) (.slice l.rA l.rn l.rc) xb (.slice (some ⟨sb, so, none⟩) sn sc) tb t gb (off + i * 21) g sb (so + i * 3) s := ⟨hst, hx, ht, hrow, c0, c1, c2⟩
  have hR1 := (hR.below (W' := w.alloc (.cells #[.int .i64 0, .int .i64 0, .int .i64 0] 94)) (by repeat (first | exact Below.refl _ _ | assumption | (refine Below.setCell ?_ (by first | omega | (simp; done) | (simp; omega)) _) | (refine Below.alloc ?_ (by first | omega | (simp; done) | (simp; omega)) _) | refine Below.drew ?_ | (refine below_thru ?_ (by assumption) (by first | omega | (simp; done) | (simp; omega))) | refine below_drewN ?_ _))).drew
  have j0 : (0 : Int) ≤ (i : Int) := Int.natCast_nonneg _
  have j1 : (i : Int) < (l.gn : Int) := by omega
  have j2 : (i : Int) < (sn : Int) := by omega
  have HF := Lib.hid (fun W h => stepFault_any g s t W h)
  have Hga := Lib.hid hga
  generalize stepFt g s t = f at *
  have hll := hst.lt
  have hxl := hx.lt
  have htl := ht.lt
  clear hl hA hB hgi hsi hsl hs c0 c1 c2 hR hst hga hrow hx ht
  go_enter Tryz.func101, Tryz.ntmps101
  go_wp2_with fail
  refine wp_region_held (S := fun W' => DeR W' lb (.slice (some ⟨gb, off, none⟩) l.gn l.gc) (.slice l.rA l.rn l.rc) xb (.slice (some ⟨sb, so, none⟩) sn sc) tb t gb (off + i * 21) g sb (so + i * 3) s) (by kernel_rfl) (by exact hR1) (fun hHeld => ?_)
  refine wpAnyH_take (i := 0) (v := ?_) rfl (by kernel_rfl) (by kernel_rfl) (by kernel_rfl) (fun _ _ _ h => h) (Or.inl ⟨by rfl, ?_⟩) hHeld ?_
  rotate_left
  · intro w hSw; (try dsimp only at hSw); obtain ⟨x1, x2, x3, x4, y0, y1, y2⟩ := hSw; have s0 := x1.cell 0; have s1 := x2.cell 0; have t0 := x3.cell 0; have t1 := x3.cell 1; have t2 := x3.cell 2; have t3 := x3.cell 3; simp only [List.getElem?_toArray, List.getElem?_cons_zero, List.getElem?_cons_succ] at s0 s1 t0 t1 t2 t3; go_simp; (try with_reducible rfl)
  (try simp only [Act.put, List.setIfInBounds_toArray, List.set_cons_zero, List.set_cons_succ])
  refine wpAnyH_take (i := 1) (v := ?_) rfl (by kernel_rfl) (by kernel_rfl) (by kernel_rfl) (fun _ _ _ h => h) (Or.inl ⟨by rfl, ?_⟩) hHeld ?_
  rotate_left
  · intro w hSw; (try dsimp only at hSw); obtain ⟨x1, x2, x3, x4, y0, y1, y2⟩ := hSw; have s0 := x1.cell 0; have s1 := x2.cell 0; have t0 := x3.cell 0; have t1 := x3.cell 1; have t2 := x3.cell 2; have t3 := x3.cell 3; simp only [List.getElem?_toArray, List.getElem?_cons_zero, List.getElem?_cons_succ] at s0 s1 t0 t1 t2 t3; go_simp; (try with_reducible rfl)
  (try simp only [Act.put, List.setIfInBounds_toArray, List.set_cons_zero, List.set_cons_succ])
  refine wpAnyH_take (i := 2) (v := ?_) rfl (by kernel_rfl) (by kernel_rfl) (by kernel_rfl) (fun _ _ _ h => h) (Or.inl ⟨by rfl, ?_⟩) hHeld ?_
  rotate_left
  · intro w hSw; (try dsimp only at hSw); obtain ⟨x1, x2, x3, x4, y0, y1, y2⟩ := hSw; have s0 := x1.cell 0; have s1 := x2.cell 0; have t0 := x3.cell 0; have t1 := x3.cell 1; have t2 := x3.cell 2; have t3 := x3.cell 3; simp only [List.getElem?_toArray, List.getElem?_cons_zero, List.getElem?_cons_succ] at s0 s1 t0 t1 t2 t3; go_simp; (try with_reducible rfl)
  (try simp only [Act.put, List.setIfInBounds_toArray, List.set_cons_zero, List.set_cons_succ])
  refine wpAnyH_take (i := 3) (v := ?_) rfl (by kernel_rfl) (by kernel_rfl) (by kernel_rfl) (fun _ _ _ h => h) (Or.inl ⟨by rfl, ?_⟩) hHeld ?_
  rotate_left
  · intro w hSw; (try dsimp only at hSw); obtain ⟨x1, x2, x3, x4, y0, y1, y2⟩ := hSw; have s0 := x1.cell 0; have s1 := x2.cell 0; have t0 := x3.cell 0; have t1 := x3.cell 1; have t2 := x3.cell 2; have t3 := x3.cell 3; simp only [List.getElem?_toArray, List.getElem?_cons_zero, List.getElem?_cons_succ] at s0 s1 t0 t1 t2 t3; go_simp; (try with_reducible rfl)
  (try simp only [Act.put, List.setIfInBounds_toArray, List.set_cons_zero, List.set_cons_succ])
  (try simp only [List.getElem_toArray, List.getElem_cons_zero, List.getElem_cons_succ, Act.put, List.setIfInBounds_toArray, List.set_cons_zero, List.set_cons_succ])
  refine wpAnyH_take (i := 4) (v := g.v) rfl (by kernel_rfl) (by kernel_rfl) (by kernel_rfl) (fun _ _ _ h => h) (Or.inl ⟨by rfl, fun w hSw => ld_gm rfl rfl hSw.g⟩) hHeld ?_
  (try simp only [Act.put, List.setIfInBounds_toArray, List.set_cons_zero, List.set_cons_succ])
  refine wpAnyH_take (i := 5) (v := ?_) rfl (by kernel_rfl) (by kernel_rfl) (by kernel_rfl) (fun _ _ _ h => h) (Or.inl ⟨by rfl, ?_⟩) hHeld ?_
  rotate_left
  · intro w hSw; (try dsimp only at hSw); obtain ⟨x1, x2, x3, x4, y0, y1, y2⟩ := hSw; have s0 := x1.cell 0; have s1 := x2.cell 0; have t0 := x3.cell 0; have t1 := x3.cell 1; have t2 := x3.cell 2; have t3 := x3.cell 3; simp only [List.getElem?_toArray, List.getElem?_cons_zero, List.getElem?_cons_succ] at s0 s1 t0 t1 t2 t3; go_simp; (try with_reducible rfl)
  (try simp only [Act.put, List.setIfInBounds_toArray, List.set_cons_zero, List.set_cons_succ])
  refine wpAnyH_take (i := 6) (v := ?_) rfl (by kernel_rfl) (by kernel_rfl) (by kernel_rfl) (fun _ _ _ h => h) (Or.inl ⟨by rfl, ?_⟩) hHeld ?_
  rotate_left
  · intro w hSw; (try dsimp only at hSw); obtain ⟨x1, x2, x3, x4, y0, y1, y2⟩ := hSw; have s0 := x1.cell 0; have s1 := x2.cell 0; have t0 := x3.cell 0; have t1 := x3.cell 1; have t2 := x3.cell 2; have t3 := x3.cell 3; simp only [List.getElem?_toArray, List.getElem?_cons_zero, List.getElem?_cons_succ] at s0 s1 t0 t1 t2 t3; go_simp; (try with_reducible rfl)
  (try simp only [Act.put, List.setIfInBounds_toArray, List.set_cons_zero, List.set_cons_succ])
  refine wpAnyH_take (i := 7) (v := ?_) rfl (by kernel_rfl) (by kernel_rfl) (by kernel_rfl) (fun _ _ _ h => h) (Or.inl ⟨by rfl, ?_⟩) hHeld ?_
  rotate_left
  · intro w hSw; (try dsimp only at hSw); obtain ⟨x1, x2, x3, x4, y0, y1, y2⟩ := hSw; have s0 := x1.cell 0; have s1 := x2.cell 0; have t0 := x3.cell 0; have t1 := x3.cell 1; have t2 := x3.cell 2; have t3 := x3.cell 3; simp only [List.getElem?_toArray, List.getElem?_cons_zero, List.getElem?_cons_succ] at s0 s1 t0 t1 t2 t3; go_simp; (try with_reducible rfl)
  (try simp only [Act.put, List.setIfInBounds_toArray, List.set_cons_zero, List.set_cons_succ])
  refine wpAnyH_take (i := 8) (v := ?_) rfl (by kernel_rfl) (by kernel_rfl) (by kernel_rfl) (fun _ _ _ h => h) (Or.inl ⟨by rfl, ?_⟩) hHeld ?_
  rotate_left
  · intro w hSw; (try dsimp only at hSw); obtain ⟨x1, x2, x3, x4, y0, y1, y2⟩ := hSw; have s0 := x1.cell 0; have s1 := x2.cell 0; have t0 := x3.cell 0; have t1 := x3.cell 1; have t2 := x3.cell 2; have t3 := x3.cell 3; simp only [List.getElem?_toArray, List.getElem?_cons_zero, List.getElem?_cons_succ] at s0 s1 t0 t1 t2 t3; go_simp; (try with_reducible rfl)
  (try simp only [Act.put, List.setIfInBounds_toArray, List.set_cons_zero, List.set_cons_succ])
  refine wpAnyH_take (i := 9) (v := ?_) rfl (by kernel_rfl) (by kernel_rfl) (by kernel_rfl) (fun _ _ _ h => h) (Or.inl ⟨by rfl, ?_⟩) hHeld ?_
  rotate_left
  · intro w hSw; (try dsimp only at hSw); obtain ⟨x1, x2, x3, x4, y0, y1, y2⟩ := hSw; have s0 := x1.cell 0; have s1 := x2.cell 0; have t0 := x3.cell 0; have t1 := x3.cell 1; have t2 := x3.cell 2; have t3 := x3.cell 3; simp only [List.getElem?_toArray, List.getElem?_cons_zero, List.getElem?_cons_succ] at s0 s1 t0 t1 t2 t3; go_simp; (try with_reducible rfl)
  (try simp only [Act.put, List.setIfInBounds_toArray, List.set_cons_zero, List.set_cons_succ])
  (try simp only [List.getElem_toArray, List.getElem_cons_zero, List.getElem_cons_succ, Act.put, List.setIfInBounds_toArray, List.set_cons_zero, List.set_cons_succ])
  refine wpAnyH_ready (rs := [10]) (by kernel_rfl) (by simp) ?_
  refine AllReadyH.cons rfl (fun K hK => ?_) AllReadyH.nil
  go_simp
  refine (HF.out _ (Hga.out.grow (by repeat (first | exact Below.refl _ _ | assumption | (refine Below.setCell ?_ (by first | omega | (simp; done) | (simp; omega)) _) | (refine Below.alloc ?_ (by first | omega | (simp; done) | (simp; omega)) _) | refine Below.drew ?_ | (refine below_thru ?_ (by assumption) (by first | omega | (simp; done) | (simp; omega))) | refine below_drewN ?_ _)))).mono ?_
  rintro e w1 ⟨rfl, hb1⟩; have hz1 := hb1.size; (try simp at hz1)
  (try dsimp only)
  refine hK.out _ _ (by exact hHeld.below hb1) (fun hHeld => ?_)
  clear hK K
  (try simp only [Act.put, List.setIfInBounds_toArray, List.set_cons_zero, List.set_cons_succ])
  have hF1 : Blk w1 w.heap.size 94 #[.int .i64 0, .int .i64 0, .int .i64 0] := Blk.thru (by (repeat (first | assumption | exact Blk.new _ _ _ | (refine Blk.new' _ _ _ ?_; (simp; done)) | refine Blk.drew ?_ | refine Blk.alloc ?_ _ | (refine Blk.fars ?_ ?_ _ _; rotate_left; (dsimp only; omega)) | (refine Blk.far ?_ ?_ _; rotate_left; (first | (dsimp only; omega) | (simp; done) | (simp; omega) | omega))))) hb1 (by simp)
  have hB1 : Below w.heap.size w w1 := (by repeat (first | exact Below.refl _ _ | assumption | (refine Below.setCell ?_ (by first | omega | (simp; done) | (simp; omega)) _) | (refine Below.alloc ?_ (by first | omega | (simp; done) | (simp; omega)) _) | refine Below.drew ?_ | (refine below_thru ?_ (by assumption) (by first | omega | (simp; done) | (simp; omega))) | refine below_drewN ?_ _))
  (try simp only [List.getElem_toArray, List.getElem_cons_zero, List.getElem_cons_succ, Act.put, List.setIfInBounds_toArray, List.set_cons_zero, List.set_cons_succ])
  refine wpAnyH_ready (rs := [11]) (by kernel_rfl) (by simp) ?_
  refine AllReadyH.cons rfl (fun K hK => ?_) AllReadyH.nil
  refine wanted_of (by rfl) (wp_store_mid (P := Tryz.prog) 94 _ _ rfl (w.heap.size) 0 #[.int .i64 f.part, .int .i64 f.at_, .int .i64 f.e] rfl rfl (Blk.there hF1 (by show 0 + 3 ≤ 3; omega)) (by kernel_rfl) (by simp [Value.oneCell']) ?_)
  refine hK.out _ _ (by exact hHeld.sets (by omega) (by omega) (by omega) (by omega) (by omega) _ _) (fun hHeld => ?_)
  clear hK K
  (try simp only [Act.put, List.setIfInBounds_toArray, List.set_cons_zero, List.set_cons_succ])
  refine wpAnyH_done (by kernel_rfl) ?_ _
  (try simp only [List.getElem_toArray, List.getElem_cons_zero, List.getElem_cons_succ, Act.put, List.setIfInBounds_toArray, List.set_cons_zero, List.set_cons_succ])
  have hFe : Blk (w1.setCells w.heap.size 0 (#[.int .i64 f.part, .int .i64 f.at_, .int .i64 f.e] : Array Value).toList) w.heap.size 94 #[.int .i64 f.part, .int .i64 f.at_, .int .i64 f.e] := Blk.sets hF1 _ _
  have hBe : Below w.heap.size w (w1.setCells w.heap.size 0 (#[.int .i64 f.part, .int .i64 f.at_, .int .i64 f.e] : Array Value).toList) := below_sets hB1 (Nat.le_refl _) _ _
  obtain ⟨fs, hu⟩ := uFault
  go_wp2
  exact bodyPost_ret (results_cell_row rfl _ _ w.heap.size 94 #[.int .i64 f.part, .int .i64 f.at_, .int .i64 f.e] (0, 0) _ rfl hFe hu rfl iFault) rfl ⟨rfl, hBe⟩

def delayE (l : St) (ss : List Gs) (t : Gt) (i : Nat) : Ft := stepFt (gAt l.gs i) (sAt ss i) t
def delayFt (l : St) (ss : List Gs) (sn : Nat) (t : Gt) : Ft := firstF [setFt l, need ((sn : Int) == (l.gn : Int)) 2, eachF (delayE l ss t) 0 l.gn]
set_option maxHeartbeats 1000000 in
theorem de1_any (l : St) (lb : Nat) (w : World) (hl : l.Box w lb) :
    Calls Tryz.prog 98 #[.pointer (some ⟨lb, 0, none⟩)] w fun e w' => e = .returned (setFt l).v ∧ Below w.heap.size w w' := by
  obtain ⟨s0, s1, _, _⟩ := hl.blk.two
  have hlt := hl.blk.lt
  have Hl := Lib.hid hl
  clear hl
  go_enter Tryz.func98, Tryz.ntmps98
  go_wp2_with fail
  refine (setFault_any l _ (Hl.out.at_.grow (by repeat (first | exact Below.refl _ _ | assumption | (refine Below.setCell ?_ (by first | omega | (simp; done) | (simp; omega)) _) | (refine Below.alloc ?_ (by first | omega | (simp; done) | (simp; omega)) _) | refine Below.drew ?_ | (refine below_thru ?_ (by assumption) (by first | omega | (simp; done) | (simp; omega))) | refine below_drewN ?_ _)))).mono ?_
  rintro e w1 ⟨rfl, hb1⟩
  obtain ⟨hc1, hf1⟩ := bcell hb1; have hz1 := hb1.size; (try simp at hz1)
  go_wp2
  exact bodyPost_ret (v := (setFt l).v) (by simp [results, Tryz.results98, go_sem, hc1] <;> omega) rfl ⟨by rfl, (by repeat (first | exact Below.refl _ _ | assumption | (refine Below.setCell ?_ (by first | omega | (simp; done) | (simp; omega)) _) | (refine Below.alloc ?_ (by first | omega | (simp; done) | (simp; omega)) _) | refine Below.drew ?_ | (refine below_thru ?_ (by assumption) (by first | omega | (simp; done) | (simp; omega))) | refine below_drewN ?_ _))⟩
set_option maxHeartbeats 1000000 in
theorem de2_any (sA : Option Addr) (sn sc n xb nb : Nat) (w : World) (hx : Blk w xb 50 #[.slice sA sn sc]) (hn : Blk w nb 3 #[.int .i64 (n : Int)]) :
    Calls Tryz.prog 99 #[.pointer (some ⟨xb, 0, none⟩), .pointer (some ⟨nb, 0, none⟩)] w fun e w' => e = .returned (need ((sn : Int) == (n : Int)) 2).v ∧ Below w.heap.size w w' := by
  have x0 := hx.cell 0
  have n0 := hn.cell 0
  simp only [List.getElem?_toArray, List.getElem?_cons_zero] at x0 n0
  have hxl := hx.lt
  have hnl := hn.lt
  clear hx hn
  go_enter Tryz.func99, Tryz.ntmps99
  go_wp2_with fail
  refine (need_any ((sn : Int) == (n : Int)) 2 _).mono ?_
  rintro e w1 ⟨rfl, hb1⟩
  obtain ⟨hc1, hf1⟩ := bcell hb1; have hz1 := hb1.size; (try simp at hz1)
  go_wp2
  exact bodyPost_ret (v := (need ((sn : Int) == (n : Int)) 2).v) (by simp [results, Tryz.results99, go_sem, hc1] <;> omega) rfl ⟨by rfl, (by repeat (first | exact Below.refl _ _ | assumption | (refine Below.setCell ?_ (by first | omega | (simp; done) | (simp; omega)) _) | (refine Below.alloc ?_ (by first | omega | (simp; done) | (simp; omega)) _) | refine Below.drew ?_ | (refine below_thru ?_ (by assumption) (by first | omega | (simp; done) | (simp; omega))) | refine below_drewN ?_ _))⟩
set_option maxHeartbeats 1000000 in
theorem de3_any (l : St) (ss : List Gs) (t : Gt) (sA : Option Addr) (sn sc lb xb tb nb : Nat) (w : World) (hl : l.Box w lb) (hx : Blk w xb 50 #[.slice sA sn sc]) (ht : Blk w tb 49 #[.int .i64 t.order, .bool t.power, .int .i64 t.outer, .int .i64 t.inner])
    (hnb : Blk w nb 3 #[.int .i64 (l.gn : Int)]) (hs : Tab w w.heap.size sA sn 3 (ss.map Gs.cells)) (hn : l.gn ≤ 1000) (hsn : sn = l.gn) :
    Calls Tryz.prog 100 #[.pointer (some ⟨nb, 0, none⟩), .pointer (some ⟨lb, 0, none⟩), .pointer (some ⟨xb, 0, none⟩), .pointer (some ⟨tb, 0, none⟩)] w fun e w' => e = .returned (eachF (delayE l ss t) 0 l.gn).v ∧ Below w.heap.size w w' := by
  have HE := Lib.hid (fun (W : World) (hW : Below w.heap.size w W) => each3_any W l.gn hn 101 (.pointer (some ⟨lb, 0, none⟩)) (.pointer (some ⟨xb, 0, none⟩)) (.pointer (some ⟨tb, 0, none⟩)) (delayE l ss t) (fun k W' => by show Sem.run Tryz.prog (callFunc _ _) W' = _; kernel_rfl)
    (fun k hk _ W' hb => de31_any l ss t sA sn sc k lb xb tb W' ((hl.grow hW).grow hb) ((hx.thru hW hx.lt).thru hb (hx.thru hW hx.lt).lt) ((ht.thru hW ht.lt).thru hb (ht.thru hW ht.lt).lt) ((hs.grow hW).grow hb) hk hn hsn))
  have n0 := hnb.cell 0
  simp only [List.getElem?_toArray, List.getElem?_cons_zero] at n0
  have hnl := hnb.lt
  clear hl hx ht hnb hs
  generalize eachF (delayE l ss t) 0 l.gn = ef at *
  go_enter Tryz.func100, Tryz.ntmps100
  go_wp2_with fail
  refine (HE.out _ (by repeat (first | exact Below.refl _ _ | assumption | (refine Below.setCell ?_ (by first | omega | (simp; done) | (simp; omega)) _) | (refine Below.alloc ?_ (by first | omega | (simp; done) | (simp; omega)) _) | refine Below.drew ?_ | (refine below_thru ?_ (by assumption) (by first | omega | (simp; done) | (simp; omega))) | refine below_drewN ?_ _))).mono ?_
  rintro e w1 ⟨rfl, hb1⟩
  obtain ⟨hc1, hf1⟩ := bcell hb1; have hz1 := hb1.size; (try simp at hz1)
  go_wp2
  exact bodyPost_ret (v := ef.v) (by simp [results, Tryz.results100, go_sem, hc1] <;> omega) rfl ⟨by rfl, (by repeat (first | exact Below.refl _ _ | assumption | (refine Below.setCell ?_ (by first | omega | (simp; done) | (simp; omega)) _) | (refine Below.alloc ?_ (by first | omega | (simp; done) | (simp; omega)) _) | refine Below.drew ?_ | (refine below_thru ?_ (by assumption) (by first | omega | (simp; done) | (simp; omega))) | refine below_drewN ?_ _))⟩
end Go.Proofs.YtmepecplbfgakaaGreat
