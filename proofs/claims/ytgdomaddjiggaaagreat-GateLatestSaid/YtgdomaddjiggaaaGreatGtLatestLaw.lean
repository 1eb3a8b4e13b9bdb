/- GateLatest: without rules the time of a set is the greatest time of its gates, in ticks. -/
import Derived.Test.YtgdomaddjiggaaaGreatGtAwake
import Derived.Test.YtgdomaddjiggaaaGreatGtShutM
namespace Go.Proofs.YtgdomaddjiggaaaGreat
open Go.RowKit
set_option linter.unusedSimpArgs false
set_option linter.unusedVariables false

theorem toShut_er (rs : List Gr) (rn : Nat) (t : Gt) (n : Nat) : ∀ (f k : Nat) (ms : List (Ga × Gs)), (toShutF rs rn t n f k ms).2 = 0 ∨ (toShutF rs rn t n f k ms).2 = 9
  | 0, k, ms => by
    unfold toShutF
    split
    · exact .inl rfl
    · exact .inr rfl
  | f + 1, k, ms => by
    unfold toShutF
    split
    · exact .inl rfl
    · exact toShut_er rs rn t n f (k + 1) _
def freeS (l : St) : St := ⟨l.gA, l.gn, l.gc, l.gs, none, 0, 0, []⟩
theorem free_at {l : St} {w : World} {B : Nat} (h : l.At w B) : (freeS l).At w B := ⟨h.g, ⟨rfl, fun h => absurd h (by simp [freeS])⟩, h.gn, Nat.zero_le _, h.gc⟩
theorem delay_step {l : St} {ss : List Gs} {sn : Nat} {t : Gt} (h : (delayFt l ss sn t).e = 0) {k : Nat} (hk : k < l.gn) {g : Ga} {s : Gs} (hg : l.gs[k]? = some g) (hs : ss[k]? = some s) : (stepFt g s t).e = 0 := by
  have h3 := each0 _ _ _ (first0 _ h (eachF (delayE l ss t) 0 l.gn) (by simp))
  have := h3 k (by omega) (by omega)
  unfold delayE at this
  rw [gAt_of hg, sAt_of hs] at this
  exact this
/-- The time of the k-th gate of a set. -/
def jF (l : St) (ss : List Gs) (t : Gt) (k : Nat) : Int := (timeR (gAt l.gs k) (sAt ss k) t).1
theorem latest_law {l : St} {ss : List Gs} {sn : Nat} {t : Gt} {w : World} {B : Nat} {A : Option Addr} {N : Int} (hl : l.At w B) (hs : Tab w B A sn 3 (ss.map Gs.cells)) (ht : t.order = 1) (h : (delayFt (freeS l) ss sn t).e = 0)
    (hN : toShutF [] 0 t l.gn 2000 0 (machs l.gs ss) = (N, 0)) : sn = l.gn ∧ 1 ≤ l.gn ∧ l.gn ≤ 6 ∧ (∀ k, k < l.gn → (timeR (gAt l.gs k) (sAt ss k) t) = (jF l ss t k, 0) ∧ 0 ≤ jF l ss t k ∧ jF l ss t k ≤ N) ∧ ∃ k, k < l.gn ∧ jF l ss t k = N := by
  obtain ⟨hlo, hsn, hto, hmo⟩ := delay_ok (free_at hl) hs h
  have n0 : 1 ≤ l.gn := hlo.n0
  have n1 : l.gn ≤ 6 := hlo.n1
  have hsn' : sn = l.gn := hsn
  have hgl := hl.g.len
  have hsl : ss.length = sn := by have := hs.1; simpa using this
  have hml : (machs l.gs ss).length = l.gn := by unfold machs; rw [List.length_zip]; omega
  obtain ⟨ha, q, hq, hqN⟩ := latest_any ht l.gn n0 2000 0 (machs l.gs ss) N hml hmo hN
  have hone : ∀ k, k < l.gn → ∃ g s, l.gs[k]? = some g ∧ ss[k]? = some s ∧ timeR (gAt l.gs k) (sAt ss k) t = oneT t 2000 0 (g, s) ∧ (g, s) ∈ machs l.gs ss := fun k hk => by
    obtain ⟨g, hg⟩ := get_lt hgl hk
    obtain ⟨s, hs'⟩ := get_lt hsl (by omega : k < sn)
    refine ⟨g, s, hg, hs', ?_, List.mem_of_getElem? (i := k) (by unfold machs; rw [List.getElem?_zip_eq_some]; exact ⟨hg, hs'⟩)⟩
    rw [gAt_of hg, sAt_of hs']
    unfold timeR
    rw [if_pos (delay_step h hk hg hs')]
    rfl
  refine ⟨hsn', n0, n1, fun k hk => ?_, ?_⟩
  · obtain ⟨g, s, _, _, he, hm⟩ := hone k hk
    obtain ⟨j, h1, h2, h3⟩ := ha (g, s) hm
    have : jF l ss t k = j := by unfold jF; rw [he, h1]
    rw [this, he, h1]
    exact ⟨rfl, by omega, h3⟩
  · obtain ⟨k, hk⟩ := List.getElem?_of_mem hq
    have hlt := (List.getElem?_eq_some_iff.1 hk).1
    obtain ⟨g, s, hg, hs', he, _⟩ := hone k (by omega)
    unfold machs at hk
    rw [List.getElem?_zip_eq_some] at hk
    refine ⟨k, by omega, ?_⟩
    unfold jF
    rw [he]
    have e1 : g = q.1 := by have := hk.1; rw [hg] at this; exact Option.some.inj this
    have e2 : s = q.2 := by have := hk.2; rw [hs'] at this; exact Option.some.inj this
    rw [e1, e2, show (q.1, q.2) = q from rfl, hqN]
theorem ticks_up {N : Int} (h0 : 0 ≤ N) : (N + 10 - 1).tdiv 10 = -(-N / 10) := by
  rw [Int.tdiv_eq_ediv_of_nonneg (by omega)]; omega

/-- What a round of the loop reads. -/
structure LaR (W : World) (lb : Nat) (gv rv : Value) (xb : Nat) (a b : Int) (p : Bool) (gb go : Nat) (g : Ga) (sb so : Nat) (s : Gs) : Prop where
  l : Blk W lb 25 #[gv, rv]
  x : Blk W xb 56 #[.int .i64 a, .int .i64 b, .bool p]
  g : W.rangeAt gb go g.cells
  c0 : W.cell? ⟨sb, so, none⟩ = some (.int .i64 s.pos)
  c1 : W.cell? ⟨sb, so + 1, none⟩ = some (.int .i64 s.charge)
  c2 : W.cell? ⟨sb, so + 2, none⟩ = some (.bool s.bolted)
section
variable {W W' : World} {lb xb gb go sb so : Nat} {gv rv : Value} {a b : Int} {p : Bool} {g : Ga} {s : Gs}
theorem LaR.below (h : LaR W lb gv rv xb a b p gb go g sb so s) (hb : Below W.heap.size W W') : LaR W' lb gv rv xb a b p gb go g sb so s := by
  have k : ∀ (q : Addr) (v : Value), W.cell? q = some v → W'.cell? q = some v := fun q v hq => (hb.cell (World.block_lt_of_cell? W q hq)).trans hq
  exact ⟨h.l.thru hb h.l.lt, h.x.thru hb h.x.lt, fun j v hv => k _ _ (h.g j v hv), k _ _ h.c0, k _ _ h.c1, k _ _ h.c2⟩
theorem LaR.drew (h : LaR W lb gv rv xb a b p gb go g sb so s) : LaR W.drew lb gv rv xb a b p gb go g sb so s := ⟨h.l, h.x, h.g, h.c0, h.c1, h.c2⟩
end

set_option maxRecDepth 100000 in
set_option maxHeartbeats 8000000 in
theorem GateLatest_any (l : St) (sA : Option Addr) (sn sc : Nat) (ss : List Gs) (a b : Int) (p : Bool) (w : World) (hl : l.At w w.heap.size) (hs : Tab w w.heap.size sA sn 3 (ss.map Gs.cells)) (hsm : sn ≤ maxLen) (hsc : sn ≤ sc) :
    Calls Tryz.prog 18 #[l.v, .slice sA sn sc, .agg #[.int .i64 a, .int .i64 b, .bool p]] w fun e w' => e = .returned (.bool true) ∧ Below w.heap.size w w' := by
  obtain ⟨t, ht⟩ : ∃ t : Gt, t = ⟨1, p, a, b⟩ := ⟨_, rfl⟩
  have hD : ∀ W, l.At W W.heap.size → Tab W W.heap.size sA sn 3 (ss.map Gs.cells) → Calls Tryz.prog 44 #[.agg #[.slice l.gA l.gn l.gc, .slice none 0 0], .slice sA sn sc, .int .i64 a, .int .i64 b, .bool p] W fun e w' => e = .returned (pairV (delayR (freeS l) ss sn t)) ∧ Below W.heap.size W w' := fun W h1 h2 => by
    rw [ht]
    exact Delay_any (freeS l) ss sA sn sc a b p W (free_at h1) h2 hsm
  have hgm := hl.gn
  unfold maxLen at hgm hsm
  have Hl := Lib.hid hl
  have Hs := Lib.hid hs
  by_cases h0 : (delayFt (freeS l) ss sn t).e = 0
  · have hr : delayR (freeS l) ss sn t = (-(-(toShutF [] 0 t l.gn 2000 0 (machs l.gs ss)).1 / 10), (toShutF [] 0 t l.gn 2000 0 (machs l.gs ss)).2) := by unfold delayR; rw [if_pos h0]; rfl
    rw [hr] at hD
    rcases toShut_er [] 0 t l.gn 2000 0 (machs l.gs ss) with h9 | h9
    · obtain ⟨N, hN⟩ : ∃ N, toShutF [] 0 t l.gn 2000 0 (machs l.gs ss) = (N, 0) := ⟨_, Prod.ext rfl h9⟩
      obtain ⟨hsn, n0, n1, hall, hex⟩ := latest_law hl hs (by rw [ht]) h0 hN
      have N0 : 0 ≤ N := by have := toShut_in [] 0 t l.gn 2000 0 (machs l.gs ss) (by omega); rw [hN] at this; exact this.1
      have N1 : N ≤ 2000 := by have := toShut_in [] 0 t l.gn 2000 0 (machs l.gs ss) (by omega); rw [hN] at this; exact this.2
      rw [hN] at hD
      have hD' : ∀ W, l.At W W.heap.size → Tab W W.heap.size sA sn 3 (ss.map Gs.cells) → Calls Tryz.prog 44 #[.agg #[.slice l.gA l.gn l.gc, .slice none 0 0], .slice sA sn sc, .int .i64 a, .int .i64 b, .bool p] W fun e w' => e = .returned (.tuple #[.int .i64 (-(-N / 10)), .int .i64 0]) ∧ Below W.heap.size W w' := hD
      have hT : ∀ (k : Nat) (g : Ga) (s : Gs) W, k < l.gn → l.gs[k]? = some g → ss[k]? = some s → g.At W W.heap.size → Calls Tryz.prog 34 #[g.v, .agg #[.int .i64 s.pos, .int .i64 s.charge, .bool s.bolted], .int .i64 a, .int .i64 b, .bool p] W fun e w' => e = .returned (.tuple #[.int .i64 (jF l ss t k), .int .i64 0]) ∧ Below W.heap.size W w' := fun k g s W hk hg hs' h => by
        have h1 := Time_any g s a b p W h
        have h2 := (hall k hk).1
        rw [gAt_of hg, sAt_of hs', ht] at h2
        rw [h2] at h1
        rw [ht]
        exact h1
      have hq := ticks_up N0
      generalize -(-N / 10) = dN at *
      have HD := Lib.hid hD'
      have HT := Lib.hid hT
      have Hall := Lib.hid hall
      have Hex := Lib.hid hex
      have Hq := Lib.hid hq
      have Hsl := Lib.hid (show ss.length = sn by have := hs.1; simpa using this)
      clear hD hD' hT hall hex hq hr h0 hN h9 ht hl hs
      subst hsn
      generalize jF l ss t = jj at *
      go_enter Tryz.func18, Tryz.ntmps18
      go_wp2_with fail
      refine (HD.out _ (Hl.out.grow (by repeat (first | exact Below.refl _ _ | assumption | (refine Below.setCell ?_ (by first | omega | (simp; done) | (simp; omega)) _) | (refine Below.alloc ?_ (by first | omega | (simp; done) | (simp; omega)) _) | refine Below.drew ?_ | (refine below_thru ?_ (by assumption) (by first | omega | (simp; done) | (simp; omega))) | refine below_drewN ?_ _))) (Hs.out.grow (by repeat (first | exact Below.refl _ _ | assumption | (refine Below.setCell ?_ (by first | omega | (simp; done) | (simp; omega)) _) | (refine Below.alloc ?_ (by first | omega | (simp; done) | (simp; omega)) _) | refine Below.drew ?_ | (refine below_thru ?_ (by assumption) (by first | omega | (simp; done) | (simp; omega))) | refine below_drewN ?_ _)))).mono ?_
      rintro e w1 ⟨rfl, hb1⟩
      obtain ⟨hc1, hf1⟩ := bcell hb1; have hz1 := hb1.size; (try simp at hz1)
      have hl0 : w.heap.size < w1.heap.size := by omega
      have hB1 : Blk w1 w.heap.size 25 #[.slice l.gA l.gn l.gc, .slice l.rA l.rn l.rc] := Blk.thru (by (repeat (first | assumption | exact Blk.new _ _ _ | (refine Blk.new' _ _ _ ?_; (simp; done)) | refine Blk.drew ?_ | refine Blk.alloc ?_ _ | (refine Blk.fars ?_ ?_ _ _; rotate_left; (dsimp only; omega)) | (refine Blk.far ?_ ?_ _; rotate_left; (first | (dsimp only; omega) | (simp; done) | (simp; omega) | omega))))) hb1 (by simp <;> omega)
      have hX1 : Blk w1 (w.heap.size + 1) 56 #[.int .i64 a, .int .i64 b, .bool p] := Blk.thru (by (repeat (first | assumption | exact Blk.new _ _ _ | (refine Blk.new' _ _ _ ?_; (simp; done)) | refine Blk.drew ?_ | refine Blk.alloc ?_ _ | (refine Blk.fars ?_ ?_ _ _; rotate_left; (dsimp only; omega)) | (refine Blk.far ?_ ?_ _; rotate_left; (first | (dsimp only; omega) | (simp; done) | (simp; omega) | omega))))) hb1 (by simp <;> omega)
      have hb1w : Below w.heap.size w w1 := (by repeat (first | exact Below.refl _ _ | assumption | (refine Below.setCell ?_ (by first | omega | (simp; done) | (simp; omega)) _) | (refine Below.alloc ?_ (by first | omega | (simp; done) | (simp; omega)) _) | refine Below.drew ?_ | (refine below_thru ?_ (by assumption) (by first | omega | (simp; done) | (simp; omega))) | refine below_drewN ?_ _))
      clear hb1 hc1 hf1
      have HB1 := Lib.hid hB1
      have HX1 := Lib.hid hX1
      have s0 := hB1.cell 0
      have s1 := hB1.cell 1
      simp only [List.getElem?_toArray, List.getElem?_cons_zero, List.getElem?_cons_succ] at s0 s1
      clear hB1 hX1
      go_wp2_with fail
      go_loopw [10, 11] (fun v i wr => ∃ (k : Nat) (m : Int), k ≤ l.gn ∧ i = .int .i64 k ∧ v = .int .i64 m ∧ 0 ≤ m ∧ m ≤ N ∧ Hid (∀ j, j < k → jj j ≤ m) ∧ Hid (Blk wr w.heap.size 25 #[.slice l.gA l.gn l.gc, .slice l.rA l.rn l.rc]) ∧ Hid (Blk wr (w.heap.size + 1) 56 #[.int .i64 a, .int .i64 b, .bool p]) ∧ Below w.heap.size w wr)
        (fun _ i _ => l.gn - (intOf i).toNat)
      case atStart => exact ⟨0, 0, Nat.zero_le _, rfl, rfl, Int.le_refl _, N0, fun j hj => by omega, HB1.out, HX1.out, hb1w⟩
      case round =>
        obtain ⟨k, m, hk, rfl, rfl, m0, m1, hprev, hbl, hbx, hbr⟩ := hrel
        have s0 := hbl.out.cell 0
        simp only [List.getElem?_toArray, List.getElem?_cons_zero, List.getElem?_cons_succ] at s0
        have hzr := hbl.out.lt
        have hzx := hbx.out.lt
        by_cases hlt : k < l.gn
        · obtain ⟨g, hgk⟩ := get_lt Hl.out.g.len hlt
          obtain ⟨s, hsk⟩ := get_lt Hsl.out (by omega : k < l.gn)
          obtain ⟨gb, go, hA, hgb, hrow⟩ := Hl.out.g.row hgk
          obtain ⟨sb, so, hB, hsb, c0, c1, c2⟩ := Hs.out.three (k := k) (x := .int .i64 s.pos) (y := .int .i64 s.charge) (z := .bool s.bolted) (by simp [hsk])
          have hga := Hl.out.g.at_ g (List.mem_of_getElem? hgk)
          have HT := Lib.hid (fun W => HT.out k g s W hlt hgk hsk)
          have Hj := Lib.hid (Hall.out k hlt).2
          have Hga := Lib.hid hga
          subst hB
          have hbl' := hbl.out
          rw [hA] at hbl' s0
          have hR : LaR wr w.heap.size (.slice (some ⟨gb, go, none⟩) l.gn l.gc) (.slice l.rA l.rn l.rc) (w.heap.size + 1) a b p gb (go + k * 21) g sb (so + k * 3) s :=
            ⟨hbl', hbx.out, range_below hrow hbr hgb, (hbr.cell (p := ⟨sb, so + k * 3, none⟩) hsb).trans c0, (hbr.cell (p := ⟨sb, so + k * 3 + 1, none⟩) hsb).trans c1, (hbr.cell (p := ⟨sb, so + k * 3 + 2, none⟩) hsb).trans c2⟩
          have hR1 := hR.drew
          have j0 : (0 : Int) ≤ (k : Int) := Int.natCast_nonneg _
          have j1 : (k : Int) < (l.gn : Int) := by omega
          clear hA hrow c0 c1 c2 hR hga hgk hsk hbl'
          go_wp2_with fail
          refine wp_region_held (S := fun W' => LaR W' w.heap.size (.slice (some ⟨gb, go, none⟩) l.gn l.gc) (.slice l.rA l.rn l.rc) (w.heap.size + 1) a b p gb (go + k * 21) g sb (so + k * 3) s) (by kernel_rfl) (by exact hR1) (fun hHeld => ?_)
          refine wpAnyH_take (i := 0) (v := ?_) rfl (by kernel_rfl) (by kernel_rfl) (by kernel_rfl) (fun _ _ _ h => h) (Or.inl ⟨by rfl, ?_⟩) hHeld ?_
          rotate_left
          · intro w hSw; (try dsimp only at hSw); obtain ⟨x1, x2, x4, y0, y1, y2⟩ := hSw; have s0 := x1.cell 0; have s1 := x2.cell 0; have t1 := x2.cell 1; have t2 := x2.cell 2; simp only [List.getElem?_toArray, List.getElem?_cons_zero, List.getElem?_cons_succ] at s0 s1 t1 t2; go_simp; (try with_reducible rfl)
          (try simp only [Act.put, List.setIfInBounds_toArray, List.set_cons_zero, List.set_cons_succ])
          refine wpAnyH_take (i := 1) (v := ?_) rfl (by kernel_rfl) (by kernel_rfl) (by kernel_rfl) (fun _ _ _ h => h) (Or.inl ⟨by rfl, ?_⟩) hHeld ?_
          rotate_left
          · intro w hSw; (try dsimp only at hSw); obtain ⟨x1, x2, x4, y0, y1, y2⟩ := hSw; have s0 := x1.cell 0; have s1 := x2.cell 0; have t1 := x2.cell 1; have t2 := x2.cell 2; simp only [List.getElem?_toArray, List.getElem?_cons_zero, List.getElem?_cons_succ] at s0 s1 t1 t2; go_simp; (try with_reducible rfl)
          (try simp only [Act.put, List.setIfInBounds_toArray, List.set_cons_zero, List.set_cons_succ])
          refine wpAnyH_take (i := 2) (v := ?_) rfl (by kernel_rfl) (by kernel_rfl) (by kernel_rfl) (fun _ _ _ h => h) (Or.inl ⟨by rfl, ?_⟩) hHeld ?_
          rotate_left
          · intro w hSw; (try dsimp only at hSw); obtain ⟨x1, x2, x4, y0, y1, y2⟩ := hSw; have s0 := x1.cell 0; have s1 := x2.cell 0; have t1 := x2.cell 1; have t2 := x2.cell 2; simp only [List.getElem?_toArray, List.getElem?_cons_zero, List.getElem?_cons_succ] at s0 s1 t1 t2; go_simp; (try with_reducible rfl)
          (try simp only [Act.put, List.setIfInBounds_toArray, List.set_cons_zero, List.set_cons_succ])
          refine wpAnyH_take (i := 3) (v := ?_) rfl (by kernel_rfl) (by kernel_rfl) (by kernel_rfl) (fun _ _ _ h => h) (Or.inl ⟨by rfl, ?_⟩) hHeld ?_
          rotate_left
          · intro w hSw; (try dsimp only at hSw); obtain ⟨x1, x2, x4, y0, y1, y2⟩ := hSw; have s0 := x1.cell 0; have s1 := x2.cell 0; have t1 := x2.cell 1; have t2 := x2.cell 2; simp only [List.getElem?_toArray, List.getElem?_cons_zero, List.getElem?_cons_succ] at s0 s1 t1 t2; go_simp; (try with_reducible rfl)
          (try simp only [Act.put, List.setIfInBounds_toArray, List.set_cons_zero, List.set_cons_succ])
          (try simp only [List.getElem_toArray, List.getElem_cons_zero, List.getElem_cons_succ, Act.put, List.setIfInBounds_toArray, List.set_cons_zero, List.set_cons_succ])
          refine wpAnyH_take (i := 4) (v := g.v) rfl (by kernel_rfl) (by kernel_rfl) (by kernel_rfl) (fun _ _ _ h => h) (Or.inl ⟨by rfl, fun w hSw => ld_gm rfl rfl hSw.g⟩) hHeld ?_
          (try simp only [Act.put, List.setIfInBounds_toArray, List.set_cons_zero, List.set_cons_succ])
          refine wpAnyH_take (i := 5) (v := ?_) rfl (by kernel_rfl) (by kernel_rfl) (by kernel_rfl) (fun _ _ _ h => h) (Or.inl ⟨by rfl, ?_⟩) hHeld ?_
          rotate_left
          · intro w hSw; (try dsimp only at hSw); obtain ⟨x1, x2, x4, y0, y1, y2⟩ := hSw; have s0 := x1.cell 0; have s1 := x2.cell 0; have t1 := x2.cell 1; have t2 := x2.cell 2; simp only [List.getElem?_toArray, List.getElem?_cons_zero, List.getElem?_cons_succ] at s0 s1 t1 t2; go_simp; (try with_reducible rfl)
          (try simp only [Act.put, List.setIfInBounds_toArray, List.set_cons_zero, List.set_cons_succ])
          refine wpAnyH_take (i := 6) (v := ?_) rfl (by kernel_rfl) (by kernel_rfl) (by kernel_rfl) (fun _ _ _ h => h) (Or.inl ⟨by rfl, ?_⟩) hHeld ?_
          rotate_left
          · intro w hSw; (try dsimp only at hSw); obtain ⟨x1, x2, x4, y0, y1, y2⟩ := hSw; have s0 := x1.cell 0; have s1 := x2.cell 0; have t1 := x2.cell 1; have t2 := x2.cell 2; simp only [List.getElem?_toArray, List.getElem?_cons_zero, List.getElem?_cons_succ] at s0 s1 t1 t2; go_simp; (try with_reducible rfl)
          (try simp only [Act.put, List.setIfInBounds_toArray, List.set_cons_zero, List.set_cons_succ])
          refine wpAnyH_take (i := 7) (v := ?_) rfl (by kernel_rfl) (by kernel_rfl) (by kernel_rfl) (fun _ _ _ h => h) (Or.inl ⟨by rfl, ?_⟩) hHeld ?_
          rotate_left
          · intro w hSw; (try dsimp only at hSw); obtain ⟨x1, x2, x4, y0, y1, y2⟩ := hSw; have s0 := x1.cell 0; have s1 := x2.cell 0; have t1 := x2.cell 1; have t2 := x2.cell 2; simp only [List.getElem?_toArray, List.getElem?_cons_zero, List.getElem?_cons_succ] at s0 s1 t1 t2; go_simp; (try with_reducible rfl)
          (try simp only [Act.put, List.setIfInBounds_toArray, List.set_cons_zero, List.set_cons_succ])
          refine wpAnyH_take (i := 8) (v := ?_) rfl (by kernel_rfl) (by kernel_rfl) (by kernel_rfl) (fun _ _ _ h => h) (Or.inl ⟨by rfl, ?_⟩) hHeld ?_
          rotate_left
          · intro w hSw; (try dsimp only at hSw); obtain ⟨x1, x2, x4, y0, y1, y2⟩ := hSw; have s0 := x1.cell 0; have s1 := x2.cell 0; have t1 := x2.cell 1; have t2 := x2.cell 2; simp only [List.getElem?_toArray, List.getElem?_cons_zero, List.getElem?_cons_succ] at s0 s1 t1 t2; go_simp; (try with_reducible rfl)
          (try simp only [Act.put, List.setIfInBounds_toArray, List.set_cons_zero, List.set_cons_succ])
          refine wpAnyH_take (i := 9) (v := ?_) rfl (by kernel_rfl) (by kernel_rfl) (by kernel_rfl) (fun _ _ _ h => h) (Or.inl ⟨by rfl, ?_⟩) hHeld ?_
          rotate_left
          · intro w hSw; (try dsimp only at hSw); obtain ⟨x1, x2, x4, y0, y1, y2⟩ := hSw; have s0 := x1.cell 0; have s1 := x2.cell 0; have t1 := x2.cell 1; have t2 := x2.cell 2; simp only [List.getElem?_toArray, List.getElem?_cons_zero, List.getElem?_cons_succ] at s0 s1 t1 t2; go_simp; (try with_reducible rfl)
          (try simp only [Act.put, List.setIfInBounds_toArray, List.set_cons_zero, List.set_cons_succ])
          refine wpAnyH_take (i := 10) (v := ?_) rfl (by kernel_rfl) (by kernel_rfl) (by kernel_rfl) (fun _ _ _ h => h) (Or.inl ⟨by rfl, ?_⟩) hHeld ?_
          rotate_left
          · intro w hSw; (try dsimp only at hSw); obtain ⟨x1, x2, x4, y0, y1, y2⟩ := hSw; have s0 := x1.cell 0; have s1 := x2.cell 0; have t1 := x2.cell 1; have t2 := x2.cell 2; simp only [List.getElem?_toArray, List.getElem?_cons_zero, List.getElem?_cons_succ] at s0 s1 t1 t2; go_simp; (try with_reducible rfl)
          (try simp only [Act.put, List.setIfInBounds_toArray, List.set_cons_zero, List.set_cons_succ])
          refine wpAnyH_take (i := 11) (v := ?_) rfl (by kernel_rfl) (by kernel_rfl) (by kernel_rfl) (fun _ _ _ h => h) (Or.inl ⟨by rfl, ?_⟩) hHeld ?_
          rotate_left
          · intro w hSw; (try dsimp only at hSw); obtain ⟨x1, x2, x4, y0, y1, y2⟩ := hSw; have s0 := x1.cell 0; have s1 := x2.cell 0; have t1 := x2.cell 1; have t2 := x2.cell 2; simp only [List.getElem?_toArray, List.getElem?_cons_zero, List.getElem?_cons_succ] at s0 s1 t1 t2; go_simp; (try with_reducible rfl)
          (try simp only [Act.put, List.setIfInBounds_toArray, List.set_cons_zero, List.set_cons_succ])
          refine wpAnyH_take (i := 12) (v := ?_) rfl (by kernel_rfl) (by kernel_rfl) (by kernel_rfl) (fun _ _ _ h => h) (Or.inl ⟨by rfl, ?_⟩) hHeld ?_
          rotate_left
          · intro w hSw; (try dsimp only at hSw); obtain ⟨x1, x2, x4, y0, y1, y2⟩ := hSw; have s0 := x1.cell 0; have s1 := x2.cell 0; have t1 := x2.cell 1; have t2 := x2.cell 2; simp only [List.getElem?_toArray, List.getElem?_cons_zero, List.getElem?_cons_succ] at s0 s1 t1 t2; go_simp; (try with_reducible rfl)
          (try simp only [Act.put, List.setIfInBounds_toArray, List.set_cons_zero, List.set_cons_succ])
          refine wpAnyH_take (i := 13) (v := ?_) rfl (by kernel_rfl) (by kernel_rfl) (by kernel_rfl) (fun _ _ _ h => h) (Or.inl ⟨by rfl, ?_⟩) hHeld ?_
          rotate_left
          · intro w hSw; (try dsimp only at hSw); obtain ⟨x1, x2, x4, y0, y1, y2⟩ := hSw; have s0 := x1.cell 0; have s1 := x2.cell 0; have t1 := x2.cell 1; have t2 := x2.cell 2; simp only [List.getElem?_toArray, List.getElem?_cons_zero, List.getElem?_cons_succ] at s0 s1 t1 t2; go_simp; (try with_reducible rfl)
          (try simp only [Act.put, List.setIfInBounds_toArray, List.set_cons_zero, List.set_cons_succ])
          refine wpAnyH_take (i := 14) (v := ?_) rfl (by kernel_rfl) (by kernel_rfl) (by kernel_rfl) (fun _ _ _ h => h) (Or.inl ⟨by rfl, ?_⟩) hHeld ?_
          rotate_left
          · intro w hSw; (try dsimp only at hSw); obtain ⟨x1, x2, x4, y0, y1, y2⟩ := hSw; have s0 := x1.cell 0; have s1 := x2.cell 0; have t1 := x2.cell 1; have t2 := x2.cell 2; simp only [List.getElem?_toArray, List.getElem?_cons_zero, List.getElem?_cons_succ] at s0 s1 t1 t2; go_simp; (try with_reducible rfl)
          (try simp only [Act.put, List.setIfInBounds_toArray, List.set_cons_zero, List.set_cons_succ])
          (try simp only [List.getElem_toArray, List.getElem_cons_zero, List.getElem_cons_succ, Act.put, List.setIfInBounds_toArray, List.set_cons_zero, List.set_cons_succ])
          refine wpAnyH_ready (rs := [15]) (by kernel_rfl) (by simp) ?_
          refine AllReadyH.cons rfl (fun K hK => ?_) AllReadyH.nil
          go_simp
          refine (HT.out _ (Hga.out.grow (by repeat (first | exact Below.refl _ _ | assumption | (refine Below.setCell ?_ (by first | omega | (simp; done) | (simp; omega)) _) | (refine Below.alloc ?_ (by first | omega | (simp; done) | (simp; omega)) _) | refine Below.drew ?_ | (refine below_thru ?_ (by assumption) (by first | omega | (simp; done) | (simp; omega))) | refine below_drewN ?_ _)))).mono ?_
          rintro e w2 ⟨rfl, hb2⟩; have hz2 := hb2.size; (try simp at hz2)
          (try dsimp only)
          refine hK.out _ _ (by exact hHeld.below hb2) (fun hHeld => ?_)
          clear hK K
          (try simp only [Act.put, List.setIfInBounds_toArray, List.set_cons_zero, List.set_cons_succ])
          refine wpAnyH_take (i := 16) (v := ?_) rfl (by kernel_rfl) (by kernel_rfl) (by kernel_rfl) (fun _ _ _ h => h) (Or.inl ⟨by rfl, ?_⟩) hHeld ?_
          rotate_left
          · intro w hSw; (try dsimp only at hSw); skip; go_simp; (try with_reducible rfl)
          (try simp only [Act.put, List.setIfInBounds_toArray, List.set_cons_zero, List.set_cons_succ])
          refine wpAnyH_take (i := 17) (v := ?_) rfl (by kernel_rfl) (by kernel_rfl) (by kernel_rfl) (fun _ _ _ h => h) (Or.inl ⟨by rfl, ?_⟩) hHeld ?_
          rotate_left
          · intro w hSw; (try dsimp only at hSw); skip; go_simp; (try with_reducible rfl)
          (try simp only [Act.put, List.setIfInBounds_toArray, List.set_cons_zero, List.set_cons_succ])
          refine wpAnyH_take (i := 18) (v := ?_) rfl (by kernel_rfl) (by kernel_rfl) (by kernel_rfl) (fun _ _ _ h => h) (Or.inl ⟨by rfl, ?_⟩) hHeld ?_
          rotate_left
          · intro w hSw; (try dsimp only at hSw); skip; go_simp; (try with_reducible rfl)
          (try simp only [Act.put, List.setIfInBounds_toArray, List.set_cons_zero, List.set_cons_succ])
          refine wpAnyH_take (i := 19) (v := ?_) rfl (by kernel_rfl) (by kernel_rfl) (by kernel_rfl) (fun _ _ _ h => h) (Or.inl ⟨by rfl, ?_⟩) hHeld ?_
          rotate_left
          · intro w hSw; (try dsimp only at hSw); skip; go_simp; (try with_reducible rfl)
          (try simp only [Act.put, List.setIfInBounds_toArray, List.set_cons_zero, List.set_cons_succ])
          refine wpAnyH_take (i := 20) (v := ?_) rfl (by kernel_rfl) (by kernel_rfl) (by kernel_rfl) (fun _ _ _ h => h) (Or.inl ⟨by rfl, ?_⟩) hHeld ?_
          rotate_left
          · intro w hSw; (try dsimp only at hSw); skip; go_simp; (try with_reducible rfl)
          (try simp only [Act.put, List.setIfInBounds_toArray, List.set_cons_zero, List.set_cons_succ])
          refine wpAnyH_done (by kernel_rfl) ?_ _
          (try simp only [List.getElem_toArray, List.getElem_cons_zero, List.getElem_cons_succ, Act.put, List.setIfInBounds_toArray, List.set_cons_zero, List.set_cons_succ])
          have hW2 : Below w.heap.size w w2 := (by repeat (first | exact Below.refl _ _ | assumption | (refine Below.setCell ?_ (by first | omega | (simp; done) | (simp; omega)) _) | (refine Below.alloc ?_ (by first | omega | (simp; done) | (simp; omega)) _) | refine Below.drew ?_ | (refine below_thru ?_ (by assumption) (by first | omega | (simp; done) | (simp; omega))) | refine below_drewN ?_ _))
          have hbl2 := Lib.hid (Blk.thru hbl.out.drew hb2 (by simp; omega))
          have hbx2 := Lib.hid (Blk.thru hbx.out.drew hb2 (by simp; omega))
          obtain ⟨q0, q1⟩ := Hj.out
          have Hnx := Lib.hid (fun (m' : Int) (h1 : m ≤ m') (h2 : jj k ≤ m') => (show Hid (∀ j, j < k + 1 → jj j ≤ m') from fun j hj => by
            rcases Nat.lt_or_ge j k with h | h
            · have := hprev.out j h; omega
            · obtain rfl : j = k := by omega
              exact h2))
          generalize jj k = jk at *
          clear hb2 hR1 HT Hj Hga hbr hbl hbx hz2
          by_cases hmx : m < jk
          · go_wp2
            go_roundw
            case rel => exact ⟨k + 1, jk, by omega, by go_num, rfl, by omega, by omega, Hnx.out jk (by omega) (Int.le_refl _), hbl2.out, hbx2.out, hW2⟩
            case measure => simp [intOf]; omega
          · go_wp2
            go_roundw
            case rel => exact ⟨k + 1, m, by omega, by go_num, rfl, m0, m1, Hnx.out m (Int.le_refl _) (by omega), hbl2.out, hbx2.out, hW2⟩
            case measure => simp [intOf]; omega
        · obtain rfl : k = l.gn := by omega
          have hmN : m = N := by
            obtain ⟨k', h1, h2⟩ := Hex.out
            have := hprev.out k' h1
            omega
          subst hmN
          have hq : dN = (m + 10 - 1) / 10 := by rw [← Hq.out, Int.tdiv_eq_ediv_of_nonneg (by omega)]
          clear hlt hk m1 N0 HT Hall Hex hprev HD
          go_wp2_with fail
          refine (Awake_any _).mono ?_
          rintro e w4 ⟨rfl, hb4⟩
          go_wp2
          go_ret
          exact ⟨rfl, (by repeat (first | exact Below.refl _ _ | assumption | (refine Below.setCell ?_ (by first | omega | (simp; done) | (simp; omega)) _) | (refine Below.alloc ?_ (by first | omega | (simp; done) | (simp; omega)) _) | refine Below.drew ?_ | (refine below_thru ?_ (by assumption) (by first | omega | (simp; done) | (simp; omega))) | refine below_drewN ?_ _))⟩
    · have hD' : ∀ W, l.At W W.heap.size → Tab W W.heap.size sA sn 3 (ss.map Gs.cells) → Calls Tryz.prog 44 #[.agg #[.slice l.gA l.gn l.gc, .slice none 0 0], .slice sA sn sc, .int .i64 a, .int .i64 b, .bool p] W fun e w' => e = .returned (.tuple #[.int .i64 (-(-(toShutF [] 0 t l.gn 2000 0 (machs l.gs ss)).1 / 10)), .int .i64 9]) ∧ Below W.heap.size W w' := by
        rw [h9] at hD
        exact hD
      generalize -(-(toShutF [] 0 t l.gn 2000 0 (machs l.gs ss)).1 / 10) = dN at *
      have HD := Lib.hid hD'
      clear hD hD' hr h0 h9 ht hl hs
      go_enter Tryz.func18, Tryz.ntmps18
      go_wp2_with fail
      refine (HD.out _ (Hl.out.grow (by repeat (first | exact Below.refl _ _ | assumption | (refine Below.setCell ?_ (by first | omega | (simp; done) | (simp; omega)) _) | (refine Below.alloc ?_ (by first | omega | (simp; done) | (simp; omega)) _) | refine Below.drew ?_ | (refine below_thru ?_ (by assumption) (by first | omega | (simp; done) | (simp; omega))) | refine below_drewN ?_ _))) (Hs.out.grow (by repeat (first | exact Below.refl _ _ | assumption | (refine Below.setCell ?_ (by first | omega | (simp; done) | (simp; omega)) _) | (refine Below.alloc ?_ (by first | omega | (simp; done) | (simp; omega)) _) | refine Below.drew ?_ | (refine below_thru ?_ (by assumption) (by first | omega | (simp; done) | (simp; omega))) | refine below_drewN ?_ _)))).mono ?_
      rintro e w1 ⟨rfl, hb1⟩
      obtain ⟨hc1, hf1⟩ := bcell hb1; have hz1 := hb1.size; (try simp at hz1)
      have hl0 : w.heap.size < w1.heap.size := by omega
      have hB1 : Blk w1 w.heap.size 25 #[.slice l.gA l.gn l.gc, .slice l.rA l.rn l.rc] := Blk.thru (by (repeat (first | assumption | exact Blk.new _ _ _ | (refine Blk.new' _ _ _ ?_; (simp; done)) | refine Blk.drew ?_ | refine Blk.alloc ?_ _ | (refine Blk.fars ?_ ?_ _ _; rotate_left; (dsimp only; omega)) | (refine Blk.far ?_ ?_ _; rotate_left; (first | (dsimp only; omega) | (simp; done) | (simp; omega) | omega))))) hb1 (by simp <;> omega)
      have s0 := hB1.cell 0
      simp only [List.getElem?_toArray, List.getElem?_cons_zero, List.getElem?_cons_succ] at s0
      clear hB1
      go_wp2_with fail
      refine (Awake_any _).mono ?_
      rintro e w4 ⟨rfl, hb4⟩
      go_wp2
      go_ret
      exact ⟨rfl, (by repeat (first | exact Below.refl _ _ | assumption | (refine Below.setCell ?_ (by first | omega | (simp; done) | (simp; omega)) _) | (refine Below.alloc ?_ (by first | omega | (simp; done) | (simp; omega)) _) | refine Below.drew ?_ | (refine below_thru ?_ (by assumption) (by first | omega | (simp; done) | (simp; omega))) | refine below_drewN ?_ _))⟩
  · have hr : delayR (freeS l) ss sn t = (0, (delayFt (freeS l) ss sn t).e) := by unfold delayR; rw [if_neg h0]
    rw [hr] at hD
    generalize (delayFt (freeS l) ss sn t).e = fe at *
    have HD := Lib.hid (show ∀ W, l.At W W.heap.size → Tab W W.heap.size sA sn 3 (ss.map Gs.cells) → Calls Tryz.prog 44 #[.agg #[.slice l.gA l.gn l.gc, .slice none 0 0], .slice sA sn sc, .int .i64 a, .int .i64 b, .bool p] W fun e w' => e = .returned (.tuple #[.int .i64 0, .int .i64 fe]) ∧ Below W.heap.size W w' from hD)
    have q0 : (fe != 0) = true := by rw [bne_iff_ne]; exact h0
    clear hD hr h0 ht hl hs
    by_cases h9 : fe = 9
    · subst h9
      go_enter Tryz.func18, Tryz.ntmps18
      go_wp2_with fail
      refine (HD.out _ (Hl.out.grow (by repeat (first | exact Below.refl _ _ | assumption | (refine Below.setCell ?_ (by first | omega | (simp; done) | (simp; omega)) _) | (refine Below.alloc ?_ (by first | omega | (simp; done) | (simp; omega)) _) | refine Below.drew ?_ | (refine below_thru ?_ (by assumption) (by first | omega | (simp; done) | (simp; omega))) | refine below_drewN ?_ _))) (Hs.out.grow (by repeat (first | exact Below.refl _ _ | assumption | (refine Below.setCell ?_ (by first | omega | (simp; done) | (simp; omega)) _) | (refine Below.alloc ?_ (by first | omega | (simp; done) | (simp; omega)) _) | refine Below.drew ?_ | (refine below_thru ?_ (by assumption) (by first | omega | (simp; done) | (simp; omega))) | refine below_drewN ?_ _)))).mono ?_
      rintro e w1 ⟨rfl, hb1⟩
      obtain ⟨hc1, hf1⟩ := bcell hb1; have hz1 := hb1.size; (try simp at hz1)
      have hl0 : w.heap.size < w1.heap.size := by omega
      have hB1 : Blk w1 w.heap.size 25 #[.slice l.gA l.gn l.gc, .slice l.rA l.rn l.rc] := Blk.thru (by (repeat (first | assumption | exact Blk.new _ _ _ | (refine Blk.new' _ _ _ ?_; (simp; done)) | refine Blk.drew ?_ | refine Blk.alloc ?_ _ | (refine Blk.fars ?_ ?_ _ _; rotate_left; (dsimp only; omega)) | (refine Blk.far ?_ ?_ _; rotate_left; (first | (dsimp only; omega) | (simp; done) | (simp; omega) | omega))))) hb1 (by simp <;> omega)
      have s0 := hB1.cell 0
      simp only [List.getElem?_toArray, List.getElem?_cons_zero, List.getElem?_cons_succ] at s0
      clear hB1
      go_wp2_with fail
      refine (Awake_any _).mono ?_
      rintro e w4 ⟨rfl, hb4⟩
      go_wp2
      go_ret
      exact ⟨rfl, (by repeat (first | exact Below.refl _ _ | assumption | (refine Below.setCell ?_ (by first | omega | (simp; done) | (simp; omega)) _) | (refine Below.alloc ?_ (by first | omega | (simp; done) | (simp; omega)) _) | refine Below.drew ?_ | (refine below_thru ?_ (by assumption) (by first | omega | (simp; done) | (simp; omega))) | refine below_drewN ?_ _))⟩
    · have q9 : (fe == 9) = false := by rw [beq_eq_false_iff_ne]; exact h9
      clear h9
      by_cases hn : sn = l.gn
      · subst hn
        go_enter Tryz.func18, Tryz.ntmps18
        go_wp2_with fail
        refine (HD.out _ (Hl.out.grow (by repeat (first | exact Below.refl _ _ | assumption | (refine Below.setCell ?_ (by first | omega | (simp; done) | (simp; omega)) _) | (refine Below.alloc ?_ (by first | omega | (simp; done) | (simp; omega)) _) | refine Below.drew ?_ | (refine below_thru ?_ (by assumption) (by first | omega | (simp; done) | (simp; omega))) | refine below_drewN ?_ _))) (Hs.out.grow (by repeat (first | exact Below.refl _ _ | assumption | (refine Below.setCell ?_ (by first | omega | (simp; done) | (simp; omega)) _) | (refine Below.alloc ?_ (by first | omega | (simp; done) | (simp; omega)) _) | refine Below.drew ?_ | (refine below_thru ?_ (by assumption) (by first | omega | (simp; done) | (simp; omega))) | refine below_drewN ?_ _)))).mono ?_
        rintro e w1 ⟨rfl, hb1⟩
        obtain ⟨hc1, hf1⟩ := bcell hb1; have hz1 := hb1.size; (try simp at hz1)
        have hl0 : w.heap.size < w1.heap.size := by omega
        have hB1 : Blk w1 w.heap.size 25 #[.slice l.gA l.gn l.gc, .slice l.rA l.rn l.rc] := Blk.thru (by (repeat (first | assumption | exact Blk.new _ _ _ | (refine Blk.new' _ _ _ ?_; (simp; done)) | refine Blk.drew ?_ | refine Blk.alloc ?_ _ | (refine Blk.fars ?_ ?_ _ _; rotate_left; (dsimp only; omega)) | (refine Blk.far ?_ ?_ _; rotate_left; (first | (dsimp only; omega) | (simp; done) | (simp; omega) | omega))))) hb1 (by simp <;> omega)
        have s0 := hB1.cell 0
        simp only [List.getElem?_toArray, List.getElem?_cons_zero, List.getElem?_cons_succ] at s0
        clear hB1
        go_wp2_with fail
        refine (Awake_any _).mono ?_
        rintro e w4 ⟨rfl, hb4⟩
        go_wp2
        go_ret
        exact ⟨rfl, (by repeat (first | exact Below.refl _ _ | assumption | (refine Below.setCell ?_ (by first | omega | (simp; done) | (simp; omega)) _) | (refine Below.alloc ?_ (by first | omega | (simp; done) | (simp; omega)) _) | refine Below.drew ?_ | (refine below_thru ?_ (by assumption) (by first | omega | (simp; done) | (simp; omega))) | refine below_drewN ?_ _))⟩

      · have qn : ((sn : Int) == (l.gn : Int)) = false := by rw [beq_eq_false_iff_ne]; omega
        have qm : ((sn : Int) != (l.gn : Int)) = true := by rw [bne_iff_ne]; omega
        go_enter Tryz.func18, Tryz.ntmps18
        go_wp2_with fail
        refine (HD.out _ (Hl.out.grow (by repeat (first | exact Below.refl _ _ | assumption | (refine Below.setCell ?_ (by first | omega | (simp; done) | (simp; omega)) _) | (refine Below.alloc ?_ (by first | omega | (simp; done) | (simp; omega)) _) | refine Below.drew ?_ | (refine below_thru ?_ (by assumption) (by first | omega | (simp; done) | (simp; omega))) | refine below_drewN ?_ _))) (Hs.out.grow (by repeat (first | exact Below.refl _ _ | assumption | (refine Below.setCell ?_ (by first | omega | (simp; done) | (simp; omega)) _) | (refine Below.alloc ?_ (by first | omega | (simp; done) | (simp; omega)) _) | refine Below.drew ?_ | (refine below_thru ?_ (by assumption) (by first | omega | (simp; done) | (simp; omega))) | refine below_drewN ?_ _)))).mono ?_
        rintro e w1 ⟨rfl, hb1⟩
        obtain ⟨hc1, hf1⟩ := bcell hb1; have hz1 := hb1.size; (try simp at hz1)
        have hl0 : w.heap.size < w1.heap.size := by omega
        have hB1 : Blk w1 w.heap.size 25 #[.slice l.gA l.gn l.gc, .slice l.rA l.rn l.rc] := Blk.thru (by (repeat (first | assumption | exact Blk.new _ _ _ | (refine Blk.new' _ _ _ ?_; (simp; done)) | refine Blk.drew ?_ | refine Blk.alloc ?_ _ | (refine Blk.fars ?_ ?_ _ _; rotate_left; (dsimp only; omega)) | (refine Blk.far ?_ ?_ _; rotate_left; (first | (dsimp only; omega) | (simp; done) | (simp; omega) | omega))))) hb1 (by simp <;> omega)
        have s0 := hB1.cell 0
        simp only [List.getElem?_toArray, List.getElem?_cons_zero, List.getElem?_cons_succ] at s0
        clear hB1
        go_wp2_with fail
        refine (Awake_any _).mono ?_
        rintro e w4 ⟨rfl, hb4⟩
        go_wp2
        go_ret
        exact ⟨rfl, (by repeat (first | exact Below.refl _ _ | assumption | (refine Below.setCell ?_ (by first | omega | (simp; done) | (simp; omega)) _) | (refine Below.alloc ?_ (by first | omega | (simp; done) | (simp; omega)) _) | refine Below.drew ?_ | (refine below_thru ?_ (by assumption) (by first | omega | (simp; done) | (simp; omega))) | refine below_drewN ?_ _))⟩
end Go.Proofs.YtgdomaddjiggaaaGreat
