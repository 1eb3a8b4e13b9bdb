/- GateAgain: what Run does with all steps is what it does with the first ones and then with the others. -/
import Derived.Test.YtgdomaddjiggaaaGreatGtAwake
import Derived.Test.YtgdomaddjiggaaaGreatGtInv
import Derived.Test.YtgdomaddjiggaaaGreatGtRefR
import Derived.Test.YtgdomaddjiggaaaGreatGtStatesR
namespace Go.Proofs.YtgdomaddjiggaaaGreat
open Go.RowKit
set_option linter.unusedSimpArgs false
set_option linter.unusedVariables false

theorem Tab.take {w : World} {B A n size rows} (h : Tab w B A n size rows) {k : Nat} (hk : k ≤ n) : Tab w B A k size (rows.take k) :=
  ⟨by rw [List.length_take, h.1]; omega, fun hn => by
    obtain ⟨b, off, e, hb, hc⟩ := h.2 (by omega)
    exact ⟨b, off, e, hb, fun j r hr => hc j r (by rw [List.getElem?_take] at hr; split at hr; · exact hr
                                                   · cases hr)⟩⟩
theorem Tab.drop {w : World} {B b off n size rows} (h : Tab w B (some ⟨b, off, none⟩) n size rows) {k : Nat} (hk : k ≤ n) : Tab w B (some ⟨b, off + k * size, none⟩) (n - k) size (rows.drop k) :=
  ⟨by rw [List.length_drop, h.1], fun hn => by
    obtain ⟨b', off', e, hb, hc⟩ := h.2 (by omega)
    cases e
    exact ⟨b, off + k * size, rfl, hb, fun j r hr i v hv => by
      rw [List.getElem?_drop] at hr
      have := hc (k + j) r hr i v hv
      rwa [show off + (k + j) * size + i = off + k * size + j * size + i by rw [Nat.add_mul]; omega] at this⟩⟩
theorem run_append_none {P : Program} {w : World} (t ty e : TypeId) (i : TypeInfo) (ht : P.underlying t = some (.slice e)) (hi : P.info? e = some i) (b : Addr) (n cap c : Nat) (hn : n ≤ cap) :
    (Builtin.append_ #[t, t] ty #[.slice (some b) n cap, .slice none 0 c]).run P w = .ok (.slice (some b) n cap) w := by
  simp [Builtin.append_, run_underlying ht, sizeOf, typeInfo, hi, Builtin.lenOf, Builtin.firstCells, loadCells, loadCellsFrom, hn, storeCells]

/-- What the law's last comparison reads. -/
structure AgS (W : World) (b : Nat) (q : Gs) (ab ao : Nat) : Prop where
  b : Blk W b 42 #[.int .i64 q.pos, .int .i64 q.charge, .bool q.bolted]
  p0 : W.cell? ⟨ab, ao, none⟩ = some (.int .i64 q.pos)
  p1 : W.cell? ⟨ab, ao + 1, none⟩ = some (.int .i64 q.charge)
  p2 : W.cell? ⟨ab, ao + 2, none⟩ = some (.bool q.bolted)
theorem AgS.drew {W : World} {b ab ao : Nat} {q : Gs} (h : AgS W b q ab ao) : AgS W.drew b q ab ao := ⟨h.b, h.p0, h.p1, h.p2⟩
theorem AgS.below {W W' : World} {b ab ao : Nat} {q : Gs} (h : AgS W b q ab ao) (hb : Below W.heap.size W W') : AgS W' b q ab ao := by
  have k : ∀ (a : Addr) (v : Value), W.cell? a = some v → W'.cell? a = some v := fun a v hq => (hb.cell (World.block_lt_of_cell? W a hq)).trans hq
  exact ⟨h.b.thru hb h.b.lt, k _ _ h.p0, k _ _ h.p1, k _ _ h.p2⟩
theorem wp_append_none {P : Program} {o : Oper} {a : Act} {w : World} {K : Act → World → Prop} {Q : Exit → Act → World → Prop} (s x : Operand) (t : TypeId) (ho : o.op = .call { callee := .builtin .append, args := #[s, x], argTypes := #[t, t] })
    (e : TypeId) (i : TypeInfo) (ht : P.underlying t = some (.slice e)) (hi : P.info? e = some i) (b : Addr) (n cap c : Nat) (hn : n ≤ cap) (hs : a.eval s = .slice (some b) n cap) (hx : a.eval x = .slice none 0 c) (h : K (a.put o.dst (.slice (some b) n cap)) w) : o.wp P a w K Q := by
  unfold Oper.wp execOp
  simp only [ho, resolve, invoke, builtin, Sem.run_bind, Sem.run_pure, Result.andThen_ok, List.map_toArray, List.map_cons, List.map_nil, hs, hx, run_append_none t o.type e i ht hi b n cap c hn]
  exact h
theorem gs_at : ∀ (l : List Gs) (j : Nat) (u : Value), (gsCells l)[j]? = some u → ∃ q, l[j / 3]? = some q ∧ q.cells[j % 3]? = some u
  | [], j, u, h => by simp [gsCells] at h
  | q :: l, j, u, h => by
    have e : gsCells (q :: l) = q.cells ++ gsCells l := rfl
    rw [e] at h
    by_cases hj : j < 3
    · rw [List.getElem?_append_left (by exact hj)] at h
      exact ⟨q, by rw [show j / 3 = 0 by omega]; rfl, by rw [show j % 3 = j by omega]; exact h⟩
    · rw [List.getElem?_append_right (by show 3 ≤ j; omega)] at h
      obtain ⟨q', h1, h2⟩ := gs_at l (j - 3) u h
      refine ⟨q', ?_, ?_⟩
      · rw [show j / 3 = (j - 3) / 3 + 1 by omega, List.getElem?_cons_succ]; exact h1
      · rw [show j % 3 = (j - 3) % 3 by omega]; exact h2
theorem tab_flat {w : World} {B b off n : Nat} {l : List Gs} (h : Tab w B (some ⟨b, off, none⟩) n 3 (l.map Gs.cells)) : ∀ (j : Nat) (u : Value), (gsCells l)[j]? = some u → w.cell? ((⟨b, off, none⟩ : Addr).add j) = some u := fun j u hj => by
  obtain ⟨q, h1, h2⟩ := gs_at l j u hj
  have hlt := (List.getElem?_eq_some_iff.1 h1).1
  have hn : l.length = n := by have := h.1; simpa using this
  obtain ⟨b', off', e, _, hc⟩ := h.2 (by omega)
  cases e
  have := hc (j / 3) q.cells (by simp [h1]) (j % 3) u h2
  rw [show off + j / 3 * 3 + j % 3 = off + j by omega] at this
  show w.cell? (if j = 0 then ⟨b, off, none⟩ else ⟨b, off + j, none⟩) = some u
  split
  · rename_i h0; rw [h0] at this; exact this
  · exact this
theorem tab_news {w : World} {B n : Nat} {ad : Addr} {l : List Gs} (h : Tab w B (some ad) n 3 (l.map Gs.cells)) : ∀ (j : Nat) (u : Value), (gsCells l)[j]? = some u → w.cell? (ad.add j) = some u := fun j u hj => by
  obtain ⟨q, h1, h2⟩ := gs_at l j u hj
  have hlt := (List.getElem?_eq_some_iff.1 h1).1
  have hn : l.length = n := by have := h.1; simpa using this
  obtain ⟨b', off', e, _, hc⟩ := h.2 (by omega)
  cases e
  exact tab_flat h j u hj
theorem gs_one (l : List Gs) : ∀ v ∈ gsCells l, v.oneCell' = true := fun v hv => by
  unfold gsCells at hv
  obtain ⟨r, hr, hv⟩ := List.mem_flatten.1 hv
  obtain ⟨q, _, rfl⟩ := List.mem_map.1 hr
  simp only [Gs.cells, List.mem_cons, List.not_mem_nil, or_false] at hv
  rcases hv with rfl | rfl | rfl <;> rfl
theorem gs_len : ∀ (l : List Gs), (gsCells l).length = l.length * 3
  | [] => rfl
  | q :: l => by
    have e : gsCells (q :: l) = q.cells ++ gsCells l := rfl
    rw [e, List.length_append, gs_len l]
    show 3 + l.length * 3 = (l.length + 1) * 3
    omega
theorem gs_append (a b : List Gs) : gsCells (a ++ b) = gsCells a ++ gsCells b := by unfold gsCells; rw [List.map_append, List.flatten_append]

set_option maxRecDepth 100000 in
set_option maxHeartbeats 16000000 in
theorem GateAgain_any (g : Ga) (s : Gs) (ts : List Gt) (A : Option Addr) (n c : Nat) (w : World) (hg : g.At w w.heap.size) (ht : Tab w w.heap.size A n 4 (ts.map Gt.cells)) (hn : n ≤ maxLen) (hnc : n ≤ c) :
    Calls Tryz.prog 19 #[g.v, s.v, .slice A n c] w fun e w' => e = .returned (.bool true) ∧ Below w.heap.size w w' := by
  have hl : ts.length = n := by have := ht.1; simpa using this
  have Hg := Lib.hid hg
  by_cases h0 : (runFt g s n ts).e = 0
  · obtain ⟨hgo, hso, hn2, hto⟩ := run_ok hg hl h0
    have hgf : (gateF g).e = 0 := first0 _ h0 (gateF g) (by simp [runFL])
    have HRun := Lib.hid (fun (W : World) (u : Gs) (A' : Option Addr) (n' c' : Nat) (ts' : List Gt) (h1 : g.At W W.heap.size) (h2 : Tab W W.heap.size A' n' 4 (ts'.map Gt.cells)) (hn' : n' ≤ n) (hu : u.Ok g) (hl' : ts'.length = n') (ht' : ∀ t ∈ ts', (orderFt t).e = 0) =>
      (show Calls Tryz.prog 31 #[g.v, .agg #[.int .i64 u.pos, .int .i64 u.charge, .bool u.bolted], .slice A' n' c'] W fun e w' => ∃ RA rc, e = .returned (.tuple #[.slice RA n' rc, .int .i64 0]) ∧ Tab w' w'.heap.size RA n' 3 ((runL g u ts').map Gs.cells) ∧ n' ≤ rc ∧ Below W.heap.size W w' from
        Run_ok g u ts' A' n' c' W h1 h2 (by omega) (run_fine hgf hu (by omega) hl' ht')))
    obtain ⟨i0, hi, hz0, hz1, hz2⟩ := info_parts infoState
    have HI := Lib.hid (And.intro hi (And.intro hz0 (And.intro hz1 hz2)))
    clear hi hz0 hz1 hz2
    have Ht := Lib.hid ht
    have Hl := Lib.hid hl
    have Hto := Lib.hid hto
    have Hso := Lib.hid hso
    have Hgo := Lib.hid hgo
    by_cases hz : n = 0
    · subst hz
      clear h0 hgf hgo hso hto hl hg ht
      go_enter Tryz.func19, Tryz.ntmps19
      go_wp2_with (with_reducible refine wpl_g (g := g) ((Blk.new w _ _).alloc _) rfl rfl rfl ?_)
      refine (HRun.out _ s _ _ _ ts (Hg.out.grow (by repeat (first | exact Below.refl _ _ | assumption | (refine Below.setCell ?_ (by first | omega | (simp; done) | (simp; omega)) _) | (refine Below.alloc ?_ (by first | omega | (simp; done) | (simp; omega)) _) | refine Below.drew ?_ | (refine below_thru ?_ (by assumption) (by first | omega | (simp; done) | (simp; omega))) | refine below_drewN ?_ _))) (Ht.out.grow (by repeat (first | exact Below.refl _ _ | assumption | (refine Below.setCell ?_ (by first | omega | (simp; done) | (simp; omega)) _) | (refine Below.alloc ?_ (by first | omega | (simp; done) | (simp; omega)) _) | refine Below.drew ?_ | (refine below_thru ?_ (by assumption) (by first | omega | (simp; done) | (simp; omega))) | refine below_drewN ?_ _))) (Nat.le_refl _) Hso.out Hl.out Hto.out).mono ?_
      rintro e w1 ⟨RA, rc, rfl, _, _, hb1⟩
      obtain ⟨hc1, hf1⟩ := bcell hb1; have hz1 := hb1.size; (try simp at hz1)
      go_wp2_with fail
      refine (Awake_any _).mono ?_
      rintro e w4 ⟨rfl, hb4⟩
      go_wp2
      go_ret
      exact ⟨rfl, (by repeat (first | exact Below.refl _ _ | assumption | (refine Below.setCell ?_ (by first | omega | (simp; done) | (simp; omega)) _) | (refine Below.alloc ?_ (by first | omega | (simp; done) | (simp; omega)) _) | refine Below.drew ?_ | (refine below_thru ?_ (by assumption) (by first | omega | (simp; done) | (simp; omega))) | refine below_drewN ?_ _))⟩
    · obtain ⟨t0, ht0⟩ := get_lt hl (by omega : 0 < n)
      obtain ⟨tb, off, hA, htb, d0, d1, d2, d3⟩ := ht.four (k := 0) (x := .int .i64 t0.order) (y := .bool t0.power) (z := .int .i64 t0.outer) (u := .int .i64 t0.inner) (by simp [ht0])
      obtain ⟨h, hh⟩ : ∃ h : Nat, h = n / 2 := ⟨_, rfl⟩
      have hhn : h < n := by omega
      have hh2 : h * 2 ≤ n := by omega
      subst hA
      have HT1 := Lib.hid (show Tab w w.heap.size (some ⟨tb, off, none⟩) h 4 ((ts.take h).map Gt.cells) by rw [List.map_take]; exact ht.take (by omega))
      have HT2 := Lib.hid (show Tab w w.heap.size (some ⟨tb, off + h * 4, none⟩) (n - h) 4 ((ts.drop h).map Gt.cells) by rw [List.map_drop]; exact ht.drop (by omega))
      obtain ⟨u, hu⟩ : ∃ u, endF g s (ts.take h) = u := ⟨_, rfl⟩
      have hall : runL g s ts = runL g s (ts.take h) ++ runL g u (ts.drop h) := by rw [← hu, ← runL_append, List.take_append_drop]
      have hfirst : (runL g s ts)[0]? = some (lone g s t0) := by
        rw [runL_at g s (by omega), List.take_add_one, ht0]; rfl
      have hor := hto t0 (List.mem_of_getElem? ht0)
      have hst0 : (stepFt g s t0).e = 0 := by
        unfold stepFt
        simp only [firstF, state_fine hgf hso, if_true, hor]
      have HSt := Lib.hid (fun W h => Step_any g s t0 W h)
      rw [hst0, show stepU g s t0 = lone g s t0 by unfold stepU; rw [if_pos hst0]; rfl] at HSt
      generalize lone g s t0 = q at *
      generalize stepD g s t0 = d at *
      have HSt : Hid (∀ W : World, g.At W W.heap.size → Calls Tryz.prog 29 #[g.v, .agg #[.int .i64 s.pos, .int .i64 s.charge, .bool s.bolted], .agg #[.int .i64 t0.order, .bool t0.power, .int .i64 t0.outer, .int .i64 t0.inner]] W fun e w' => e = .returned (.tuple #[.agg #[.int .i64 q.pos, .int .i64 q.charge, .bool q.bolted], .agg #[.int .i64 d.refused, .int .i64 d.moved, .int .i64 d.oil], .int .i64 0]) ∧ Below W.heap.size W w') := HSt.out
      have hua : 0 < h → (runL g s (ts.take h))[h - 1]? = some u := fun hp => by
        rw [runL_at g s (by rw [List.length_take]; omega), List.take_take, show min (h - 1 + 1) h = h by omega, hu]
      have hu0 : h = 0 → u = s := fun hz => by rw [← hu, hz]; rfl
      have huo : u.Ok g := by rw [← hu]; exact endF_ok hgo s _ hso
      have hla : (runL g s (ts.take h)).length = h := by rw [runL_len, List.length_take]; omega
      have HR1 := Lib.hid (fun (W : World) (h1 : g.At W W.heap.size) (h2 : Below w.heap.size w W) => HRun.out W s _ _ c ts h1 (ht.grow h2) (Nat.le_refl _) hso hl hto)
      have HR2 := Lib.hid (fun (W : World) (h1 : g.At W W.heap.size) (h2 : Below w.heap.size w W) => HRun.out W s _ _ c (ts.take h) h1 (HT1.out.grow h2) (by omega) hso (by rw [List.length_take]; omega) (fun t ht => hto t (List.mem_of_mem_take ht)))
      have HR3 := Lib.hid (fun (W : World) (h1 : g.At W W.heap.size) (h2 : Below w.heap.size w W) => HRun.out W u _ _ (c - h) (ts.drop h) h1 (HT2.out.grow h2) (by omega) huo (by rw [List.length_drop]; omega) (fun t ht => hto t (List.mem_of_mem_drop ht)))
      generalize runL g s (ts.take h) = ra at *
      generalize runL g u (ts.drop h) = rb at *
      generalize runL g s ts = rl at *
      have Hall := Lib.hid hall
      have Hfirst := Lib.hid hfirst
      have Hua := Lib.hid hua
      have Hu0 := Lib.hid hu0
      have Hla := Lib.hid hla
      have d0 : w.cell? ⟨tb, off, none⟩ = some (.int .i64 t0.order) := by simpa using d0
      have d1 : w.cell? ⟨tb, off + 1, none⟩ = some (.bool t0.power) := by simpa using d1
      have d2 : w.cell? ⟨tb, off + 2, none⟩ = some (.int .i64 t0.outer) := by simpa using d2
      have d3 : w.cell? ⟨tb, off + 3, none⟩ = some (.int .i64 t0.inner) := by simpa using d3
      have HD := Lib.hid (And.intro d0 (And.intro d1 (And.intro d2 d3)))
      have hhi : (n : Int) / 2 = (h : Int) := by omega
      have k0 : (0 : Int) ≤ (n : Int) := Int.natCast_nonneg _
      have k1 : (0 : Int) ≤ (h : Int) := Int.natCast_nonneg _
      have k2 : (h : Int) ≤ (c : Int) := by omega
      have k3 : (h : Int) < (n : Int) := by omega
      have k4 : (n : Int) ≤ (c : Int) := by omega
      have k5 : ((n : Int) == 0) = false := by rw [beq_eq_false_iff_ne]; omega
      have k6 : (n : Int) ≤ 2000 := by omega
      have k11 : h ≤ n := by omega
      have k13 : 0 < n := by omega
      have k12 : ¬ c = h := by omega
      clear h0 hgf hgo hso hto hl hg ht ht0 d0 d1 d2 d3 hall hfirst hua hu0 hla hor hst0 huo hu HRun HT1 HT2 Hl Hto Ht hh hh2 hn hn2 hnc hz
      go_enter Tryz.func19, Tryz.ntmps19
      go_wp2_with (with_reducible refine wpl_g (g := g) ((Blk.new w _ _).alloc _) rfl rfl rfl ?_)
      refine (HR1.out _ (Hg.out.grow (by repeat (first | exact Below.refl _ _ | assumption | (refine Below.setCell ?_ (by first | omega | (simp; done) | (simp; omega)) _) | (refine Below.alloc ?_ (by first | omega | (simp; done) | (simp; omega)) _) | refine Below.drew ?_ | (refine below_thru ?_ (by assumption) (by first | omega | (simp; done) | (simp; omega))) | refine below_drewN ?_ _))) (by repeat (first | exact Below.refl _ _ | assumption | (refine Below.setCell ?_ (by first | omega | (simp; done) | (simp; omega)) _) | (refine Below.alloc ?_ (by first | omega | (simp; done) | (simp; omega)) _) | refine Below.drew ?_ | (refine below_thru ?_ (by assumption) (by first | omega | (simp; done) | (simp; omega))) | refine below_drewN ?_ _))).mono ?_
      rintro e w1 ⟨RA, rc, rfl, hT1, hrc, hb1⟩
      have hG1 : Blk w1 w.heap.size 33 (grow g) := Blk.thru (by (repeat (first | assumption | exact Blk.new _ _ _ | (refine Blk.new' _ _ _ ?_; (simp; done)) | refine Blk.drew ?_ | refine Blk.alloc ?_ _ | (refine Blk.fars ?_ ?_ _ _; rotate_left; (dsimp only; omega)) | (refine Blk.far ?_ ?_ _; rotate_left; (first | (dsimp only; omega) | (simp; done) | (simp; omega) | omega))))) hb1 (by simp <;> omega)
      have hS1 : Blk w1 (w.heap.size + 1) 42 #[.int .i64 s.pos, .int .i64 s.charge, .bool s.bolted] := Blk.thru (by (repeat (first | assumption | exact Blk.new _ _ _ | (refine Blk.new' _ _ _ ?_; (simp; done)) | refine Blk.drew ?_ | refine Blk.alloc ?_ _ | (refine Blk.fars ?_ ?_ _ _; rotate_left; (dsimp only; omega)) | (refine Blk.far ?_ ?_ _; rotate_left; (first | (dsimp only; omega) | (simp; done) | (simp; omega) | omega))))) hb1 (by simp <;> omega)
      have hw1 : Below w.heap.size w w1 := (by repeat (first | exact Below.refl _ _ | assumption | (refine Below.setCell ?_ (by first | omega | (simp; done) | (simp; omega)) _) | (refine Below.alloc ?_ (by first | omega | (simp; done) | (simp; omega)) _) | refine Below.drew ?_ | (refine below_thru ?_ (by assumption) (by first | omega | (simp; done) | (simp; omega))) | refine below_drewN ?_ _))
      have HT1 := Lib.hid hT1
      have hz1 := hS1.lt
      clear hb1 hT1
      go_wp2_with fail
      refine wp_region_held (S := fun W' => Blk W' w.heap.size 33 (grow g) ∧ Blk W' (w.heap.size + 1) 42 #[.int .i64 s.pos, .int .i64 s.charge, .bool s.bolted]) (by kernel_rfl) (by exact ⟨hG1, hS1⟩) (fun hHeld => ?_)
      refine wpAnyH_take (i := 0) (v := g.v) rfl (by kernel_rfl) (by kernel_rfl) (by kernel_rfl) (fun _ _ _ h => h) (Or.inl ⟨by rfl, fun w hSw => ld_g rfl rfl hSw.1⟩) hHeld ?_
      (try simp only [Act.put, List.setIfInBounds_toArray, List.set_cons_zero, List.set_cons_succ])
      refine wpAnyH_take (i := 1) (v := ?_) rfl (by kernel_rfl) (by kernel_rfl) (by kernel_rfl) (fun _ _ _ h => h) (Or.inl ⟨by kernel_rfl, ?_⟩) hHeld ?_
      rotate_left
      · intro w hSw; (try dsimp only at hSw); obtain ⟨s0, s1, s2, _⟩ := hSw.2.three; go_simp; (try with_reducible rfl)
      (try simp only [Act.put, List.setIfInBounds_toArray, List.set_cons_zero, List.set_cons_succ])
      refine wpAnyH_take (i := 2) (v := ?_) rfl (by kernel_rfl) (by kernel_rfl) (by kernel_rfl) (fun _ _ _ h => h) (Or.inl ⟨by kernel_rfl, ?_⟩) hHeld ?_
      rotate_left
      · intro w hSw; (try dsimp only at hSw); obtain ⟨s0, s1, s2, _⟩ := hSw.2.three; go_simp; (try with_reducible rfl)
      (try simp only [Act.put, List.setIfInBounds_toArray, List.set_cons_zero, List.set_cons_succ])
      refine wpAnyH_take (i := 3) (v := ?_) rfl (by kernel_rfl) (by kernel_rfl) (by kernel_rfl) (fun _ _ _ h => h) (Or.inl ⟨by kernel_rfl, ?_⟩) hHeld ?_
      rotate_left
      · intro w hSw; (try dsimp only at hSw); obtain ⟨s0, s1, s2, _⟩ := hSw.2.three; go_simp; (try with_reducible rfl)
      (try simp only [Act.put, List.setIfInBounds_toArray, List.set_cons_zero, List.set_cons_succ])
      refine wpAnyH_take (i := 4) (v := ?_) rfl (by kernel_rfl) (by kernel_rfl) (by kernel_rfl) (fun _ _ _ h => h) (Or.inl ⟨by kernel_rfl, ?_⟩) hHeld ?_
      rotate_left
      · intro w hSw; (try dsimp only at hSw); obtain ⟨s0, s1, s2, _⟩ := hSw.2.three; go_simp; (try with_reducible rfl)
      (try simp only [Act.put, List.setIfInBounds_toArray, List.set_cons_zero, List.set_cons_succ])
      (try simp only [List.getElem_toArray, List.getElem_cons_zero, List.getElem_cons_succ, Act.put, List.setIfInBounds_toArray, List.set_cons_zero, List.set_cons_succ])
      refine wpAnyH_ready (rs := [5]) (by kernel_rfl) (by simp) ?_
      refine AllReadyH.cons rfl (fun K hK => ?_) AllReadyH.nil
      go_simp
      refine (HR2.out _ (Hg.out.grow (by repeat (first | exact Below.refl _ _ | assumption | (refine Below.setCell ?_ (by first | omega | (simp; done) | (simp; omega)) _) | (refine Below.alloc ?_ (by first | omega | (simp; done) | (simp; omega)) _) | refine Below.drew ?_ | (refine below_thru ?_ (by assumption) (by first | omega | (simp; done) | (simp; omega))) | refine below_drewN ?_ _))) (by repeat (first | exact Below.refl _ _ | assumption | (refine Below.setCell ?_ (by first | omega | (simp; done) | (simp; omega)) _) | (refine Below.alloc ?_ (by first | omega | (simp; done) | (simp; omega)) _) | refine Below.drew ?_ | (refine below_thru ?_ (by assumption) (by first | omega | (simp; done) | (simp; omega))) | refine below_drewN ?_ _))).mono ?_
      rintro e w2 ⟨RA2, rc2, rfl, hT2, hrc2, hb2⟩; have hz2 := hb2.size; (try simp at hz2)
      (try dsimp only)
      refine hK.out _ _ (by exact ⟨hHeld.1.thru hb2 hHeld.1.lt, hHeld.2.thru hb2 hHeld.2.lt⟩) (fun hHeld => ?_)
      clear hK K
      (try simp only [Act.put, List.setIfInBounds_toArray, List.set_cons_zero, List.set_cons_succ])
      refine wpAnyH_take (i := 6) (v := ?_) rfl (by kernel_rfl) (by kernel_rfl) (by kernel_rfl) (fun _ _ _ h => h) (Or.inl ⟨by kernel_rfl, ?_⟩) hHeld ?_
      rotate_left
      · intro w hSw; (try dsimp only at hSw); skip; go_simp; (try with_reducible rfl)
      (try simp only [Act.put, List.setIfInBounds_toArray, List.set_cons_zero, List.set_cons_succ])
      refine wpAnyH_take (i := 7) (v := ?_) rfl (by kernel_rfl) (by kernel_rfl) (by kernel_rfl) (fun _ _ _ h => h) (Or.inl ⟨by kernel_rfl, ?_⟩) hHeld ?_
      rotate_left
      · intro w hSw; (try dsimp only at hSw); skip; go_simp; (try with_reducible rfl)
      (try simp only [Act.put, List.setIfInBounds_toArray, List.set_cons_zero, List.set_cons_succ])
      refine wpAnyH_take (i := 8) (v := ?_) rfl (by kernel_rfl) (by kernel_rfl) (by kernel_rfl) (fun _ _ _ h => h) (Or.inl ⟨by kernel_rfl, ?_⟩) hHeld ?_
      rotate_left
      · intro w hSw; (try dsimp only at hSw); skip; go_simp; (try with_reducible rfl)
      (try simp only [Act.put, List.setIfInBounds_toArray, List.set_cons_zero, List.set_cons_succ])
      refine wpAnyH_take (i := 9) (v := ?_) rfl (by kernel_rfl) (by kernel_rfl) (by kernel_rfl) (fun _ _ _ h => h) (Or.inl ⟨by kernel_rfl, ?_⟩) hHeld ?_
      rotate_left
      · intro w hSw; (try dsimp only at hSw); skip; go_simp; (try with_reducible rfl)
      (try simp only [Act.put, List.setIfInBounds_toArray, List.set_cons_zero, List.set_cons_succ])
      refine wpAnyH_take (i := 10) (v := ?_) rfl (by kernel_rfl) (by kernel_rfl) (by kernel_rfl) (fun _ _ _ h => h) (Or.inl ⟨by kernel_rfl, ?_⟩) hHeld ?_
      rotate_left
      · intro w hSw; (try dsimp only at hSw); skip; go_simp; (try with_reducible rfl)
      (try simp only [Act.put, List.setIfInBounds_toArray, List.set_cons_zero, List.set_cons_succ])
      refine wpAnyH_done (by kernel_rfl) ?_ _
      (try simp only [List.getElem_toArray, List.getElem_cons_zero, List.getElem_cons_succ, Act.put, List.setIfInBounds_toArray, List.set_cons_zero, List.set_cons_succ])
      have hw2 : Below w.heap.size w w2 := (hw1.drew).trans (hb2.mono hw1.size)
      have HT1 := Lib.hid (show Tab w2 w2.heap.size RA n 3 (rl.map Gs.cells) from (show Tab w1.drew w1.drew.heap.size RA n 3 (rl.map Gs.cells) from HT1.out).grow hb2)
      have HT2 := Lib.hid hT2
      have HG2 := Lib.hid hHeld.1
      have hS2 := hHeld.2
      obtain ⟨s0, s1, s2, _⟩ := hS2.three
      have HS2 := Lib.hid hS2
      have hsl := hS2.lt
      clear hHeld hT2 hb2 hS2 hG1 hS1 hw1
      rcases Nat.eq_zero_or_pos h with hh0 | hh0
      case' inl =>
        have hus := Hu0.out hh0
        have k7 : (h : Int) ≤ 0 := by omega
        have HSx := Lib.hid (show Blk (w2.alloc (.cells #[.int .i64 s.pos, .int .i64 s.charge, .bool s.bolted] 42)) w2.heap.size 42 #[.int .i64 u.pos, .int .i64 u.charge, .bool u.bolted] by rw [hus]; exact Blk.new _ _ _)
        have HGx := Lib.hid (HG2.out.alloc (.cells #[.int .i64 s.pos, .int .i64 s.charge, .bool s.bolted] 42))
        have HSs := Lib.hid (HS2.out.alloc (.cells #[.int .i64 s.pos, .int .i64 s.charge, .bool s.bolted] 42))
        have HT1x := Lib.hid (HT1.out.grow (show Below w2.heap.size w2 (w2.alloc (.cells #[.int .i64 s.pos, .int .i64 s.charge, .bool s.bolted] 42)) from (Below.refl _ _).alloc (Nat.le_refl _) _))
        have HT2x := Lib.hid (HT2.out.grow (show Below w2.heap.size w2 (w2.alloc (.cells #[.int .i64 s.pos, .int .i64 s.charge, .bool s.bolted] 42)) from (Below.refl _ _).alloc (Nat.le_refl _) _))
        have Hwx := Lib.hid (show Below w.heap.size w (w2.alloc (.cells #[.int .i64 s.pos, .int .i64 s.charge, .bool s.bolted] 42)) from hw2.alloc (by omega) _)
        have hzx : w2.heap.size < (w2.alloc (.cells #[.int .i64 s.pos, .int .i64 s.charge, .bool s.bolted] 42)).heap.size := by simp
        clear hh0 hus
        go_wp2_with fail
        generalize w2.alloc (.cells #[.int .i64 s.pos, .int .i64 s.charge, .bool s.bolted] 42) = wx at *
      case' inr =>
        obtain ⟨m, hm⟩ : ∃ m : Nat, h = m + 1 := ⟨h - 1, by omega⟩
        have k7 : (0 : Int) < (h : Int) := by omega
        have k8 : (h : Int) - 1 = (m : Int) := by omega
        have k9 : (m : Int) < (h : Int) := by omega
        have k10 : (0 : Int) ≤ (m : Int) := Int.natCast_nonneg _
        have hrow := Hua.out hh0
        rw [show h - 1 = m by omega] at hrow
        obtain ⟨rk, ro, hRA2, hrb, r0, r1, r2⟩ := HT2.out.three (k := m) (x := .int .i64 u.pos) (y := .int .i64 u.charge) (z := .bool u.bolted) (by simp [hrow])
        have e0 := (World.cell?_alloc_lt w2 (.cells #[.int .i64 s.pos, .int .i64 s.charge, .bool s.bolted] 42) ⟨rk, ro + m * 3, none⟩ hrb).trans r0
        have e1 := (World.cell?_alloc_lt w2 (.cells #[.int .i64 s.pos, .int .i64 s.charge, .bool s.bolted] 42) ⟨rk, ro + m * 3 + 1, none⟩ hrb).trans r1
        have e2 := (World.cell?_alloc_lt w2 (.cells #[.int .i64 s.pos, .int .i64 s.charge, .bool s.bolted] 42) ⟨rk, ro + m * 3 + 2, none⟩ hrb).trans r2
        subst hRA2
        clear hh0 hm hrow r0 r1 r2
        go_wp2_with fail
        have HSx := Lib.hid (show Blk (w2.alloc (.cells #[.int .i64 u.pos, .int .i64 u.charge, .bool u.bolted] 42)) w2.heap.size 42 #[.int .i64 u.pos, .int .i64 u.charge, .bool u.bolted] from Blk.new _ _ _)
        have HGx := Lib.hid (HG2.out.alloc (.cells #[.int .i64 u.pos, .int .i64 u.charge, .bool u.bolted] 42))
        have HSs := Lib.hid (HS2.out.alloc (.cells #[.int .i64 u.pos, .int .i64 u.charge, .bool u.bolted] 42))
        have HT1x := Lib.hid (HT1.out.grow (show Below w2.heap.size w2 (w2.alloc (.cells #[.int .i64 u.pos, .int .i64 u.charge, .bool u.bolted] 42)) from (Below.refl _ _).alloc (Nat.le_refl _) _))
        have HT2x := Lib.hid (HT2.out.grow (show Below w2.heap.size w2 (w2.alloc (.cells #[.int .i64 u.pos, .int .i64 u.charge, .bool u.bolted] 42)) from (Below.refl _ _).alloc (Nat.le_refl _) _))
        have Hwx := Lib.hid (show Below w.heap.size w (w2.alloc (.cells #[.int .i64 u.pos, .int .i64 u.charge, .bool u.bolted] 42)) from hw2.alloc (by omega) _)
        have hzx : w2.heap.size < (w2.alloc (.cells #[.int .i64 u.pos, .int .i64 u.charge, .bool u.bolted] 42)).heap.size := by simp
        clear e0 e1 e2
        generalize (w2.alloc (.cells #[.int .i64 u.pos, .int .i64 u.charge, .bool u.bolted] 42)) = wx at *
        generalize (some (⟨rk, ro, none⟩ : Addr)) = RA2 at *
      all_goals
        go_wp2_with fail
        refine wp_region_held (S := fun W' => Blk W' w.heap.size 33 (grow g) ∧ Blk W' w2.heap.size 42 #[.int .i64 u.pos, .int .i64 u.charge, .bool u.bolted]) (by kernel_rfl) (by exact ⟨HGx.out, HSx.out⟩) (fun hHeld => ?_)
        refine wpAnyH_take (i := 0) (v := g.v) rfl (by kernel_rfl) (by kernel_rfl) (by kernel_rfl) (fun _ _ _ h => h) (Or.inl ⟨by rfl, fun w hSw => ld_g rfl rfl hSw.1⟩) hHeld ?_
        (try simp only [Act.put, List.setIfInBounds_toArray, List.set_cons_zero, List.set_cons_succ])
        refine wpAnyH_take (i := 1) (v := ?_) rfl (by kernel_rfl) (by kernel_rfl) (by kernel_rfl) (fun _ _ _ h => h) (Or.inl ⟨by kernel_rfl, ?_⟩) hHeld ?_
        rotate_left
        · intro w hSw; (try dsimp only at hSw); obtain ⟨s0, s1, s2, _⟩ := hSw.2.three; go_simp; (try with_reducible rfl)
        (try simp only [Act.put, List.setIfInBounds_toArray, List.set_cons_zero, List.set_cons_succ])
        refine wpAnyH_take (i := 2) (v := ?_) rfl (by kernel_rfl) (by kernel_rfl) (by kernel_rfl) (fun _ _ _ h => h) (Or.inl ⟨by kernel_rfl, ?_⟩) hHeld ?_
        rotate_left
        · intro w hSw; (try dsimp only at hSw); obtain ⟨s0, s1, s2, _⟩ := hSw.2.three; go_simp; (try with_reducible rfl)
        (try simp only [Act.put, List.setIfInBounds_toArray, List.set_cons_zero, List.set_cons_succ])
        refine wpAnyH_take (i := 3) (v := ?_) rfl (by kernel_rfl) (by kernel_rfl) (by kernel_rfl) (fun _ _ _ h => h) (Or.inl ⟨by kernel_rfl, ?_⟩) hHeld ?_
        rotate_left
        · intro w hSw; (try dsimp only at hSw); obtain ⟨s0, s1, s2, _⟩ := hSw.2.three; go_simp; (try with_reducible rfl)
        (try simp only [Act.put, List.setIfInBounds_toArray, List.set_cons_zero, List.set_cons_succ])
        refine wpAnyH_take (i := 4) (v := ?_) rfl (by kernel_rfl) (by kernel_rfl) (by kernel_rfl) (fun _ _ _ h => h) (Or.inl ⟨by kernel_rfl, ?_⟩) hHeld ?_
        rotate_left
        · intro w hSw; (try dsimp only at hSw); obtain ⟨s0, s1, s2, _⟩ := hSw.2.three; go_simp; (try with_reducible rfl)
        (try simp only [Act.put, List.setIfInBounds_toArray, List.set_cons_zero, List.set_cons_succ])
        (try simp only [List.getElem_toArray, List.getElem_cons_zero, List.getElem_cons_succ, Act.put, List.setIfInBounds_toArray, List.set_cons_zero, List.set_cons_succ])
        refine wpAnyH_ready (rs := [5]) (by kernel_rfl) (by simp) ?_
        refine AllReadyH.cons rfl (fun K hK => ?_) AllReadyH.nil
        go_simp
        refine (HR3.out _ (Hg.out.grow Hwx.out.drew) Hwx.out.drew).mono ?_
        rintro e w3 ⟨RA3, rc3, rfl, hT3, hrc3, hb3⟩; have hz3 := hb3.size; (try simp at hz3)
        (try dsimp only)
        refine hK.out _ _ (by exact ⟨hHeld.1.thru hb3 hHeld.1.lt, hHeld.2.thru hb3 hHeld.2.lt⟩) (fun hHeld => ?_)
        clear hK K
        (try simp only [Act.put, List.setIfInBounds_toArray, List.set_cons_zero, List.set_cons_succ])
        refine wpAnyH_take (i := 6) (v := ?_) rfl (by kernel_rfl) (by kernel_rfl) (by kernel_rfl) (fun _ _ _ h => h) (Or.inl ⟨by kernel_rfl, ?_⟩) hHeld ?_
        rotate_left
        · intro w hSw; (try dsimp only at hSw); skip; go_simp; (try with_reducible rfl)
        (try simp only [Act.put, List.setIfInBounds_toArray, List.set_cons_zero, List.set_cons_succ])
        refine wpAnyH_take (i := 7) (v := ?_) rfl (by kernel_rfl) (by kernel_rfl) (by kernel_rfl) (fun _ _ _ h => h) (Or.inl ⟨by kernel_rfl, ?_⟩) hHeld ?_
        rotate_left
        · intro w hSw; (try dsimp only at hSw); skip; go_simp; (try with_reducible rfl)
        (try simp only [Act.put, List.setIfInBounds_toArray, List.set_cons_zero, List.set_cons_succ])
        refine wpAnyH_take (i := 8) (v := ?_) rfl (by kernel_rfl) (by kernel_rfl) (by kernel_rfl) (fun _ _ _ h => h) (Or.inl ⟨by kernel_rfl, ?_⟩) hHeld ?_
        rotate_left
        · intro w hSw; (try dsimp only at hSw); skip; go_simp; (try with_reducible rfl)
        (try simp only [Act.put, List.setIfInBounds_toArray, List.set_cons_zero, List.set_cons_succ])
        refine wpAnyH_take (i := 9) (v := ?_) rfl (by kernel_rfl) (by kernel_rfl) (by kernel_rfl) (fun _ _ _ h => h) (Or.inl ⟨by kernel_rfl, ?_⟩) hHeld ?_
        rotate_left
        · intro w hSw; (try dsimp only at hSw); skip; go_simp; (try with_reducible rfl)
        (try simp only [Act.put, List.setIfInBounds_toArray, List.set_cons_zero, List.set_cons_succ])
        refine wpAnyH_take (i := 10) (v := ?_) rfl (by kernel_rfl) (by kernel_rfl) (by kernel_rfl) (fun _ _ _ h => h) (Or.inl ⟨by kernel_rfl, ?_⟩) hHeld ?_
        rotate_left
        · intro w hSw; (try dsimp only at hSw); skip; go_simp; (try with_reducible rfl)
        (try simp only [Act.put, List.setIfInBounds_toArray, List.set_cons_zero, List.set_cons_succ])
        refine wpAnyH_done (by kernel_rfl) ?_ _
        (try simp only [List.getElem_toArray, List.getElem_cons_zero, List.getElem_cons_succ, Act.put, List.setIfInBounds_toArray, List.set_cons_zero, List.set_cons_succ])
        have hw3 : Below w.heap.size w w3 := (Hwx.out.drew).trans (hb3.mono Hwx.out.size)
        have HT1y := Lib.hid ((show Tab wx.drew wx.drew.heap.size RA n 3 (rl.map Gs.cells) from HT1x.out).grow hb3)
        have HT2y := Lib.hid ((show Tab wx.drew wx.drew.heap.size RA2 h 3 (ra.map Gs.cells) from HT2x.out).grow hb3)
        have HT3y := Lib.hid hT3
        have hRn : RnS w3 w.heap.size g (w.heap.size + 1) s tb off t0 := ⟨⟨hHeld.1, (hw3.cell (p := ⟨tb, off, none⟩) htb).trans HD.out.1, (hw3.cell (p := ⟨tb, off + 1, none⟩) htb).trans HD.out.2.1, (hw3.cell (p := ⟨tb, off + 2, none⟩) htb).trans HD.out.2.2.1, (hw3.cell (p := ⟨tb, off + 3, none⟩) htb).trans HD.out.2.2.2⟩, (show Blk wx.drew (w.heap.size + 1) 42 #[.int .i64 s.pos, .int .i64 s.charge, .bool s.bolted] from HSs.out).thru hb3 (by simp; omega)⟩
        have HRn := Lib.hid hRn
        have hzz := hRn.s.lt
        have htb3 : tb < w3.heap.size := by have := hw3.size; omega
        have hbase : w.heap.size + 1 < w3.heap.size := hzz
        clear hHeld hb3 hT3 hRn HT1x HT2x HSx HGx HSs Hwx HT1 HT2 HG2 HS2
        go_wp2_with fail
        refine wp_region_held (S := fun W' => RnS W' w.heap.size g (w.heap.size + 1) s tb off t0) (by kernel_rfl) (by exact HRn.out.drew) (fun hHeld => ?_)
        refine wpAnyH_take (i := 0) (v := g.v) rfl (by kernel_rfl) (by kernel_rfl) (by kernel_rfl) (fun _ _ _ h => h) (Or.inl ⟨by rfl, fun w hSw => ld_g rfl rfl hSw.r.g⟩) hHeld ?_
        (try simp only [Act.put, List.setIfInBounds_toArray, List.set_cons_zero, List.set_cons_succ])
        refine wpAnyH_take (i := 1) (v := ?_) rfl (by kernel_rfl) (by kernel_rfl) (by kernel_rfl) (fun _ _ _ h => h) (Or.inl ⟨by kernel_rfl, ?_⟩) hHeld ?_
        rotate_left
        · intro w hSw; (try dsimp only at hSw); obtain ⟨_, d0, d1, d2, d3⟩ := hSw.r; obtain ⟨s0, s1, s2, _⟩ := hSw.s.three; go_simp; (try with_reducible rfl)
        (try simp only [Act.put, List.setIfInBounds_toArray, List.set_cons_zero, List.set_cons_succ])
        refine wpAnyH_take (i := 2) (v := ?_) rfl (by kernel_rfl) (by kernel_rfl) (by kernel_rfl) (fun _ _ _ h => h) (Or.inl ⟨by kernel_rfl, ?_⟩) hHeld ?_
        rotate_left
        · intro w hSw; (try dsimp only at hSw); obtain ⟨_, d0, d1, d2, d3⟩ := hSw.r; obtain ⟨s0, s1, s2, _⟩ := hSw.s.three; go_simp; (try with_reducible rfl)
        (try simp only [Act.put, List.setIfInBounds_toArray, List.set_cons_zero, List.set_cons_succ])
        refine wpAnyH_take (i := 3) (v := ?_) rfl (by kernel_rfl) (by kernel_rfl) (by kernel_rfl) (fun _ _ _ h => h) (Or.inl ⟨by kernel_rfl, ?_⟩) hHeld ?_
        rotate_left
        · intro w hSw; (try dsimp only at hSw); obtain ⟨_, d0, d1, d2, d3⟩ := hSw.r; obtain ⟨s0, s1, s2, _⟩ := hSw.s.three; go_simp; (try with_reducible rfl)
        (try simp only [Act.put, List.setIfInBounds_toArray, List.set_cons_zero, List.set_cons_succ])
        refine wpAnyH_take (i := 4) (v := ?_) rfl (by kernel_rfl) (by kernel_rfl) (by kernel_rfl) (fun _ _ _ h => h) (Or.inl ⟨by kernel_rfl, ?_⟩) hHeld ?_
        rotate_left
        · intro w hSw; (try dsimp only at hSw); obtain ⟨_, d0, d1, d2, d3⟩ := hSw.r; obtain ⟨s0, s1, s2, _⟩ := hSw.s.three; go_simp; (try with_reducible rfl)
        (try simp only [Act.put, List.setIfInBounds_toArray, List.set_cons_zero, List.set_cons_succ])
        (try simp only [List.getElem_toArray, List.getElem_cons_zero, List.getElem_cons_succ, Act.put, List.setIfInBounds_toArray, List.set_cons_zero, List.set_cons_succ])
        have hw3d : Below w.heap.size w w3.drew := hw3.drew
        refine wpAnyH_each [(5, 92, Kind.val (.tuple #[.agg #[.int .i64 q.pos, .int .i64 q.charge, .bool q.bolted], .agg #[.int .i64 d.refused, .int .i64 d.moved, .int .i64 d.oil], .int .i64 0])), (6, 86, Kind.val (.tuple #[.agg #[.int .i64 q.pos, .int .i64 q.charge, .bool q.bolted], .agg #[.int .i64 d.refused, .int .i64 d.moved, .int .i64 d.oil], .int .i64 0])), (7, 93, Kind.val (.agg #[.int .i64 q.pos, .int .i64 q.charge, .bool q.bolted])), (8, 94, Kind.val (.agg #[.int .i64 d.refused, .int .i64 d.moved, .int .i64 d.oil])), (9, 95, Kind.val (.int .i64 0)), (10, 13, Kind.new (w3.heap.size) 42 #[.int .i64 0, .int .i64 0, .bool false]), (11, 14, Kind.new (w3.heap.size) 45 #[.int .i64 0, .int .i64 0, .int .i64 0])] [6, 7, 8, 9] 3 (by kernel_rfl) (by simp [idxs]) (by simp) (fun _ _ d _ _ h => by cases d <;> exact h) (fun W hW => hHeld.below hW) ?_ ?_
        · refine Eachs.cons ?_ (Eachs.cons ?_ (Eachs.cons ?_ (Eachs.cons ?_ (Eachs.cons ?_ (Eachs.cons ?_ (Eachs.cons ?_ (Eachs.nil)))))))
          · refine each_op [] rfl rfl (by kernel_rfl) (fun p hp => by cases hp) rfl ?_
            intro uF w' hw' hps a ha K hK
            simp only [puts, Act.put, List.setIfInBounds_toArray, List.set_cons_zero, List.set_cons_succ] at ha
            subst ha
            have hz' := hw'.size
            (try simp at hz')
            go_simp
            refine (HSt.out _ (Hg.out.grow (hw3d.trans (hw'.mono hw3d.size)))).mono ?_
            rintro e wq ⟨rfl, hq⟩
            (try dsimp only)
            exact hK.out _ (.tuple #[.agg #[.int .i64 q.pos, .int .i64 q.charge, .bool q.bolted], .agg #[.int .i64 d.refused, .int .i64 d.moved, .int .i64 d.oil], .int .i64 0]) wq rfl hq rfl (fun h => by cases h)
          · refine each_take [(5, 92, Kind.val (.tuple #[.agg #[.int .i64 q.pos, .int .i64 q.charge, .bool q.bolted], .agg #[.int .i64 d.refused, .int .i64 d.moved, .int .i64 d.oil], .int .i64 0]))] rfl rfl (by kernel_rfl) (fun p hp => by simp only [List.mem_cons, List.not_mem_nil, or_false] at hp; rcases hp with rfl <;> simp only [List.mem_cons, true_or, or_true]) rfl ?_
            refine ⟨rfl, ?_⟩
            intro uF w' hw' hps a ha
            obtain ⟨q5, _⟩ := hps
            have e5 : uF 5 = .tuple #[.agg #[.int .i64 q.pos, .int .i64 q.charge, .bool q.bolted], .agg #[.int .i64 d.refused, .int .i64 d.moved, .int .i64 d.oil], .int .i64 0] := q5
            simp only [puts, Act.put, List.setIfInBounds_toArray, List.set_cons_zero, List.set_cons_succ, e5] at ha
            subst ha
            exact ⟨.tuple #[.agg #[.int .i64 q.pos, .int .i64 q.charge, .bool q.bolted], .agg #[.int .i64 d.refused, .int .i64 d.moved, .int .i64 d.oil], .int .i64 0], rfl, Or.inl ⟨by rfl, fun W => by go_simp <;> (try with_reducible rfl)⟩⟩
          · refine each_take [(6, 86, Kind.val (.tuple #[.agg #[.int .i64 q.pos, .int .i64 q.charge, .bool q.bolted], .agg #[.int .i64 d.refused, .int .i64 d.moved, .int .i64 d.oil], .int .i64 0]))] rfl rfl (by kernel_rfl) (fun p hp => by simp only [List.mem_cons, List.not_mem_nil, or_false] at hp; rcases hp with rfl <;> simp only [List.mem_cons, true_or, or_true]) rfl ?_
            refine ⟨rfl, ?_⟩
            intro uF w' hw' hps a ha
            obtain ⟨q6, _⟩ := hps
            have e6 : uF 6 = .tuple #[.agg #[.int .i64 q.pos, .int .i64 q.charge, .bool q.bolted], .agg #[.int .i64 d.refused, .int .i64 d.moved, .int .i64 d.oil], .int .i64 0] := q6
            simp only [puts, Act.put, List.setIfInBounds_toArray, List.set_cons_zero, List.set_cons_succ, e6] at ha
            subst ha
            exact ⟨.agg #[.int .i64 q.pos, .int .i64 q.charge, .bool q.bolted], rfl, Or.inl ⟨by rfl, fun W => by go_simp <;> (try with_reducible rfl)⟩⟩
          · refine each_take [(6, 86, Kind.val (.tuple #[.agg #[.int .i64 q.pos, .int .i64 q.charge, .bool q.bolted], .agg #[.int .i64 d.refused, .int .i64 d.moved, .int .i64 d.oil], .int .i64 0]))] rfl rfl (by kernel_rfl) (fun p hp => by simp only [List.mem_cons, List.not_mem_nil, or_false] at hp; rcases hp with rfl <;> simp only [List.mem_cons, true_or, or_true]) rfl ?_
            refine ⟨rfl, ?_⟩
            intro uF w' hw' hps a ha
            obtain ⟨q6, _⟩ := hps
            have e6 : uF 6 = .tuple #[.agg #[.int .i64 q.pos, .int .i64 q.charge, .bool q.bolted], .agg #[.int .i64 d.refused, .int .i64 d.moved, .int .i64 d.oil], .int .i64 0] := q6
            simp only [puts, Act.put, List.setIfInBounds_toArray, List.set_cons_zero, List.set_cons_succ, e6] at ha
            subst ha
            exact ⟨.agg #[.int .i64 d.refused, .int .i64 d.moved, .int .i64 d.oil], rfl, Or.inl ⟨by rfl, fun W => by go_simp <;> (try with_reducible rfl)⟩⟩
          · refine each_take [(6, 86, Kind.val (.tuple #[.agg #[.int .i64 q.pos, .int .i64 q.charge, .bool q.bolted], .agg #[.int .i64 d.refused, .int .i64 d.moved, .int .i64 d.oil], .int .i64 0]))] rfl rfl (by kernel_rfl) (fun p hp => by simp only [List.mem_cons, List.not_mem_nil, or_false] at hp; rcases hp with rfl <;> simp only [List.mem_cons, true_or, or_true]) rfl ?_
            refine ⟨rfl, ?_⟩
            intro uF w' hw' hps a ha
            obtain ⟨q6, _⟩ := hps
            have e6 : uF 6 = .tuple #[.agg #[.int .i64 q.pos, .int .i64 q.charge, .bool q.bolted], .agg #[.int .i64 d.refused, .int .i64 d.moved, .int .i64 d.oil], .int .i64 0] := q6
            simp only [puts, Act.put, List.setIfInBounds_toArray, List.set_cons_zero, List.set_cons_succ, e6] at ha
            subst ha
            exact ⟨.int .i64 0, rfl, Or.inl ⟨by rfl, fun W => by go_simp <;> (try with_reducible rfl)⟩⟩
          · refine each_op [] rfl rfl (by kernel_rfl) (fun p hp => by cases hp) rfl ?_
            intro uF w' hw' hps a ha K hK
            simp only [puts, Act.put, List.setIfInBounds_toArray, List.set_cons_zero, List.set_cons_succ] at ha
            subst ha
            have hz' := hw'.size
            (try simp at hz')
            go_simp
            exact hK.out _ (.pointer (some ⟨w'.heap.size, 0, none⟩)) _ rfl ((Below.refl _ _).alloc (Nat.le_refl _) _) ⟨_, rfl, (by omega), Blk.new _ _ _⟩ (fun _ => rfl)
          · refine each_op [] rfl rfl (by kernel_rfl) (fun p hp => by cases hp) rfl ?_
            intro uF w' hw' hps a ha K hK
            simp only [puts, Act.put, List.setIfInBounds_toArray, List.set_cons_zero, List.set_cons_succ] at ha
            subst ha
            have hz' := hw'.size
            (try simp at hz')
            go_simp
            exact hK.out _ (.pointer (some ⟨w'.heap.size, 0, none⟩)) _ rfl ((Below.refl _ _).alloc (Nat.le_refl _) _) ⟨_, rfl, (by omega), Blk.new _ _ _⟩ (fun _ => rfl)
        intro uF wz hwz hps hD a ha
        obtain ⟨q5, q6, q7, q8, q9, q10, q11, _⟩ := hps
        have e5 : uF 5 = .tuple #[.agg #[.int .i64 q.pos, .int .i64 q.charge, .bool q.bolted], .agg #[.int .i64 d.refused, .int .i64 d.moved, .int .i64 d.oil], .int .i64 0] := q5
        have e6 : uF 6 = .tuple #[.agg #[.int .i64 q.pos, .int .i64 q.charge, .bool q.bolted], .agg #[.int .i64 d.refused, .int .i64 d.moved, .int .i64 d.oil], .int .i64 0] := q6
        have e7 : uF 7 = .agg #[.int .i64 q.pos, .int .i64 q.charge, .bool q.bolted] := q7
        have e8 : uF 8 = .agg #[.int .i64 d.refused, .int .i64 d.moved, .int .i64 d.oil] := q8
        have e9 : uF 9 = .int .i64 0 := q9
        obtain ⟨b10, e10, hB10, hb10⟩ := (show ∃ b, uF 10 = .pointer (some ⟨b, 0, none⟩) ∧ (w3.heap.size) ≤ b ∧ Blk wz b 42 #[.int .i64 0, .int .i64 0, .bool false] from q10)
        obtain ⟨b11, e11, hB11, hb11⟩ := (show ∃ b, uF 11 = .pointer (some ⟨b, 0, none⟩) ∧ (w3.heap.size) ≤ b ∧ Blk wz b 45 #[.int .i64 0, .int .i64 0, .int .i64 0] from q11)
        have hne10_11 : b10 ≠ b11 := fun hc => hD (10, 13, Kind.new (w3.heap.size) 42 #[.int .i64 0, .int .i64 0, .bool false]) (.tail _ (.tail _ (.tail _ (.tail _ (.tail _ (.head _)))))) (11, 14, Kind.new (w3.heap.size) 45 #[.int .i64 0, .int .i64 0, .int .i64 0]) (.tail _ (.tail _ (.tail _ (.tail _ (.tail _ (.tail _ (.head _))))))) (show (10 : Nat) ≠ 11 by decide) rfl rfl (show uF 10 = uF 11 by rw [e10, e11, hc])
        simp only [puts, Act.put, List.setIfInBounds_toArray, List.set_cons_zero, List.set_cons_succ, e5, e6, e7, e8, e9, e10, e11] at ha
        subst ha
        clear hD q5 q6 q7 q8 q9 q10 q11 e5 e6 e7 e8 e9 e10 e11
        have hBz : Below w.heap.size w wz := hw3d.trans (hwz.mono hw3d.size)
        have hRz := hHeld.below hwz
        have hl10 := hb10.lt
        have hl11 := hb11.lt
        have hzz2 := hwz.size
        (try simp at hzz2)
        have Hwz := Lib.hid hwz
        clear hHeld hw3d HRn hw3 hwz
        (try simp only [List.getElem_toArray, List.getElem_cons_zero, List.getElem_cons_succ, Act.put, List.setIfInBounds_toArray, List.set_cons_zero, List.set_cons_succ])
        refine wpAnyH_ready (rs := [12]) (by kernel_rfl) (by simp) ?_
        refine AllReadyH.cons rfl (fun K hK => ?_) AllReadyH.nil
        refine wanted_of (by rfl) (wp_store_mid (P := Tryz.prog) 42 _ _ rfl (b10) 0 #[.int .i64 q.pos, .int .i64 q.charge, .bool q.bolted] rfl rfl (Blk.there hb10 (by show 0 + 3 ≤ 3; omega)) (by kernel_rfl) (by simp [Value.oneCell']) ?_)
        refine hK.out _ _ (by exact hRz.sets (by omega) (by omega) (by omega) _ _) (fun hHeld => ?_)
        clear hK K
        (try simp only [Act.put, List.setIfInBounds_toArray, List.set_cons_zero, List.set_cons_succ])
        have hb11y := hb11.fars (b := b10) (fun h => hne10_11 h.symm) (#[.int .i64 q.pos, .int .i64 q.charge, .bool q.bolted] : Array Value).toList 0
        (try simp only [List.getElem_toArray, List.getElem_cons_zero, List.getElem_cons_succ, Act.put, List.setIfInBounds_toArray, List.set_cons_zero, List.set_cons_succ])
        refine wpAnyH_ready (rs := [13]) (by kernel_rfl) (by simp) ?_
        refine AllReadyH.cons rfl (fun K hK => ?_) AllReadyH.nil
        refine wanted_of (by rfl) (wp_store_mid (P := Tryz.prog) 45 _ _ rfl (b11) 0 #[.int .i64 d.refused, .int .i64 d.moved, .int .i64 d.oil] rfl rfl (Blk.there hb11y (by show 0 + 3 ≤ 3; omega)) (by kernel_rfl) (by simp [Value.oneCell']) ?_)
        refine hK.out _ _ (by exact hHeld.sets (by omega) (by omega) (by omega) _ _) (fun hHeld => ?_)
        clear hK K
        (try simp only [Act.put, List.setIfInBounds_toArray, List.set_cons_zero, List.set_cons_succ])
        refine wpAnyH_take (i := 14) (v := ?_) rfl (by kernel_rfl) (by kernel_rfl) (by kernel_rfl) (fun _ _ _ h => h) (Or.inl ⟨by kernel_rfl, ?_⟩) hHeld ?_
        rotate_left
        · intro w hSw; (try dsimp only at hSw); skip; go_simp; (try with_reducible rfl)
        (try simp only [Act.put, List.setIfInBounds_toArray, List.set_cons_zero, List.set_cons_succ])
        refine wpAnyH_done (by kernel_rfl) ?_ _
        (try simp only [List.getElem_toArray, List.getElem_cons_zero, List.getElem_cons_succ, Act.put, List.setIfInBounds_toArray, List.set_cons_zero, List.set_cons_succ])
        have hA := Lib.hid (show Blk ((wz.setCells b10 0 (#[.int .i64 q.pos, .int .i64 q.charge, .bool q.bolted] : Array Value).toList).setCells b11 0 (#[.int .i64 d.refused, .int .i64 d.moved, .int .i64 d.oil] : Array Value).toList) b10 42 #[.int .i64 q.pos, .int .i64 q.charge, .bool q.bolted] from (Blk.sets hb10 (#[.int .i64 q.pos, .int .i64 q.charge, .bool q.bolted] : Array Value).toList 0).fars (b := b11) hne10_11 (#[.int .i64 d.refused, .int .i64 d.moved, .int .i64 d.oil] : Array Value).toList 0)
        have hby : Below w3.drew.heap.size w3.drew ((wz.setCells b10 0 (#[.int .i64 q.pos, .int .i64 q.charge, .bool q.bolted] : Array Value).toList).setCells b11 0 (#[.int .i64 d.refused, .int .i64 d.moved, .int .i64 d.oil] : Array Value).toList) := Hwz.out.trans (below_sets (below_sets (B := w3.drew.heap.size) (Below.refl _ _) (b := b10) (by simp; omega) (#[.int .i64 q.pos, .int .i64 q.charge, .bool q.bolted] : Array Value).toList 0) (b := b11) (by simp; omega) (#[.int .i64 d.refused, .int .i64 d.moved, .int .i64 d.oil] : Array Value).toList 0)
        have HB := Lib.hid (below_sets (below_sets hBz (b := b10) (by omega) (#[.int .i64 q.pos, .int .i64 q.charge, .bool q.bolted] : Array Value).toList 0) (b := b11) (by omega) (#[.int .i64 d.refused, .int .i64 d.moved, .int .i64 d.oil] : Array Value).toList 0)
        have HT1z := Lib.hid ((show Tab w3.drew w3.drew.heap.size RA n 3 (rl.map Gs.cells) from HT1y.out).grow hby)
        have HT2z := Lib.hid ((show Tab w3.drew w3.drew.heap.size RA2 h 3 (ra.map Gs.cells) from HT2y.out).grow hby)
        have HT3z := Lib.hid ((show Tab w3.drew w3.drew.heap.size RA3 (n - h) 3 (rb.map Gs.cells) from HT3y.out).grow hby)
        clear hby hHeld hRz hBz hb10 hb11 hb11y Hwz HT1y HT2y HT3y
        generalize (wz.setCells b10 0 (#[.int .i64 q.pos, .int .i64 q.charge, .bool q.bolted] : Array Value).toList).setCells b11 0 (#[.int .i64 d.refused, .int .i64 d.moved, .int .i64 d.oil] : Array Value).toList = wy at *
        obtain ⟨ab, ao, hRA, hab, p0, p1, p2⟩ := HT1z.out.three (k := 0) (x := .int .i64 q.pos) (y := .int .i64 q.charge) (z := .bool q.bolted) (by simp [Hfirst.out])
        have p0 : wy.cell? ⟨ab, ao, none⟩ = some (.int .i64 q.pos) := by simpa using p0
        have p1 : wy.cell? ⟨ab, ao + 1, none⟩ = some (.int .i64 q.charge) := by simpa using p1
        have p2 : wy.cell? ⟨ab, ao + 2, none⟩ = some (.bool q.bolted) := by simpa using p2
        subst hRA
        have hAl := hA.out.lt
        have HS0 := Lib.hid (show AgS wy b10 q ab ao from ⟨hA.out, p0, p1, p2⟩)
        clear p0 p1 p2
        go_wp2_with fail
        refine wp_region_plan (S := fun W' => AgS W' b10 q ab ao) 26 [(0, true), (1, true), (2, true), (3, true), (4, true), (5, true), (6, true), (7, true), (8, true), (9, true), (10, true), (11, true), (12, true), (13, true), (15, true), (17, true), (19, true), (14, false), (16, false), (18, false), (20, false), (21, true), (22, true), (23, false), (24, true), (25, true)] (by kernel_rfl) (by kernel_rfl) (by kernel_rfl) rfl (by kernel_rfl) (fun _ _ d _ _ h => by cases d <;> exact h) (by exact HS0.out.drew) (fun hHeld => ?_)
        refine wpPlan_take (v := ?_) rfl (Or.inl ⟨by kernel_rfl, ?_⟩) ?_
        rotate_left
        · intro W hSw; obtain ⟨hx, p0, p1, p2⟩ := hSw; obtain ⟨s0, s1, s2, _⟩ := hx.three; go_simp <;> (try with_reducible rfl)
        (try simp only [Act.put, List.setIfInBounds_toArray, List.set_cons_zero, List.set_cons_succ])
        refine wpPlan_take (v := ?_) rfl (Or.inl ⟨by kernel_rfl, ?_⟩) ?_
        rotate_left
        · intro W hSw; obtain ⟨hx, p0, p1, p2⟩ := hSw; obtain ⟨s0, s1, s2, _⟩ := hx.three; go_simp <;> (try with_reducible rfl)
        (try simp only [Act.put, List.setIfInBounds_toArray, List.set_cons_zero, List.set_cons_succ])
        refine wpPlan_take (v := ?_) rfl (Or.inl ⟨by kernel_rfl, ?_⟩) ?_
        rotate_left
        · intro W hSw; obtain ⟨hx, p0, p1, p2⟩ := hSw; obtain ⟨s0, s1, s2, _⟩ := hx.three; go_simp <;> (try with_reducible rfl)
        (try simp only [Act.put, List.setIfInBounds_toArray, List.set_cons_zero, List.set_cons_succ])
        refine wpPlan_take (v := ?_) rfl (Or.inl ⟨by kernel_rfl, ?_⟩) ?_
        rotate_left
        · intro W hSw; obtain ⟨hx, p0, p1, p2⟩ := hSw; obtain ⟨s0, s1, s2, _⟩ := hx.three; go_simp <;> (try with_reducible rfl)
        (try simp only [Act.put, List.setIfInBounds_toArray, List.set_cons_zero, List.set_cons_succ])
        refine wpPlan_take (v := ?_) rfl (Or.inl ⟨by kernel_rfl, ?_⟩) ?_
        rotate_left
        · intro W hSw; obtain ⟨hx, p0, p1, p2⟩ := hSw; obtain ⟨s0, s1, s2, _⟩ := hx.three; go_simp <;> (try with_reducible rfl)
        (try simp only [Act.put, List.setIfInBounds_toArray, List.set_cons_zero, List.set_cons_succ])
        refine wpPlan_take (v := ?_) rfl (Or.inl ⟨by kernel_rfl, ?_⟩) ?_
        rotate_left
        · intro W hSw; obtain ⟨hx, p0, p1, p2⟩ := hSw; obtain ⟨s0, s1, s2, _⟩ := hx.three; go_simp <;> (try with_reducible rfl)
        (try simp only [Act.put, List.setIfInBounds_toArray, List.set_cons_zero, List.set_cons_succ])
        refine wpPlan_take (v := ?_) rfl (Or.inl ⟨by kernel_rfl, ?_⟩) ?_
        rotate_left
        · intro W hSw; obtain ⟨hx, p0, p1, p2⟩ := hSw; obtain ⟨s0, s1, s2, _⟩ := hx.three; go_simp <;> (try with_reducible rfl)
        (try simp only [Act.put, List.setIfInBounds_toArray, List.set_cons_zero, List.set_cons_succ])
        refine wpPlan_take (v := ?_) rfl (Or.inl ⟨by kernel_rfl, ?_⟩) ?_
        rotate_left
        · intro W hSw; obtain ⟨hx, p0, p1, p2⟩ := hSw; obtain ⟨s0, s1, s2, _⟩ := hx.three; go_simp <;> (try with_reducible rfl)
        (try simp only [Act.put, List.setIfInBounds_toArray, List.set_cons_zero, List.set_cons_succ])
        refine wpPlan_take (v := ?_) rfl (Or.inl ⟨by kernel_rfl, ?_⟩) ?_
        rotate_left
        · intro W hSw; obtain ⟨hx, p0, p1, p2⟩ := hSw; obtain ⟨s0, s1, s2, _⟩ := hx.three; go_simp <;> (try with_reducible rfl)
        (try simp only [Act.put, List.setIfInBounds_toArray, List.set_cons_zero, List.set_cons_succ])
        refine wpPlan_take (v := ?_) rfl (Or.inl ⟨by kernel_rfl, ?_⟩) ?_
        rotate_left
        · intro W hSw; obtain ⟨hx, p0, p1, p2⟩ := hSw; obtain ⟨s0, s1, s2, _⟩ := hx.three; go_simp <;> (try with_reducible rfl)
        (try simp only [Act.put, List.setIfInBounds_toArray, List.set_cons_zero, List.set_cons_succ])
        refine wpPlan_take (v := ?_) rfl (Or.inl ⟨by kernel_rfl, ?_⟩) ?_
        rotate_left
        · intro W hSw; obtain ⟨hx, p0, p1, p2⟩ := hSw; obtain ⟨s0, s1, s2, _⟩ := hx.three; go_simp <;> (try with_reducible rfl)
        (try simp only [Act.put, List.setIfInBounds_toArray, List.set_cons_zero, List.set_cons_succ])
        refine wpPlan_take (v := ?_) rfl (Or.inl ⟨by kernel_rfl, ?_⟩) ?_
        rotate_left
        · intro W hSw; obtain ⟨hx, p0, p1, p2⟩ := hSw; obtain ⟨s0, s1, s2, _⟩ := hx.three; go_simp <;> (try with_reducible rfl)
        (try simp only [Act.put, List.setIfInBounds_toArray, List.set_cons_zero, List.set_cons_succ])
        refine wpPlan_take (v := ?_) rfl (Or.inl ⟨by kernel_rfl, ?_⟩) ?_
        rotate_left
        · intro W hSw; obtain ⟨hx, p0, p1, p2⟩ := hSw; obtain ⟨s0, s1, s2, _⟩ := hx.three; go_simp <;> (try with_reducible rfl)
        (try simp only [Act.put, List.setIfInBounds_toArray, List.set_cons_zero, List.set_cons_succ])
        refine wpPlan_take (v := ?_) rfl (Or.inl ⟨by kernel_rfl, ?_⟩) ?_
        rotate_left
        · intro W hSw; obtain ⟨hx, p0, p1, p2⟩ := hSw; obtain ⟨s0, s1, s2, _⟩ := hx.three; go_simp <;> (try with_reducible rfl)
        (try simp only [Act.put, List.setIfInBounds_toArray, List.set_cons_zero, List.set_cons_succ])
        refine wpPlan_take (v := ?_) rfl (Or.inl ⟨by kernel_rfl, ?_⟩) ?_
        rotate_left
        · intro W hSw; obtain ⟨hx, p0, p1, p2⟩ := hSw; obtain ⟨s0, s1, s2, _⟩ := hx.three; go_simp <;> (try with_reducible rfl)
        (try simp only [Act.put, List.setIfInBounds_toArray, List.set_cons_zero, List.set_cons_succ])
        refine wpPlan_take (v := ?_) rfl (Or.inl ⟨by kernel_rfl, ?_⟩) ?_
        rotate_left
        · intro W hSw; obtain ⟨hx, p0, p1, p2⟩ := hSw; obtain ⟨s0, s1, s2, _⟩ := hx.three; go_simp <;> (try with_reducible rfl)
        (try simp only [Act.put, List.setIfInBounds_toArray, List.set_cons_zero, List.set_cons_succ])
        refine wpPlan_take (v := ?_) rfl (Or.inl ⟨by kernel_rfl, ?_⟩) ?_
        rotate_left
        · intro W hSw; obtain ⟨hx, p0, p1, p2⟩ := hSw; obtain ⟨s0, s1, s2, _⟩ := hx.three; go_simp <;> (try with_reducible rfl)
        (try simp only [Act.put, List.setIfInBounds_toArray, List.set_cons_zero, List.set_cons_succ])
        -- steps
        have hbz : w.heap.size ≤ wy.heap.size := HB.out.size
        have Hb1 := Lib.hid (show Below wy.heap.size wy (wy.alloc (.cells #[] 42)).drew from ((Below.refl _ _).alloc (Nat.le_refl _) _).drew)
        have Hown1 := Lib.hid (owns_drew (World.ownsRow_made (base := wy.heap.size) (e := 42) (size := 3) wy #[] 0 (Nat.le_refl _) (by unfold maxLen; omega) rfl))
        refine wpPlan_step rfl (fun K hK => ?_)
        refine wanted_of (by kernel_rfl) ?_
        go_simp
        refine hK.out _ _ (HS0.out.below Hb1.out) (fun hHeld => ?_)
        clear hK K
        (try simp only [Act.put, List.setIfInBounds_toArray, List.set_cons_zero, List.set_cons_succ])
        have hz1' : wy.heap.size ≤ (wy.alloc (.cells #[] 42)).drew.heap.size := by simp
        generalize (wy.alloc (.cells #[] 42)).drew = wa at *
        have HT1a := Lib.hid (HT1z.out.grow Hb1.out)
        have HT2a := Lib.hid (HT2z.out.grow Hb1.out)
        have HT3a := Lib.hid (HT3z.out.grow Hb1.out)
        refine wpPlan_step rfl (fun K hK => ?_)
        refine wanted_of (by kernel_rfl) ?_
        rcases RA2 with _ | ad
        case' none =>
          have hh9 : h = 0 := by
            rcases Nat.eq_zero_or_pos h with h1 | h1
            · exact h1
            · obtain ⟨_, _, e, _⟩ := HT2a.out.2 h1
              cases e
          refine wp_append_none _ _ 50 rfl 42 i0 undStates HI.out.1 ⟨wy.heap.size, 0, none⟩ 0 0 rc2 (Nat.le_refl _) rfl (by show Value.slice none h rc2 = _; rw [hh9]) ?_
          have Hown2 := Lib.hid (show wa.ownsRow wy.heap.size 42 3 (.slice (some ⟨wy.heap.size, 0, none⟩) 0 0) h (gsCells ra) by
            have : ra = [] := List.eq_nil_of_length_eq_zero (Hla.out.trans hh9)
            rw [this, hh9]
            exact Hown1.out)
          have Hb2 := Hb1
          refine hK.out _ _ (HS0.out.below Hb2.out) (fun hHeld => ?_)
          clear hK K
          obtain ⟨v2, hv2⟩ : ∃ v2, Value.slice (some ⟨wy.heap.size, 0, none⟩) 0 0 = v2 := ⟨_, rfl⟩
          rw [hv2] at Hown2
          simp only [hv2]
          clear hh9 hv2 hz1' Hown1 HT1a HT2a HT3a Hb1
          obtain ⟨wc, rfl⟩ : ∃ wc : World, wc = wa := ⟨_, rfl⟩
        case' some =>
          refine wp_append_own _ _ _ 50 rfl wy.heap.size 42 i0 (.agg #[.int .i64 0, .int .i64 0, .bool false]) 3 24 undStates HI.out.1 HI.out.2.1 HI.out.2.2.1 HI.out.2.2.2 rfl (by decide) _ 0 [] rfl Hown1.out ad h rc2 (gsCells ra) rfl (by rw [gs_len, Hla.out]) (tab_news HT2a.out) (gs_one ra) (by unfold maxLen; omega) (by omega) (by omega) ?_
          intro v2 w2' hown2 hgrow2 _
          have Hb2 := Lib.hid (Hb1.out.trans (grown_below hgrow2 (fun k' hk' => (Hown1.out.lt k' hk').1) (by omega)))
          simp only [Nat.zero_add, List.nil_append] at hown2
          have Hown2 := Lib.hid hown2
          refine hK.out _ _ (HS0.out.below Hb2.out) (fun hHeld => ?_)
          clear hK K hgrow2 hown2
          clear Hown1 HT1a HT2a HT3a Hb1 hz1'
          obtain ⟨wc, rfl⟩ : ∃ wc : World, wc = w2' := ⟨_, rfl⟩
        all_goals
          (try simp only [Act.put, List.setIfInBounds_toArray, List.set_cons_zero, List.set_cons_succ])
          have hzc : wy.heap.size ≤ wc.heap.size := Hb2.out.size
          obtain ⟨ad3, hR3⟩ : ∃ ad3, RA3 = some ad3 := by
            obtain ⟨b, off, e, _⟩ := HT3z.out.2 (by omega)
            exact ⟨_, e⟩
          subst hR3
          have hlb : rb.length = n - h := by have := HT3z.out.1; simpa using this
          have Hlb := Lib.hid hlb
          clear hlb
          refine wpPlan_step rfl (fun K hK => ?_)
          refine wanted_of (by kernel_rfl) ?_
          refine wp_append_own _ _ _ 50 rfl wy.heap.size 42 i0 (.agg #[.int .i64 0, .int .i64 0, .bool false]) 3 24 undStates HI.out.1 HI.out.2.1 HI.out.2.2.1 HI.out.2.2.2 rfl (by decide) v2 h (gsCells ra) rfl Hown2.out ad3 (n - h) rc3 (gsCells rb) rfl (by rw [gs_len, Hlb.out]) (tab_news (HT3z.out.grow Hb2.out)) (gs_one rb) (by unfold maxLen; omega) (by omega) (by omega) ?_
          intro v3 we hown3 hgrow3 _
          have Hb3 := Lib.hid (Hb2.out.trans (grown_below hgrow3 (fun k' hk' => (Hown2.out.lt k' hk').1) (by omega)))
          rw [show h + (n - h) = n by omega, ← gs_append, ← Hall.out] at hown3
          obtain ⟨A3, c3, hv3, htab3, _, _, _⟩ := owns_tabN (rows := rl.map Gs.cells) hown3 (fun r hr => by obtain ⟨q, _, rfl⟩ := List.mem_map.1 hr; rfl) (by omega)
          subst hv3
          have Htab3 := Lib.hid htab3
          refine hK.out _ _ (HS0.out.below Hb3.out) (fun hHeld => ?_)
          clear hK K hgrow3 hown3 htab3 hHeld Hown2
          (try simp only [Act.put, List.setIfInBounds_toArray, List.set_cons_zero, List.set_cons_succ])
          have hze : wy.heap.size ≤ we.heap.size := Hb3.out.size
          refine wpPlan_step rfl (fun K hK => ?_)
          refine wanted_of (by kernel_rfl) ?_
          go_simp
          refine (rStates_same rl A3 (some ⟨ab, ao, none⟩) n c3 rc _ Htab3.out (HT1z.out.grow Hb3.out) (by omega)).mono ?_
          rintro e wf ⟨rfl, hb4⟩
          (try dsimp only)
          have Hb4 := Lib.hid (Hb3.out.trans (hb4.mono hze))
          refine hK.out _ _ (HS0.out.below Hb4.out) (fun hHeld => ?_)
          clear hK K hb4 hHeld
          (try simp only [Act.put, List.setIfInBounds_toArray, List.set_cons_zero, List.set_cons_succ])
          refine wpPlan_take (v := ?_) rfl (Or.inl ⟨by kernel_rfl, ?_⟩) ?_
          rotate_left
          · intro W hSw; go_simp <;> (try with_reducible rfl)
          (try simp only [Act.put, List.setIfInBounds_toArray, List.set_cons_zero, List.set_cons_succ])
          refine wpPlan_take (v := ?_) rfl (Or.inl ⟨by kernel_rfl, ?_⟩) ?_
          rotate_left
          · intro W hSw; go_simp <;> (try with_reducible rfl)
          (try simp only [Act.put, List.setIfInBounds_toArray, List.set_cons_zero, List.set_cons_succ])
          refine wpPlan_step rfl (fun K hK => ?_)
          refine wanted_of (by kernel_rfl) ?_
          go_simp
          refine (Awake_any _).mono ?_
          rintro e wg ⟨rfl, hb5⟩
          (try dsimp only)
          have Hb5 := Lib.hid (Hb4.out.trans (hb5.mono Hb4.out.size))
          refine hK.out _ _ (HS0.out.below Hb5.out) (fun hHeld => ?_)
          clear hK K hb5 hHeld
          (try simp only [Act.put, List.setIfInBounds_toArray, List.set_cons_zero, List.set_cons_succ])
          refine wpPlan_take (v := ?_) rfl (Or.inl ⟨by kernel_rfl, ?_⟩) ?_
          rotate_left
          · intro W hSw; go_simp <;> (try with_reducible rfl)
          (try simp only [Act.put, List.setIfInBounds_toArray, List.set_cons_zero, List.set_cons_succ])
          refine wpPlan_take (v := ?_) rfl (Or.inl ⟨by kernel_rfl, ?_⟩) ?_
          rotate_left
          · intro W hSw; go_simp <;> (try with_reducible rfl)
          (try simp only [Act.put, List.setIfInBounds_toArray, List.set_cons_zero, List.set_cons_succ])
          simp only [wpPlan, tailPost, List.drop_succ_cons, List.drop_zero]
          go_wp2
          go_ret
          exact ⟨rfl, HB.out.trans (Hb5.out.mono hbz)⟩
  · have HB := Lib.hid (fun W h1 h2 => Run_bad g s ts A n c W h1 h2 hn h0)
    have Ht := Lib.hid ht
    have q : ((runFt g s n ts).e != 0) = true := by rw [bne_iff_ne]; exact h0
    generalize (runFt g s n ts).e = E at *
    clear h0 hg ht hl hn
    go_enter Tryz.func19, Tryz.ntmps19
    go_wp2_with (with_reducible refine wpl_g (g := g) ((Blk.new w _ _).alloc _) rfl rfl rfl ?_)
    refine (HB.out _ (Hg.out.grow (by repeat (first | exact Below.refl _ _ | assumption | (refine Below.setCell ?_ (by first | omega | (simp; done) | (simp; omega)) _) | (refine Below.alloc ?_ (by first | omega | (simp; done) | (simp; omega)) _) | refine Below.drew ?_ | (refine below_thru ?_ (by assumption) (by first | omega | (simp; done) | (simp; omega))) | refine below_drewN ?_ _))) (Ht.out.grow (by repeat (first | exact Below.refl _ _ | assumption | (refine Below.setCell ?_ (by first | omega | (simp; done) | (simp; omega)) _) | (refine Below.alloc ?_ (by first | omega | (simp; done) | (simp; omega)) _) | refine Below.drew ?_ | (refine below_thru ?_ (by assumption) (by first | omega | (simp; done) | (simp; omega))) | refine below_drewN ?_ _)))).mono ?_
    rintro e w1 ⟨rfl, hb1⟩
    obtain ⟨hc1, hf1⟩ := bcell hb1; have hz1 := hb1.size; (try simp at hz1)
    go_wp2_with fail
    refine (Awake_any _).mono ?_
    rintro e w4 ⟨rfl, hb4⟩
    go_wp2
    go_ret
    exact ⟨rfl, (by repeat (first | exact Below.refl _ _ | assumption | (refine Below.setCell ?_ (by first | omega | (simp; done) | (simp; omega)) _) | (refine Below.alloc ?_ (by first | omega | (simp; done) | (simp; omega)) _) | refine Below.drew ?_ | (refine below_thru ?_ (by assumption) (by first | omega | (simp; done) | (simp; omega))) | refine below_drewN ?_ _))⟩
theorem GateAgain_row (g : Ga) (s : Gs) (A : Option Addr) (n c : Nat) (ts : List Gt) (w : World) (hg : g.At w w.heap.size) (ht : Tab w w.heap.size A n 4 (ts.map Gt.cells)) (hn : n ≤ maxLen) (hc : n ≤ c) :
    Calls Tryz.prog 19 #[g.v, s.v, .slice A n c] w fun e w' => e = .returned (.bool true) ∧ Below w.heap.size w w' := GateAgain_any g s ts A n c w hg ht hn hc
end Go.Proofs.YtgdomaddjiggaaaGreat
