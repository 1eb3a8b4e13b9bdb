/- setOf: the gates of a set in their states. -/
import Derived.Test.YtgdomaddjiggaaaGreatGtSetFault
namespace Go.Proofs.YtgdomaddjiggaaaGreat
open Go.RowKit
set_option linter.unusedSimpArgs false
set_option linter.unusedVariables false

theorem infoMachine : (Tryz.prog.info? 107).map (fun i => (i.size, i.bytes)) = some (24, 232) := by kernel_rfl
theorem zeroMachine : ((Tryz.prog.info? 107).bind (·.zero)).map (·.cells.size) = some 24 := by kernel_rfl
theorem undMachines : Tryz.prog.underlying 112 = some (.slice 107) := by kernel_rfl
def zgrow : Array Value := #[.string ByteArray.empty, .int .i64 0, .int .i64 0, .slice none 0 0, .int .i64 0, .int .i64 0, .int .i64 0, .int .i64 0, .int .i64 0, .int .i64 0, .int .i64 0, .int .i64 0, .int .i64 0, .int .i64 0, .int .i64 0, .int .i64 0, .int .i64 0, .int .i64 0, .int .i64 0, .slice none 0 0, .int .i64 0]
theorem put_g (g : Ga) : putRow zgrow 0 (grow g).toList = grow g := by kernel_rfl
theorem run_alloc_g (w : World) : (Instr.alloc 33 true (.tuple #[])).run Tryz.prog w = .ok (.pointer (some ⟨w.heap.size, 0, none⟩)) (w.alloc (.cells zgrow 33)) := by
  kernel_rfl
theorem wpl_sg {ops : Array Oper} {rest : List Oper} {o : Oper} {a : Act} {w : World} {Q : Exit → Act → World → Prop} {x y : Operand} {b : Nat} {cs : Array Value} {t : TypeId} {g : Ga} (h : Blk w b t cs) (hc : cs.size = 21) (hgd : o.guard = none) (ho : o.op = .store 33 x y) (hx : a.eval x = .pointer (some ⟨b, 0, none⟩)) (hy : a.eval y = g.v)
    (hp : putRow cs 0 (grow g).toList = grow g) (hk : ∀ W : World, Wrote w W b t (grow g) → wpList Tryz.prog ops Q rest (a.put o.dst undef) W) : wpList Tryz.prog ops Q (o :: rest) a w :=
  wpList_store_mid hgd _ x y ho b 0 (grow g) hx hy (Blk.there h (by rw [hc]; show 0 + 21 ≤ 21; omega)) iGate (by simp [Value.oneCell'])
    (hk _ ⟨blk_eq hp (Blk.sets h (grow g).toList 0), fun g' t' cs' hne hb => Blk.fars hb hne _ _, fun B a hB hb => below_sets hb hB _ _, size_sets _ _ _⟩)
theorem ld_g {o : Oper} {ev : Operand → Value} {w : World} {x : Operand} {b : Nat} {t : TypeId} {g : Ga} (ho : o.op = .load 33 x) (hx : ev x = .pointer (some ⟨b, 0, none⟩)) (h : Blk w b t (grow g)) :
    (execOp ev o).run Tryz.prog w = .ok (.value g.v) w := by
  obtain ⟨fs, hu⟩ := uGate
  have hr : (Instr.loadAt 33 (.pointer (some ⟨b, 0, none⟩))).run Tryz.prog w = .ok g.v w := by
    simp only [Instr.loadAt, Instr.sureAddr, Sem.run_bind, Sem.run_pure, Result.andThen_ok, run_loadVar_row w b t 33 (grow g) (0, 0) _ h hu rfl iGate]
  unfold execOp
  simp only [ho, hx, Sem.run_bind, hr, Sem.run_pure, Result.andThen_ok]
/-- The machines of a set. -/
def machs (gs : List Ga) (ss : List Gs) : List (Ga × Gs) := gs.zip ss
def mCells (ms : List (Ga × Gs)) : List Value := ms.flatMap fun m => mcells m.1 m.2
theorem mCells_take (ms : List (Ga × Gs)) (k : Nat) (m : Ga × Gs) (h : ms[k]? = some m) : mCells (ms.take (k + 1)) = mCells (ms.take k) ++ mcells m.1 m.2 := by
  have h1 : ms.take (k + 1) = ms.take k ++ [m] := by rw [List.take_add_one, h]; rfl
  unfold mCells
  rw [h1, List.flatMap_append]
  simp
theorem mCells_flat (ms : List (Ga × Gs)) : mCells ms = (ms.map fun m => mcells m.1 m.2).flatten := by unfold mCells; rw [List.flatMap_def]
theorem grow_setCell (w : World) (p : Addr) (v : Value) (h : p.spot = none) : w.grownBy (w.setCell p v) (some p.block) := by
  refine ⟨rfl, rfl, rfl, by simp [World.setCell], fun i hi hne => ?_⟩
  exact Below.heap_setCell w p v i (by intro e; exact hne (by rw [e]))
theorem ms_of_owns {w : World} {base : Nat} {A : Option Addr} {vn vc n : Nat} {ms : List (Ga × Gs)} (h : w.ownsRow base 107 24 (.slice A vn vc) n (mCells ms)) (h0 : 0 < n) : ∃ g, A = some ⟨g, 0, none⟩ ∧ vn = n ∧ base ≤ g ∧ Ms w g ms ∧ ms.length = n := by
  have hlen := h.1
  rw [mCells_flat, flat_len 24 _ (fun r hr => by obtain ⟨m, _, rfl⟩ := List.mem_map.1 hr; rfl), List.length_map] at hlen
  have hl : ms.length = n := Nat.eq_of_mul_eq_mul_right (by omega : 0 < 24) hlen
  rcases h.2 with ⟨_, rfl⟩ | ⟨g, cap, cur, h1, hb, hg, hn, hc, hsz, ht⟩
  · omega
  · cases h1
    have hblk : Blk w g 107 cur := hg
    refine ⟨g, rfl, rfl, hb, ⟨fun i m hm j v hv => ?_, fun o => hblk.frozen o, hblk.lt⟩, hl⟩
    have hf := flat_get 24 (ms.map fun m => mcells m.1 m.2) (fun r hr => by obtain ⟨m, _, rfl⟩ := List.mem_map.1 hr; rfl) i (mcells m.1 m.2) j v (by simp [hm]) hv
    rw [← mCells_flat, ← ht, List.getElem?_take] at hf
    split at hf
    · rw [hblk.cell]; simpa using hf
    · cases hf

theorem owns_below {w W : World} {base : Nat} {e : TypeId} {size n : Nat} {v : Value} {xs : List Value} (h : w.ownsRow base e size v n xs) (hb : Below w.heap.size w W) : W.ownsRow base e size v n xs := by
  refine ⟨h.1, ?_⟩
  rcases h.2 with h1 | ⟨g, cap, cur, h1, h2, h3, h4⟩
  · exact .inl h1
  · exact .inr ⟨g, cap, cur, h1, h2, Blk.thru (show Blk w g e cur from h3) hb (Blk.lt (show Blk w g e cur from h3)), h4⟩
/-- What a round of setOf reads. -/
structure SoR (W : World) (sb : Nat) (av rv : Value) (gb : Nat) (g : Ga) (tb to : Nat) (s : Gs) : Prop where
  st : Blk W sb 114 #[av, rv]
  g : Blk W gb 33 (grow g)
  c0 : W.cell? ⟨tb, to, none⟩ = some (.int .i64 s.pos)
  c1 : W.cell? ⟨tb, to + 1, none⟩ = some (.int .i64 s.charge)
  c2 : W.cell? ⟨tb, to + 2, none⟩ = some (.bool s.bolted)
theorem SoR.below {W W' : World} {sb gb tb to : Nat} {av rv : Value} {g : Ga} {s : Gs} (h : SoR W sb av rv gb g tb to s) (hb : Below W.heap.size W W') : SoR W' sb av rv gb g tb to s := by
  have k : ∀ (q : Addr) (v : Value), W.cell? q = some v → W'.cell? q = some v := fun q v hq => (hb.cell (World.block_lt_of_cell? W q hq)).trans hq
  exact ⟨h.st.thru hb h.st.lt, h.g.thru hb h.g.lt, k _ _ h.c0, k _ _ h.c1, k _ _ h.c2⟩
theorem SoR.drew {W : World} {sb gb tb to : Nat} {av rv : Value} {g : Ga} {s : Gs} (h : SoR W sb av rv gb g tb to s) : SoR W.drew sb av rv gb g tb to s := ⟨h.st, h.g, h.c0, h.c1, h.c2⟩
theorem SoR.grown {W W' : World} {sb gb tb to : Nat} {av rv : Value} {g : Ga} {s : Gs} {row : Option Nat} (h : SoR W sb av rv gb g tb to s) (hg : W.grownBy W' row) (h1 : some sb ≠ row) (h2 : some gb ≠ row) (h3 : some tb ≠ row) : SoR W' sb av rv gb g tb to s := by
  have k : ∀ (q : Addr) (v : Value), some q.block ≠ row → W.cell? q = some v → W'.cell? q = some v := fun q v hq hc => hg.cell hc hq
  exact ⟨(hg.block _ h.st.lt h1).trans h.st, (hg.block _ h.g.lt h2).trans h.g, k _ _ h3 h.c0, k _ _ h3 h.c1, k _ _ h3 h.c2⟩

set_option maxRecDepth 100000 in
set_option maxHeartbeats 8000000 in
theorem setOf_any (l : St) (ss : List Gs) (sA : Option Addr) (n sc : Nat) (w : World) (hl : l.At w w.heap.size) (hs : Tab w w.heap.size sA n 3 (ss.map Gs.cells)) (hn : l.gn = n) (hn6 : n ≤ 1000) :
    Calls Tryz.prog 96 #[l.v, .slice sA n sc] w fun e w' => ∃ A c, e = .returned (setV A n c l.rA l.rn l.rc) ∧ w'.ownsRow (w.heap.size + 1 + 1 + 1) 107 24 (.slice A n c) n (mCells (machs l.gs ss)) ∧ Below w.heap.size w w' := by
  obtain ⟨i0, hi, hzz⟩ : ∃ i0, Tryz.prog.info? 107 = some i0 ∧ i0.size = 24 ∧ i0.bytes = 232 := by
    have := infoMachine
    cases hq : Tryz.prog.info? 107 with
    | none => rw [hq] at this; cases this
    | some i => rw [hq] at this; simp at this; exact ⟨i, rfl, this.1, this.2⟩
  obtain ⟨z0, hz0, hz1⟩ : ∃ z0, i0.zero = some z0 ∧ z0.cells.size = 24 := by
    have := zeroMachine
    rw [hi] at this
    cases hq : i0.zero with
    | none => simp [hq] at this
    | some z => simp [hq] at this; exact ⟨z, rfl, this⟩
  have HI := Lib.hid (And.intro hi (And.intro hzz (And.intro hz0 hz1)))
  clear hi hzz hz0 hz1
  obtain ⟨gA, gn, gc, gs, rA, rn, rc, rs⟩ := l
  simp only at hn
  subst hn
  have hgl : gs.length = gn := hl.g.len
  have hsl : ss.length = gn := by have := hs.1; simpa using this
  have hml : (machs gs ss).length = gn := by unfold machs; rw [List.length_zip, hgl, hsl]; omega
  have Hgl := Lib.hid hgl
  have Hsl := Lib.hid hsl
  have Hml := Lib.hid hml
  have Hg := Lib.hid hl.g
  have Hs := Lib.hid hs
  clear hl hs hgl hsl hml
  have hal := fun W => run_alloc_g W
  go_enter Tryz.func96, Tryz.ntmps96
  go_wp2
  go_loopw [14] (fun i wr => ∃ (k : Nat) (A : Option Addr) (vn vc : Nat), k ≤ gn ∧ i = .int .i64 k ∧ Hid (wr.ownsRow (w.heap.size + 1 + 1 + 1) 107 24 (.slice A vn vc) k (mCells ((machs gs ss).take k))) ∧ Hid (Blk wr (w.heap.size + 1 + 1) 114 #[.slice A vn vc, .slice rA rn rc]) ∧ Hid (Blk wr (w.heap.size + 1) 114 #[.slice none 0 0, .slice none 0 0]) ∧ Below w.heap.size w wr ∧ w.heap.size + 1 + 1 + 1 ≤ wr.heap.size)
    (fun i _ => gn - (intOf i).toNat)
  case atStart =>
    refine ⟨0, none, 0, 0, Nat.zero_le _, rfl, ⟨rfl, .inl ⟨rfl, rfl⟩⟩, Blk.new' ((w.alloc _).alloc _) _ _ (by simp), (Blk.new' (w.alloc _) _ _ (by simp)).alloc _, (by repeat (first | exact Below.refl _ _ | assumption | (refine Below.setCell ?_ (by first | omega | (simp; done) | (simp; omega)) _) | (refine Below.alloc ?_ (by first | omega | (simp; done) | (simp; omega)) _) | refine Below.drew ?_ | (refine below_thru ?_ (by assumption) (by first | omega | (simp; done) | (simp; omega))) | refine below_drewN ?_ _)), by simp⟩
  case round =>
    obtain ⟨k, A, vn, vc, hk, rfl, hown, hbs, hbr0, hbr, hzr⟩ := hrel
    by_cases hkn : k < gn
    · obtain ⟨g, hgk⟩ := get_lt Hgl.out hkn
      obtain ⟨s, hsk⟩ := get_lt Hsl.out hkn
      have hmk : (machs gs ss)[k]? = some (g, s) := by unfold machs; rw [List.getElem?_zip_eq_some]; exact ⟨hgk, hsk⟩
      have htk := mCells_take (machs gs ss) k (g, s) hmk
      obtain ⟨gb, off, hA, hgb, hrow⟩ := Hg.out.row hgk
      obtain ⟨sb, so, hB, hsb, c0, c1, c2⟩ := Hs.out.three (k := k) (x := .int .i64 s.pos) (y := .int .i64 s.charge) (z := .bool s.bolted) (by simp [hsk])
      have Htk := Lib.hid htk
      have Hrow := Lib.hid (range_below hrow hbr hgb)
      subst hA
      subst hB
      have j0 : (0 : Int) ≤ (k : Int) := Int.natCast_nonneg _
      have j1 : (k : Int) < (gn : Int) := by omega
      clear hgk hsk hmk htk hrow
      go_wp2_with (first | (with_reducible refine wpl_gm (g := g) Hrow.out rfl rfl rfl ?_) | (with_reducible refine wpl_sg (cs := zgrow) (g := g) (Blk.new wr _ _) rfl rfl rfl rfl rfl (put_g _) ?_; intro W hW))
      have hsz := hW.size
      simp at hsz
      have hBW : Below wr.heap.size wr W := hW.below _ _ (Nat.le_refl _) ((Below.refl _ _).alloc (Nat.le_refl _) _)
      have hbW : Below w.heap.size w W := hbr.trans (hBW.mono (by omega))
      have hsW : SoR W (w.heap.size + 1 + 1) (.slice A vn vc) (.slice rA rn rc) wr.heap.size g sb (so + k * 3) s :=
        ⟨hbs.out.thru hBW (by omega), hW.blk, (hbW.cell (p := ⟨sb, so + k * 3, none⟩) hsb).trans c0, (hbW.cell (p := ⟨sb, so + k * 3 + 1, none⟩) hsb).trans c1, (hbW.cell (p := ⟨sb, so + k * 3 + 2, none⟩) hsb).trans c2⟩
      have hoW : Hid (W.ownsRow (w.heap.size + 1 + 1 + 1) 107 24 (.slice A vn vc) k (mCells ((machs gs ss).take k))) := owns_below hown.out hBW
      have hr0W : Blk W (w.heap.size + 1) 114 #[.slice none 0 0, .slice none 0 0] := hbr0.out.thru hBW (by omega)
      have Hr0W := Lib.hid hr0W
      have HbW := Lib.hid hbW
      have hloW : ∀ k', (Value.slice A vn vc).ownBlock = some k' → k' < wr.heap.size := fun k' hk' => (hown.out.lt k' hk').2
      clear hW hBW hbW hr0W c0 c1 c2 hown hbs hbr0
      have hbd : ∀ W' : World, (Instr.build 107 #[(0, g.v), (1, .agg #[.int .i64 s.pos, .int .i64 s.charge, .bool s.bolted])]).run Tryz.prog W' = .ok (mv g s) W' := fun W' => run_build_m g s W'
      have hbsl := fun W' => run_bslice_m g s W'
      have n1 : Hid (∀ u ∈ (mrow g s).toList, u.oneCell' = true) := fun u hu => by
        have : (mrow g s).all (·.oneCell') = true := by simp [Value.oneCell']
        exact Array.all_eq_true_iff_forall_mem.1 this u (by simpa using hu)
      have hlo : Hid (∀ k', (Value.slice A vn vc).ownBlock = some k' → w.heap.size + 1 + 1 + 1 ≤ k' ∧ k' < W.heap.size) := fun k' hk' => hoW.out.lt k' hk'
      have hlo2 : Hid (∀ k', (Value.slice A vn vc).ownBlock = some k' → k' < wr.heap.size) := hloW
      go_wp2_with fail
      refine wp_region_split (S := fun W' => SoR W' (w.heap.size + 1 + 1) (.slice A vn vc) (.slice rA rn rc) wr.heap.size g sb (so + k * 3) s) 10 (by kernel_rfl) (by kernel_rfl) (by exact hsW.drew) (fun hHeld => ?_)
      refine wpAnyH_take (i := 2) (v := g.v) rfl (by kernel_rfl) (by kernel_rfl) (by kernel_rfl) (fun _ _ _ h => h) (Or.inl ⟨by rfl, fun w hSw => ld_g rfl rfl hSw.g⟩) hHeld ?_
      (try simp only [Act.put, List.setIfInBounds_toArray, List.set_cons_zero, List.set_cons_succ])
      refine wpAnyH_take (i := 0) (v := ?_) rfl (by kernel_rfl) (by kernel_rfl) (by kernel_rfl) (fun _ _ _ h => h) (Or.inl ⟨by rfl, ?_⟩) hHeld ?_
      rotate_left
      · intro w hSw; (try dsimp only at hSw); obtain ⟨st, hg', y0, y1, y2⟩ := hSw; have s0 := st.cell 0; have s1 := st.cell 1; simp only [List.getElem?_toArray, List.getElem?_cons_zero, List.getElem?_cons_succ] at s0 s1; go_simp; (try with_reducible rfl)
      (try simp only [Act.put, List.setIfInBounds_toArray, List.set_cons_zero, List.set_cons_succ])
      refine wpAnyH_take (i := 1) (v := ?_) rfl (by kernel_rfl) (by kernel_rfl) (by kernel_rfl) (fun _ _ _ h => h) (Or.inl ⟨by rfl, ?_⟩) hHeld ?_
      rotate_left
      · intro w hSw; (try dsimp only at hSw); obtain ⟨st, hg', y0, y1, y2⟩ := hSw; have s0 := st.cell 0; have s1 := st.cell 1; simp only [List.getElem?_toArray, List.getElem?_cons_zero, List.getElem?_cons_succ] at s0 s1; go_simp; (try with_reducible rfl)
      (try simp only [Act.put, List.setIfInBounds_toArray, List.set_cons_zero, List.set_cons_succ])
      refine wpAnyH_take (i := 3) (v := ?_) rfl (by kernel_rfl) (by kernel_rfl) (by kernel_rfl) (fun _ _ _ h => h) (Or.inl ⟨by rfl, ?_⟩) hHeld ?_
      rotate_left
      · intro w hSw; (try dsimp only at hSw); obtain ⟨st, hg', y0, y1, y2⟩ := hSw; have s0 := st.cell 0; have s1 := st.cell 1; simp only [List.getElem?_toArray, List.getElem?_cons_zero, List.getElem?_cons_succ] at s0 s1; go_simp; (try with_reducible rfl)
      (try simp only [Act.put, List.setIfInBounds_toArray, List.set_cons_zero, List.set_cons_succ])
      refine wpAnyH_take (i := 4) (v := ?_) rfl (by kernel_rfl) (by kernel_rfl) (by kernel_rfl) (fun _ _ _ h => h) (Or.inl ⟨by rfl, ?_⟩) hHeld ?_
      rotate_left
      · intro w hSw; (try dsimp only at hSw); obtain ⟨st, hg', y0, y1, y2⟩ := hSw; have s0 := st.cell 0; have s1 := st.cell 1; simp only [List.getElem?_toArray, List.getElem?_cons_zero, List.getElem?_cons_succ] at s0 s1; go_simp; (try with_reducible rfl)
      (try simp only [Act.put, List.setIfInBounds_toArray, List.set_cons_zero, List.set_cons_succ])
      refine wpAnyH_take (i := 5) (v := ?_) rfl (by kernel_rfl) (by kernel_rfl) (by kernel_rfl) (fun _ _ _ h => h) (Or.inl ⟨by rfl, ?_⟩) hHeld ?_
      rotate_left
      · intro w hSw; (try dsimp only at hSw); obtain ⟨st, hg', y0, y1, y2⟩ := hSw; have s0 := st.cell 0; have s1 := st.cell 1; simp only [List.getElem?_toArray, List.getElem?_cons_zero, List.getElem?_cons_succ] at s0 s1; go_simp; (try with_reducible rfl)
      (try simp only [Act.put, List.setIfInBounds_toArray, List.set_cons_zero, List.set_cons_succ])
      refine wpAnyH_take (i := 6) (v := ?_) rfl (by kernel_rfl) (by kernel_rfl) (by kernel_rfl) (fun _ _ _ h => h) (Or.inl ⟨by rfl, ?_⟩) hHeld ?_
      rotate_left
      · intro w hSw; (try dsimp only at hSw); obtain ⟨st, hg', y0, y1, y2⟩ := hSw; have s0 := st.cell 0; have s1 := st.cell 1; simp only [List.getElem?_toArray, List.getElem?_cons_zero, List.getElem?_cons_succ] at s0 s1; go_simp; (try with_reducible rfl)
      (try simp only [Act.put, List.setIfInBounds_toArray, List.set_cons_zero, List.set_cons_succ])
      refine wpAnyH_take (i := 7) (v := ?_) rfl (by kernel_rfl) (by kernel_rfl) (by kernel_rfl) (fun _ _ _ h => h) (Or.inl ⟨by rfl, ?_⟩) hHeld ?_
      rotate_left
      · intro w hSw; (try dsimp only at hSw); skip; go_simp; (try with_reducible rfl)
      (try simp only [Act.put, List.setIfInBounds_toArray, List.set_cons_zero, List.set_cons_succ])
      refine wpAnyH_ready (rs := [8]) (by kernel_rfl) (by simp) ?_
      refine AllReadyH.cons rfl (fun K hK => ?_) AllReadyH.nil
      go_simp
      (try dsimp only)
      refine hK.out _ _ (by exact hHeld.below ((Below.refl _ _).alloc (Nat.le_refl _) _)) (fun hHeld => ?_)
      clear hK K
      (try simp only [Act.put, List.setIfInBounds_toArray, List.set_cons_zero, List.set_cons_succ])
      have hoW2 : (W.alloc (.cells (mrow g s) 107)).drew.ownsRow (w.heap.size + 1 + 1 + 1) 107 24 (.slice A vn vc) k (mCells ((machs gs ss).take k)) := hoW.out.alloc _
      have hnews : ∀ j u, (mrow g s).toList[j]? = some u → (W.alloc (.cells (mrow g s) 107)).drew.cell? ((⟨wr.heap.size + 1, 0, none⟩ : Addr).add j) = some u := src_of (Blk.range (Blk.new' W _ _ hsz).drew (by simp))
      have hR0 : Blk (W.alloc (.cells (mrow g s) 107)).drew (w.heap.size + 1) 114 #[.slice none 0 0, .slice none 0 0] := Hr0W.out.alloc _
      have hbA : Below w.heap.size w (W.alloc (.cells (mrow g s) 107)).drew := Below.drew (HbW.out.alloc (by omega) _)
      have hzA : (W.alloc (.cells (mrow g s) 107)).drew.heap.size = W.heap.size + 1 := by simp
      generalize hWA : (W.alloc (.cells (mrow g s) 107)).drew = WA at *
      clear hWA
      (try simp only [List.getElem_toArray, List.getElem_cons_zero, List.getElem_cons_succ, Act.put, List.setIfInBounds_toArray, List.set_cons_zero, List.set_cons_succ])
      refine wpAnyH_ready (rs := [9]) (by kernel_rfl) (by simp) ?_
      refine AllReadyH.cons rfl (fun K hK => ?_) AllReadyH.nil
      refine wanted_of (by rfl) (wp_append_own (P := Tryz.prog) WA (.tmp 20) (.tmp 27) 112 rfl (w.heap.size + 1 + 1 + 1) 107 i0 z0 24 232 undMachines HI.out.1 HI.out.2.2.1 HI.out.2.1.1 HI.out.2.1.2 HI.out.2.2.2 (by omega) (.slice A vn vc) k (mCells ((machs gs ss).take k)) rfl hoW2 ⟨wr.heap.size + 1, 0, none⟩ 1 1 (mrow g s).toList rfl rfl hnews n1.out (by unfold maxLen; omega) (by omega) (by omega) ?_)
      intro v' w1 hown1 hgrow _
      have hz1 := hgrow.size
      have hB1 : Below (w.heap.size + 1 + 1 + 1) WA w1 := grown_below hgrow (fun k' hk' => (hlo.out k' hk').1) (by omega)
      refine hK.out _ _ (by exact hHeld.grown hgrow (fun h => by have := (hlo.out _ h.symm).1; omega) (fun h => by have := hlo2.out _ h.symm; omega) (fun h => by have := (hlo.out _ h.symm).1; omega)) (fun hHeld => ?_)
      clear hK K
      (try simp only [Act.put, List.setIfInBounds_toArray, List.set_cons_zero, List.set_cons_succ])
      refine wpAnyH_done (by kernel_rfl) ?_ _
      simp only [tailPost, List.drop_succ_cons, List.drop_zero]
      have hS1 := hHeld.st
      obtain ⟨q0, q1, y0, y1⟩ := hS1.two
      have hR1 : Blk w1 (w.heap.size + 1) 114 #[.slice none 0 0, .slice none 0 0] := hR0.thru hB1 (by omega)
      have hbw1 : Below w.heap.size w w1 := hbA.trans (hB1.mono (by omega))
      obtain ⟨A', vn', vc', rfl⟩ := owns_slice hown1
      have hown2 : Hid (w1.ownsRow (w.heap.size + 1 + 1 + 1) 107 24 (.slice A' vn' vc') (k + 1) (mCells ((machs gs ss).take (k + 1)))) := by
        show w1.ownsRow _ _ _ _ _ _
        rw [Htk.out]
        exact hown1
      have hl2 : w.heap.size + 1 + 1 < w1.heap.size := by omega
      clear hown1 hgrow hHeld hB1 hbA hR0 hoW2 hnews
      go_wp2
      have hSe : Blk (w1.setCell ⟨w.heap.size + 1 + 1, 0, none⟩ (.slice A' vn' vc')) (w.heap.size + 1 + 1) 114 #[.slice A' vn' vc', .slice rA rn rc] := hS1.set_ 0 _
      have hRe : Blk (w1.setCell ⟨w.heap.size + 1 + 1, 0, none⟩ (.slice A' vn' vc')) (w.heap.size + 1) 114 #[.slice none 0 0, .slice none 0 0] := hR1.far (by simp) _
      have hOe : (w1.setCell ⟨w.heap.size + 1 + 1, 0, none⟩ (.slice A' vn' vc')).ownsRow (w.heap.size + 1 + 1 + 1) 107 24 (.slice A' vn' vc') (k + 1) (mCells ((machs gs ss).take (k + 1))) := hown2.out.kept (grow_setCell _ _ _ rfl) (.inr (fun h => by have := (hown2.out.lt _ h).1; simp at this; omega))
      have hBe : Below w.heap.size w (w1.setCell ⟨w.heap.size + 1 + 1, 0, none⟩ (.slice A' vn' vc')) := Below.setCell hbw1 (by simp; omega) _
      have HSe := Lib.hid hSe
      have HRe := Lib.hid hRe
      have HOe := Lib.hid hOe
      clear hSe hRe hOe q0 q1 y0 y1 hown2 hS1 hR1
      go_roundw
      case rel => exact ⟨k + 1, A', vn', vc', by omega, by go_num, HOe.out, HSe.out, HRe.out, hBe, by simp; omega⟩
      case measure => simp [intOf]; omega
    · obtain rfl : k = gn := by omega
      have htk : (machs gs ss).take k = machs gs ss := List.take_of_length_le (by have := Hml.out; omega)
      have hown2 := hown.out
      rw [htk] at hown2
      have hvn : vn = k := by
        rcases hown2.2 with ⟨h1, h2⟩ | ⟨g', c', cur, h1, _⟩
        · cases h1; exact h2.symm
        · cases h1; rfl
      subst hvn
      have Hown2 := Lib.hid hown2
      obtain ⟨s0, s1, x0, x1⟩ := hbs.out.two
      obtain ⟨r0, r1, y0, y1⟩ := hbr0.out.two
      have hR2 := hbr0.out
      have hl1 : w.heap.size + 1 < wr.heap.size := by omega
      have hl2 : w.heap.size + 1 + 1 < wr.heap.size := by omega
      clear hown2 htk hown hbs hbr0
      go_wp2
      have hne : ∀ k', (Value.slice A vn vc).ownBlock = some k' → k' ≠ w.heap.size + 1 := fun k' hk' => by have := (Hown2.out.lt k' hk').1; omega
      exact bodyPost_ret (v := setV A vn vc rA rn rc) (by simp [results, Tryz.results96, go_sem, r0, r1, hl1] <;> omega) rfl ⟨A, vc, rfl, (Hown2.out.kept (grow_setCell _ _ _ rfl) (.inr (fun h => hne _ h rfl))).kept (grow_setCell _ _ _ rfl) (.inr (fun h => hne _ h rfl)), (by repeat (first | exact Below.refl _ _ | assumption | (refine Below.setCell ?_ (by first | omega | (simp; done) | (simp; omega)) _) | (refine Below.alloc ?_ (by first | omega | (simp; done) | (simp; omega)) _) | refine Below.drew ?_ | (refine below_thru ?_ (by assumption) (by first | omega | (simp; done) | (simp; omega))) | refine below_drewN ?_ _))⟩
end Go.Proofs.YtgdomaddjiggaaaGreat
