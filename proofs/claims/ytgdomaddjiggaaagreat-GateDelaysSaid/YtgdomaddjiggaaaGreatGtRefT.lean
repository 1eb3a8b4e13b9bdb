/- The reference: a step of all gates of a set. -/
import Derived.Test.YtgdomaddjiggaaaGreatGtRefN
import Derived.Test.YtgdomaddjiggaaaGreatGtRefR
namespace Go.Proofs.YtgdomaddjiggaaaGreat
open Go.RowKit
set_option linter.unusedSimpArgs false
set_option linter.unusedVariables false

def gmCells (l : List Gm) : List Value := (l.map Gm.cells).flatten
theorem gmCells_next (l : List Gm) (s : Gm) : gmCells (l ++ [s]) = gmCells l ++ s.cells := by unfold gmCells; simp
theorem owns_apart {w : World} {b1 b2 : Nat} {e1 e2 : TypeId} {s1 s2 n1 n2 : Nat} {v1 v2 : Value} {x1 x2 : List Value} (h1 : w.ownsRow b1 e1 s1 v1 n1 x1) (h2 : w.ownsRow b2 e2 s2 v2 n2 x2) (hne : e1 ≠ e2) : v1.ownBlock = none ∨ v1.ownBlock ≠ v2.ownBlock := by
  rcases h1.2 with ⟨rfl, _⟩ | ⟨g, cap, cur, rfl, _, hg, _⟩
  · exact .inl rfl
  · rcases h2.2 with ⟨rfl, _⟩ | ⟨g', cap', cur', rfl, _, hg', _⟩
    · exact .inr (by simp [Value.ownBlock])
    · refine .inr fun hc => ?_
      simp only [Value.ownBlock, Option.some.injEq] at hc
      subst hc
      rw [hg] at hg'
      simp at hg'
      exact hne hg'.2
theorem blk_kept {w w' : World} {b : Nat} {t : TypeId} {cs : Array Value} {v : Value} (h : Blk w b t cs) (hg : w.grownBy w' v.ownBlock) (hne : ∀ g, v.ownBlock = some g → g < b) : Blk w' b t cs :=
  (hg.block b h.lt (fun hc => by have := hne b hc.symm; omega)).trans h
theorem news_blk {w : World} {b : Nat} {t : TypeId} {x y z : Value} (h : Blk w b t #[x, y, z]) : ∀ (j : Nat) (u : Value), [x, y, z][j]? = some u → w.cell? ((⟨b, 0, none⟩ : Addr).add j) = some u := by
  intro j u hj
  match j, hj with
  | 0, hj => cases hj; exact h.cell 0
  | 1, hj => cases hj; exact h.cell 1
  | 2, hj => cases hj; exact h.cell 2
theorem moveS_eq (l : St) (ss : List Gs) (ts : List Gt) (ps : List Bool) (hl : (machs l.gs ss).length = l.gn) : moveS l ss ts ps = (List.range l.gn).map (aftF (machs l.gs ss) l.rs l.rn ts ps) := by
  apply List.ext_getElem?
  intro j
  unfold moveS moveMs
  rw [List.getElem?_map, List.getElem?_map]
  by_cases hj : j < l.gn
  · obtain ⟨m, hm⟩ := get_lt hl hj
    rw [newMs_at _ _ _ _ hj, hm, List.getElem?_range hj]
    rfl
  · rw [List.getElem?_eq_none (by rw [newMs_len, hl]; omega), List.getElem?_eq_none (by simp; omega)]
    rfl

/-- What a round reads. -/
structure ToR (W : World) (lb : Nat) (gv rv : Value) (gb go : Nat) (g : Ga) (sb so : Nat) (s : Gs) (tb tp : Nat) (t : Gt) (pb po : Nat) (p : Bool) : Prop where
  l : Blk W lb 25 #[gv, rv]
  g : W.rangeAt gb go g.cells
  c0 : W.cell? ⟨sb, so, none⟩ = some (.int .i64 s.pos)
  c1 : W.cell? ⟨sb, so + 1, none⟩ = some (.int .i64 s.charge)
  c2 : W.cell? ⟨sb, so + 2, none⟩ = some (.bool s.bolted)
  d0 : W.cell? ⟨tb, tp, none⟩ = some (.int .i64 t.order)
  d1 : W.cell? ⟨tb, tp + 1, none⟩ = some (.bool t.power)
  d2 : W.cell? ⟨tb, tp + 2, none⟩ = some (.int .i64 t.outer)
  d3 : W.cell? ⟨tb, tp + 3, none⟩ = some (.int .i64 t.inner)
  e0 : W.cell? ⟨pb, po, none⟩ = some (.bool p)
section
variable {W W' : World} {lb gb go sb so tb tp pb po : Nat} {gv rv : Value} {t : Gt} {g : Ga} {s : Gs} {p : Bool}
theorem ToR.below (h : ToR W lb gv rv gb go g sb so s tb tp t pb po p) (hb : Below W.heap.size W W') : ToR W' lb gv rv gb go g sb so s tb tp t pb po p := by
  have k : ∀ (q : Addr) (v : Value), W.cell? q = some v → W'.cell? q = some v := fun q v hq => (hb.cell (World.block_lt_of_cell? W q hq)).trans hq
  exact ⟨h.l.thru hb h.l.lt, fun j v hv => k _ _ (h.g j v hv), k _ _ h.c0, k _ _ h.c1, k _ _ h.c2, k _ _ h.d0, k _ _ h.d1, k _ _ h.d2, k _ _ h.d3, k _ _ h.e0⟩
theorem ToR.drew (h : ToR W lb gv rv gb go g sb so s tb tp t pb po p) : ToR W.drew lb gv rv gb go g sb so s tb tp t pb po p := ⟨h.l, h.g, h.c0, h.c1, h.c2, h.d0, h.d1, h.d2, h.d3, h.e0⟩
end

theorem ToR.sets {W : World} {lb gb go sb so tb tp pb po : Nat} {gv rv : Value} {t : Gt} {g : Ga} {s : Gs} {p : Bool} (h : ToR W lb gv rv gb go g sb so s tb tp t pb po p) {d : Nat} (h1 : lb ≠ d) (h4 : gb ≠ d) (h5 : sb ≠ d) (h6 : tb ≠ d) (h7 : pb ≠ d) (vs : List Value) (o : Nat) : ToR (W.setCells d o vs) lb gv rv gb go g sb so s tb tp t pb po p := by
  have k : ∀ (q : Addr) (v : Value), q.block ≠ d → W.cell? q = some v → (W.setCells d o vs).cell? q = some v := fun q v hq h => (World.cell?_setCells_out d vs o W q (fun hb _ => absurd hb hq)).trans h
  exact ⟨h.l.fars h1 _ _, fun j v hv => k _ _ h4 (h.g j v hv), k _ _ h5 h.c0, k _ _ h5 h.c1, k _ _ h5 h.c2, k _ _ h6 h.d0, k _ _ h6 h.d1, k _ _ h6 h.d2, k _ _ h6 h.d3, k _ _ h7 h.e0⟩
theorem owns_setf {w : World} {base b : Nat} {e : TypeId} {size n : Nat} {v : Value} {xs : List Value} (h : w.ownsRow base e size v n xs) (hb : ∀ x, v.ownBlock = some x → x < b) (vs : List Value) (o : Nat) : (w.setCells b o vs).ownsRow base e size v n xs := by
  refine ⟨h.1, ?_⟩
  rcases h.2 with h1 | ⟨g, cap, cur, h1, h2, h3, h4⟩
  · exact .inl h1
  · exact .inr ⟨g, cap, cur, h1, h2, Blk.fars (show Blk w g e cur from h3) (by have := hb g (by rw [h1]; rfl); omega) vs o, h4⟩
theorem blk_sets_kept {w w' : World} {b : Nat} {t : TypeId} {cs : Array Value} {v : Value} (h : Blk w b t cs) (hg : w.grownBy w' v.ownBlock) (hne : ∀ g, v.ownBlock = some g → b < g) : Blk w' b t cs :=
  (hg.block b h.lt (fun hc => by have := hne b hc.symm; omega)).trans h

set_option maxRecDepth 100000 in
set_option maxHeartbeats 16000000 in
theorem rtogether_any (l : St) (ss : List Gs) (ts : List Gt) (ps : List Bool) (sA tA pA : Option Addr) (sc tc pc : Nat) (w : World) (hl : l.At w w.heap.size) (hs : Tab w w.heap.size sA l.gn 3 (ss.map Gs.cells)) (ht : Tab w w.heap.size tA l.gn 4 (ts.map Gt.cells))
    (hp : Tab w w.heap.size pA l.gn 1 (ps.map fun p => [Value.bool p])) (hlo : l.Ok) (hto : ∀ t ∈ ts, t.Ok) (hmo : ∀ m ∈ machs l.gs ss, m.1.Ok ∧ m.2.Ok m.1) :
    Calls Tryz.prog 97 #[l.v, .slice sA l.gn sc, .slice tA l.gn tc, .slice pA l.gn pc] w fun e w' => ∃ (A : Option Addr) (c : Nat) (B : Option Addr) (d : Nat), e = .returned (.tuple #[.slice A l.gn c, .slice B l.gn d]) ∧
      Tab w' w'.heap.size A l.gn 3 ((moveS l ss ts ps).map Gs.cells) ∧ Tab w' w'.heap.size B l.gn 3 ((moveM l ss ts ps).map Gm.cells) ∧ l.gn ≤ c ∧ Below w.heap.size w w' := by
  have n0 := hlo.n0
  have n1 := hlo.n1
  have hgl := hl.g.len
  have hsl : ss.length = l.gn := by have := hs.1; simpa using this
  have htl : ts.length = l.gn := by have := ht.1; simpa using this
  have hpl : ps.length = l.gn := by have := hp.1; simpa using this
  have hml : (machs l.gs ss).length = l.gn := by unfold machs; rw [List.length_zip]; omega
  rw [moveS_eq l ss ts ps hml]
  have HRf := Lib.hid (fun (W : World) (t : Gt) (i : Nat) (p : Bool) (hW : Below w.heap.size w W) (hi : i < l.gn) => rrefused_any l ss t i p sA l.gn sc W (hl.grow hW) (hs.grow hW) hi rfl n1 hlo.rn (fun r hr => (hlo.r r hr).2.1))
  have Hl := Lib.hid hl
  have Hs := Lib.hid hs
  have Ht := Lib.hid ht
  have Hp := Lib.hid hp
  have Hlen := Lib.hid (And.intro hgl (And.intro hsl (And.intro htl hpl)))
  have Hto := Lib.hid hto
  have Hmo := Lib.hid hmo
  obtain ⟨AF, hAF⟩ : ∃ AF, aftF (machs l.gs ss) l.rs l.rn ts ps = AF := ⟨_, rfl⟩
  obtain ⟨CF, hCF⟩ : ∃ CF, camF (machs l.gs ss) l.rs l.rn ts ps = CF := ⟨_, rfl⟩
  have hM : moveM l ss ts ps = (List.range l.gn).map CF := by rw [← hCF]; rfl
  rw [hM, hAF]
  have HAF := Lib.hid hAF
  have HCF := Lib.hid hCF
  obtain ⟨i0, hi, hz0, hz1, hz2⟩ := info_parts infoState
  have HI := Lib.hid (And.intro hi (And.intro hz0 (And.intro hz1 hz2)))
  obtain ⟨i1, hi', hz0', hz1', hz2'⟩ := info_parts infoMoved
  have HJ := Lib.hid (And.intro hi' (And.intro hz0' (And.intro hz1' hz2')))
  clear hi hz0 hz1 hz2 hi' hz0' hz1' hz2' hl hs ht hp hgl hsl htl hpl hml hto hmo hAF hCF hM hlo
  go_enter Tryz.func97, Tryz.ntmps97
  go_wp2
  go_loopw [10, 11, 12] (fun v c i wr => ∃ (k : Nat) (OA : Option Addr) (on oc : Nat) (CA : Option Addr) (cn cc : Nat), k ≤ l.gn ∧ i = .int .i64 k ∧ v = .slice OA on oc ∧ c = .slice CA cn cc ∧ Hid (wr.ownsRow (w.heap.size + 1) 42 3 (.slice OA on oc) k (gsCells ((List.range k).map AF))) ∧ Hid (wr.ownsRow (w.heap.size + 1) 45 3 (.slice CA cn cc) k (gmCells ((List.range k).map CF))) ∧ Hid (Blk wr w.heap.size 25 #[.slice l.gA l.gn l.gc, .slice l.rA l.rn l.rc]) ∧ Below w.heap.size w wr)
    (fun _ _ i _ => l.gn - (intOf i).toNat)
  case atStart => exact ⟨0, none, 0, 0, none, 0, 0, Nat.zero_le _, rfl, rfl, rfl, ⟨rfl, .inl ⟨rfl, rfl⟩⟩, ⟨rfl, .inl ⟨rfl, rfl⟩⟩, Blk.new w _ _, (by repeat (first | exact Below.refl _ _ | assumption | (refine Below.setCell ?_ (by first | omega | (simp; done) | (simp; omega)) _) | (refine Below.alloc ?_ (by first | omega | (simp; done) | (simp; omega)) _) | refine Below.drew ?_ | (refine below_thru ?_ (by assumption) (by first | omega | (simp; done) | (simp; omega))) | refine below_drewN ?_ _))⟩
  case round =>
    obtain ⟨k, OA, on, oc, CA, cn, cc, hk, rfl, rfl, rfl, hO, hC, hset, hbr⟩ := hrel
    have hzr := hset.out.lt
    obtain ⟨q0, q1, _, _⟩ := hset.out.two
    by_cases hlt : k < l.gn
    · obtain ⟨g, hgk⟩ := get_lt Hlen.out.1 hlt
      obtain ⟨s, hsk⟩ := get_lt Hlen.out.2.1 hlt
      obtain ⟨t, htk⟩ := get_lt Hlen.out.2.2.1 hlt
      obtain ⟨p, hpk⟩ := get_lt Hlen.out.2.2.2 hlt
      have hmk := machs_at hgk hsk
      obtain ⟨gb, off, hA, hgb, hrow⟩ := Hl.out.g.row hgk
      obtain ⟨sb, so, hB, hsb, c0, c1, c2⟩ := Hs.out.three (k := k) (x := .int .i64 s.pos) (y := .int .i64 s.charge) (z := .bool s.bolted) (by simp [hsk])
      obtain ⟨tb, tp, hC', htb, d0, d1, d2, d3⟩ := Ht.out.four (k := k) (x := .int .i64 t.order) (y := .bool t.power) (z := .int .i64 t.outer) (u := .int .i64 t.inner) (by simp [htk])
      obtain ⟨pb, po, hD, hpb, e0⟩ := Hp.out.one (k := k) (x := .bool p) (by simp [hpk])
      have hga := Hl.out.g.at_ g (List.mem_of_getElem? hgk)
      obtain ⟨hgo, hso⟩ := Hmo.out (g, s) (List.mem_of_getElem? hmk)
      have hto := Hto.out t (List.mem_of_getElem? htk)
      have kc : ∀ (q : Addr) (v : Value), q.block < w.heap.size → w.cell? q = some v → wr.cell? q = some v := fun q v hq h => (hbr.cell hq).trans h
      have hset' := hset.out
      rw [hA] at hset' q0
      have hR : ToR wr w.heap.size (.slice (some ⟨gb, off, none⟩) l.gn l.gc) (.slice l.rA l.rn l.rc) gb (off + k * 21) g sb (so + k * 3) s tb (tp + k * 4) t pb (po + k) p := ⟨hset', fun j v hv => kc _ _ hgb (hrow j v hv), kc _ _ hsb c0, kc _ _ hsb c1, kc _ _ hsb c2, kc _ _ htb d0, kc _ _ htb d1, kc _ _ htb d2, kc _ _ htb d3, kc _ _ hpb e0⟩
      have HR := Lib.hid hR
      have HA := Lib.hid hA
      have Hga := Lib.hid hga
      have HRf' := Lib.hid (fun W h => HRf.out W t k p h hlt)
      have HSt := Lib.hid (fun r W h => rstepped_any g s t r W h hgo hso hto)
      have HaF : Hid (AF k = afterF g s t (refusalF (machs l.gs ss) l.rs l.rn k t.order p)) := by unfold Hid; rw [← HAF.out]; unfold aftF; rw [hmk, htk, hpk]
      have HcF : Hid (CF k = cameF g s t (refusalF (machs l.gs ss) l.rs l.rn k t.order p)) := by unfold Hid; rw [← HCF.out]; unfold camF; rw [hmk, htk, hpk]
      have HRg : Hid (∀ W : World, Below w.heap.size w W → Calls Tryz.prog 150 #[.agg #[.slice l.gA l.gn l.gc, .slice l.rA l.rn l.rc], .slice sA l.gn sc, .int .i64 (k : Int), .agg #[.int .i64 t.order, .bool t.power, .int .i64 t.outer, .int .i64 t.inner], .bool p] W fun e w' => e = .returned (.int .i64 (refusalF (machs l.gs ss) l.rs l.rn k t.order p)) ∧ Below W.heap.size W w') := HRf'.out
      have HSt : Hid (∀ (r : Int) (W : World), g.At W W.heap.size → Calls Tryz.prog 74 #[g.v, .agg #[.int .i64 s.pos, .int .i64 s.charge, .bool s.bolted], .agg #[.int .i64 t.order, .bool t.power, .int .i64 t.outer, .int .i64 t.inner], .int .i64 r] W fun e w' => e = .returned (.tuple #[.agg #[.int .i64 (afterF g s t r).pos, .int .i64 (afterF g s t r).charge, .bool (afterF g s t r).bolted], .agg #[.int .i64 (cameF g s t r).refused, .int .i64 (cameF g s t r).moved, .int .i64 (cameF g s t r).oil]]) ∧ Below W.heap.size W w') := HSt.out
      generalize refusalF (machs l.gs ss) l.rs l.rn k t.order p = rf at *
      have HSu := Lib.hid (HSt.out rf)
      clear HSt
      generalize afterF g s t rf = af at *
      generalize cameF g s t rf = cm at *
      have j0 : (0 : Int) ≤ (k : Int) := Int.natCast_nonneg _
      have j1 : (k : Int) < (l.gn : Int) := by omega
      have hO1 := hO
      have hC1 := hC
      have Hset := Lib.hid hset'
      have Hfar : Hid (∀ x, (Value.slice OA on oc).ownBlock = some x → x < wr.heap.size) := fun x hx => (hO.out.lt x hx).2
      have Hfar' : Hid (∀ x, (Value.slice CA cn cc).ownBlock = some x → x < wr.heap.size) := fun x hx => (hC.out.lt x hx).2
      rw [hA] at HRg
      rw [hB] at HRg
      clear HRf'
      subst hB hC' hD
      clear hgk hsk htk hpk hmk hgo hso hto kc hset hset' hR hga c0 c1 c2 d0 d1 d2 d3 e0 hrow hA hO hC
      go_wp2_with fail
      refine wp_region_held (S := fun W' => ToR W' w.heap.size (.slice (some ⟨gb, off, none⟩) l.gn l.gc) (.slice l.rA l.rn l.rc) gb (off + k * 21) g sb (so + k * 3) s tb (tp + k * 4) t pb (po + k) p) (by kernel_rfl) (by exact HR.out.drew) (fun hHeld => ?_)
      refine wpAnyH_take (i := 0) (v := ?_) rfl (by kernel_rfl) (by kernel_rfl) (by kernel_rfl) (fun _ _ _ h => h) (Or.inl ⟨by kernel_rfl, ?_⟩) hHeld ?_
      rotate_left
      · intro w hSw; (try dsimp only at hSw); obtain ⟨x1, _, c0, c1, c2, d0, d1, d2, d3, e0⟩ := hSw; have s0 := x1.cell 0; have s1 := x1.cell 1; simp only [List.getElem?_toArray, List.getElem?_cons_zero, List.getElem?_cons_succ] at s0 s1; go_simp; (try with_reducible rfl)
      (try simp only [Act.put, List.setIfInBounds_toArray, List.set_cons_zero, List.set_cons_succ])
      refine wpAnyH_take (i := 1) (v := ?_) rfl (by kernel_rfl) (by kernel_rfl) (by kernel_rfl) (fun _ _ _ h => h) (Or.inl ⟨by kernel_rfl, ?_⟩) hHeld ?_
      rotate_left
      · intro w hSw; (try dsimp only at hSw); obtain ⟨x1, _, c0, c1, c2, d0, d1, d2, d3, e0⟩ := hSw; have s0 := x1.cell 0; have s1 := x1.cell 1; simp only [List.getElem?_toArray, List.getElem?_cons_zero, List.getElem?_cons_succ] at s0 s1; go_simp; (try with_reducible rfl)
      (try simp only [Act.put, List.setIfInBounds_toArray, List.set_cons_zero, List.set_cons_succ])
      refine wpAnyH_take (i := 2) (v := ?_) rfl (by kernel_rfl) (by kernel_rfl) (by kernel_rfl) (fun _ _ _ h => h) (Or.inl ⟨by kernel_rfl, ?_⟩) hHeld ?_
      rotate_left
      · intro w hSw; (try dsimp only at hSw); obtain ⟨x1, _, c0, c1, c2, d0, d1, d2, d3, e0⟩ := hSw; have s0 := x1.cell 0; have s1 := x1.cell 1; simp only [List.getElem?_toArray, List.getElem?_cons_zero, List.getElem?_cons_succ] at s0 s1; go_simp; (try with_reducible rfl)
      (try simp only [Act.put, List.setIfInBounds_toArray, List.set_cons_zero, List.set_cons_succ])
      refine wpAnyH_take (i := 3) (v := ?_) rfl (by kernel_rfl) (by kernel_rfl) (by kernel_rfl) (fun _ _ _ h => h) (Or.inl ⟨by kernel_rfl, ?_⟩) hHeld ?_
      rotate_left
      · intro w hSw; (try dsimp only at hSw); obtain ⟨x1, _, c0, c1, c2, d0, d1, d2, d3, e0⟩ := hSw; have s0 := x1.cell 0; have s1 := x1.cell 1; simp only [List.getElem?_toArray, List.getElem?_cons_zero, List.getElem?_cons_succ] at s0 s1; go_simp; (try with_reducible rfl)
      (try simp only [Act.put, List.setIfInBounds_toArray, List.set_cons_zero, List.set_cons_succ])
      (try simp only [List.getElem_toArray, List.getElem_cons_zero, List.getElem_cons_succ, Act.put, List.setIfInBounds_toArray, List.set_cons_zero, List.set_cons_succ])
      refine wpAnyH_take (i := 4) (v := g.v) rfl (by kernel_rfl) (by kernel_rfl) (by kernel_rfl) (fun _ _ _ h => h) (Or.inl ⟨by rfl, fun w hSw => ld_gm rfl rfl hSw.g⟩) hHeld ?_
      (try simp only [Act.put, List.setIfInBounds_toArray, List.set_cons_zero, List.set_cons_succ])
      refine wpAnyH_take (i := 5) (v := ?_) rfl (by kernel_rfl) (by kernel_rfl) (by kernel_rfl) (fun _ _ _ h => h) (Or.inl ⟨by kernel_rfl, ?_⟩) hHeld ?_
      rotate_left
      · intro w hSw; (try dsimp only at hSw); obtain ⟨x1, _, c0, c1, c2, d0, d1, d2, d3, e0⟩ := hSw; have s0 := x1.cell 0; have s1 := x1.cell 1; simp only [List.getElem?_toArray, List.getElem?_cons_zero, List.getElem?_cons_succ] at s0 s1; go_simp; (try with_reducible rfl)
      (try simp only [Act.put, List.setIfInBounds_toArray, List.set_cons_zero, List.set_cons_succ])
      refine wpAnyH_take (i := 6) (v := ?_) rfl (by kernel_rfl) (by kernel_rfl) (by kernel_rfl) (fun _ _ _ h => h) (Or.inl ⟨by kernel_rfl, ?_⟩) hHeld ?_
      rotate_left
      · intro w hSw; (try dsimp only at hSw); obtain ⟨x1, _, c0, c1, c2, d0, d1, d2, d3, e0⟩ := hSw; have s0 := x1.cell 0; have s1 := x1.cell 1; simp only [List.getElem?_toArray, List.getElem?_cons_zero, List.getElem?_cons_succ] at s0 s1; go_simp; (try with_reducible rfl)
      (try simp only [Act.put, List.setIfInBounds_toArray, List.set_cons_zero, List.set_cons_succ])
      refine wpAnyH_take (i := 7) (v := ?_) rfl (by kernel_rfl) (by kernel_rfl) (by kernel_rfl) (fun _ _ _ h => h) (Or.inl ⟨by kernel_rfl, ?_⟩) hHeld ?_
      rotate_left
      · intro w hSw; (try dsimp only at hSw); obtain ⟨x1, _, c0, c1, c2, d0, d1, d2, d3, e0⟩ := hSw; have s0 := x1.cell 0; have s1 := x1.cell 1; simp only [List.getElem?_toArray, List.getElem?_cons_zero, List.getElem?_cons_succ] at s0 s1; go_simp; (try with_reducible rfl)
      (try simp only [Act.put, List.setIfInBounds_toArray, List.set_cons_zero, List.set_cons_succ])
      refine wpAnyH_take (i := 8) (v := ?_) rfl (by kernel_rfl) (by kernel_rfl) (by kernel_rfl) (fun _ _ _ h => h) (Or.inl ⟨by kernel_rfl, ?_⟩) hHeld ?_
      rotate_left
      · intro w hSw; (try dsimp only at hSw); obtain ⟨x1, _, c0, c1, c2, d0, d1, d2, d3, e0⟩ := hSw; have s0 := x1.cell 0; have s1 := x1.cell 1; simp only [List.getElem?_toArray, List.getElem?_cons_zero, List.getElem?_cons_succ] at s0 s1; go_simp; (try with_reducible rfl)
      (try simp only [Act.put, List.setIfInBounds_toArray, List.set_cons_zero, List.set_cons_succ])
      refine wpAnyH_take (i := 9) (v := ?_) rfl (by kernel_rfl) (by kernel_rfl) (by kernel_rfl) (fun _ _ _ h => h) (Or.inl ⟨by kernel_rfl, ?_⟩) hHeld ?_
      rotate_left
      · intro w hSw; (try dsimp only at hSw); obtain ⟨x1, _, c0, c1, c2, d0, d1, d2, d3, e0⟩ := hSw; have s0 := x1.cell 0; have s1 := x1.cell 1; simp only [List.getElem?_toArray, List.getElem?_cons_zero, List.getElem?_cons_succ] at s0 s1; go_simp; (try with_reducible rfl)
      (try simp only [Act.put, List.setIfInBounds_toArray, List.set_cons_zero, List.set_cons_succ])
      refine wpAnyH_take (i := 10) (v := ?_) rfl (by kernel_rfl) (by kernel_rfl) (by kernel_rfl) (fun _ _ _ h => h) (Or.inl ⟨by kernel_rfl, ?_⟩) hHeld ?_
      rotate_left
      · intro w hSw; (try dsimp only at hSw); obtain ⟨x1, _, c0, c1, c2, d0, d1, d2, d3, e0⟩ := hSw; have s0 := x1.cell 0; have s1 := x1.cell 1; simp only [List.getElem?_toArray, List.getElem?_cons_zero, List.getElem?_cons_succ] at s0 s1; go_simp; (try with_reducible rfl)
      (try simp only [Act.put, List.setIfInBounds_toArray, List.set_cons_zero, List.set_cons_succ])
      refine wpAnyH_take (i := 11) (v := ?_) rfl (by kernel_rfl) (by kernel_rfl) (by kernel_rfl) (fun _ _ _ h => h) (Or.inl ⟨by kernel_rfl, ?_⟩) hHeld ?_
      rotate_left
      · intro w hSw; (try dsimp only at hSw); obtain ⟨x1, _, c0, c1, c2, d0, d1, d2, d3, e0⟩ := hSw; have s0 := x1.cell 0; have s1 := x1.cell 1; simp only [List.getElem?_toArray, List.getElem?_cons_zero, List.getElem?_cons_succ] at s0 s1; go_simp; (try with_reducible rfl)
      (try simp only [Act.put, List.setIfInBounds_toArray, List.set_cons_zero, List.set_cons_succ])
      refine wpAnyH_take (i := 12) (v := ?_) rfl (by kernel_rfl) (by kernel_rfl) (by kernel_rfl) (fun _ _ _ h => h) (Or.inl ⟨by kernel_rfl, ?_⟩) hHeld ?_
      rotate_left
      · intro w hSw; (try dsimp only at hSw); obtain ⟨x1, _, c0, c1, c2, d0, d1, d2, d3, e0⟩ := hSw; have s0 := x1.cell 0; have s1 := x1.cell 1; simp only [List.getElem?_toArray, List.getElem?_cons_zero, List.getElem?_cons_succ] at s0 s1; go_simp; (try with_reducible rfl)
      (try simp only [Act.put, List.setIfInBounds_toArray, List.set_cons_zero, List.set_cons_succ])
      refine wpAnyH_take (i := 13) (v := ?_) rfl (by kernel_rfl) (by kernel_rfl) (by kernel_rfl) (fun _ _ _ h => h) (Or.inl ⟨by kernel_rfl, ?_⟩) hHeld ?_
      rotate_left
      · intro w hSw; (try dsimp only at hSw); obtain ⟨x1, _, c0, c1, c2, d0, d1, d2, d3, e0⟩ := hSw; have s0 := x1.cell 0; have s1 := x1.cell 1; simp only [List.getElem?_toArray, List.getElem?_cons_zero, List.getElem?_cons_succ] at s0 s1; go_simp; (try with_reducible rfl)
      (try simp only [Act.put, List.setIfInBounds_toArray, List.set_cons_zero, List.set_cons_succ])
      refine wpAnyH_take (i := 14) (v := ?_) rfl (by kernel_rfl) (by kernel_rfl) (by kernel_rfl) (fun _ _ _ h => h) (Or.inl ⟨by kernel_rfl, ?_⟩) hHeld ?_
      rotate_left
      · intro w hSw; (try dsimp only at hSw); obtain ⟨x1, _, c0, c1, c2, d0, d1, d2, d3, e0⟩ := hSw; have s0 := x1.cell 0; have s1 := x1.cell 1; simp only [List.getElem?_toArray, List.getElem?_cons_zero, List.getElem?_cons_succ] at s0 s1; go_simp; (try with_reducible rfl)
      (try simp only [Act.put, List.setIfInBounds_toArray, List.set_cons_zero, List.set_cons_succ])
      refine wpAnyH_take (i := 15) (v := ?_) rfl (by kernel_rfl) (by kernel_rfl) (by kernel_rfl) (fun _ _ _ h => h) (Or.inl ⟨by kernel_rfl, ?_⟩) hHeld ?_
      rotate_left
      · intro w hSw; (try dsimp only at hSw); obtain ⟨x1, _, c0, c1, c2, d0, d1, d2, d3, e0⟩ := hSw; have s0 := x1.cell 0; have s1 := x1.cell 1; simp only [List.getElem?_toArray, List.getElem?_cons_zero, List.getElem?_cons_succ] at s0 s1; go_simp; (try with_reducible rfl)
      (try simp only [Act.put, List.setIfInBounds_toArray, List.set_cons_zero, List.set_cons_succ])
      refine wpAnyH_take (i := 16) (v := ?_) rfl (by kernel_rfl) (by kernel_rfl) (by kernel_rfl) (fun _ _ _ h => h) (Or.inl ⟨by kernel_rfl, ?_⟩) hHeld ?_
      rotate_left
      · intro w hSw; (try dsimp only at hSw); obtain ⟨x1, _, c0, c1, c2, d0, d1, d2, d3, e0⟩ := hSw; have s0 := x1.cell 0; have s1 := x1.cell 1; simp only [List.getElem?_toArray, List.getElem?_cons_zero, List.getElem?_cons_succ] at s0 s1; go_simp; (try with_reducible rfl)
      (try simp only [Act.put, List.setIfInBounds_toArray, List.set_cons_zero, List.set_cons_succ])
      refine wpAnyH_take (i := 17) (v := ?_) rfl (by kernel_rfl) (by kernel_rfl) (by kernel_rfl) (fun _ _ _ h => h) (Or.inl ⟨by kernel_rfl, ?_⟩) hHeld ?_
      rotate_left
      · intro w hSw; (try dsimp only at hSw); obtain ⟨x1, _, c0, c1, c2, d0, d1, d2, d3, e0⟩ := hSw; have s0 := x1.cell 0; have s1 := x1.cell 1; simp only [List.getElem?_toArray, List.getElem?_cons_zero, List.getElem?_cons_succ] at s0 s1; go_simp; (try with_reducible rfl)
      (try simp only [Act.put, List.setIfInBounds_toArray, List.set_cons_zero, List.set_cons_succ])
      refine wpAnyH_take (i := 18) (v := ?_) rfl (by kernel_rfl) (by kernel_rfl) (by kernel_rfl) (fun _ _ _ h => h) (Or.inl ⟨by kernel_rfl, ?_⟩) hHeld ?_
      rotate_left
      · intro w hSw; (try dsimp only at hSw); obtain ⟨x1, _, c0, c1, c2, d0, d1, d2, d3, e0⟩ := hSw; have s0 := x1.cell 0; have s1 := x1.cell 1; simp only [List.getElem?_toArray, List.getElem?_cons_zero, List.getElem?_cons_succ] at s0 s1; go_simp; (try with_reducible rfl)
      (try simp only [Act.put, List.setIfInBounds_toArray, List.set_cons_zero, List.set_cons_succ])
      refine wpAnyH_take (i := 19) (v := ?_) rfl (by kernel_rfl) (by kernel_rfl) (by kernel_rfl) (fun _ _ _ h => h) (Or.inl ⟨by kernel_rfl, ?_⟩) hHeld ?_
      rotate_left
      · intro w hSw; (try dsimp only at hSw); obtain ⟨x1, _, c0, c1, c2, d0, d1, d2, d3, e0⟩ := hSw; have s0 := x1.cell 0; have s1 := x1.cell 1; simp only [List.getElem?_toArray, List.getElem?_cons_zero, List.getElem?_cons_succ] at s0 s1; go_simp; (try with_reducible rfl)
      (try simp only [Act.put, List.setIfInBounds_toArray, List.set_cons_zero, List.set_cons_succ])
      refine wpAnyH_take (i := 20) (v := ?_) rfl (by kernel_rfl) (by kernel_rfl) (by kernel_rfl) (fun _ _ _ h => h) (Or.inl ⟨by kernel_rfl, ?_⟩) hHeld ?_
      rotate_left
      · intro w hSw; (try dsimp only at hSw); obtain ⟨x1, _, c0, c1, c2, d0, d1, d2, d3, e0⟩ := hSw; have s0 := x1.cell 0; have s1 := x1.cell 1; simp only [List.getElem?_toArray, List.getElem?_cons_zero, List.getElem?_cons_succ] at s0 s1; go_simp; (try with_reducible rfl)
      (try simp only [Act.put, List.setIfInBounds_toArray, List.set_cons_zero, List.set_cons_succ])
      refine wpAnyH_take (i := 21) (v := ?_) rfl (by kernel_rfl) (by kernel_rfl) (by kernel_rfl) (fun _ _ _ h => h) (Or.inl ⟨by kernel_rfl, ?_⟩) hHeld ?_
      rotate_left
      · intro w hSw; (try dsimp only at hSw); obtain ⟨x1, _, c0, c1, c2, d0, d1, d2, d3, e0⟩ := hSw; have s0 := x1.cell 0; have s1 := x1.cell 1; simp only [List.getElem?_toArray, List.getElem?_cons_zero, List.getElem?_cons_succ] at s0 s1; go_simp; (try with_reducible rfl)
      (try simp only [Act.put, List.setIfInBounds_toArray, List.set_cons_zero, List.set_cons_succ])
      refine wpAnyH_take (i := 22) (v := ?_) rfl (by kernel_rfl) (by kernel_rfl) (by kernel_rfl) (fun _ _ _ h => h) (Or.inl ⟨by kernel_rfl, ?_⟩) hHeld ?_
      rotate_left
      · intro w hSw; (try dsimp only at hSw); obtain ⟨x1, _, c0, c1, c2, d0, d1, d2, d3, e0⟩ := hSw; have s0 := x1.cell 0; have s1 := x1.cell 1; simp only [List.getElem?_toArray, List.getElem?_cons_zero, List.getElem?_cons_succ] at s0 s1; go_simp; (try with_reducible rfl)
      (try simp only [Act.put, List.setIfInBounds_toArray, List.set_cons_zero, List.set_cons_succ])
      refine wpAnyH_take (i := 23) (v := ?_) rfl (by kernel_rfl) (by kernel_rfl) (by kernel_rfl) (fun _ _ _ h => h) (Or.inl ⟨by kernel_rfl, ?_⟩) hHeld ?_
      rotate_left
      · intro w hSw; (try dsimp only at hSw); obtain ⟨x1, _, c0, c1, c2, d0, d1, d2, d3, e0⟩ := hSw; have s0 := x1.cell 0; have s1 := x1.cell 1; simp only [List.getElem?_toArray, List.getElem?_cons_zero, List.getElem?_cons_succ] at s0 s1; go_simp; (try with_reducible rfl)
      (try simp only [Act.put, List.setIfInBounds_toArray, List.set_cons_zero, List.set_cons_succ])
      (try simp only [List.getElem_toArray, List.getElem_cons_zero, List.getElem_cons_succ, Act.put, List.setIfInBounds_toArray, List.set_cons_zero, List.set_cons_succ])
      have hwd : Below w.heap.size w wr.drew := hbr.drew
      refine wpAnyH_each [(24, 47, Kind.val (.int .i64 rf)), (25, 48, Kind.val (.tuple #[.agg #[.int .i64 af.pos, .int .i64 af.charge, .bool af.bolted], .agg #[.int .i64 cm.refused, .int .i64 cm.moved, .int .i64 cm.oil]])), (26, 22, Kind.val (.tuple #[.agg #[.int .i64 af.pos, .int .i64 af.charge, .bool af.bolted], .agg #[.int .i64 cm.refused, .int .i64 cm.moved, .int .i64 cm.oil]])), (27, 49, Kind.val (.agg #[.int .i64 af.pos, .int .i64 af.charge, .bool af.bolted])), (28, 50, Kind.val (.agg #[.int .i64 cm.refused, .int .i64 cm.moved, .int .i64 cm.oil])), (29, 13, Kind.new (wr.heap.size) 42 #[.int .i64 0, .int .i64 0, .bool false]), (30, 14, Kind.new (wr.heap.size) 45 #[.int .i64 0, .int .i64 0, .int .i64 0])] [26, 27, 28] 2 (by kernel_rfl) (by simp [idxs]) (by simp) (fun _ _ d _ _ h => by cases d <;> exact h) (fun W hW => hHeld.below hW) ?_ ?_
      · refine Eachs.cons ?_ (Eachs.cons ?_ (Eachs.cons ?_ (Eachs.cons ?_ (Eachs.cons ?_ (Eachs.cons ?_ (Eachs.cons ?_ (Eachs.nil)))))))
        · refine each_op [] rfl rfl (by kernel_rfl) (fun p hp => by cases hp) rfl ?_
          intro uF w' hw' hps a ha K hK
          simp only [puts, Act.put, List.setIfInBounds_toArray, List.set_cons_zero, List.set_cons_succ] at ha
          subst ha
          have hz' := hw'.size
          (try simp at hz')
          go_simp
          refine (HRg.out _ (hwd.trans (hw'.mono hwd.size))).mono ?_
          rintro e wq ⟨rfl, hq⟩
          (try dsimp only)
          exact hK.out _ (.int .i64 rf) wq rfl hq rfl (fun h => by cases h)
        · refine each_op [(24, 47, Kind.val (.int .i64 rf))] rfl rfl (by kernel_rfl) (fun p hp => by simp only [List.mem_cons, List.not_mem_nil, or_false] at hp; rcases hp with rfl <;> simp only [List.mem_cons, true_or, or_true]) rfl ?_
          intro uF w' hw' hps a ha K hK
          obtain ⟨q24, _⟩ := hps
          have e24 : uF 24 = .int .i64 rf := q24
          simp only [puts, Act.put, List.setIfInBounds_toArray, List.set_cons_zero, List.set_cons_succ, e24] at ha
          subst ha
          have hz' := hw'.size
          (try simp at hz')
          go_simp
          refine (HSu.out _ (Hga.out.grow (hwd.trans (hw'.mono hwd.size)))).mono ?_
          rintro e wq ⟨rfl, hq⟩
          (try dsimp only)
          exact hK.out _ (.tuple #[.agg #[.int .i64 af.pos, .int .i64 af.charge, .bool af.bolted], .agg #[.int .i64 cm.refused, .int .i64 cm.moved, .int .i64 cm.oil]]) wq rfl hq rfl (fun h => by cases h)
        · refine each_take [(25, 48, Kind.val (.tuple #[.agg #[.int .i64 af.pos, .int .i64 af.charge, .bool af.bolted], .agg #[.int .i64 cm.refused, .int .i64 cm.moved, .int .i64 cm.oil]]))] rfl rfl (by kernel_rfl) (fun p hp => by simp only [List.mem_cons, List.not_mem_nil, or_false] at hp; rcases hp with rfl <;> simp only [List.mem_cons, true_or, or_true]) rfl ?_
          refine ⟨rfl, ?_⟩
          intro uF w' hw' hps a ha
          obtain ⟨q25, _⟩ := hps
          have e25 : uF 25 = .tuple #[.agg #[.int .i64 af.pos, .int .i64 af.charge, .bool af.bolted], .agg #[.int .i64 cm.refused, .int .i64 cm.moved, .int .i64 cm.oil]] := q25
          simp only [puts, Act.put, List.setIfInBounds_toArray, List.set_cons_zero, List.set_cons_succ, e25] at ha
          subst ha
          exact ⟨.tuple #[.agg #[.int .i64 af.pos, .int .i64 af.charge, .bool af.bolted], .agg #[.int .i64 cm.refused, .int .i64 cm.moved, .int .i64 cm.oil]], rfl, Or.inl ⟨by rfl, fun W => by go_simp <;> (try with_reducible rfl)⟩⟩
        · refine each_take [(26, 22, Kind.val (.tuple #[.agg #[.int .i64 af.pos, .int .i64 af.charge, .bool af.bolted], .agg #[.int .i64 cm.refused, .int .i64 cm.moved, .int .i64 cm.oil]]))] rfl rfl (by kernel_rfl) (fun p hp => by simp only [List.mem_cons, List.not_mem_nil, or_false] at hp; rcases hp with rfl <;> simp only [List.mem_cons, true_or, or_true]) rfl ?_
          refine ⟨rfl, ?_⟩
          intro uF w' hw' hps a ha
          obtain ⟨q26, _⟩ := hps
          have e26 : uF 26 = .tuple #[.agg #[.int .i64 af.pos, .int .i64 af.charge, .bool af.bolted], .agg #[.int .i64 cm.refused, .int .i64 cm.moved, .int .i64 cm.oil]] := q26
          simp only [puts, Act.put, List.setIfInBounds_toArray, List.set_cons_zero, List.set_cons_succ, e26] at ha
          subst ha
          exact ⟨.agg #[.int .i64 af.pos, .int .i64 af.charge, .bool af.bolted], rfl, Or.inl ⟨by rfl, fun W => by go_simp <;> (try with_reducible rfl)⟩⟩
        · refine each_take [(26, 22, Kind.val (.tuple #[.agg #[.int .i64 af.pos, .int .i64 af.charge, .bool af.bolted], .agg #[.int .i64 cm.refused, .int .i64 cm.moved, .int .i64 cm.oil]]))] rfl rfl (by kernel_rfl) (fun p hp => by simp only [List.mem_cons, List.not_mem_nil, or_false] at hp; rcases hp with rfl <;> simp only [List.mem_cons, true_or, or_true]) rfl ?_
          refine ⟨rfl, ?_⟩
          intro uF w' hw' hps a ha
          obtain ⟨q26, _⟩ := hps
          have e26 : uF 26 = .tuple #[.agg #[.int .i64 af.pos, .int .i64 af.charge, .bool af.bolted], .agg #[.int .i64 cm.refused, .int .i64 cm.moved, .int .i64 cm.oil]] := q26
          simp only [puts, Act.put, List.setIfInBounds_toArray, List.set_cons_zero, List.set_cons_succ, e26] at ha
          subst ha
          exact ⟨.agg #[.int .i64 cm.refused, .int .i64 cm.moved, .int .i64 cm.oil], rfl, Or.inl ⟨by rfl, fun W => by go_simp <;> (try with_reducible rfl)⟩⟩
        · refine each_op [] rfl rfl (by kernel_rfl) (fun p hp => by cases hp) rfl ?_
          intro uF w' hw' hps a ha K hK
          simp only [puts, Act.put, List.setIfInBounds_toArray, List.set_cons_zero, List.set_cons_succ] at ha
          subst ha
          have hz' := hw'.size
          (try simp at hz')
          go_simp
          exact hK.out _ (.pointer (some ⟨w'.heap.size, 0, none⟩)) _ rfl ((Below.refl _ _).alloc (Nat.le_refl _) _) ⟨_, rfl, (by omega), Blk.new _ _ _⟩ (fun _ => rfl)
        · refine each_op [] rfl rfl (by kernel_rfl) (fun p hp => by cases hp) rfl ?_
          intro uF w' hw' hps a ha K hK
          simp only [puts, Act.put, List.setIfInBounds_toArray, List.set_cons_zero, List.set_cons_succ] at ha
          subst ha
          have hz' := hw'.size
          (try simp at hz')
          go_simp
          exact hK.out _ (.pointer (some ⟨w'.heap.size, 0, none⟩)) _ rfl ((Below.refl _ _).alloc (Nat.le_refl _) _) ⟨_, rfl, (by omega), Blk.new _ _ _⟩ (fun _ => rfl)
      intro uF wz hwz hps hD a ha
      obtain ⟨q24, q25, q26, q27, q28, q29, q30, _⟩ := hps
      have e24 : uF 24 = .int .i64 rf := q24
      have e25 : uF 25 = .tuple #[.agg #[.int .i64 af.pos, .int .i64 af.charge, .bool af.bolted], .agg #[.int .i64 cm.refused, .int .i64 cm.moved, .int .i64 cm.oil]] := q25
      have e26 : uF 26 = .tuple #[.agg #[.int .i64 af.pos, .int .i64 af.charge, .bool af.bolted], .agg #[.int .i64 cm.refused, .int .i64 cm.moved, .int .i64 cm.oil]] := q26
      have e27 : uF 27 = .agg #[.int .i64 af.pos, .int .i64 af.charge, .bool af.bolted] := q27
      have e28 : uF 28 = .agg #[.int .i64 cm.refused, .int .i64 cm.moved, .int .i64 cm.oil] := q28
      obtain ⟨b29, e29, hB29, hb29⟩ := (show ∃ b, uF 29 = .pointer (some ⟨b, 0, none⟩) ∧ (wr.heap.size) ≤ b ∧ Blk wz b 42 #[.int .i64 0, .int .i64 0, .bool false] from q29)
      obtain ⟨b30, e30, hB30, hb30⟩ := (show ∃ b, uF 30 = .pointer (some ⟨b, 0, none⟩) ∧ (wr.heap.size) ≤ b ∧ Blk wz b 45 #[.int .i64 0, .int .i64 0, .int .i64 0] from q30)
      have hne29_30 : b29 ≠ b30 := fun hc => hD (29, 13, Kind.new (wr.heap.size) 42 #[.int .i64 0, .int .i64 0, .bool false]) (.tail _ (.tail _ (.tail _ (.tail _ (.tail _ (.head _)))))) (30, 14, Kind.new (wr.heap.size) 45 #[.int .i64 0, .int .i64 0, .int .i64 0]) (.tail _ (.tail _ (.tail _ (.tail _ (.tail _ (.tail _ (.head _))))))) (show (29 : Nat) ≠ 30 by decide) rfl rfl (show uF 29 = uF 30 by rw [e29, e30, hc])
      simp only [puts, Act.put, List.setIfInBounds_toArray, List.set_cons_zero, List.set_cons_succ, e24, e25, e26, e27, e28, e29, e30] at ha
      subst ha
      clear hD q24 q25 q26 q27 q28 q29 q30 e24 e25 e26 e27 e28 e29 e30
      have hBz : Below w.heap.size w wz := hwd.trans (hwz.mono hwd.size)
      have hRz := hHeld.below hwz
      have hl10 := hb29.lt
      have hl11 := hb30.lt
      have hzz := hwz.size
      (try simp at hzz)
      have HOz := Lib.hid (owns_below (owns_drew hO1.out) hwz)
      have HCz := Lib.hid (owns_below (owns_drew hC1.out) hwz)
      have Hsz := Lib.hid ((show Blk wr.drew w.heap.size 25 #[.slice (some ⟨gb, off, none⟩) l.gn l.gc, .slice l.rA l.rn l.rc] from Hset.out).thru hwz (by simp; omega))
      clear hwd HR hwz hO1 hC1 Hset hbr
      (try simp only [List.getElem_toArray, List.getElem_cons_zero, List.getElem_cons_succ, Act.put, List.setIfInBounds_toArray, List.set_cons_zero, List.set_cons_succ])
      refine wpAnyH_ready (rs := [31]) (by kernel_rfl) (by simp) ?_
      refine AllReadyH.cons rfl (fun K hK => ?_) AllReadyH.nil
      refine wanted_of (by rfl) (wp_store_mid (P := Tryz.prog) 42 _ _ rfl (b29) 0 #[.int .i64 af.pos, .int .i64 af.charge, .bool af.bolted] rfl rfl (Blk.there hb29 (by show 0 + 3 ≤ 3; omega)) (by kernel_rfl) (by simp [Value.oneCell']) ?_)
      refine hK.out _ _ (by exact hRz.sets (by omega) (by omega) (by omega) (by omega) (by omega) _ _) (fun hHeld => ?_)
      clear hK K
      (try simp only [Act.put, List.setIfInBounds_toArray, List.set_cons_zero, List.set_cons_succ])
      have hb30y := hb30.fars (b := b29) (fun h => hne29_30 h.symm) (#[.int .i64 af.pos, .int .i64 af.charge, .bool af.bolted] : Array Value).toList 0
      (try simp only [List.getElem_toArray, List.getElem_cons_zero, List.getElem_cons_succ, Act.put, List.setIfInBounds_toArray, List.set_cons_zero, List.set_cons_succ])
      refine wpAnyH_ready (rs := [32]) (by kernel_rfl) (by simp) ?_
      refine AllReadyH.cons rfl (fun K hK => ?_) AllReadyH.nil
      refine wanted_of (by rfl) (wp_store_mid (P := Tryz.prog) 45 _ _ rfl (b30) 0 #[.int .i64 cm.refused, .int .i64 cm.moved, .int .i64 cm.oil] rfl rfl (Blk.there hb30y (by show 0 + 3 ≤ 3; omega)) (by kernel_rfl) (by simp [Value.oneCell']) ?_)
      refine hK.out _ _ (by exact hHeld.sets (by omega) (by omega) (by omega) (by omega) (by omega) _ _) (fun hHeld => ?_)
      clear hK K
      (try simp only [Act.put, List.setIfInBounds_toArray, List.set_cons_zero, List.set_cons_succ])
      refine wpAnyH_done (by kernel_rfl) ?_ _
      (try simp only [List.getElem_toArray, List.getElem_cons_zero, List.getElem_cons_succ, Act.put, List.setIfInBounds_toArray, List.set_cons_zero, List.set_cons_succ])
      have hU := Lib.hid (show Blk ((wz.setCells b29 0 (#[.int .i64 af.pos, .int .i64 af.charge, .bool af.bolted] : Array Value).toList).setCells b30 0 (#[.int .i64 cm.refused, .int .i64 cm.moved, .int .i64 cm.oil] : Array Value).toList) b29 42 #[.int .i64 af.pos, .int .i64 af.charge, .bool af.bolted] from (Blk.sets hb29 (#[.int .i64 af.pos, .int .i64 af.charge, .bool af.bolted] : Array Value).toList 0).fars (b := b30) hne29_30 (#[.int .i64 cm.refused, .int .i64 cm.moved, .int .i64 cm.oil] : Array Value).toList 0)
      have hD := Lib.hid (show Blk ((wz.setCells b29 0 (#[.int .i64 af.pos, .int .i64 af.charge, .bool af.bolted] : Array Value).toList).setCells b30 0 (#[.int .i64 cm.refused, .int .i64 cm.moved, .int .i64 cm.oil] : Array Value).toList) b30 45 #[.int .i64 cm.refused, .int .i64 cm.moved, .int .i64 cm.oil] from Blk.sets hb30y (#[.int .i64 cm.refused, .int .i64 cm.moved, .int .i64 cm.oil] : Array Value).toList 0)
      have HBy := Lib.hid (below_sets (below_sets hBz (b := b29) (by omega) (#[.int .i64 af.pos, .int .i64 af.charge, .bool af.bolted] : Array Value).toList 0) (b := b30) (by omega) (#[.int .i64 cm.refused, .int .i64 cm.moved, .int .i64 cm.oil] : Array Value).toList 0)
      have HOy := Lib.hid (owns_setf (owns_setf HOz.out (b := b29) (fun x hx => by have := Hfar.out x hx; omega) (#[.int .i64 af.pos, .int .i64 af.charge, .bool af.bolted] : Array Value).toList 0) (b := b30) (fun x hx => by have := Hfar.out x hx; omega) (#[.int .i64 cm.refused, .int .i64 cm.moved, .int .i64 cm.oil] : Array Value).toList 0)
      have HCy := Lib.hid (owns_setf (owns_setf HCz.out (b := b29) (fun x hx => by have := Hfar'.out x hx; omega) (#[.int .i64 af.pos, .int .i64 af.charge, .bool af.bolted] : Array Value).toList 0) (b := b30) (fun x hx => by have := Hfar'.out x hx; omega) (#[.int .i64 cm.refused, .int .i64 cm.moved, .int .i64 cm.oil] : Array Value).toList 0)
      have Hsy := Lib.hid ((Hsz.out.fars (b := b29) (by omega) (#[.int .i64 af.pos, .int .i64 af.charge, .bool af.bolted] : Array Value).toList 0).fars (b := b30) (by omega) (#[.int .i64 cm.refused, .int .i64 cm.moved, .int .i64 cm.oil] : Array Value).toList 0)
      have hzy : wr.heap.size ≤ ((wz.setCells b29 0 (#[.int .i64 af.pos, .int .i64 af.charge, .bool af.bolted] : Array Value).toList).setCells b30 0 (#[.int .i64 cm.refused, .int .i64 cm.moved, .int .i64 cm.oil] : Array Value).toList).heap.size := by rw [size_sets, size_sets]; exact hzz
      clear hHeld hRz hBz hb29 hb30 hb30y HOz HCz Hsz
      generalize (wz.setCells b29 0 (#[.int .i64 af.pos, .int .i64 af.charge, .bool af.bolted] : Array Value).toList).setCells b30 0 (#[.int .i64 cm.refused, .int .i64 cm.moved, .int .i64 cm.oil] : Array Value).toList = wy at *
      have HU := Lib.hid (show Blk wy.drew b29 42 #[.int .i64 af.pos, .int .i64 af.charge, .bool af.bolted] from hU.out)
      have HD := Lib.hid (show Blk wy.drew b30 45 #[.int .i64 cm.refused, .int .i64 cm.moved, .int .i64 cm.oil] from hD.out)
      have HOz := Lib.hid (owns_drew HOy.out)
      have HCz := Lib.hid (owns_drew HCy.out)
      have Hsz := Lib.hid (show Blk wy.drew w.heap.size 25 #[.slice (some ⟨gb, off, none⟩) l.gn l.gc, .slice l.rA l.rn l.rc] from Hsy.out)
      have HBz := Lib.hid HBy.out.drew
      have hzd : wr.heap.size ≤ wy.drew.heap.size := hzy
      have hlU := hU.out.lt
      have hlD := hD.out.lt
      have b63 : k + 1 ≤ maxLen := by unfold maxLen; omega
      have b47 : (k + 1) * 24 ≤ 140737488355328 := by omega
      have one1 : Hid (∀ v ∈ [Value.int .i64 af.pos, .int .i64 af.charge, .bool af.bolted], v.oneCell' = true) := fun v hv => by
        simp only [List.mem_cons, List.not_mem_nil, or_false] at hv
        rcases hv with rfl | rfl | rfl <;> rfl
      have one2 : Hid (∀ v ∈ [Value.int .i64 cm.refused, .int .i64 cm.moved, .int .i64 cm.oil], v.oneCell' = true) := fun v hv => by
        simp only [List.mem_cons, List.not_mem_nil, or_false] at hv
        rcases hv with rfl | rfl | rfl <;> rfl
      have HAk : Hid (gsCells ((List.range (k + 1)).map AF) = gsCells ((List.range k).map AF) ++ [Value.int .i64 af.pos, .int .i64 af.charge, .bool af.bolted]) := by
        unfold Hid
        rw [List.range_succ, List.map_append, List.map_cons, List.map_nil, gsCells_next, HaF.out]
      have HCk : Hid (gmCells ((List.range (k + 1)).map CF) = gmCells ((List.range k).map CF) ++ [Value.int .i64 cm.refused, .int .i64 cm.moved, .int .i64 cm.oil]) := by
        unfold Hid
        rw [List.range_succ, List.map_append, List.map_cons, List.map_nil, gmCells_next, HcF.out]
      clear hU hD HOy HCy Hsy HBy hzy HSu HRg HaF HcF hzz hl10 hl11
      go_wp2_with fail
      refine wp_region_held (S := fun W' => Blk W' b29 42 #[.int .i64 af.pos, .int .i64 af.charge, .bool af.bolted] ∧ Blk W' b30 45 #[.int .i64 cm.refused, .int .i64 cm.moved, .int .i64 cm.oil]) (by kernel_rfl) (by exact ⟨HU.out, HD.out⟩) (fun hHeld => ?_)
      refine wpAnyH_take (i := 0) (v := ?_) rfl (by kernel_rfl) (by kernel_rfl) (by kernel_rfl) (fun _ _ _ h => h) (Or.inl ⟨by kernel_rfl, ?_⟩) hHeld ?_
      rotate_left
      · intro w hSw; (try dsimp only at hSw); obtain ⟨s0, s1, s2, _⟩ := hSw.1.three; obtain ⟨m0, m1, m2, _⟩ := hSw.2.three; go_simp; (try with_reducible rfl)
      (try simp only [Act.put, List.setIfInBounds_toArray, List.set_cons_zero, List.set_cons_succ])
      refine wpAnyH_take (i := 1) (v := ?_) rfl (by kernel_rfl) (by kernel_rfl) (by kernel_rfl) (fun _ _ _ h => h) (Or.inl ⟨by kernel_rfl, ?_⟩) hHeld ?_
      rotate_left
      · intro w hSw; (try dsimp only at hSw); obtain ⟨s0, s1, s2, _⟩ := hSw.1.three; obtain ⟨m0, m1, m2, _⟩ := hSw.2.three; go_simp; (try with_reducible rfl)
      (try simp only [Act.put, List.setIfInBounds_toArray, List.set_cons_zero, List.set_cons_succ])
      refine wpAnyH_take (i := 4) (v := ?_) rfl (by kernel_rfl) (by kernel_rfl) (by kernel_rfl) (fun _ _ _ h => h) (Or.inl ⟨by kernel_rfl, ?_⟩) hHeld ?_
      rotate_left
      · intro w hSw; (try dsimp only at hSw); obtain ⟨s0, s1, s2, _⟩ := hSw.1.three; obtain ⟨m0, m1, m2, _⟩ := hSw.2.three; go_simp; (try with_reducible rfl)
      (try simp only [Act.put, List.setIfInBounds_toArray, List.set_cons_zero, List.set_cons_succ])
      refine wpAnyH_take (i := 5) (v := ?_) rfl (by kernel_rfl) (by kernel_rfl) (by kernel_rfl) (fun _ _ _ h => h) (Or.inl ⟨by kernel_rfl, ?_⟩) hHeld ?_
      rotate_left
      · intro w hSw; (try dsimp only at hSw); obtain ⟨s0, s1, s2, _⟩ := hSw.1.three; obtain ⟨m0, m1, m2, _⟩ := hSw.2.three; go_simp; (try with_reducible rfl)
      (try simp only [Act.put, List.setIfInBounds_toArray, List.set_cons_zero, List.set_cons_succ])
      (try simp only [List.getElem_toArray, List.getElem_cons_zero, List.getElem_cons_succ, Act.put, List.setIfInBounds_toArray, List.set_cons_zero, List.set_cons_succ])
      clear hHeld
      generalize wy.drew = wa at *
      refine wpAnyH_ready (rs := [2, 6]) (by kernel_rfl) (by simp) ?_
      refine (AllReadyH.cons rfl (fun K hK => ?_) (AllReadyH.cons rfl (fun K hK => ?_) AllReadyH.nil))
      · go_simp
        have hQ := Lib.hid (Blk.new wa 42 #[.int .i64 af.pos, .int .i64 af.charge, .bool af.bolted])
        have HU' := Lib.hid (HU.out.alloc (.cells #[.int .i64 af.pos, .int .i64 af.charge, .bool af.bolted] 42))
        have HD' := Lib.hid (HD.out.alloc (.cells #[.int .i64 af.pos, .int .i64 af.charge, .bool af.bolted] 42))
        refine hK.out _ _ (by exact ⟨HU'.out, HD'.out⟩) (fun hHeld => ?_)
        clear hK K hHeld
        (try simp only [List.getElem_toArray, List.getElem_cons_zero, List.getElem_cons_succ, Act.put, List.setIfInBounds_toArray, List.set_cons_zero, List.set_cons_succ])
        have HOz' := Lib.hid (HOz.out.alloc (.cells #[.int .i64 af.pos, .int .i64 af.charge, .bool af.bolted] 42))
        have HCz' := Lib.hid (HCz.out.alloc (.cells #[.int .i64 af.pos, .int .i64 af.charge, .bool af.bolted] 42))
        have Hsz' := Lib.hid (Hsz.out.alloc (.cells #[.int .i64 af.pos, .int .i64 af.charge, .bool af.bolted] 42))
        have HBz' := Lib.hid (HBz.out.alloc (by omega) (.cells #[.int .i64 af.pos, .int .i64 af.charge, .bool af.bolted] 42))
        have hzd' : wr.heap.size ≤ (wa.alloc (.cells #[.int .i64 af.pos, .int .i64 af.charge, .bool af.bolted] 42)).heap.size := by simp; omega
        have hN2 : wr.heap.size ≤ wa.heap.size := hzd
        clear HU HD HOz HCz Hsz HBz hzd
        generalize wa.alloc (.cells #[.int .i64 af.pos, .int .i64 af.charge, .bool af.bolted] 42) = wb at *
        generalize wa.heap.size = nN2 at *
        have HN2 := hQ
        have HU := HU'
        have HD := HD'
        have HOz := HOz'
        have HCz := HCz'
        have Hsz := Hsz'
        have HBz := HBz'
        have hzd := hzd'
        clear HU' HD' HOz' HCz' Hsz' HBz' hzd' hQ
        refine wpAnyH_ready (rs := [3, 6]) (by kernel_rfl) (by simp) ?_
        refine (AllReadyH.cons rfl (fun K hK => ?_) (AllReadyH.cons rfl (fun K hK => ?_) AllReadyH.nil))
        · refine wanted_of (by kernel_rfl) ?_
          refine wp_append_own _ _ _ 50 rfl (w.heap.size + 1) 42 i0 (.agg #[.int .i64 0, .int .i64 0, .bool false]) 3 24 undStates HI.out.1 HI.out.2.1 HI.out.2.2.1 HI.out.2.2.2 rfl (by decide) (.slice OA on oc) k (gsCells ((List.range k).map AF)) rfl HOz.out ⟨nN2, 0, none⟩ 1 1 [.int .i64 af.pos, .int .i64 af.charge, .bool af.bolted] rfl rfl (news_blk HN2.out) one1.out b63 b47 (by omega) ?_
          intro vN2 wc hown hgrow _
          have HU' := Lib.hid (blk_kept HU.out hgrow (fun x hx => by have := Hfar.out x hx; omega))
          have HD' := Lib.hid (blk_kept HD.out hgrow (fun x hx => by have := Hfar.out x hx; omega))
          refine hK.out _ _ (by exact ⟨HU'.out, HD'.out⟩) (fun hHeld => ?_)
          clear hK K hHeld
          (try simp only [List.getElem_toArray, List.getElem_cons_zero, List.getElem_cons_succ, Act.put, List.setIfInBounds_toArray, List.set_cons_zero, List.set_cons_succ])
          have HB' := Lib.hid (HBz.out.trans (grown_below hgrow (fun x hx => by have := (HOz.out.lt x hx).1; omega) (by omega)))
          have hset' := Lib.hid (blk_sets_kept Hsz.out hgrow (fun x hx => by have := (HOz.out.lt x hx).1; omega))
          have HCz' := Lib.hid (HCz.out.kept hgrow (owns_apart HCz.out HOz.out (by decide)))
          skip
          have hzd' : wr.heap.size ≤ wc.heap.size := by have := hgrow.size; omega
          rw [← HAk.out] at hown
          have HOzk := Lib.hid hown
          clear HU HD HCz HOz hown hgrow HBz Hsz hzd HN2
          have HU := HU'
          have HD := HD'
          have HCz := HCz'
          have HOz := HOzk
          have HBz := HB'
          have Hsz := hset'
          have hzd := hzd'
          clear HU' HD' HCz' HOzk HB' hset' hzd'
          refine wpAnyH_ready (rs := [6]) (by kernel_rfl) (by simp) ?_
          refine AllReadyH.cons rfl (fun K hK => ?_) AllReadyH.nil
          go_simp
          have hQ := Lib.hid (Blk.new wc 45 #[.int .i64 cm.refused, .int .i64 cm.moved, .int .i64 cm.oil])
          have HU' := Lib.hid (HU.out.alloc (.cells #[.int .i64 cm.refused, .int .i64 cm.moved, .int .i64 cm.oil] 45))
          have HD' := Lib.hid (HD.out.alloc (.cells #[.int .i64 cm.refused, .int .i64 cm.moved, .int .i64 cm.oil] 45))
          refine hK.out _ _ (by exact ⟨HU'.out, HD'.out⟩) (fun hHeld => ?_)
          clear hK K hHeld
          (try simp only [List.getElem_toArray, List.getElem_cons_zero, List.getElem_cons_succ, Act.put, List.setIfInBounds_toArray, List.set_cons_zero, List.set_cons_succ])
          have HOz' := Lib.hid (HOz.out.alloc (.cells #[.int .i64 cm.refused, .int .i64 cm.moved, .int .i64 cm.oil] 45))
          have HCz' := Lib.hid (HCz.out.alloc (.cells #[.int .i64 cm.refused, .int .i64 cm.moved, .int .i64 cm.oil] 45))
          have Hsz' := Lib.hid (Hsz.out.alloc (.cells #[.int .i64 cm.refused, .int .i64 cm.moved, .int .i64 cm.oil] 45))
          have HBz' := Lib.hid (HBz.out.alloc (by omega) (.cells #[.int .i64 cm.refused, .int .i64 cm.moved, .int .i64 cm.oil] 45))
          have hzd' : wr.heap.size ≤ (wc.alloc (.cells #[.int .i64 cm.refused, .int .i64 cm.moved, .int .i64 cm.oil] 45)).heap.size := by simp; omega
          have hN6 : wr.heap.size ≤ wc.heap.size := hzd
          clear HU HD HOz HCz Hsz HBz hzd
          generalize wc.alloc (.cells #[.int .i64 cm.refused, .int .i64 cm.moved, .int .i64 cm.oil] 45) = wd at *
          generalize wc.heap.size = nN6 at *
          have HN6 := hQ
          have HU := HU'
          have HD := HD'
          have HOz := HOz'
          have HCz := HCz'
          have Hsz := Hsz'
          have HBz := HBz'
          have hzd := hzd'
          clear HU' HD' HOz' HCz' Hsz' HBz' hzd' hQ
          refine wpAnyH_ready (rs := [7]) (by kernel_rfl) (by simp) ?_
          refine AllReadyH.cons rfl (fun K hK => ?_) AllReadyH.nil
          refine wanted_of (by kernel_rfl) ?_
          refine wp_append_own _ _ _ 72 rfl (w.heap.size + 1) 45 i1 (.agg #[.int .i64 0, .int .i64 0, .int .i64 0]) 3 24 undMoveds HJ.out.1 HJ.out.2.1 HJ.out.2.2.1 HJ.out.2.2.2 rfl (by decide) (.slice CA cn cc) k (gmCells ((List.range k).map CF)) rfl HCz.out ⟨nN6, 0, none⟩ 1 1 [.int .i64 cm.refused, .int .i64 cm.moved, .int .i64 cm.oil] rfl rfl (news_blk HN6.out) one2.out b63 b47 (by omega) ?_
          intro vN6 we hown hgrow _
          have HU' := Lib.hid (blk_kept HU.out hgrow (fun x hx => by have := Hfar'.out x hx; omega))
          have HD' := Lib.hid (blk_kept HD.out hgrow (fun x hx => by have := Hfar'.out x hx; omega))
          refine hK.out _ _ (by exact ⟨HU'.out, HD'.out⟩) (fun hHeld => ?_)
          clear hK K
          (try simp only [List.getElem_toArray, List.getElem_cons_zero, List.getElem_cons_succ, Act.put, List.setIfInBounds_toArray, List.set_cons_zero, List.set_cons_succ])
          have HB' := Lib.hid (HBz.out.trans (grown_below hgrow (fun x hx => by have := (HCz.out.lt x hx).1; omega) (by omega)))
          have hset' := Lib.hid (blk_sets_kept Hsz.out hgrow (fun x hx => by have := (HCz.out.lt x hx).1; omega))
          have HOz' := Lib.hid (HOz.out.kept hgrow (owns_apart HOz.out HCz.out (by decide)))
          skip
          have hzd' : wr.heap.size ≤ we.heap.size := by have := hgrow.size; omega
          rw [← HCk.out] at hown
          have HCzk := Lib.hid hown
          clear HU HD HOz HCz hown hgrow HBz Hsz hzd HN6
          have HU := HU'
          have HD := HD'
          have HOz := HOz'
          have HCz := HCzk
          have HBz := HB'
          have Hsz := hset'
          have hzd := hzd'
          clear HU' HD' HOz' HCzk HB' hset' hzd'
          refine wpAnyH_take (i := 8) (v := ?_) rfl (by kernel_rfl) (by kernel_rfl) (by kernel_rfl) (fun _ _ _ h => h) (Or.inl ⟨by kernel_rfl, ?_⟩) hHeld ?_
          rotate_left
          · intro w hSw; (try dsimp only at hSw); skip; go_simp; (try with_reducible rfl)
          (try simp only [Act.put, List.setIfInBounds_toArray, List.set_cons_zero, List.set_cons_succ])
          refine wpAnyH_take (i := 9) (v := ?_) rfl (by kernel_rfl) (by kernel_rfl) (by kernel_rfl) (fun _ _ _ h => h) (Or.inl ⟨by kernel_rfl, ?_⟩) hHeld ?_
          rotate_left
          · intro w hSw; (try dsimp only at hSw); skip; go_simp; (try with_reducible rfl)
          (try simp only [Act.put, List.setIfInBounds_toArray, List.set_cons_zero, List.set_cons_succ])
          refine wpAnyH_done (by kernel_rfl) ?_ _
          (try simp only [List.getElem_toArray, List.getElem_cons_zero, List.getElem_cons_succ, Act.put, List.setIfInBounds_toArray, List.set_cons_zero, List.set_cons_succ])
          obtain ⟨A2, n2, c2, rfl⟩ := owns_slice HOz.out
          obtain ⟨B2, m2, d2, rfl⟩ := owns_slice HCz.out
          go_wp2
          go_roundw
          case rel => exact ⟨k + 1, A2, n2, c2, B2, m2, d2, by omega, by go_num, rfl, rfl, HOz.out, HCz.out, (show Hid _ by unfold Hid; rw [HA.out]; exact Hsz.out), HBz.out⟩
          case measure => simp [intOf]; omega
        · go_simp
          have hQ := Lib.hid (Blk.new wb 45 #[.int .i64 cm.refused, .int .i64 cm.moved, .int .i64 cm.oil])
          have HU' := Lib.hid (HU.out.alloc (.cells #[.int .i64 cm.refused, .int .i64 cm.moved, .int .i64 cm.oil] 45))
          have HD' := Lib.hid (HD.out.alloc (.cells #[.int .i64 cm.refused, .int .i64 cm.moved, .int .i64 cm.oil] 45))
          refine hK.out _ _ (by exact ⟨HU'.out, HD'.out⟩) (fun hHeld => ?_)
          clear hK K hHeld
          (try simp only [List.getElem_toArray, List.getElem_cons_zero, List.getElem_cons_succ, Act.put, List.setIfInBounds_toArray, List.set_cons_zero, List.set_cons_succ])
          have HOz' := Lib.hid (HOz.out.alloc (.cells #[.int .i64 cm.refused, .int .i64 cm.moved, .int .i64 cm.oil] 45))
          have HCz' := Lib.hid (HCz.out.alloc (.cells #[.int .i64 cm.refused, .int .i64 cm.moved, .int .i64 cm.oil] 45))
          have Hsz' := Lib.hid (Hsz.out.alloc (.cells #[.int .i64 cm.refused, .int .i64 cm.moved, .int .i64 cm.oil] 45))
          have HBz' := Lib.hid (HBz.out.alloc (by omega) (.cells #[.int .i64 cm.refused, .int .i64 cm.moved, .int .i64 cm.oil] 45))
          have HN2' := Lib.hid (HN2.out.alloc (.cells #[.int .i64 cm.refused, .int .i64 cm.moved, .int .i64 cm.oil] 45))
          clear HN2
          have HN2 := HN2'
          clear HN2'
          have hzd' : wr.heap.size ≤ (wb.alloc (.cells #[.int .i64 cm.refused, .int .i64 cm.moved, .int .i64 cm.oil] 45)).heap.size := by simp; omega
          have hN6 : wr.heap.size ≤ wb.heap.size := hzd
          clear HU HD HOz HCz Hsz HBz hzd
          generalize wb.alloc (.cells #[.int .i64 cm.refused, .int .i64 cm.moved, .int .i64 cm.oil] 45) = wc at *
          generalize wb.heap.size = nN6 at *
          have HN6 := hQ
          have HU := HU'
          have HD := HD'
          have HOz := HOz'
          have HCz := HCz'
          have Hsz := Hsz'
          have HBz := HBz'
          have hzd := hzd'
          clear HU' HD' HOz' HCz' Hsz' HBz' hzd' hQ
          refine wpAnyH_ready (rs := [3]) (by kernel_rfl) (by simp) ?_
          refine AllReadyH.cons rfl (fun K hK => ?_) AllReadyH.nil
          refine wanted_of (by kernel_rfl) ?_
          refine wp_append_own _ _ _ 50 rfl (w.heap.size + 1) 42 i0 (.agg #[.int .i64 0, .int .i64 0, .bool false]) 3 24 undStates HI.out.1 HI.out.2.1 HI.out.2.2.1 HI.out.2.2.2 rfl (by decide) (.slice OA on oc) k (gsCells ((List.range k).map AF)) rfl HOz.out ⟨nN2, 0, none⟩ 1 1 [.int .i64 af.pos, .int .i64 af.charge, .bool af.bolted] rfl rfl (news_blk HN2.out) one1.out b63 b47 (by omega) ?_
          intro vN2 wd hown hgrow _
          have HU' := Lib.hid (blk_kept HU.out hgrow (fun x hx => by have := Hfar.out x hx; omega))
          have HD' := Lib.hid (blk_kept HD.out hgrow (fun x hx => by have := Hfar.out x hx; omega))
          refine hK.out _ _ (by exact ⟨HU'.out, HD'.out⟩) (fun hHeld => ?_)
          clear hK K hHeld
          (try simp only [List.getElem_toArray, List.getElem_cons_zero, List.getElem_cons_succ, Act.put, List.setIfInBounds_toArray, List.set_cons_zero, List.set_cons_succ])
          have HB' := Lib.hid (HBz.out.trans (grown_below hgrow (fun x hx => by have := (HOz.out.lt x hx).1; omega) (by omega)))
          have hset' := Lib.hid (blk_sets_kept Hsz.out hgrow (fun x hx => by have := (HOz.out.lt x hx).1; omega))
          have HCz' := Lib.hid (HCz.out.kept hgrow (owns_apart HCz.out HOz.out (by decide)))
          have HN6' := Lib.hid (blk_kept HN6.out hgrow (fun x hx => by have := Hfar.out x hx; omega))
          clear HN6
          have HN6 := HN6'
          clear HN6'
          have hzd' : wr.heap.size ≤ wd.heap.size := by have := hgrow.size; omega
          rw [← HAk.out] at hown
          have HOzk := Lib.hid hown
          clear HU HD HCz HOz hown hgrow HBz Hsz hzd HN2
          have HU := HU'
          have HD := HD'
          have HCz := HCz'
          have HOz := HOzk
          have HBz := HB'
          have Hsz := hset'
          have hzd := hzd'
          clear HU' HD' HCz' HOzk HB' hset' hzd'
          refine wpAnyH_ready (rs := [7]) (by kernel_rfl) (by simp) ?_
          refine AllReadyH.cons rfl (fun K hK => ?_) AllReadyH.nil
          refine wanted_of (by kernel_rfl) ?_
          refine wp_append_own _ _ _ 72 rfl (w.heap.size + 1) 45 i1 (.agg #[.int .i64 0, .int .i64 0, .int .i64 0]) 3 24 undMoveds HJ.out.1 HJ.out.2.1 HJ.out.2.2.1 HJ.out.2.2.2 rfl (by decide) (.slice CA cn cc) k (gmCells ((List.range k).map CF)) rfl HCz.out ⟨nN6, 0, none⟩ 1 1 [.int .i64 cm.refused, .int .i64 cm.moved, .int .i64 cm.oil] rfl rfl (news_blk HN6.out) one2.out b63 b47 (by omega) ?_
          intro vN6 we hown hgrow _
          have HU' := Lib.hid (blk_kept HU.out hgrow (fun x hx => by have := Hfar'.out x hx; omega))
          have HD' := Lib.hid (blk_kept HD.out hgrow (fun x hx => by have := Hfar'.out x hx; omega))
          refine hK.out _ _ (by exact ⟨HU'.out, HD'.out⟩) (fun hHeld => ?_)
          clear hK K
          (try simp only [List.getElem_toArray, List.getElem_cons_zero, List.getElem_cons_succ, Act.put, List.setIfInBounds_toArray, List.set_cons_zero, List.set_cons_succ])
          have HB' := Lib.hid (HBz.out.trans (grown_below hgrow (fun x hx => by have := (HCz.out.lt x hx).1; omega) (by omega)))
          have hset' := Lib.hid (blk_sets_kept Hsz.out hgrow (fun x hx => by have := (HCz.out.lt x hx).1; omega))
          have HOz' := Lib.hid (HOz.out.kept hgrow (owns_apart HOz.out HCz.out (by decide)))
          skip
          have hzd' : wr.heap.size ≤ we.heap.size := by have := hgrow.size; omega
          rw [← HCk.out] at hown
          have HCzk := Lib.hid hown
          clear HU HD HOz HCz hown hgrow HBz Hsz hzd HN6
          have HU := HU'
          have HD := HD'
          have HOz := HOz'
          have HCz := HCzk
          have HBz := HB'
          have Hsz := hset'
          have hzd := hzd'
          clear HU' HD' HOz' HCzk HB' hset' hzd'
          refine wpAnyH_take (i := 8) (v := ?_) rfl (by kernel_rfl) (by kernel_rfl) (by kernel_rfl) (fun _ _ _ h => h) (Or.inl ⟨by kernel_rfl, ?_⟩) hHeld ?_
          rotate_left
          · intro w hSw; (try dsimp only at hSw); skip; go_simp; (try with_reducible rfl)
          (try simp only [Act.put, List.setIfInBounds_toArray, List.set_cons_zero, List.set_cons_succ])
          refine wpAnyH_take (i := 9) (v := ?_) rfl (by kernel_rfl) (by kernel_rfl) (by kernel_rfl) (fun _ _ _ h => h) (Or.inl ⟨by kernel_rfl, ?_⟩) hHeld ?_
          rotate_left
          · intro w hSw; (try dsimp only at hSw); skip; go_simp; (try with_reducible rfl)
          (try simp only [Act.put, List.setIfInBounds_toArray, List.set_cons_zero, List.set_cons_succ])
          refine wpAnyH_done (by kernel_rfl) ?_ _
          (try simp only [List.getElem_toArray, List.getElem_cons_zero, List.getElem_cons_succ, Act.put, List.setIfInBounds_toArray, List.set_cons_zero, List.set_cons_succ])
          obtain ⟨A2, n2, c2, rfl⟩ := owns_slice HOz.out
          obtain ⟨B2, m2, d2, rfl⟩ := owns_slice HCz.out
          go_wp2
          go_roundw
          case rel => exact ⟨k + 1, A2, n2, c2, B2, m2, d2, by omega, by go_num, rfl, rfl, HOz.out, HCz.out, (show Hid _ by unfold Hid; rw [HA.out]; exact Hsz.out), HBz.out⟩
          case measure => simp [intOf]; omega
      · go_simp
        have hQ := Lib.hid (Blk.new wa 45 #[.int .i64 cm.refused, .int .i64 cm.moved, .int .i64 cm.oil])
        have HU' := Lib.hid (HU.out.alloc (.cells #[.int .i64 cm.refused, .int .i64 cm.moved, .int .i64 cm.oil] 45))
        have HD' := Lib.hid (HD.out.alloc (.cells #[.int .i64 cm.refused, .int .i64 cm.moved, .int .i64 cm.oil] 45))
        refine hK.out _ _ (by exact ⟨HU'.out, HD'.out⟩) (fun hHeld => ?_)
        clear hK K hHeld
        (try simp only [List.getElem_toArray, List.getElem_cons_zero, List.getElem_cons_succ, Act.put, List.setIfInBounds_toArray, List.set_cons_zero, List.set_cons_succ])
        have HOz' := Lib.hid (HOz.out.alloc (.cells #[.int .i64 cm.refused, .int .i64 cm.moved, .int .i64 cm.oil] 45))
        have HCz' := Lib.hid (HCz.out.alloc (.cells #[.int .i64 cm.refused, .int .i64 cm.moved, .int .i64 cm.oil] 45))
        have Hsz' := Lib.hid (Hsz.out.alloc (.cells #[.int .i64 cm.refused, .int .i64 cm.moved, .int .i64 cm.oil] 45))
        have HBz' := Lib.hid (HBz.out.alloc (by omega) (.cells #[.int .i64 cm.refused, .int .i64 cm.moved, .int .i64 cm.oil] 45))
        have hzd' : wr.heap.size ≤ (wa.alloc (.cells #[.int .i64 cm.refused, .int .i64 cm.moved, .int .i64 cm.oil] 45)).heap.size := by simp; omega
        have hN6 : wr.heap.size ≤ wa.heap.size := hzd
        clear HU HD HOz HCz Hsz HBz hzd
        generalize wa.alloc (.cells #[.int .i64 cm.refused, .int .i64 cm.moved, .int .i64 cm.oil] 45) = wb at *
        generalize wa.heap.size = nN6 at *
        have HN6 := hQ
        have HU := HU'
        have HD := HD'
        have HOz := HOz'
        have HCz := HCz'
        have Hsz := Hsz'
        have HBz := HBz'
        have hzd := hzd'
        clear HU' HD' HOz' HCz' Hsz' HBz' hzd' hQ
        refine wpAnyH_ready (rs := [2]) (by kernel_rfl) (by simp) ?_
        refine AllReadyH.cons rfl (fun K hK => ?_) AllReadyH.nil
        go_simp
        have hQ := Lib.hid (Blk.new wb 42 #[.int .i64 af.pos, .int .i64 af.charge, .bool af.bolted])
        have HU' := Lib.hid (HU.out.alloc (.cells #[.int .i64 af.pos, .int .i64 af.charge, .bool af.bolted] 42))
        have HD' := Lib.hid (HD.out.alloc (.cells #[.int .i64 af.pos, .int .i64 af.charge, .bool af.bolted] 42))
        refine hK.out _ _ (by exact ⟨HU'.out, HD'.out⟩) (fun hHeld => ?_)
        clear hK K hHeld
        (try simp only [List.getElem_toArray, List.getElem_cons_zero, List.getElem_cons_succ, Act.put, List.setIfInBounds_toArray, List.set_cons_zero, List.set_cons_succ])
        have HOz' := Lib.hid (HOz.out.alloc (.cells #[.int .i64 af.pos, .int .i64 af.charge, .bool af.bolted] 42))
        have HCz' := Lib.hid (HCz.out.alloc (.cells #[.int .i64 af.pos, .int .i64 af.charge, .bool af.bolted] 42))
        have Hsz' := Lib.hid (Hsz.out.alloc (.cells #[.int .i64 af.pos, .int .i64 af.charge, .bool af.bolted] 42))
        have HBz' := Lib.hid (HBz.out.alloc (by omega) (.cells #[.int .i64 af.pos, .int .i64 af.charge, .bool af.bolted] 42))
        have HN6' := Lib.hid (HN6.out.alloc (.cells #[.int .i64 af.pos, .int .i64 af.charge, .bool af.bolted] 42))
        clear HN6
        have HN6 := HN6'
        clear HN6'
        have hzd' : wr.heap.size ≤ (wb.alloc (.cells #[.int .i64 af.pos, .int .i64 af.charge, .bool af.bolted] 42)).heap.size := by simp; omega
        have hN2 : wr.heap.size ≤ wb.heap.size := hzd
        clear HU HD HOz HCz Hsz HBz hzd
        generalize wb.alloc (.cells #[.int .i64 af.pos, .int .i64 af.charge, .bool af.bolted] 42) = wc at *
        generalize wb.heap.size = nN2 at *
        have HN2 := hQ
        have HU := HU'
        have HD := HD'
        have HOz := HOz'
        have HCz := HCz'
        have Hsz := Hsz'
        have HBz := HBz'
        have hzd := hzd'
        clear HU' HD' HOz' HCz' Hsz' HBz' hzd' hQ
        refine wpAnyH_ready (rs := [3]) (by kernel_rfl) (by simp) ?_
        refine AllReadyH.cons rfl (fun K hK => ?_) AllReadyH.nil
        refine wanted_of (by kernel_rfl) ?_
        refine wp_append_own _ _ _ 50 rfl (w.heap.size + 1) 42 i0 (.agg #[.int .i64 0, .int .i64 0, .bool false]) 3 24 undStates HI.out.1 HI.out.2.1 HI.out.2.2.1 HI.out.2.2.2 rfl (by decide) (.slice OA on oc) k (gsCells ((List.range k).map AF)) rfl HOz.out ⟨nN2, 0, none⟩ 1 1 [.int .i64 af.pos, .int .i64 af.charge, .bool af.bolted] rfl rfl (news_blk HN2.out) one1.out b63 b47 (by omega) ?_
        intro vN2 wd hown hgrow _
        have HU' := Lib.hid (blk_kept HU.out hgrow (fun x hx => by have := Hfar.out x hx; omega))
        have HD' := Lib.hid (blk_kept HD.out hgrow (fun x hx => by have := Hfar.out x hx; omega))
        refine hK.out _ _ (by exact ⟨HU'.out, HD'.out⟩) (fun hHeld => ?_)
        clear hK K hHeld
        (try simp only [List.getElem_toArray, List.getElem_cons_zero, List.getElem_cons_succ, Act.put, List.setIfInBounds_toArray, List.set_cons_zero, List.set_cons_succ])
        have HB' := Lib.hid (HBz.out.trans (grown_below hgrow (fun x hx => by have := (HOz.out.lt x hx).1; omega) (by omega)))
        have hset' := Lib.hid (blk_sets_kept Hsz.out hgrow (fun x hx => by have := (HOz.out.lt x hx).1; omega))
        have HCz' := Lib.hid (HCz.out.kept hgrow (owns_apart HCz.out HOz.out (by decide)))
        have HN6' := Lib.hid (blk_kept HN6.out hgrow (fun x hx => by have := Hfar.out x hx; omega))
        clear HN6
        have HN6 := HN6'
        clear HN6'
        have hzd' : wr.heap.size ≤ wd.heap.size := by have := hgrow.size; omega
        rw [← HAk.out] at hown
        have HOzk := Lib.hid hown
        clear HU HD HCz HOz hown hgrow HBz Hsz hzd HN2
        have HU := HU'
        have HD := HD'
        have HCz := HCz'
        have HOz := HOzk
        have HBz := HB'
        have Hsz := hset'
        have hzd := hzd'
        clear HU' HD' HCz' HOzk HB' hset' hzd'
        refine wpAnyH_ready (rs := [7]) (by kernel_rfl) (by simp) ?_
        refine AllReadyH.cons rfl (fun K hK => ?_) AllReadyH.nil
        refine wanted_of (by kernel_rfl) ?_
        refine wp_append_own _ _ _ 72 rfl (w.heap.size + 1) 45 i1 (.agg #[.int .i64 0, .int .i64 0, .int .i64 0]) 3 24 undMoveds HJ.out.1 HJ.out.2.1 HJ.out.2.2.1 HJ.out.2.2.2 rfl (by decide) (.slice CA cn cc) k (gmCells ((List.range k).map CF)) rfl HCz.out ⟨nN6, 0, none⟩ 1 1 [.int .i64 cm.refused, .int .i64 cm.moved, .int .i64 cm.oil] rfl rfl (news_blk HN6.out) one2.out b63 b47 (by omega) ?_
        intro vN6 we hown hgrow _
        have HU' := Lib.hid (blk_kept HU.out hgrow (fun x hx => by have := Hfar'.out x hx; omega))
        have HD' := Lib.hid (blk_kept HD.out hgrow (fun x hx => by have := Hfar'.out x hx; omega))
        refine hK.out _ _ (by exact ⟨HU'.out, HD'.out⟩) (fun hHeld => ?_)
        clear hK K
        (try simp only [List.getElem_toArray, List.getElem_cons_zero, List.getElem_cons_succ, Act.put, List.setIfInBounds_toArray, List.set_cons_zero, List.set_cons_succ])
        have HB' := Lib.hid (HBz.out.trans (grown_below hgrow (fun x hx => by have := (HCz.out.lt x hx).1; omega) (by omega)))
        have hset' := Lib.hid (blk_sets_kept Hsz.out hgrow (fun x hx => by have := (HCz.out.lt x hx).1; omega))
        have HOz' := Lib.hid (HOz.out.kept hgrow (owns_apart HOz.out HCz.out (by decide)))
        skip
        have hzd' : wr.heap.size ≤ we.heap.size := by have := hgrow.size; omega
        rw [← HCk.out] at hown
        have HCzk := Lib.hid hown
        clear HU HD HOz HCz hown hgrow HBz Hsz hzd HN6
        have HU := HU'
        have HD := HD'
        have HOz := HOz'
        have HCz := HCzk
        have HBz := HB'
        have Hsz := hset'
        have hzd := hzd'
        clear HU' HD' HOz' HCzk HB' hset' hzd'
        refine wpAnyH_take (i := 8) (v := ?_) rfl (by kernel_rfl) (by kernel_rfl) (by kernel_rfl) (fun _ _ _ h => h) (Or.inl ⟨by kernel_rfl, ?_⟩) hHeld ?_
        rotate_left
        · intro w hSw; (try dsimp only at hSw); skip; go_simp; (try with_reducible rfl)
        (try simp only [Act.put, List.setIfInBounds_toArray, List.set_cons_zero, List.set_cons_succ])
        refine wpAnyH_take (i := 9) (v := ?_) rfl (by kernel_rfl) (by kernel_rfl) (by kernel_rfl) (fun _ _ _ h => h) (Or.inl ⟨by kernel_rfl, ?_⟩) hHeld ?_
        rotate_left
        · intro w hSw; (try dsimp only at hSw); skip; go_simp; (try with_reducible rfl)
        (try simp only [Act.put, List.setIfInBounds_toArray, List.set_cons_zero, List.set_cons_succ])
        refine wpAnyH_done (by kernel_rfl) ?_ _
        (try simp only [List.getElem_toArray, List.getElem_cons_zero, List.getElem_cons_succ, Act.put, List.setIfInBounds_toArray, List.set_cons_zero, List.set_cons_succ])
        obtain ⟨A2, n2, c2, rfl⟩ := owns_slice HOz.out
        obtain ⟨B2, m2, d2, rfl⟩ := owns_slice HCz.out
        go_wp2
        go_roundw
        case rel => exact ⟨k + 1, A2, n2, c2, B2, m2, d2, by omega, by go_num, rfl, rfl, HOz.out, HCz.out, (show Hid _ by unfold Hid; rw [HA.out]; exact Hsz.out), HBz.out⟩
        case measure => simp [intOf]; omega
    · obtain rfl : k = l.gn := by omega
      have HO := hO
      obtain ⟨A', c', hv, htab, hle, _, _⟩ := owns_tabN (rows := ((List.range l.gn).map AF).map Gs.cells) hO.out (fun r hr => by obtain ⟨q, _, rfl⟩ := List.mem_map.1 hr; rfl) (by omega)
      obtain ⟨B', d', hv2, htab2, _, _, _⟩ := owns_tabN (rows := ((List.range l.gn).map CF).map Gm.cells) hC.out (fun r hr => by obtain ⟨q, _, rfl⟩ := List.mem_map.1 hr; rfl) (by omega)
      cases hv
      cases hv2
      have Hfin := Lib.hid (And.intro htab (And.intro htab2 (And.intro hle hbr)))
      clear hO hC HO htab htab2 hle hlt hk hset
      go_wp2
      go_ret2
      exact ⟨OA, oc, CA, cc, rfl, Hfin.out.1, Hfin.out.2.1, Hfin.out.2.2.1, Hfin.out.2.2.2⟩
end Go.Proofs.YtgdomaddjiggaaaGreat
