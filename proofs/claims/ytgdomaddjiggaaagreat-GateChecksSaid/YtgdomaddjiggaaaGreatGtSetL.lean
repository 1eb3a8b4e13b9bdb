/- A step of a set: what a round reads, what each machine does. -/
import Derived.Test.YtgdomaddjiggaaaGreatGtRefuse
import Derived.Test.YtgdomaddjiggaaaGreatGtStep
namespace Go.Proofs.YtgdomaddjiggaaaGreat
open Go.RowKit
set_option linter.unusedSimpArgs false
set_option linter.unusedVariables false

theorem range_below {w w' : World} {b o B : Nat} {l : List Value} (h : w.rangeAt b o l) (hb : Below B w w') (hB : b < B) : w'.rangeAt b o l := fun j v hv => (hb.cell (p := ⟨b, o + j, none⟩) hB).trans (h j v hv)
theorem there_below {w w' : World} {b o n B : Nat} (h : w.there b o n) (hb : Below B w w') (hB : b < B) : w'.there b o n := fun j hj => by
  obtain ⟨h1, h2⟩ := h j hj
  exact ⟨by rw [hb.cell (p := ⟨b, o + j, none⟩) hB]; exact h1, by rw [hb.frozen (p := ⟨b, o + j, none⟩) hB]; exact h2⟩
/-- What a round of the step reads. -/
structure RS (W : World) (mb sb tb pb : Nat) (g : Ga) (s : Gs) (sv rv : Value) (to : Nat) (t : Gt) (po : Nat) (p : Bool) : Prop where
  m : Blk W mb 107 (mrow g s)
  st : Blk W sb 114 #[sv, rv]
  t0 : W.cell? ⟨tb, to, none⟩ = some (.int .i64 t.order)
  t1 : W.cell? ⟨tb, to + 1, none⟩ = some (.bool t.power)
  t2 : W.cell? ⟨tb, to + 2, none⟩ = some (.int .i64 t.outer)
  t3 : W.cell? ⟨tb, to + 3, none⟩ = some (.int .i64 t.inner)
  p0 : W.cell? ⟨pb, po, none⟩ = some (.bool p)
section
variable {W W' : World} {mb sb tb pb : Nat} {g : Ga} {s : Gs} {sv rv : Value} {to : Nat} {t : Gt} {po : Nat} {p : Bool}
theorem RS.below (h : RS W mb sb tb pb g s sv rv to t po p) (hb : Below W.heap.size W W') : RS W' mb sb tb pb g s sv rv to t po p := by
  have k : ∀ (q : Addr) (v : Value), W.cell? q = some v → W'.cell? q = some v := fun q v hq => (hb.cell (World.block_lt_of_cell? W q hq)).trans hq
  exact ⟨h.m.thru hb h.m.lt, h.st.thru hb h.st.lt, k _ _ h.t0, k _ _ h.t1, k _ _ h.t2, k _ _ h.t3, k _ _ h.p0⟩
theorem RS.drew (h : RS W mb sb tb pb g s sv rv to t po p) : RS W.drew mb sb tb pb g s sv rv to t po p := ⟨h.m, h.st, h.t0, h.t1, h.t2, h.t3, h.p0⟩
theorem RS.sets (h : RS W mb sb tb pb g s sv rv to t po p) {c : Nat} (h1 : mb ≠ c) (h2 : sb ≠ c) (h3 : tb ≠ c) (h4 : pb ≠ c) (vs : List Value) (o : Nat) : RS (W.setCells c o vs) mb sb tb pb g s sv rv to t po p := by
  have k : ∀ (q : Addr) (v : Value), q.block ≠ c → W.cell? q = some v → (W.setCells c o vs).cell? q = some v := fun q v hq h => (World.cell?_setCells_out c vs o W q (fun hb _ => absurd hb hq)).trans h
  exact ⟨h.m.fars h1 _ _, h.st.fars h2 _ _, k _ _ h3 h.t0, k _ _ h3 h.t1, k _ _ h3 h.t2, k _ _ h3 h.t3, k _ _ h4 h.p0⟩
end
theorem uStep : ∃ fs, Tryz.prog.underlying 49 = some (.struct fs) := isStruct (by kernel_rfl)
theorem ms_sets {w : World} {b c : Nat} {ms : List (Ga × Gs)} (h : Ms w b ms) (hne : b ≠ c) (vs : List Value) (o : Nat) : Ms (w.setCells c o vs) b ms :=
  ⟨fun i m hm => World.rangeAt_setCells_apart (h.rng i m hm) _ _ _ (.inl hne), fun o' => by rw [World.frozen?_setCells]; exact h.fro o', by rw [size_sets]; exact h.lt⟩

/-- What a machine of a set does in a step. -/
def aftF (ms : List (Ga × Gs)) (rs : List Gr) (rn : Nat) (ts : List Gt) (ps : List Bool) (k : Nat) : Gs :=
  match ms[k]?, ts[k]?, ps[k]? with
  | some m, some t, some p => afterF m.1 m.2 t (refusalF ms rs rn k t.order p)
  | _, _, _ => ⟨0, 0, false⟩
def camF (ms : List (Ga × Gs)) (rs : List Gr) (rn : Nat) (ts : List Gt) (ps : List Bool) (k : Nat) : Gm :=
  match ms[k]?, ts[k]?, ps[k]? with
  | some m, some t, some p => cameF m.1 m.2 t (refusalF ms rs rn k t.order p)
  | _, _, _ => ⟨0, 0, 0⟩
theorem infoMoved : (Tryz.prog.info? 45).map (fun i => (i.zero, i.size, i.bytes)) = some (some (.agg #[.int .i64 0, .int .i64 0, .int .i64 0]), 3, 24) := by kernel_rfl
theorem undMoveds : Tryz.prog.underlying 72 = some (.slice 45) := by kernel_rfl
theorem owns_there {w : World} {base : Nat} {e : TypeId} {n g cap vn : Nat} {xs : List Value} (h : w.ownsRow base e 3 (.slice (some ⟨g, 0, none⟩) vn cap) n xs) : vn = n ∧ base ≤ g ∧ g < w.heap.size ∧ ∀ j, j < n → w.there g (j * 3) 3 := by
  rcases h.2 with ⟨h1, _⟩ | ⟨g', cap', cur, h1, h2, h3, h4, h5, h6, h7⟩
  · cases h1
  · cases h1
    have hb : Blk w g e cur := h3
    exact ⟨rfl, h2, hb.lt, fun j hj => hb.there (by omega)⟩

end Go.Proofs.YtgdomaddjiggaaaGreat
