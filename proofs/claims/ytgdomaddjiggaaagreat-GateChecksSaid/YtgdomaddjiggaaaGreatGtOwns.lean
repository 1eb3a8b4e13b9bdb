/- Rows of cells that a call owns, read as a table; copies of several cells an element. -/
import Derived.Test.YtgdomaddjiggaaaGreatGtSetStep
import Derived.Laws.IdiomCopy
namespace Go.Proofs.YtgdomaddjiggaaaGreat
open Go.RowKit
set_option linter.unusedSimpArgs false
set_option linter.unusedVariables false

theorem flat_get {α : Type} (size : Nat) : ∀ (rows : List (List α)) (h : ∀ r ∈ rows, r.length = size) (k : Nat) (r : List α) (j : Nat) (v : α), rows[k]? = some r → r[j]? = some v → rows.flatten[k * size + j]? = some v
  | [], _, k, r, j, v, hr, _ => by simp at hr
  | a :: rows, h, 0, r, j, v, hr, hv => by
    simp at hr
    subst hr
    have := (List.getElem?_eq_some_iff.1 hv).1
    rw [List.flatten_cons, Nat.zero_mul, Nat.zero_add, List.getElem?_append_left this]
    exact hv
  | a :: rows, h, k + 1, r, j, v, hr, hv => by
    have ha := h a (by simp)
    rw [List.flatten_cons, List.getElem?_append_right (by rw [ha, Nat.add_mul]; omega), ha, show (k + 1) * size + j - size = k * size + j by rw [Nat.add_mul]; omega]
    exact flat_get size rows (fun r hr => h r (by simp [hr])) k r j v (by simpa using hr) hv
theorem flat_len {α : Type} (size : Nat) : ∀ (rows : List (List α)) (h : ∀ r ∈ rows, r.length = size), rows.flatten.length = rows.length * size
  | [], _ => by simp
  | a :: rows, h => by
    rw [List.flatten_cons, List.length_append, h a (by simp), flat_len size rows (fun r hr => h r (by simp [hr])), List.length_cons, Nat.add_mul]
    omega
theorem Tab.of_blk {w : World} {g : Nat} {t : TypeId} {cs : Array Value} (hb : Blk w g t cs) {B n size : Nat} {rows : List (List Value)} (hg : g < B) (hn : rows.length = n)
    (hc : ∀ (k : Nat) (r : List Value), rows[k]? = some r → ∀ (j : Nat) (v : Value), r[j]? = some v → cs[k * size + j]? = some v) : Tab w B (some ⟨g, 0, none⟩) n size rows :=
  ⟨hn, fun _ => ⟨g, 0, rfl, hg, fun k r hr j v hv => by
    have := hb.cell (k * size + j)
    rw [show (0 + k * size + j) = k * size + j by omega, this]
    exact hc k r hr j v hv⟩⟩
theorem Tab.of_flat {w : World} {g : Nat} {t : TypeId} {cs : Array Value} (hb : Blk w g t cs) {B n size : Nat} {rows : List (List Value)} (hg : g < B) (hn : rows.length = n) (hs : ∀ r ∈ rows, r.length = size) (hc : cs = rows.flatten.toArray) : Tab w B (some ⟨g, 0, none⟩) n size rows :=
  Tab.of_blk hb hg hn fun k r hr j v hv => by rw [hc, List.getElem?_toArray]; exact flat_get size rows hs k r j v hr hv
/-- A row that a call owns reads as a table. -/
theorem owns_tabN {w : World} {base : Nat} {e : TypeId} {v : Value} {size n : Nat} {rows : List (List Value)} (h : w.ownsRow base e size v n rows.flatten) (hs : ∀ r ∈ rows, r.length = size) (h0 : 0 < size) :
    ∃ A c, v = .slice A n c ∧ Tab w w.heap.size A n size rows ∧ n ≤ c ∧ c ≤ maxLen ∧ (0 < n → ∃ g, A = some ⟨g, 0, none⟩ ∧ base ≤ g ∧ g < w.heap.size) := by
  have hlen := h.1
  rw [flat_len size rows hs] at hlen
  have hrl : rows.length = n := Nat.eq_of_mul_eq_mul_right h0 hlen
  rcases h.2 with ⟨rfl, rfl⟩ | ⟨g, cap, cur, rfl, hb, hg, hn, hc, hsz, ht⟩
  · exact ⟨none, 0, rfl, ⟨hrl, fun h => absurd h (by omega)⟩, Nat.le_refl _, by unfold maxLen; omega, fun h => absurd h (by omega)⟩
  · have hblk : Blk w g e cur := hg
    refine ⟨_, _, rfl, Tab.of_blk hblk hblk.lt hrl fun k r hr j u hu => ?_, hn, hc, fun _ => ⟨g, rfl, hb, hblk.lt⟩⟩
    have hf := flat_get size rows hs k r j u hr hu
    rw [← ht, List.getElem?_take] at hf
    split at hf
    · simpa using hf
    · cases hf
/-- The first cells of a row that a call owns. -/
theorem owns_cells {w : World} {base : Nat} {e : TypeId} {A : Option Addr} {vn vc size n : Nat} {xs : List Value} (h : w.ownsRow base e size (.slice A vn vc) n xs) (h0 : 0 < n) : ∃ g, A = some ⟨g, 0, none⟩ ∧ vn = n ∧ base ≤ g ∧ g < w.heap.size ∧ w.rangeAt g 0 xs := by
  rcases h.2 with ⟨_, rfl⟩ | ⟨g, cap, cur, h1, hb, hg, hn, hc, hsz, ht⟩
  · omega
  · cases h1
    have hblk : Blk w g e cur := hg
    refine ⟨g, rfl, rfl, hb, hblk.lt, fun j v hv => ?_⟩
    rw [← ht, List.getElem?_take] at hv
    split at hv
    · rw [Nat.zero_add, hblk.cell]; simpa using hv
    · cases hv

/-- copy between slices of elements of several cells: all is read before anything is written. -/
theorem run_copy_cellsN {P : Program} (w : World) (dT sT ty elem : TypeId) (b o dLen dCap : Nat) (a : Addr) (sLen sCap sz : Nat) (cs : List Value)
    (hu : P.underlying dT = some (.slice elem)) (hs : (P.info? elem).map (·.size) = some sz) (hn : cs.length = Nat.min sLen dLen * sz)
    (hsrc : ∀ j v, cs[j]? = some v → w.cell? (a.add j) = some v) (hc : ∀ j, j < cs.length → (w.cell? ⟨b, o + j, none⟩).isSome = true) (hf : ∀ j, j < cs.length → w.frozen? ⟨b, o + j, none⟩ = false) (h1 : ∀ v ∈ cs, v.oneCell' = true) :
    (Builtin.copy_ #[dT, sT] ty #[.slice (some ⟨b, o, none⟩) dLen dCap, .slice (some a) sLen sCap]).run P w = .ok (goInt (Nat.min sLen dLen)) (w.setCells b o cs) := by
  have hl := run_loadCells_list (P := P) w a cs hsrc
  have hst := run_storeCells_cells (P := P) b o cs 0 w (by simpa using hc) (by simpa using hf) h1
  cases hq : P.info? elem with
  | none => simp [hq] at hs
  | some i =>
    have hi : i.size = sz := by simpa [hq] using hs
    simp [Builtin.copy_, run_underlying hu, Builtin.lenOf, Builtin.firstCells, sizeOf, typeInfo, hq, hi, ← hn, hl, hst]
theorem wpList_copy_cellsN {P : Program} {w : World} {ops : Array Oper} {rest : List Oper} {o : Oper} {a : Act} {Q : Exit → Act → World → Prop} (hgd : o.guard = none) (d s : Operand) (dT sT : TypeId)
    (ho : o.op = .call { callee := .builtin .copy, args := #[d, s], argTypes := #[dT, sT] }) (elem : TypeId) (sz : Nat) (hu : P.underlying dT = some (.slice elem)) (hsz : (P.info? elem).map (·.size) = some sz)
    (g off dLen dCap : Nat) (ad : Addr) (sLen sCap : Nat) (hd : a.eval d = .slice (some ⟨g, off, none⟩) dLen dCap) (hs : a.eval s = .slice (some ad) sLen sCap) (cs : List Value) (m : Nat) (hm : Nat.min sLen dLen = m) (hn : cs.length = m * sz)
    (hsrc : ∀ j v, cs[j]? = some v → w.cell? (ad.add j) = some v) (hth : w.there g off cs.length) (h1 : ∀ v ∈ cs, v.oneCell' = true)
    (h : wpList P ops Q rest (a.put o.dst (goInt m)) (w.setCells g off cs)) : wpList P ops Q (o :: rest) a w := by
  subst hm
  refine wpList_plain hgd fun K hK => ?_
  have hrun := run_copy_cellsN (P := P) w dT sT o.type elem g off dLen dCap ad sLen sCap sz cs hu hsz hn hsrc (fun j hj => (hth j hj).1) (fun j hj => (hth j hj).2) h1
  unfold Oper.wp
  simp [execOp, ho, resolve, invoke, builtin, hd, hs, hrun, Result.andThen]
  exact hK _ _ h
theorem src_of {w : World} {b : Nat} {l : List Value} (h : w.rangeAt b 0 l) : ∀ j v, l[j]? = some v → w.cell? ((⟨b, 0, none⟩ : Addr).add j) = some v := fun j v hv => by
  have e : (⟨b, 0, none⟩ : Addr).add j = ⟨b, 0 + j, none⟩ := by unfold Addr.add; split <;> simp_all
  rw [e]
  exact h j v hv
end Go.Proofs.YtgdomaddjiggaaaGreat
