/- The states of a set are written back, one after the other. -/
import Derived.Test.YtgdomaddjiggaaaGreatGtSetL
namespace Go.Proofs.YtgdomaddjiggaaaGreat
open Go.RowKit
set_option linter.unusedSimpArgs false
set_option linter.unusedVariables false

/-- The machines, the first k of them in their next states. -/
def newMs (ms : List (Ga × Gs)) (f : Nat → Gs) : Nat → List (Ga × Gs)
  | 0 => ms
  | k + 1 => match ms[k]? with
    | some m => (newMs ms f k).set k (m.1, f k)
    | none => newMs ms f k
theorem newMs_get (ms : List (Ga × Gs)) (f : Nat → Gs) : ∀ (k j : Nat), k ≤ j → (newMs ms f k)[j]? = ms[j]?
  | 0, _, _ => rfl
  | k + 1, j, h => by
    have ih := newMs_get ms f k j (by omega)
    unfold newMs
    split
    · rw [List.getElem?_set_ne (by omega)]; exact ih
    · exact ih
theorem newMs_len (ms : List (Ga × Gs)) (f : Nat → Gs) : ∀ k, (newMs ms f k).length = ms.length
  | 0 => rfl
  | k + 1 => by
    have ih := newMs_len ms f k
    unfold newMs
    split
    · rw [List.length_set]; exact ih
    · exact ih
theorem row_out (g : Ga) (s s' : Gs) : ∀ (j : Nat) (v : Value), j < 21 → (mrow g s').toList[j]? = some v → (mrow g s).toList[j]? = some v := by
  intro j v hj h
  have e : (mrow g s').toList.take 21 = (mrow g s).toList.take 21 := rfl
  have h1 : ((mrow g s').toList.take 21)[j]? = some v := by rw [List.getElem?_take, if_pos hj]; exact h
  rw [e, List.getElem?_take, if_pos hj] at h1
  exact h1
theorem row_in (g : Ga) (s' : Gs) : ∀ (j : Nat) (v : Value), 21 ≤ j → (mrow g s').toList[j]? = some v → s'.cells[j - 21]? = some v := by
  intro j v hj h
  have e : (mrow g s').toList.drop 21 = s'.cells := rfl
  rw [← e, List.getElem?_drop, show 21 + (j - 21) = j by omega]
  exact h
theorem Ms.there {w : World} {b : Nat} {ms : List (Ga × Gs)} (h : Ms w b ms) {k : Nat} (hk : k < ms.length) : w.there b (k * 24 + 21) 3 := fun j hj => by
  obtain ⟨m, hm⟩ : ∃ m, ms[k]? = some m := ⟨_, List.getElem?_eq_getElem hk⟩
  refine ⟨?_, h.fro _⟩
  have := (h.rng k m hm).isSome (21 + j) (by show 21 + j < 24; omega)
  rwa [show k * 24 + (21 + j) = k * 24 + 21 + j by omega] at this
theorem Ms.put {w : World} {b : Nat} {ms : List (Ga × Gs)} (h : Ms w b ms) {k : Nat} {m : Ga × Gs} (hk : ms[k]? = some m) (s' : Gs) : Ms (w.setCells b (k * 24 + 21) s'.cells) b (ms.set k (m.1, s')) := by
  have hlt := (List.getElem?_eq_some_iff.1 hk).1
  refine ⟨fun i q hq => ?_, fun o => by rw [World.frozen?_setCells]; exact h.fro o, by rw [size_sets]; exact h.lt⟩
  by_cases hik : i = k
  · subst hik
    rw [List.getElem?_set_self hlt] at hq
    cases hq
    intro j v hv
    by_cases hj : j < 21
    · rw [World.cell?_setCells_out b s'.cells (i * 24 + 21) w ⟨b, i * 24 + j, none⟩ (fun _ _ => .inl (by show i * 24 + j < i * 24 + 21; omega))]
      exact h.rng i m hk j v (row_out m.1 m.2 s' j v hj hv)
    · have hv' := row_in m.1 s' j v (by omega) hv
      have := World.rangeAt_setCells_same w b (i * 24 + 21) s'.cells (h.there hlt) (j - 21) v hv'
      rwa [show i * 24 + 21 + (j - 21) = i * 24 + j by omega] at this
  · rw [List.getElem?_set_ne (by omega)] at hq
    refine World.rangeAt_setCells_apart (h.rng i q hq) _ _ _ (.inr ?_)
    rcases Nat.lt_or_ge i k with hl | hl
    · left; show i * 24 + 24 ≤ k * 24 + 21; omega
    · right; show k * 24 + 21 + 3 ≤ i * 24; omega
theorem range_kept {w w' : World} {b o c : Nat} {l : List Value} (h : w.rangeAt b o l) (hb : w.grownBy w' (some c)) (hne : b ≠ c) : w'.rangeAt b o l := fun j v hv => hb.cell (a := ⟨b, o + j, none⟩) (h j v hv) (by simpa using hne)
theorem grownBy_sets {a w : World} {b : Nat} (h : a.grownBy w (some b)) (vs : List Value) (o : Nat) : a.grownBy (w.setCells b o vs) (some b) := by
  have hB := below_sets (b := b) (B := b) (Below.refl b w) (Nat.le_refl _) vs o
  refine ⟨hB.os.trans h.os, hB.tape.trans h.tape, hB.output.trans h.output, by rw [size_sets]; exact h.size, fun k hk hne => ?_⟩
  rw [← h.block k hk hne]
  have hkb : k ≠ b := by simpa using hne
  have : ∀ (vs : List Value) (o : Nat) (w : World), (w.setCells b o vs).heap[k]? = w.heap[k]? := by
    intro vs
    induction vs with
    | nil => intro o w; rfl
    | cons v r ih => intro o w; rw [World.setCells, ih]; exact Below.heap_setCell _ _ _ _ hkb
  exact this vs o w
theorem grownBy_drew {a w : World} {row : Option Nat} (h : a.grownBy w row) : a.grownBy w.drew row := ⟨h.os, h.tape, h.output, h.size, h.block⟩
theorem grownBy_refl (w : World) (row : Option Nat) : w.grownBy w row := ⟨rfl, rfl, rfl, Nat.le_refl _, fun _ _ _ => rfl⟩
end Go.Proofs.YtgdomaddjiggaaaGreat
