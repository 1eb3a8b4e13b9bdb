/- What a set does in step after step: models, and what is kept. -/
import Derived.Test.YtmepecplbfgakaaGreatGtStepT
import Derived.Test.YtmepecplbfgakaaGreatGtRepeat
import Derived.Test.YtmepecplbfgakaaGreatGtShut
namespace Go.Proofs.YtmepecplbfgakaaGreat
open Go.RowKit
set_option linter.unusedSimpArgs false
set_option linter.unusedVariables false

theorem grown_trans {a b c : World} {row : Option Nat} (h : a.grownBy b row) (k : b.grownBy c row) : a.grownBy c row :=
  ⟨k.os.trans h.os, k.tape.trans h.tape, k.output.trans h.output, Nat.le_trans h.size k.size, fun i hi hne => (k.block i (by have := h.size; omega) hne).trans (h.block i hi hne)⟩
theorem grown_of {a b : World} {row : Option Nat} (h : Below a.heap.size a b) : a.grownBy b row := ⟨h.os, h.tape, h.output, h.size, fun i hi _ => h.block i hi⟩
theorem Blk.kept {w w' : World} {g c : Nat} {t : TypeId} {cs : Array Value} (h : Blk w g t cs) (hg : w.grownBy w' (some c)) (hne : g ≠ c) : Blk w' g t cs := (hg.block g h.lt (by simp; omega)).trans h
theorem below_of_grown {w w' : World} {c B : Nat} (hg : w.grownBy w' (some c)) (hB : B ≤ c) (hz : B ≤ w.heap.size) : Below B w w' := ⟨hg.os, hg.tape, hg.output, hg.size, fun i hi => hg.block i (by omega) (by simp; omega)⟩
theorem Tab.of_range {w : World} {g B n size : Nat} {rows : List (List Value)} (h : w.rangeAt g 0 rows.flatten) (hg : g < B) (hn : rows.length = n) (hs : ∀ r ∈ rows, r.length = size) : Tab w B (some ⟨g, 0, none⟩) n size rows :=
  ⟨hn, fun _ => ⟨g, 0, rfl, hg, fun k r hr j v hv => by
    have := h (k * size + j) v (flat_get size rows hs k r j v hr hv)
    rwa [show 0 + k * size + j = 0 + (k * size + j) by omega]⟩⟩

/-- One step of a set, all of whose gates have the same step, with no ship there. -/
def sameB (n : Nat) : List Bool := List.replicate n false
def sameT (t : Gt) (n : Nat) : List Gt := List.replicate n t
def stepMs (ms : List (Ga × Gs)) (rs : List Gr) (rn : Nat) (t : Gt) (n : Nat) : List (Ga × Gs) := newMs ms (aftF ms rs rn (sameT t n) (sameB n)) n
def toShutF (rs : List Gr) (rn : Nat) (t : Gt) (n : Nat) : Nat → Nat → List (Ga × Gs) → Int × Int
  | 0, k, ms => if shutB ms n = true then ((k : Int), 0) else (0, 9)
  | f + 1, k, ms => if shutB ms n = true then ((k : Int), 0) else toShutF rs rn t n f (k + 1) (stepMs ms rs rn t n)
theorem newMs_all {p : Ga × Gs → Prop} {ms : List (Ga × Gs)} {f : Nat → Gs} (h : ∀ m ∈ ms, p m) : ∀ k, (∀ i m, i < k → ms[i]? = some m → p (m.1, f i)) → ∀ m ∈ newMs ms f k, p m
  | 0, _ => h
  | k + 1, h2 => by
    intro m hm
    unfold newMs at hm
    split at hm
    · rename_i q hq
      rcases List.mem_or_eq_of_mem_set hm with h3 | h3
      · exact newMs_all h k (fun i m hi hm => h2 i m (by omega) hm) m h3
      · rw [h3]; exact h2 k q (by omega) hq
    · exact newMs_all h k (fun i m hi hm => h2 i m (by omega) hm) m hm
/-- What is said of the machines of a set. -/
structure Right (w : World) (b : Nat) (ms : List (Ga × Gs)) (n : Nat) : Prop where
  len : ms.length = n
  at_ : ∀ m ∈ ms, m.1.At w b
  ok : ∀ m ∈ ms, m.1.Ok ∧ m.2.Ok m.1
theorem Right.step {w : World} {b : Nat} {ms : List (Ga × Gs)} {n : Nat} (h : Right w b ms n) (rs : List Gr) (rn : Nat) (t : Gt) : Right w b (stepMs ms rs rn t n) n := by
  refine ⟨by unfold stepMs; rw [newMs_len]; exact h.len, ?_, ?_⟩
  · exact newMs_all h.at_ n (fun i m _ hm => h.at_ m (List.mem_of_getElem? hm))
  · refine newMs_all h.ok n (fun i m hi hm => ?_)
    have ho := h.ok m (List.mem_of_getElem? hm)
    refine ⟨ho.1, ?_⟩
    unfold aftF
    rw [hm]
    have ht : (sameT t n)[i]? = some t := by unfold sameT; rw [List.getElem?_replicate, if_pos hi]
    have hb : (sameB n)[i]? = some false := by unfold sameB; rw [List.getElem?_replicate, if_pos hi]
    rw [ht, hb]
    exact after_ok ho.1 ho.2 t _
theorem Right.kept {w w' : World} {b : Nat} {ms : List (Ga × Gs)} {n : Nat} (h : Right w b ms n) (hb : Below b w w') : Right w' b ms n := ⟨h.len, fun m hm => (h.at_ m hm).below hb, h.ok⟩
end Go.Proofs.YtmepecplbfgakaaGreat
