/- Stores of several cells into blocks that are known whole; two results that lie in memory. -/
import Derived.Test.YtgdomaddjiggaaaGreatGtMoves
import Derived.Deep.MidRow
namespace Go.Proofs.YtgdomaddjiggaaaGreat
open Go.RowKit
set_option linter.unusedSimpArgs false
set_option linter.unusedVariables false

def putRow (cs : Array Value) : Nat → List Value → Array Value
  | _, [] => cs
  | o, v :: r => putRow (cs.setIfInBounds o v) (o + 1) r
theorem blk_fars {g b : Nat} {t : TypeId} {cs : Array Value} (hne : g ≠ b) : ∀ (vs : List Value) (o : Nat) (w : World), Blk w g t cs → Blk (w.setCells b o vs) g t cs
  | [], _, _, h => h
  | v :: r, o, w, h => by
    rw [World.setCells]
    exact blk_fars hne r (o + 1) _ (h.far (p := ⟨b, o, none⟩) hne v)
theorem blk_sets {g : Nat} {t : TypeId} : ∀ (vs : List Value) (o : Nat) (w : World) (cs : Array Value), Blk w g t cs → Blk (w.setCells g o vs) g t (putRow cs o vs)
  | [], _, _, _, h => h
  | v :: r, o, w, cs, h => by
    rw [World.setCells, putRow]
    exact blk_sets r (o + 1) _ _ (h.set_ o v)
theorem below_sets' {b B : Nat} {a : World} (hB : B ≤ b) : ∀ (vs : List Value) (o : Nat) (w : World), Below B a w → Below B a (w.setCells b o vs)
  | [], _, _, h => h
  | v :: r, o, w, h => by
    rw [World.setCells]
    exact below_sets' hB r (o + 1) _ (Below.setCell h (p := ⟨b, o, none⟩) hB v)
section
variable {w : World} {g b : Nat} {t : TypeId} {cs : Array Value}
theorem Blk.fars (h : Blk w g t cs) (hne : g ≠ b) (vs : List Value) (o : Nat) : Blk (w.setCells b o vs) g t cs := blk_fars hne vs o w h
theorem Blk.sets (h : Blk w g t cs) (vs : List Value) (o : Nat) : Blk (w.setCells g o vs) g t (putRow cs o vs) := blk_sets vs o w cs h
theorem below_sets {B : Nat} {a : World} (h : Below B a w) (hB : B ≤ b) (vs : List Value) (o : Nat) : Below B a (w.setCells b o vs) := below_sets' hB vs o w h
theorem Blk.there (h : Blk w g t cs) {o n : Nat} (hn : o + n ≤ cs.size) : w.there g o n := fun j hj => by
  refine ⟨?_, h.frozen _⟩
  rw [h.cell]
  rw [Array.getElem?_eq_getElem (by omega)]; rfl
theorem Blk.range (h : Blk w g t cs) {o : Nat} {l : List Value} (hl : (cs.toList.drop o).take l.length = l) : w.rangeAt g o l := fun j v hv => by
  rw [h.cell]
  have hj := (List.getElem?_eq_some_iff.1 hv).1
  rw [← hl, List.getElem?_take, if_pos hj, List.getElem?_drop] at hv
  simpa using hv
end
theorem wanted_of {c : Bool} {p q : Prop} (h : c = true) (hp : p) : if c = true then p else q := by rw [if_pos h]; exact hp
theorem wp_region_held {P : Program} {Q : Exit → Act → World → Prop} {S : World → Prop} {l : List Oper} {id : Nat} {a : Act} {w : World} (hm : P.follows .mixedOrders = true) (hS : S w.drew)
    (h : S w.drew → wpAnyH P .any l.toArray Q S l.length (Array.replicate l.length false) a w.drew) : (Code.region id l.toArray true).wp P Q a w := by
  refine wp_region_any hm ?_
  have := wpAny_of_held _ _ _ _ (h hS)
  simpa using this
theorem ld_row {P : Program} {w : World} {g : Nat} {t ty : TypeId} {cs : Array Value} {fs : Array Field} (h : Blk w g t cs) (hu : P.underlying ty = some (.struct fs)) (hi : (P.info? ty).map (·.size) = some cs.size) :
    (loadVar ty ⟨g, 0, none⟩).run P w = .ok (.agg cs) w := run_loadVar_row w g t ty cs (0, 0) (.struct fs) h hu rfl hi
theorem results_rows2 {P : Program} {fn : Func} {p q : Tmp} {ty1 ty2 : TypeId} (h : fn.results = #[.cell p ty1, .cell q ty2]) (tmps : Array Value) {w : World} {g1 g2 : Nat} {t1 t2 : TypeId} {c1 c2 : Array Value} {f1 f2 : Array Field}
    (hp : tmps.getD p undef = .pointer (some ⟨g1, 0, none⟩)) (hq : tmps.getD q undef = .pointer (some ⟨g2, 0, none⟩)) (h1 : Blk w g1 t1 c1) (h2 : Blk w g2 t2 c2)
    (u1 : P.underlying ty1 = some (.struct f1)) (i1 : (P.info? ty1).map (·.size) = some c1.size) (u2 : P.underlying ty2 = some (.struct f2)) (i2 : (P.info? ty2).map (·.size) = some c2.size) :
    (results fn tmps).run P w = .ok (.tuple #[.agg c1, .agg c2]) w := by
  have hp' : tmps[p]?.getD undef = .pointer (some ⟨g1, 0, none⟩) := by simpa using hp
  have hq' : tmps[q]?.getD undef = .pointer (some ⟨g2, 0, none⟩) := by simpa using hq
  simp [results, h, hp', hq', asAddr, ld_row h1 u1 i1, ld_row h2 u2 i2]
end Go.Proofs.YtgdomaddjiggaaaGreat
