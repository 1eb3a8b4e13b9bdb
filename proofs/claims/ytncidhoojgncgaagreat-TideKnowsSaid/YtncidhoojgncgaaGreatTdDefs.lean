/- Models of the tide package's data in plain Lean, and small facts on worlds. -/
import Derived.Test.YtncidhoojgncgaaGreatRows
import Derived.WalkKit
import Derived.WalkSpells
import Derived.WalkLawsBesides
import Derived.Deep.Draws
import Derived.Lib.Hide
import Derived.Deep.RegionHeld3
import Derived.Deep.QuietTactic
import Derived.BigQuiet
namespace Go.Proofs.YtncidhoojgncgaaGreat
open Go.RowKit

theorem block_of_add (a : Addr) (n : Nat) : (a.add n).block = a.block := by unfold Addr.add; split <;> rfl
theorem add_of_add (a : Addr) (i j : Nat) : (a.add i).add j = a.add (i + j) := by
  unfold Addr.add
  by_cases hi : i = 0 <;> by_cases hj : j = 0 <;> simp [hi, hj, Nat.add_assoc]
theorem below_drewN {B : Nat} {a w : World} (h : Below B a w) (n : Nat) : Below B a (w.drewN n) := ⟨h.os, h.tape, h.output, h.size, h.block⟩
theorem bcell {W w1 : World} (hb : Below W.heap.size W w1) : (∀ b o, b < W.heap.size → w1.cell? ⟨b, o, none⟩ = W.cell? ⟨b, o, none⟩) ∧ (∀ b o, b < W.heap.size → w1.frozen? ⟨b, o, none⟩ = W.frozen? ⟨b, o, none⟩) :=
  ⟨fun b o h => hb.cell (p := ⟨b, o, none⟩) h, fun b o h => hb.frozen (p := ⟨b, o, none⟩) h⟩
/-- Two steps, each of which keeps what was there when it began. -/
theorem thru {a b c : World} (h : Below a.heap.size a b) (k : Below b.heap.size b c) : Below a.heap.size a c := h.trans (k.mono h.size)

theorem below_thru {B B' : Nat} {a b c : World} (h : Below B a b) (k : Below B' b c) (hB : B ≤ B') : Below B a c := h.trans (k.mono hB)

theorem keep_set {w : World} {a p : Addr} {v u : Value} (h : w.cell? p = some u) (hne : p.block ≠ a.block) : (w.setCell a v).cell? p = some u :=
  (World.cell?_setCell_other w a p v (fun e => hne (by rw [e]))).trans h
theorem keep_drew {w : World} {p : Addr} {u : Value} (h : w.cell? p = some u) : w.drew.cell? p = some u := h
theorem keep_new {w : World} {p : Addr} {u : Value} (h : w.cell? p = some u) (o : Obj) : (w.alloc o).cell? p = some u :=
  (World.cell?_alloc_some w p o (by rw [h]; rfl)).trans h

/-- A block that is known whole. -/
def Blk (w : World) (g : Nat) (t : TypeId) (cs : Array Value) : Prop := w.heap[g]? = some (.cells cs t (0, 0))
section
variable {w w' : World} {g : Nat} {t : TypeId} {cs : Array Value}
theorem Blk.lt (h : Blk w g t cs) : g < w.heap.size := by
  rcases Nat.lt_or_ge g w.heap.size with hlt | hge
  · exact hlt
  · unfold Blk at h; rw [Array.getElem?_eq_none hge] at h; cases h
theorem Blk.cell (h : Blk w g t cs) (i : Nat) : w.cell? ⟨g, i, none⟩ = cs[i]? := cell_of_row w g i cs t (0, 0) h
theorem Blk.frozen (h : Blk w g t cs) (i : Nat) : w.frozen? ⟨g, i, none⟩ = false := by
  unfold Blk at h
  simp [World.frozen?, h]
theorem Blk.new (w : World) (t : TypeId) (cs : Array Value) : Blk (w.alloc (.cells cs t)) w.heap.size t cs := heap_alloc_new w _
theorem Blk.new' (w : World) {g : Nat} (t : TypeId) (cs : Array Value) (h : w.heap.size = g) : Blk (w.alloc (.cells cs t)) g t cs := h ▸ Blk.new w t cs
theorem Blk.drew (h : Blk w g t cs) : Blk w.drew g t cs := h
theorem Blk.alloc (h : Blk w g t cs) (o : Obj) : Blk (w.alloc o) g t cs := (Below.heap_alloc w o g h.lt).trans h
theorem Blk.set_ (h : Blk w g t cs) (i : Nat) (u : Value) : Blk (w.setCell ⟨g, i, none⟩ u) g t (cs.setIfInBounds i u) := by
  unfold Blk at h ⊢
  simp [World.setCell, Array.getElem?_modify, h]
theorem Blk.far (h : Blk w g t cs) {p : Addr} (hp : g ≠ p.block) (u : Value) : Blk (w.setCell p u) g t cs := (Below.heap_setCell w p u g hp).trans h
theorem Blk.two {a b : Value} (h : Blk w g t #[a, b]) : w.cell? ⟨g, 0, none⟩ = some a ∧ w.cell? ⟨g, 1, none⟩ = some b ∧ w.frozen? ⟨g, 0, none⟩ = false ∧ w.frozen? ⟨g, 1, none⟩ = false := ⟨h.cell 0, h.cell 1, h.frozen 0, h.frozen 1⟩
theorem Blk.three {a b c : Value} (h : Blk w g t #[a, b, c]) : w.cell? ⟨g, 0, none⟩ = some a ∧ w.cell? ⟨g, 1, none⟩ = some b ∧ w.cell? ⟨g, 2, none⟩ = some c ∧ w.frozen? ⟨g, 0, none⟩ = false ∧ w.frozen? ⟨g, 1, none⟩ = false ∧ w.frozen? ⟨g, 2, none⟩ = false := ⟨h.cell 0, h.cell 1, h.cell 2, h.frozen 0, h.frozen 1, h.frozen 2⟩
theorem Blk.five {a b c d e : Value} (h : Blk w g t #[a, b, c, d, e]) : w.cell? ⟨g, 0, none⟩ = some a ∧ w.cell? ⟨g, 1, none⟩ = some b ∧ w.cell? ⟨g, 2, none⟩ = some c ∧ w.cell? ⟨g, 3, none⟩ = some d ∧ w.cell? ⟨g, 4, none⟩ = some e := ⟨h.cell 0, h.cell 1, h.cell 2, h.cell 3, h.cell 4⟩
theorem Blk.thru {a : World} {B : Nat} (h : Blk w g t cs) (hb : Below B w a) (hg : g < B) : Blk a g t cs := (hb.block g hg).trans h
theorem Blk.below {B : Nat} (h : Blk w g t cs) (hb : Below B w w') (hg : g < B) : Blk w' g t cs := (hb.block g hg).trans h
end

/-- An int, a span, and a fault as values. -/
abbrev vi (n : Int) : Value := .int .i64 n
structure Sp where
  lo : Int
  hi : Int
abbrev Sp.v (s : Sp) : Value := .agg #[.int .i64 s.lo, .int .i64 s.hi]
structure Ft where
  part : Int
  at_ : Int
  e : Int
abbrev Ft.v (f : Ft) : Value := .agg #[.int .i64 f.part, .int .i64 f.at_, .int .i64 f.e]

def betw (x lo hi : Int) : Bool := decide (lo ≤ x) && decide (x ≤ hi)
def tickB (x : Int) : Bool := betw x 0 200000
def levelB (x : Int) : Bool := betw x (-20000) 20000
def need (b : Bool) (c : Int) : Ft := if b then ⟨0, 0, 0⟩ else ⟨0, 0, c⟩
def Ft.in_ (f : Ft) (p : Int) : Ft := if f.e = 0 then f else ⟨p, f.at_, f.e⟩
/-- The first fault of a list of checks. -/
def firstF : List Ft → Ft
  | [] => ⟨0, 0, 0⟩
  | f :: l => if f.e = 0 then firstF l else f
/-- The first fault of the numbers from i on, n of them. -/
def eachF (c : Nat → Ft) : Nat → Nat → Ft
  | _, 0 => ⟨0, 0, 0⟩
  | i, n + 1 => if (c i).e = 0 then eachF c (i + 1) n else ⟨(c i).part, i, (c i).e⟩

def Sp.meet (s o : Sp) : Sp := ⟨max s.lo o.lo, min s.hi o.hi⟩
def Sp.plus (s o : Sp) : Sp := ⟨s.lo + o.lo, s.hi + o.hi⟩
def Sp.less (s o : Sp) : Sp := ⟨s.lo - o.hi, s.hi - o.lo⟩
def Sp.wider (s : Sp) (n : Int) : Sp := ⟨s.lo - n, s.hi + n⟩
def Sp.emptyB (s : Sp) : Bool := decide (s.hi < s.lo)
def Sp.withinB (s : Sp) (lo hi : Int) : Bool := !s.emptyB && (decide (lo ≤ s.lo) && decide (s.hi ≤ hi))
end Go.Proofs.YtncidhoojgncgaaGreat
