/- Models of the gate package's data in plain Lean, and small facts on worlds. -/
import Derived.Test.YtgdomaddjiggaaaGreatRows
import Derived.WalkKit
import Derived.WalkSpells
import Derived.WalkLawsBesides
import Derived.Deep.Draws
import Derived.Lib.Hide
import Derived.Deep.RegionHeld3
import Derived.Deep.QuietTactic
import Derived.BigQuiet
namespace Go.Proofs.YtgdomaddjiggaaaGreat
open Go.RowKit

theorem block_of_add (a : Addr) (n : Nat) : (a.add n).block = a.block := by unfold Addr.add; split <;> rfl
theorem add_of_add (a : Addr) (i j : Nat) : (a.add i).add j = a.add (i + j) := by
  unfold Addr.add
  by_cases hi : i = 0 <;> by_cases hj : j = 0 <;> simp [hi, hj, Nat.add_assoc]
theorem below_drewN {B : Nat} {a w : World} (h : Below B a w) (n : Nat) : Below B a (w.drewN n) := ⟨h.os, h.tape, h.output, h.size, h.block⟩
theorem bcell {W w1 : World} (hb : Below W.heap.size W w1) : (∀ b o, b < W.heap.size → w1.cell? ⟨b, o, none⟩ = W.cell? ⟨b, o, none⟩) ∧ (∀ b o, b < W.heap.size → w1.frozen? ⟨b, o, none⟩ = W.frozen? ⟨b, o, none⟩) :=
  ⟨fun b o h => hb.cell (p := ⟨b, o, none⟩) h, fun b o h => hb.frozen (p := ⟨b, o, none⟩) h⟩
/-- Two steps, each of which keeps what was there when it began. -/
theorem thru {a b c : World} (h : Below a.heap.size a b) (k : Below b.heap.size b c) : Below a.heap.size a c := h.trans (k.mono h.size)

theorem below_thru {B B' : Nat} {a b c : World} (h : Below B a b) (k : Below B' b c) (hB : B ≤ B') : Below B a c := h.trans (k.mono hB)

theorem keep_set {w : World} {a p : Addr} {v u : Value} (h : w.cell? p = some u) (hne : p.block ≠ a.block) : (w.setCell a v).cell? p = some u :=
  (World.cell?_setCell_other w a p v (fun e => hne (by rw [e]))).trans h
theorem keep_drew {w : World} {p : Addr} {u : Value} (h : w.cell? p = some u) : w.drew.cell? p = some u := h
theorem keep_new {w : World} {p : Addr} {u : Value} (h : w.cell? p = some u) (o : Obj) : (w.alloc o).cell? p = some u :=
  (World.cell?_alloc_some w p o (by rw [h]; rfl)).trans h

/-- A block that is known whole. -/
def Blk (w : World) (g : Nat) (t : TypeId) (cs : Array Value) : Prop := w.heap[g]? = some (.cells cs t (0, 0))
section
variable {w w' : World} {g : Nat} {t : TypeId} {cs : Array Value}
theorem Blk.lt (h : Blk w g t cs) : g < w.heap.size := by
  rcases Nat.lt_or_ge g w.heap.size with hlt | hge
  · exact hlt
  · unfold Blk at h; rw [Array.getElem?_eq_none hge] at h; cases h
theorem Blk.cell (h : Blk w g t cs) (i : Nat) : w.cell? ⟨g, i, none⟩ = cs[i]? := cell_of_row w g i cs t (0, 0) h
theorem Blk.frozen (h : Blk w g t cs) (i : Nat) : w.frozen? ⟨g, i, none⟩ = false := by
  unfold Blk at h
  simp [World.frozen?, h]
theorem Blk.new (w : World) (t : TypeId) (cs : Array Value) : Blk (w.alloc (.cells cs t)) w.heap.size t cs := heap_alloc_new w _
theorem Blk.new' (w : World) {g : Nat} (t : TypeId) (cs : Array Value) (h : w.heap.size = g) : Blk (w.alloc (.cells cs t)) g t cs := h ▸ Blk.new w t cs
theorem Blk.drew (h : Blk w g t cs) : Blk w.drew g t cs := h
theorem Blk.alloc (h : Blk w g t cs) (o : Obj) : Blk (w.alloc o) g t cs := (Below.heap_alloc w o g h.lt).trans h
theorem Blk.set_ (h : Blk w g t cs) (i : Nat) (u : Value) : Blk (w.setCell ⟨g, i, none⟩ u) g t (cs.setIfInBounds i u) := by
  unfold Blk at h ⊢
  simp [World.setCell, Array.getElem?_modify, h]
theorem Blk.far (h : Blk w g t cs) {p : Addr} (hp : g ≠ p.block) (u : Value) : Blk (w.setCell p u) g t cs := (Below.heap_setCell w p u g hp).trans h
theorem Blk.two {a b : Value} (h : Blk w g t #[a, b]) : w.cell? ⟨g, 0, none⟩ = some a ∧ w.cell? ⟨g, 1, none⟩ = some b ∧ w.frozen? ⟨g, 0, none⟩ = false ∧ w.frozen? ⟨g, 1, none⟩ = false := ⟨h.cell 0, h.cell 1, h.frozen 0, h.frozen 1⟩
theorem Blk.three {a b c : Value} (h : Blk w g t #[a, b, c]) : w.cell? ⟨g, 0, none⟩ = some a ∧ w.cell? ⟨g, 1, none⟩ = some b ∧ w.cell? ⟨g, 2, none⟩ = some c ∧ w.frozen? ⟨g, 0, none⟩ = false ∧ w.frozen? ⟨g, 1, none⟩ = false ∧ w.frozen? ⟨g, 2, none⟩ = false := ⟨h.cell 0, h.cell 1, h.cell 2, h.frozen 0, h.frozen 1, h.frozen 2⟩
theorem Blk.five {a b c d e : Value} (h : Blk w g t #[a, b, c, d, e]) : w.cell? ⟨g, 0, none⟩ = some a ∧ w.cell? ⟨g, 1, none⟩ = some b ∧ w.cell? ⟨g, 2, none⟩ = some c ∧ w.cell? ⟨g, 3, none⟩ = some d ∧ w.cell? ⟨g, 4, none⟩ = some e := ⟨h.cell 0, h.cell 1, h.cell 2, h.cell 3, h.cell 4⟩
theorem Blk.thru {a : World} {B : Nat} (h : Blk w g t cs) (hb : Below B w a) (hg : g < B) : Blk a g t cs := (hb.block g hg).trans h
theorem Blk.below {B : Nat} (h : Blk w g t cs) (hb : Below B w w') (hg : g < B) : Blk w' g t cs := (hb.block g hg).trans h
end

abbrev vi (n : Int) : Value := .int .i64 n
structure Ft where
  part : Int
  at_ : Int
  e : Int
abbrev Ft.v (f : Ft) : Value := .agg #[.int .i64 f.part, .int .i64 f.at_, .int .i64 f.e]
def betw (x lo hi : Int) : Bool := decide (lo ≤ x) && decide (x ≤ hi)
def levelB (x : Int) : Bool := betw x (-20000) 20000
def levels2B (a b : Int) : Bool := levelB a && levelB b
def need (b : Bool) (c : Int) : Ft := if b then ⟨0, 0, 0⟩ else ⟨0, 0, c⟩
/-- The fault as one in a part (whatever it is). -/
def Ft.in_ (f : Ft) (p : Int) : Ft := ⟨p, f.at_, f.e⟩
/-- The first fault of a list of checks. -/
def firstF : List Ft → Ft
  | [] => ⟨0, 0, 0⟩
  | f :: l => if f.e = 0 then firstF l else f
/-- The first fault of the numbers from i on, n of them. -/
def eachF (c : Nat → Ft) : Nat → Nat → Ft
  | _, 0 => ⟨0, 0, 0⟩
  | i, n + 1 => if (c i).e = 0 then eachF c (i + 1) n else ⟨(c i).part, i, (c i).e⟩

/-- A sensor, a gate, a state, a step, what came of one, a rule. -/
structure Sn where
  kind : Int
  at_ : Int
  tol : Int
abbrev Sn.cells (s : Sn) : List Value := [vi s.kind, vi s.at_, vi s.tol]
structure Ga where
  name : ByteArray
  kind : Int
  travel : Int
  oA : Option Addr
  on : Nat
  oc : Nat
  os : List Int
  opn : Int
  shut : Int
  height : Int
  float : Int
  push : Int
  slide : Int
  sealN : Int
  drive : Int
  brake : Int
  speed : Int
  gravity : Int
  use : Int
  pump : Int
  capacity : Int
  slack : Int
  sA : Option Addr
  sn : Nat
  sc : Nat
  ss : List Sn
  wrong : Int
abbrev Ga.cells (g : Ga) : List Value := [.string g.name, .int .i64 g.kind, .int .i64 g.travel, .slice g.oA g.on g.oc, .int .i64 g.opn, .int .i64 g.shut, .int .i64 g.height, .int .i64 g.float, .int .i64 g.push, .int .i64 g.slide, .int .i64 g.sealN, .int .i64 g.drive, .int .i64 g.brake, .int .i64 g.speed, .int .i64 g.gravity, .int .i64 g.use, .int .i64 g.pump, .int .i64 g.capacity, .int .i64 g.slack, .slice g.sA g.sn g.sc, .int .i64 g.wrong]
abbrev Ga.v (g : Ga) : Value := .agg #[.string g.name, .int .i64 g.kind, .int .i64 g.travel, .slice g.oA g.on g.oc, .int .i64 g.opn, .int .i64 g.shut, .int .i64 g.height, .int .i64 g.float, .int .i64 g.push, .int .i64 g.slide, .int .i64 g.sealN, .int .i64 g.drive, .int .i64 g.brake, .int .i64 g.speed, .int .i64 g.gravity, .int .i64 g.use, .int .i64 g.pump, .int .i64 g.capacity, .int .i64 g.slack, .slice g.sA g.sn g.sc, .int .i64 g.wrong]
structure Gs where
  pos : Int
  charge : Int
  bolted : Bool
abbrev Gs.cells (s : Gs) : List Value := [.int .i64 s.pos, .int .i64 s.charge, .bool s.bolted]
abbrev Gs.v (s : Gs) : Value := .agg #[.int .i64 s.pos, .int .i64 s.charge, .bool s.bolted]
structure Gt where
  order : Int
  power : Bool
  outer : Int
  inner : Int
abbrev Gt.cells (t : Gt) : List Value := [.int .i64 t.order, .bool t.power, .int .i64 t.outer, .int .i64 t.inner]
abbrev Gt.v (t : Gt) : Value := .agg #[.int .i64 t.order, .bool t.power, .int .i64 t.outer, .int .i64 t.inner]
structure Gm where
  refused : Int
  moved : Int
  oil : Int
abbrev Gm.cells (m : Gm) : List Value := [.int .i64 m.refused, .int .i64 m.moved, .int .i64 m.oil]
abbrev Gm.v (m : Gm) : Value := .agg #[.int .i64 m.refused, .int .i64 m.moved, .int .i64 m.oil]
structure Gr where
  gate : Int
  other : Int
  lo : Int
  hi : Int
abbrev Gr.cells (r : Gr) : List Value := [.int .i64 r.gate, .int .i64 r.other, .int .i64 r.lo, .int .i64 r.hi]
/-- A machine: a gate and its state. -/
abbrev mcells (g : Ga) (s : Gs) : List Value := g.cells ++ s.cells
abbrev mv (g : Ga) (s : Gs) : Value := .agg #[.string g.name, .int .i64 g.kind, .int .i64 g.travel, .slice g.oA g.on g.oc, .int .i64 g.opn, .int .i64 g.shut, .int .i64 g.height, .int .i64 g.float, .int .i64 g.push, .int .i64 g.slide, .int .i64 g.sealN, .int .i64 g.drive, .int .i64 g.brake, .int .i64 g.speed, .int .i64 g.gravity, .int .i64 g.use, .int .i64 g.pump, .int .i64 g.capacity, .int .i64 g.slack, .slice g.sA g.sn g.sc, .int .i64 g.wrong, .int .i64 s.pos, .int .i64 s.charge, .bool s.bolted]

/-- What is right with a gate, as Check says it. -/
def suitsB (force kind : Int) : Bool := decide (force = 0) || (decide (0 < force) && decide (kind = 2)) || (decide (force < 0) && decide (kind = 3))
def numsB (g : Ga) : Bool :=
  levels2B g.opn g.shut && betw g.height 1 30000 && betw g.float 0 10000 && betw g.push (-10000) 10000 && betw g.slide 0 10000 && betw g.sealN 0 200000 && betw g.drive 0 200000 && betw g.brake 0 200000
    && betw g.speed 1 100 && betw g.gravity 1 100 && betw g.use 0 100000 && betw g.pump 0 100000 && betw g.capacity 0 100000 && betw g.slack 0 ((g.travel - 1) / 2)

/-- The forces on a gate at a position. -/
def ownF (g : Ga) (p : Int) : Int :=
  if p = g.travel then g.os.getD (g.on - 1) 0
  else (g.os.getD (p * (g.on - 1) / g.travel).toNat 0 * (g.travel - p * (g.on - 1) % g.travel) + g.os.getD ((p * (g.on - 1) / g.travel).toNat + 1) 0 * (p * (g.on - 1) % g.travel)) / g.travel
def edgeF (g : Ga) (p : Int) : Int := (g.opn * (g.travel - p) + g.shut * p) / g.travel
def underF (g : Ga) (p level : Int) : Int := min (max (level - edgeF g p) 0) g.height
def liftF (g : Ga) (p outer inner : Int) : Int := g.float * underF g p (min outer inner) / 1000
def netF (g : Ga) (p outer inner : Int) : Int := ownF g p + (if g.kind = 3 then liftF g p outer inner else -liftF g p outer inner) + g.push * (outer - inner) / 1000
def rubF (g : Ga) (p outer inner : Int) : Int := g.sealN + -(-(g.slide * max (outer - inner) (-(outer - inner)) * underF g p (max outer inner)) / 1000000)
/-- How far a gate goes, and with how much oil. -/
def reachF (g : Ga) (s : Gs) : Int := if g.use = 0 then g.travel else s.charge * 100 / g.use
def driveF (g : Ga) (s : Gs) (left : Int) : Int := min (min g.speed left) (reachF g s)
def advF (g : Ga) (s : Gs) (force rub left : Int) (power : Bool) : Int × Int :=
  if rub < force then (min g.gravity left, 0)
  else if power = true ∧ rub < force + g.drive then (driveF g s left, -(-(driveF g s left * g.use) / 100)) else (0, 0)
def closeF (g : Ga) (s : Gs) (t : Gt) : Int × Int := advF g s (netF g s.pos t.outer t.inner) (rubF g s.pos t.outer t.inner) (g.travel - s.pos) t.power
def openF (g : Ga) (s : Gs) (t : Gt) : Int × Int :=
  (-(advF g s (-netF g s.pos t.outer t.inner) (rubF g s.pos t.outer t.inner) s.pos t.power).1, (advF g s (-netF g s.pos t.outer t.inner) (rubF g s.pos t.outer t.inner) s.pos t.power).2)
def holdF (g : Ga) (s : Gs) (t : Gt) : Int × Int :=
  if g.brake + rubF g s.pos t.outer t.inner < netF g s.pos t.outer t.inner then (min g.gravity (g.travel - s.pos), 0)
  else if g.brake + rubF g s.pos t.outer t.inner < -netF g s.pos t.outer t.inner then (-min g.gravity s.pos, 0) else (0, 0)
def orderF (g : Ga) (s : Gs) (t : Gt) : Int × Int := if t.order = 1 then closeF g s t else if t.order = 2 then openF g s t else holdF g s t
/-- The step as it is done: held if the order is refused. -/
def doneF (g : Ga) (s : Gs) (t : Gt) (refused : Int) : Int × Int := if s.bolted = true then (0, 0) else orderF g s (if refused = 0 then t else { t with order := 0 })
def afterF (g : Ga) (s : Gs) (t : Gt) (refused : Int) : Gs :=
  ⟨s.pos + (doneF g s t refused).1, if t.power = true then min (s.charge - (doneF g s t refused).2 + g.pump) g.capacity else s.charge - (doneF g s t refused).2, s.bolted⟩
def cameF (g : Ga) (s : Gs) (t : Gt) (refused : Int) : Gm := ⟨refused, (doneF g s t refused).1, (doneF g s t refused).2⟩
end Go.Proofs.YtgdomaddjiggaaaGreat
