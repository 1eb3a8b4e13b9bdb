/- Models of the gate package's data in plain Lean, and small facts on worlds. The small functions of package gate return what the plain models say, and leave memory as it was. 'first' and 'each' return the first fault of their checks. 'each' returns the first fault of the numbers below n, at its number. Rows of cells below a block; a gate, where it lies; its numbers in range. The mathematics of a gate's forces and ways: they are within bounds. The lower edge of a machine, how far its oil reaches, what drives it. The own force of a machine. A region that draws its order, and whose last operations wait for all the others: the first ones in whatever order, then the last ones one after the other. A region that draws its order, all of whose operations that are left only make memory: one proof for each operation, whatever the order. -/
import Derived.Test.YtmhfnnpbnocafaaGreatRows
import Derived.WalkKit
import Derived.WalkSpells
import Derived.WalkLawsBesides
import Derived.Deep.Draws
import Derived.Lib.Hide
import Derived.Deep.RegionHeld3
import Derived.Deep.QuietTactic
import Derived.BigQuiet
import Derived.StillTail
import Derived.Deep.RegionHeld
namespace Go.Proofs.YtmhfnnpbnocafaaGreat
open Go.RowKit

theorem block_of_add (a : Addr) (n : Nat) : (a.add n).block = a.block := by unfold Addr.add; split <;> rfl
theorem add_of_add (a : Addr) (i j : Nat) : (a.add i).add j = a.add (i + j) := by
  unfold Addr.add
  by_cases hi : i = 0 <;> by_cases hj : j = 0 <;> simp [hi, hj, Nat.add_assoc]
theorem below_drewN {B : Nat} {a w : World} (h : Below B a w) (n : Nat) : Below B a (w.drewN n) := ⟨h.os, h.tape, h.output, h.size, h.block⟩
theorem bcell {W w1 : World} (hb : Below W.heap.size W w1) : (∀ b o, b < W.heap.size → w1.cell? ⟨b, o, none⟩ = W.cell? ⟨b, o, none⟩) ∧ (∀ b o, b < W.heap.size → w1.frozen? ⟨b, o, none⟩ = W.frozen? ⟨b, o, none⟩) :=
  ⟨fun b o h => hb.cell (p := ⟨b, o, none⟩) h, fun b o h => hb.frozen (p := ⟨b, o, none⟩) h⟩
/-- Two steps, each of which keeps what was there when it began. -/
theorem thru {a b c : World} (h : Below a.heap.size a b) (k : Below b.heap.size b c) : Below a.heap.size a c := h.trans (k.mono h.size)

theorem below_thru {B B' : Nat} {a b c : World} (h : Below B a b) (k : Below B' b c) (hB : B ≤ B') : Below B a c := h.trans (k.mono hB)

theorem keep_set {w : World} {a p : Addr} {v u : Value} (h : w.cell? p = some u) (hne : p.block ≠ a.block) : (w.setCell a v).cell? p = some u :=
  (World.cell?_setCell_other w a p v (fun e => hne (by rw [e]))).trans h
theorem keep_drew {w : World} {p : Addr} {u : Value} (h : w.cell? p = some u) : w.drew.cell? p = some u := h
theorem keep_new {w : World} {p : Addr} {u : Value} (h : w.cell? p = some u) (o : Obj) : (w.alloc o).cell? p = some u :=
  (World.cell?_alloc_some w p o (by rw [h]; rfl)).trans h

/-- A block that is known whole. -/
def Blk (w : World) (g : Nat) (t : TypeId) (cs : Array Value) : Prop := w.heap[g]? = some (.cells cs t (0, 0))
section
variable {w w' : World} {g : Nat} {t : TypeId} {cs : Array Value}
theorem Blk.lt (h : Blk w g t cs) : g < w.heap.size := by
  rcases Nat.lt_or_ge g w.heap.size with hlt | hge
  · exact hlt
  · unfold Blk at h; rw [Array.getElem?_eq_none hge] at h; cases h
theorem Blk.cell (h : Blk w g t cs) (i : Nat) : w.cell? ⟨g, i, none⟩ = cs[i]? := cell_of_row w g i cs t (0, 0) h
theorem Blk.frozen (h : Blk w g t cs) (i : Nat) : w.frozen? ⟨g, i, none⟩ = false := by
  unfold Blk at h
  simp [World.frozen?, h]
theorem Blk.new (w : World) (t : TypeId) (cs : Array Value) : Blk (w.alloc (.cells cs t)) w.heap.size t cs := heap_alloc_new w _
theorem Blk.new' (w : World) {g : Nat} (t : TypeId) (cs : Array Value) (h : w.heap.size = g) : Blk (w.alloc (.cells cs t)) g t cs := h ▸ Blk.new w t cs
theorem Blk.drew (h : Blk w g t cs) : Blk w.drew g t cs := h
theorem Blk.alloc (h : Blk w g t cs) (o : Obj) : Blk (w.alloc o) g t cs := (Below.heap_alloc w o g h.lt).trans h
theorem Blk.set_ (h : Blk w g t cs) (i : Nat) (u : Value) : Blk (w.setCell ⟨g, i, none⟩ u) g t (cs.setIfInBounds i u) := by
  unfold Blk at h ⊢
  simp [World.setCell, Array.getElem?_modify, h]
theorem Blk.far (h : Blk w g t cs) {p : Addr} (hp : g ≠ p.block) (u : Value) : Blk (w.setCell p u) g t cs := (Below.heap_setCell w p u g hp).trans h
theorem Blk.two {a b : Value} (h : Blk w g t #[a, b]) : w.cell? ⟨g, 0, none⟩ = some a ∧ w.cell? ⟨g, 1, none⟩ = some b ∧ w.frozen? ⟨g, 0, none⟩ = false ∧ w.frozen? ⟨g, 1, none⟩ = false := ⟨h.cell 0, h.cell 1, h.frozen 0, h.frozen 1⟩
theorem Blk.three {a b c : Value} (h : Blk w g t #[a, b, c]) : w.cell? ⟨g, 0, none⟩ = some a ∧ w.cell? ⟨g, 1, none⟩ = some b ∧ w.cell? ⟨g, 2, none⟩ = some c ∧ w.frozen? ⟨g, 0, none⟩ = false ∧ w.frozen? ⟨g, 1, none⟩ = false ∧ w.frozen? ⟨g, 2, none⟩ = false := ⟨h.cell 0, h.cell 1, h.cell 2, h.frozen 0, h.frozen 1, h.frozen 2⟩
theorem Blk.five {a b c d e : Value} (h : Blk w g t #[a, b, c, d, e]) : w.cell? ⟨g, 0, none⟩ = some a ∧ w.cell? ⟨g, 1, none⟩ = some b ∧ w.cell? ⟨g, 2, none⟩ = some c ∧ w.cell? ⟨g, 3, none⟩ = some d ∧ w.cell? ⟨g, 4, none⟩ = some e := ⟨h.cell 0, h.cell 1, h.cell 2, h.cell 3, h.cell 4⟩
theorem Blk.thru {a : World} {B : Nat} (h : Blk w g t cs) (hb : Below B w a) (hg : g < B) : Blk a g t cs := (hb.block g hg).trans h
theorem Blk.below {B : Nat} (h : Blk w g t cs) (hb : Below B w w') (hg : g < B) : Blk w' g t cs := (hb.block g hg).trans h
end

abbrev vi (n : Int) : Value := .int .i64 n
structure Ft where
  part : Int
  at_ : Int
  e : Int
abbrev Ft.v (f : Ft) : Value := .agg #[.int .i64 f.part, .int .i64 f.at_, .int .i64 f.e]
def betw (x lo hi : Int) : Bool := decide (lo ≤ x) && decide (x ≤ hi)
def levelB (x : Int) : Bool := betw x (-20000) 20000
def levels2B (a b : Int) : Bool := levelB a && levelB b
def need (b : Bool) (c : Int) : Ft := if b then ⟨0, 0, 0⟩ else ⟨0, 0, c⟩
/-- The fault as one in a part (whatever it is). -/
def Ft.in_ (f : Ft) (p : Int) : Ft := ⟨p, f.at_, f.e⟩
/-- The first fault of a list of checks. -/
def firstF : List Ft → Ft
  | [] => ⟨0, 0, 0⟩
  | f :: l => if f.e = 0 then firstF l else f
/-- The first fault of the numbers from i on, n of them. -/
def eachF (c : Nat → Ft) : Nat → Nat → Ft
  | _, 0 => ⟨0, 0, 0⟩
  | i, n + 1 => if (c i).e = 0 then eachF c (i + 1) n else ⟨(c i).part, i, (c i).e⟩

/-- A sensor, a gate, a state, a step, what came of one, a rule. -/
structure Sn where
  kind : Int
  at_ : Int
  tol : Int
abbrev Sn.cells (s : Sn) : List Value := [vi s.kind, vi s.at_, vi s.tol]
structure Ga where
  name : ByteArray
  kind : Int
  travel : Int
  oA : Option Addr
  on : Nat
  oc : Nat
  os : List Int
  opn : Int
  shut : Int
  height : Int
  float : Int
  push : Int
  slide : Int
  sealN : Int
  drive : Int
  brake : Int
  speed : Int
  gravity : Int
  use : Int
  pump : Int
  capacity : Int
  slack : Int
  sA : Option Addr
  sn : Nat
  sc : Nat
  ss : List Sn
  wrong : Int
abbrev Ga.cells (g : Ga) : List Value := [.string g.name, .int .i64 g.kind, .int .i64 g.travel, .slice g.oA g.on g.oc, .int .i64 g.opn, .int .i64 g.shut, .int .i64 g.height, .int .i64 g.float, .int .i64 g.push, .int .i64 g.slide, .int .i64 g.sealN, .int .i64 g.drive, .int .i64 g.brake, .int .i64 g.speed, .int .i64 g.gravity, .int .i64 g.use, .int .i64 g.pump, .int .i64 g.capacity, .int .i64 g.slack, .slice g.sA g.sn g.sc, .int .i64 g.wrong]
abbrev Ga.v (g : Ga) : Value := .agg #[.string g.name, .int .i64 g.kind, .int .i64 g.travel, .slice g.oA g.on g.oc, .int .i64 g.opn, .int .i64 g.shut, .int .i64 g.height, .int .i64 g.float, .int .i64 g.push, .int .i64 g.slide, .int .i64 g.sealN, .int .i64 g.drive, .int .i64 g.brake, .int .i64 g.speed, .int .i64 g.gravity, .int .i64 g.use, .int .i64 g.pump, .int .i64 g.capacity, .int .i64 g.slack, .slice g.sA g.sn g.sc, .int .i64 g.wrong]
structure Gs where
  pos : Int
  charge : Int
  bolted : Bool
abbrev Gs.cells (s : Gs) : List Value := [.int .i64 s.pos, .int .i64 s.charge, .bool s.bolted]
abbrev Gs.v (s : Gs) : Value := .agg #[.int .i64 s.pos, .int .i64 s.charge, .bool s.bolted]
structure Gt where
  order : Int
  power : Bool
  outer : Int
  inner : Int
abbrev Gt.cells (t : Gt) : List Value := [.int .i64 t.order, .bool t.power, .int .i64 t.outer, .int .i64 t.inner]
abbrev Gt.v (t : Gt) : Value := .agg #[.int .i64 t.order, .bool t.power, .int .i64 t.outer, .int .i64 t.inner]
structure Gm where
  refused : Int
  moved : Int
  oil : Int
abbrev Gm.cells (m : Gm) : List Value := [.int .i64 m.refused, .int .i64 m.moved, .int .i64 m.oil]
abbrev Gm.v (m : Gm) : Value := .agg #[.int .i64 m.refused, .int .i64 m.moved, .int .i64 m.oil]
structure Gr where
  gate : Int
  other : Int
  lo : Int
  hi : Int
abbrev Gr.cells (r : Gr) : List Value := [.int .i64 r.gate, .int .i64 r.other, .int .i64 r.lo, .int .i64 r.hi]
/-- A machine: a gate and its state. -/
abbrev mcells (g : Ga) (s : Gs) : List Value := g.cells ++ s.cells
abbrev mv (g : Ga) (s : Gs) : Value := .agg #[.string g.name, .int .i64 g.kind, .int .i64 g.travel, .slice g.oA g.on g.oc, .int .i64 g.opn, .int .i64 g.shut, .int .i64 g.height, .int .i64 g.float, .int .i64 g.push, .int .i64 g.slide, .int .i64 g.sealN, .int .i64 g.drive, .int .i64 g.brake, .int .i64 g.speed, .int .i64 g.gravity, .int .i64 g.use, .int .i64 g.pump, .int .i64 g.capacity, .int .i64 g.slack, .slice g.sA g.sn g.sc, .int .i64 g.wrong, .int .i64 s.pos, .int .i64 s.charge, .bool s.bolted]

/-- What is right with a gate, as Check says it. -/
def suitsB (force kind : Int) : Bool := decide (force = 0) || (decide (0 < force) && decide (kind = 2)) || (decide (force < 0) && decide (kind = 3))
def numsB (g : Ga) : Bool :=
  levels2B g.opn g.shut && betw g.height 1 30000 && betw g.float 0 10000 && betw g.push (-10000) 10000 && betw g.slide 0 10000 && betw g.sealN 0 200000 && betw g.drive 0 200000 && betw g.brake 0 200000
    && betw g.speed 1 100 && betw g.gravity 1 100 && betw g.use 0 100000 && betw g.pump 0 100000 && betw g.capacity 0 100000 && betw g.slack 0 ((g.travel - 1) / 2)

/-- The forces on a gate at a position. -/
def ownF (g : Ga) (p : Int) : Int :=
  if p = g.travel then g.os.getD (g.on - 1) 0
  else (g.os.getD (p * (g.on - 1) / g.travel).toNat 0 * (g.travel - p * (g.on - 1) % g.travel) + g.os.getD ((p * (g.on - 1) / g.travel).toNat + 1) 0 * (p * (g.on - 1) % g.travel)) / g.travel
def edgeF (g : Ga) (p : Int) : Int := (g.opn * (g.travel - p) + g.shut * p) / g.travel
def underF (g : Ga) (p level : Int) : Int := min (max (level - edgeF g p) 0) g.height
def liftF (g : Ga) (p outer inner : Int) : Int := g.float * underF g p (min outer inner) / 1000
def netF (g : Ga) (p outer inner : Int) : Int := ownF g p + (if g.kind = 3 then liftF g p outer inner else -liftF g p outer inner) + g.push * (outer - inner) / 1000
def rubF (g : Ga) (p outer inner : Int) : Int := g.sealN + -(-(g.slide * max (outer - inner) (-(outer - inner)) * underF g p (max outer inner)) / 1000000)
/-- How far a gate goes, and with how much oil. -/
def reachF (g : Ga) (s : Gs) : Int := if g.use = 0 then g.travel else s.charge * 100 / g.use
def driveF (g : Ga) (s : Gs) (left : Int) : Int := min (min g.speed left) (reachF g s)
def advF (g : Ga) (s : Gs) (force rub left : Int) (power : Bool) : Int × Int :=
  if rub < force then (min g.gravity left, 0)
  else if power = true ∧ rub < force + g.drive then (driveF g s left, -(-(driveF g s left * g.use) / 100)) else (0, 0)
def closeF (g : Ga) (s : Gs) (t : Gt) : Int × Int := advF g s (netF g s.pos t.outer t.inner) (rubF g s.pos t.outer t.inner) (g.travel - s.pos) t.power
def openF (g : Ga) (s : Gs) (t : Gt) : Int × Int :=
  (-(advF g s (-netF g s.pos t.outer t.inner) (rubF g s.pos t.outer t.inner) s.pos t.power).1, (advF g s (-netF g s.pos t.outer t.inner) (rubF g s.pos t.outer t.inner) s.pos t.power).2)
def holdF (g : Ga) (s : Gs) (t : Gt) : Int × Int :=
  if g.brake + rubF g s.pos t.outer t.inner < netF g s.pos t.outer t.inner then (min g.gravity (g.travel - s.pos), 0)
  else if g.brake + rubF g s.pos t.outer t.inner < -netF g s.pos t.outer t.inner then (-min g.gravity s.pos, 0) else (0, 0)
def orderF (g : Ga) (s : Gs) (t : Gt) : Int × Int := if t.order = 1 then closeF g s t else if t.order = 2 then openF g s t else holdF g s t
/-- The step as it is done: held if the order is refused. -/
def doneF (g : Ga) (s : Gs) (t : Gt) (refused : Int) : Int × Int := if s.bolted = true then (0, 0) else orderF g s (if refused = 0 then t else { t with order := 0 })
def afterF (g : Ga) (s : Gs) (t : Gt) (refused : Int) : Gs :=
  ⟨s.pos + (doneF g s t refused).1, if t.power = true then min (s.charge - (doneF g s t refused).2 + g.pump) g.capacity else s.charge - (doneF g s t refused).2, s.bolted⟩
def cameF (g : Ga) (s : Gs) (t : Gt) (refused : Int) : Gm := ⟨refused, (doneF g s t refused).1, (doneF g s t refused).2⟩
end Go.Proofs.YtmhfnnpbnocafaaGreat

namespace Go.Proofs.YtmhfnnpbnocafaaGreat
open Go.RowKit
set_option linter.unusedSimpArgs false
set_option linter.unusedVariables false

set_option maxHeartbeats 400000 in
theorem between_any (x lo hi : Int) (w : World) :
    Calls Tryz.prog 42 #[.int .i64 x, .int .i64 lo, .int .i64 hi] w fun e w' => e = .returned (.bool (betw x lo hi)) ∧ w = w' := by
  by_cases h1 : lo ≤ x
  · by_cases h2 : x ≤ hi
    all_goals
      go_enter Tryz.func42, Tryz.ntmps42
      go_wp2
      go_ret
      exact ⟨by simp [betw, h1, h2], rfl⟩
  · have h1' : decide (lo ≤ x) = false := by simpa using h1
    go_enter Tryz.func42, Tryz.ntmps42
    go_wp2
    go_ret
    exact ⟨by simp [betw, h1'], rfl⟩
theorem bet_is (x lo hi : Int) (b : Bool) (h : betw x lo hi = b) : ∀ W : World, Calls Tryz.prog 42 #[.int .i64 x, .int .i64 lo, .int .i64 hi] W fun e w' => e = .returned (.bool b) ∧ W = w' := fun W => by
  subst h; exact between_any x lo hi W

theorem need_any (b : Bool) (c : Int) (w : World) :
    Calls Tryz.prog 35 #[.bool b, .int .i64 c] w fun e w' => e = .returned (need b c).v ∧ Below w.heap.size w w' := by
  cases b
  · go_enter Tryz.func35, Tryz.ntmps35
    go_wp2
    exact bodyPost_ret (v := Ft.v ⟨0, 0, c⟩) (by simp [results, Tryz.results35, go_sem] <;> omega) rfl ⟨by simp [need], (by repeat (first | exact Below.refl _ _ | assumption | (refine Below.setCell ?_ (by first | omega | (simp; done) | (simp; omega)) _) | (refine Below.alloc ?_ (by first | omega | (simp; done) | (simp; omega)) _) | refine Below.drew ?_ | (refine below_thru ?_ (by assumption) (by first | omega | (simp; done) | (simp; omega))) | refine below_drewN ?_ _))⟩
  · go_enter Tryz.func35, Tryz.ntmps35
    go_wp2
    exact bodyPost_ret (v := Ft.v ⟨0, 0, 0⟩) (by simp [results, Tryz.results35, go_sem] <;> omega) rfl ⟨by simp [need], (by repeat (first | exact Below.refl _ _ | assumption | (refine Below.setCell ?_ (by first | omega | (simp; done) | (simp; omega)) _) | (refine Below.alloc ?_ (by first | omega | (simp; done) | (simp; omega)) _) | refine Below.drew ?_ | (refine below_thru ?_ (by assumption) (by first | omega | (simp; done) | (simp; omega))) | refine below_drewN ?_ _))⟩

theorem fault_in_any (f : Ft) (p : Int) (w : World) :
    Calls Tryz.prog 66 #[f.v, .int .i64 p] w fun e w' => e = .returned (f.in_ p).v ∧ Below w.heap.size w w' := by
  obtain ⟨a, b, c⟩ := f
  go_enter Tryz.func66, Tryz.ntmps66
  go_wp2
  exact bodyPost_ret (v := Ft.v ⟨p, b, c⟩) (by simp [results, Tryz.results66, go_sem] <;> omega) rfl ⟨by simp [Ft.in_], (by repeat (first | exact Below.refl _ _ | assumption | (refine Below.setCell ?_ (by first | omega | (simp; done) | (simp; omega)) _) | (refine Below.alloc ?_ (by first | omega | (simp; done) | (simp; omega)) _) | refine Below.drew ?_ | (refine below_thru ?_ (by assumption) (by first | omega | (simp; done) | (simp; omega))) | refine below_drewN ?_ _))⟩

theorem areLevels_any (a b : Int) (w : World) :
    Calls Tryz.prog 99 #[.int .i64 a, .int .i64 b] w fun e w' => e = .returned (.bool (levels2B a b)) ∧ w = w' := by
  have key : ∀ e1 e2 : Bool, levelB a = e1 → levelB b = e2 → Calls Tryz.prog 99 #[.int .i64 a, .int .i64 b] w fun e w' => e = .returned (.bool (e1 && e2)) ∧ w = w' := by
    intro e1 e2 h1 h2
    have H1 := Lib.hid (bet_is a (-20000) 20000 e1 h1)
    have H2 := Lib.hid (bet_is b (-20000) 20000 e2 h2)
    clear h1 h2
    cases e1
    · go_enter Tryz.func99, Tryz.ntmps99
      go_wp2_with fail
      refine (H1.out _).mono ?_
      rintro e w1 ⟨rfl, rfl⟩
      go_wp2
      go_ret
      exact ⟨rfl, rfl⟩
    · go_enter Tryz.func99, Tryz.ntmps99
      go_wp2_with fail
      refine (H1.out _).mono ?_
      rintro e w1 ⟨rfl, rfl⟩
      go_wp2_with fail
      refine (H2.out _).mono ?_
      rintro e w1 ⟨rfl, rfl⟩
      go_wp2
      go_ret
      exact ⟨rfl, rfl⟩
  exact key _ _ rfl rfl
theorem levels_is (x y : Int) (b : Bool) (h : levels2B x y = b) : ∀ W : World, Calls Tryz.prog 99 #[.int .i64 x, .int .i64 y] W fun e w' => e = .returned (.bool b) ∧ W = w' := fun W => by
  subst h; exact areLevels_any x y W

theorem div_of_t {a b : Int} (hb : 0 < b) : a / b = if a.tmod b < 0 then a.tdiv b - 1 else a.tdiv b := by
  have h1 := Int.mul_tdiv_add_tmod a b
  have h2 : a.tmod b < b := Int.tmod_lt_of_pos a hb
  have h3 : -b < a.tmod b := Int.lt_tmod_of_pos a hb
  split
  · have e : a.tmod b + b + b * (a.tdiv b - 1) = a := by rw [Int.mul_sub, Int.mul_one]; omega
    exact ((Int.ediv_emod_unique hb).2 ⟨e, by omega, by omega⟩).1
  · have e : a.tmod b + b * a.tdiv b = a := by omega
    exact ((Int.ediv_emod_unique hb).2 ⟨e, by omega, by omega⟩).1
theorem tdiv_small {a b : Int} (hb : 0 < b) (h0 : -4000000000000000000 ≤ a) (h1 : a ≤ 4000000000000000000) : -4000000000000000000 ≤ a.tdiv b ∧ a.tdiv b ≤ 4000000000000000000 := by
  have e := Int.natAbs_tdiv_le_natAbs a b
  omega

theorem floorDiv_any (a b : Int) (w : World) (hb : 0 < b) (h0 : -4000000000000000000 ≤ a) (h1 : a ≤ 4000000000000000000) :
    Calls Tryz.prog 100 #[.int .i64 a, .int .i64 b] w fun e w' => e = .returned (.int .i64 (a / b)) ∧ w = w' := by
  have hd := div_of_t (a := a) hb
  obtain ⟨t0, t1⟩ := tdiv_small hb h0 h1
  have hz : ¬ b = 0 := by omega
  have hm : ¬ b = -1 := by omega
  by_cases hr : a.tmod b < 0
  · rw [if_pos hr] at hd
    have Hd := Lib.hid hd; clear hd
    go_enter Tryz.func100, Tryz.ntmps100
    go_wp2
    go_ret
    exact ⟨by rw [Hd.out]; rfl, rfl⟩
  · rw [if_neg hr] at hd
    have Hd := Lib.hid hd; clear hd
    go_enter Tryz.func100, Tryz.ntmps100
    go_wp2
    go_ret
    exact ⟨by rw [Hd.out]; rfl, rfl⟩

theorem ceilDiv_any (a b : Int) (w : World) (hb : 0 < b) (h0 : -4000000000000000000 ≤ a) (h1 : a ≤ 4000000000000000000) :
    Calls Tryz.prog 96 #[.int .i64 a, .int .i64 b] w fun e w' => e = .returned (.int .i64 (-(-a / b))) ∧ w = w' := by
  obtain ⟨q0, q1⟩ : -4000000000000000001 ≤ -a / b ∧ -a / b ≤ 4000000000000000001 := by
    have hd := div_of_t (a := -a) hb
    have := tdiv_small (a := -a) hb (by omega) (by omega)
    rw [hd]
    split <;> omega
  have H := Lib.hid (fun W => floorDiv_any (-a) b W hb (by omega) (by omega))
  go_enter Tryz.func96, Tryz.ntmps96
  go_wp2_with fail
  refine (H.out _).mono ?_
  rintro e w1 ⟨rfl, rfl⟩
  go_wp2
  go_ret
  exact ⟨rfl, rfl⟩

theorem suits_any (f k : Int) (w : World) :
    Calls Tryz.prog 124 #[.int .i64 f, .int .i64 k] w fun e w' => e = .returned (.bool (suitsB f k)) ∧ w = w' := by
  rcases (show f = 0 ∨ (0 < f ∧ k = 2) ∨ (0 < f ∧ k ≠ 2) ∨ (f < 0 ∧ k = 3) ∨ (f < 0 ∧ k ≠ 3) by omega) with h | ⟨h, h2⟩ | ⟨h, h2⟩ | ⟨h, h2⟩ | ⟨h, h2⟩
  · subst h
    go_enter Tryz.func124, Tryz.ntmps124
    go_wp2
    go_ret
    exact ⟨by simp [suitsB], rfl⟩
  · subst h2
    have a0 : (f == 0) = false := by rw [beq_eq_false_iff_ne]; omega
    have hfin : suitsB f 2 = true := by simp [suitsB, h]
    have Hf := Lib.hid hfin; clear hfin
    go_enter Tryz.func124, Tryz.ntmps124
    go_wp2
    go_ret
    exact ⟨by rw [Hf.out]; rfl, rfl⟩
  · have a0 : (f == 0) = false := by rw [beq_eq_false_iff_ne]; omega
    have a1 : (k == 2) = false := by rw [beq_eq_false_iff_ne]; omega
    have a2 : decide (f < 0) = false := by rw [decide_eq_false_iff_not]; omega
    have hfin : suitsB f k = false := by simp [suitsB, h2]; omega
    have Hf := Lib.hid hfin; clear hfin
    go_enter Tryz.func124, Tryz.ntmps124
    go_wp2
    go_ret
    exact ⟨by rw [Hf.out]; rfl, rfl⟩
  · subst h2
    have a0 : (f == 0) = false := by rw [beq_eq_false_iff_ne]; omega
    have a2 : decide (0 < f) = false := by rw [decide_eq_false_iff_not]; omega
    have hfin : suitsB f 3 = true := by simp [suitsB, h]
    have Hf := Lib.hid hfin; clear hfin
    go_enter Tryz.func124, Tryz.ntmps124
    go_wp2
    go_ret
    exact ⟨by rw [Hf.out]; rfl, rfl⟩
  · have a0 : (f == 0) = false := by rw [beq_eq_false_iff_ne]; omega
    have a1 : (k == 3) = false := by rw [beq_eq_false_iff_ne]; omega
    have a2 : decide (0 < f) = false := by rw [decide_eq_false_iff_not]; omega
    have hfin : suitsB f k = false := by simp [suitsB, h2]; omega
    have Hf := Lib.hid hfin; clear hfin
    go_enter Tryz.func124, Tryz.ntmps124
    go_wp2
    go_ret
    exact ⟨by rw [Hf.out]; rfl, rfl⟩
end Go.Proofs.YtmhfnnpbnocafaaGreat

namespace Go.Proofs.YtmhfnnpbnocafaaGreat
open Go.RowKit
set_option linter.unusedSimpArgs false
set_option linter.unusedVariables false

/-- A check: a function value, and the fault that it returns. -/
structure Chk where
  f : FuncId
  caps : Array Value
  r : Ft
def Good (w : World) (cs : List Chk) : Prop := ∀ (k : Nat) (c : Chk), cs[k]? = some c → (∀ (j : Nat) (d : Chk), j < k → cs[j]? = some d → d.r.e = 0) → ∀ W, Below w.heap.size w W →
  Calls Tryz.prog c.f c.caps W fun e w' => e = .returned c.r.v ∧ Below W.heap.size W w'

/-- The function value is one of a function with a body. -/
def Plain (f : FuncId) (caps : Array Value) : Prop := ∀ W : World, Sem.run Tryz.prog (callFunc f caps) W = .ok (.enter f caps) W

theorem firstF_all : ∀ (l : List Ft), (∀ (j : Nat) (f : Ft), l[j]? = some f → f.e = 0) → firstF l = ⟨0, 0, 0⟩
  | [], _ => rfl
  | f :: l, h => by
    have h0 := h 0 f rfl
    simp only [firstF, h0, if_true]
    exact firstF_all l fun j g hg => h (j + 1) g (by simpa using hg)
theorem firstF_at : ∀ (l : List Ft) (k : Nat) (f : Ft), l[k]? = some f → f.e ≠ 0 → (∀ (j : Nat) (g : Ft), j < k → l[j]? = some g → g.e = 0) → firstF l = f
  | [], k, f, h, _, _ => by simp at h
  | g :: l, 0, f, h, hf, _ => by
    simp at h; subst h
    simp [firstF, hf]
  | g :: l, k + 1, f, h, hf, hj => by
    have h0 := hj 0 g (by omega) rfl
    simp only [firstF, h0, if_true]
    exact firstF_at l k f (by simpa using h) hf fun j d hd he => hj (j + 1) d (by omega) (by simpa using he)

set_option maxRecDepth 100000 in
set_option maxHeartbeats 1000000 in
theorem first_any (w : World) (b off n : Nat) (cs : List Chk) (hn : cs.length = n) (hmax : n ≤ 1000) (hb : b < w.heap.size)
    (hcell : ∀ (k : Nat) (c : Chk), cs[k]? = some c → w.cell? ⟨b, off + k, none⟩ = some (.func (.func c.f) #[] c.caps)) (hg : Good w cs) (hp : ∀ (k : Nat) (c : Chk), cs[k]? = some c → Plain c.f c.caps) :
    Calls Tryz.prog 31 #[.slice (some ⟨b, off, none⟩) n n] w fun e w' => e = .returned (firstF (cs.map (·.r))).v ∧ Below w.heap.size w w' := by
  have Hn := Lib.hid hn; clear hn
  have Hcell := Lib.hid hcell; clear hcell
  have Hg := Lib.hid hg; clear hg
  have Hp := Lib.hid hp; clear hp
  go_enter Tryz.func31, Tryz.ntmps31
  go_wp2
  go_loopw [8] (fun i wr => ∃ k : Nat, k ≤ n ∧ i = .int .i64 k ∧ Hid (∀ (j : Nat) (d : Chk), j < k → cs[j]? = some d → d.r.e = 0) ∧ Below (w.heap.size + 1) (w.alloc (.cells #[.int .i64 0, .int .i64 0, .int .i64 0] 80)) wr)
    (fun i _ => n - (intOf i).toNat)
  case atStart => exact ⟨0, Nat.zero_le _, rfl, fun j d h => by omega, Below.refl _ _⟩
  case round =>
    obtain ⟨k, hk, rfl, hprev, hbr⟩ := hrel
    obtain ⟨hcr, hfr⟩ := bcell (W := w.alloc (.cells #[.int .i64 0, .int .i64 0, .int .i64 0] 80)) (by simpa using hbr)
    have hzr := hbr.size
    simp at hzr
    by_cases hlt : k < n
    · obtain ⟨c, hc⟩ : ∃ c, cs[k]? = some c := ⟨cs[k]'(by rw [Hn.out]; exact hlt), List.getElem?_eq_getElem _⟩
      have Hc := Lib.hid hc; clear hc
      have hcl : w.cell? ⟨b, off + k, none⟩ = some (.func (.func c.f) #[] c.caps) := Hcell.out k c Hc.out
      have hpl : ∀ W : World, Sem.run Tryz.prog (callFunc c.f c.caps) W = .ok (.enter c.f c.caps) W := Hp.out k c Hc.out
      go_wp2_with fail
      refine (Hg.out k c Hc.out hprev.out wr ⟨hbr.os, hbr.tape, hbr.output, by omega, fun i hi => (hbr.block i (by omega)).trans (Below.heap_alloc w _ i hi)⟩).mono ?_
      rintro e w1 ⟨rfl, hb1⟩
      obtain ⟨hc1, hf1⟩ := bcell hb1; have hz1 := hb1.size; (try simp at hz1)
      have hlr : w.heap.size < wr.heap.size := by omega
      have hl1 : w.heap.size < w1.heap.size := by omega
      obtain ⟨f, caps, r1, r2, r3⟩ := c
      by_cases h0 : r3 = 0
      · subst h0
        go_wp2
        go_roundw
        case rel =>
          refine ⟨k + 1, by omega, by go_num, ?_, ?_⟩
          · intro j d hj hd
            rcases Nat.lt_or_ge j k with h | h
            · exact hprev.out j d h hd
            · obtain rfl : j = k := by omega
              rw [Hc.out] at hd; cases hd; rfl
          · exact (by repeat (first | exact Below.refl _ _ | assumption | (refine Below.setCell ?_ (by first | omega | (simp; done) | (simp; omega)) _) | (refine Below.alloc ?_ (by first | omega | (simp; done) | (simp; omega)) _) | refine Below.drew ?_ | (refine below_thru ?_ (by assumption) (by first | omega | (simp; done) | (simp; omega))) | refine below_drewN ?_ _))
        case measure => simp [intOf]; omega
      · have h0' : (r3 != 0) = true := by simpa using h0
        go_wp2
        have hfin : firstF (cs.map (·.r)) = ⟨r1, r2, r3⟩ := firstF_at _ k _ (by simp [Hc.out]) h0 fun j g hj hg => by
          obtain ⟨d, hd, rfl⟩ := by simpa using hg
          exact hprev.out j d hj hd
        exact bodyPost_ret (v := Ft.v ⟨r1, r2, r3⟩) (by simp [results, Tryz.results31, go_sem, hc1, hl1, hcr, hlr] <;> omega) rfl ⟨by rw [hfin], (by repeat (first | exact Below.refl _ _ | assumption | (refine Below.setCell ?_ (by first | omega | (simp; done) | (simp; omega)) _) | (refine Below.alloc ?_ (by first | omega | (simp; done) | (simp; omega)) _) | refine Below.drew ?_ | (refine below_thru ?_ (by assumption) (by first | omega | (simp; done) | (simp; omega))) | refine below_drewN ?_ _))⟩
    · obtain rfl : k = n := by omega
      have hlr : w.heap.size < wr.heap.size := by omega
      go_wp2
      have hfin : firstF (cs.map (·.r)) = ⟨0, 0, 0⟩ := firstF_all _ fun j g hg => by
        obtain ⟨d, hd, rfl⟩ := by simpa using hg
        exact hprev.out j d (by have := (List.getElem?_eq_some_iff.1 hd).1; rw [Hn.out] at this; exact this) hd
      exact bodyPost_ret (v := Ft.v ⟨0, 0, 0⟩) (by simp [results, Tryz.results31, go_sem, hcr, hlr] <;> omega) rfl ⟨by rw [hfin], (by repeat (first | exact Below.refl _ _ | assumption | (refine Below.setCell ?_ (by first | omega | (simp; done) | (simp; omega)) _) | (refine Below.alloc ?_ (by first | omega | (simp; done) | (simp; omega)) _) | refine Below.drew ?_ | (refine below_thru ?_ (by assumption) (by first | omega | (simp; done) | (simp; omega))) | refine below_drewN ?_ _))⟩
end Go.Proofs.YtmhfnnpbnocafaaGreat

namespace Go.Proofs.YtmhfnnpbnocafaaGreat
open Go.RowKit
set_option linter.unusedSimpArgs false
set_option linter.unusedVariables false

theorem eachF_skip (r : Nat → Ft) : ∀ (k i n : Nat), k ≤ n → (∀ j, j < k → (r (i + j)).e = 0) → eachF r i n = eachF r (i + k) (n - k)
  | 0, i, n, _, _ => rfl
  | k + 1, i, n, h, hz => by
    obtain ⟨m, rfl⟩ : ∃ m, n = m + 1 := ⟨n - 1, by omega⟩
    have h0 := hz 0 (by omega)
    simp only [Nat.add_zero] at h0
    simp only [eachF, h0, if_true]
    rw [eachF_skip r k (i + 1) m (by omega) (fun j hj => by have := hz (j + 1) (by omega); rwa [show i + 1 + j = i + (j + 1) by omega]), show i + (k + 1) = i + 1 + k by omega, show m + 1 - (k + 1) = m - k by omega]

set_option maxRecDepth 100000 in
set_option maxHeartbeats 1000000 in
theorem each_any (w : World) (n : Nat) (hmax : n ≤ 1000) (f : FuncId) (c0 : Value) (r : Nat → Ft)
    (hp : ∀ (k : Nat) (W : World), Sem.run Tryz.prog (callFunc f #[.int .i64 k, c0]) W = .ok (.enter f #[.int .i64 k, c0]) W)
    (hg : ∀ k, k < n → (∀ j, j < k → (r j).e = 0) → ∀ W, Below w.heap.size w W → Calls Tryz.prog f #[.int .i64 k, c0] W fun e w' => e = .returned (r k).v ∧ Below W.heap.size W w') :
    Calls Tryz.prog 54 #[.int .i64 n, .func (.func f) #[] #[c0]] w fun e w' => e = .returned (eachF r 0 n).v ∧ Below w.heap.size w w' := by
  have Hg := Lib.hid hg; clear hg
  have Hp := Lib.hid hp; clear hp
  go_enter Tryz.func54, Tryz.ntmps54
  go_wp2
  go_loopw [8] (fun i wr => ∃ k : Nat, k ≤ n ∧ i = .int .i64 k ∧ Hid (∀ j, j < k → (r j).e = 0) ∧ Below (w.heap.size + 1) (w.alloc (.cells #[.int .i64 0, .int .i64 0, .int .i64 0] 80)) wr)
    (fun i _ => n - (intOf i).toNat)
  case atStart => exact ⟨0, Nat.zero_le _, rfl, fun j h => by omega, Below.refl _ _⟩
  case round =>
    obtain ⟨k, hk, rfl, hprev, hbr⟩ := hrel
    obtain ⟨hcr, hfr⟩ := bcell (W := w.alloc (.cells #[.int .i64 0, .int .i64 0, .int .i64 0] 80)) (by simpa using hbr)
    have hzr := hbr.size
    simp at hzr
    have hlr : w.heap.size < wr.heap.size := by omega
    by_cases hlt : k < n
    · have hpl : ∀ W : World, Sem.run Tryz.prog (callFunc f #[.int .i64 k, c0]) W = .ok (.enter f #[.int .i64 k, c0]) W := Hp.out k
      go_wp2_with fail
      refine (Hg.out k hlt hprev.out wr ⟨hbr.os, hbr.tape, hbr.output, by omega, fun i hi => (hbr.block i (by omega)).trans (Below.heap_alloc w _ i hi)⟩).mono ?_
      rintro e w1 ⟨rfl, hb1⟩
      obtain ⟨hc1, hf1⟩ := bcell hb1; have hz1 := hb1.size; (try simp at hz1)
      have hl1 : w.heap.size < w1.heap.size := by omega
      obtain ⟨r1, r2, r3, hr⟩ : ∃ r1 r2 r3, r k = ⟨r1, r2, r3⟩ := ⟨_, _, _, rfl⟩
      have Hr := Lib.hid hr
      rw [hr]
      clear hr
      by_cases h0 : r3 = 0
      · subst h0
        go_wp2
        go_roundw
        case rel =>
          refine ⟨k + 1, by omega, by go_num, ?_, ?_⟩
          · intro j hj
            rcases Nat.lt_or_ge j k with h | h
            · exact hprev.out j h
            · obtain rfl : j = k := by omega
              rw [Hr.out]
          · exact (by repeat (first | exact Below.refl _ _ | assumption | (refine Below.setCell ?_ (by first | omega | (simp; done) | (simp; omega)) _) | (refine Below.alloc ?_ (by first | omega | (simp; done) | (simp; omega)) _) | refine Below.drew ?_ | (refine below_thru ?_ (by assumption) (by first | omega | (simp; done) | (simp; omega))) | refine below_drewN ?_ _))
        case measure => simp [intOf]; omega
      · have h0' : (r3 != 0) = true := by simpa using h0
        go_wp2
        have hfin : eachF r 0 n = ⟨r1, k, r3⟩ := by
          rw [eachF_skip r k 0 n (by omega) (by simpa using hprev.out)]
          obtain ⟨m, hm⟩ : ∃ m, n - k = m + 1 := ⟨n - k - 1, by omega⟩
          rw [hm, eachF, Nat.zero_add, Hr.out]
          simp [h0]
        exact bodyPost_ret (v := Ft.v ⟨r1, k, r3⟩) (by simp [results, Tryz.results54, go_sem, hc1, hl1, hcr, hlr] <;> omega) rfl ⟨by rw [hfin], (by repeat (first | exact Below.refl _ _ | assumption | (refine Below.setCell ?_ (by first | omega | (simp; done) | (simp; omega)) _) | (refine Below.alloc ?_ (by first | omega | (simp; done) | (simp; omega)) _) | refine Below.drew ?_ | (refine below_thru ?_ (by assumption) (by first | omega | (simp; done) | (simp; omega))) | refine below_drewN ?_ _))⟩
    · obtain rfl : k = n := by omega
      go_wp2
      have hfin : eachF r 0 k = ⟨0, 0, 0⟩ := by
        rw [eachF_skip r k 0 k (by omega) (by simpa using hprev.out), Nat.sub_self]; rfl
      exact bodyPost_ret (v := Ft.v ⟨0, 0, 0⟩) (by simp [results, Tryz.results54, go_sem, hcr, hlr] <;> omega) rfl ⟨by rw [hfin], (by repeat (first | exact Below.refl _ _ | assumption | (refine Below.setCell ?_ (by first | omega | (simp; done) | (simp; omega)) _) | (refine Below.alloc ?_ (by first | omega | (simp; done) | (simp; omega)) _) | refine Below.drew ?_ | (refine below_thru ?_ (by assumption) (by first | omega | (simp; done) | (simp; omega))) | refine below_drewN ?_ _))⟩
end Go.Proofs.YtmhfnnpbnocafaaGreat

namespace Go.Proofs.YtmhfnnpbnocafaaGreat
open Go.RowKit
set_option linter.unusedSimpArgs false
set_option linter.unusedVariables false

/-- A slice of rows of cells that lies below block B. -/
def Tab (w : World) (B : Nat) (A : Option Addr) (n size : Nat) (rows : List (List Value)) : Prop :=
  rows.length = n ∧ (0 < n → ∃ b off, A = some ⟨b, off, none⟩ ∧ b < B ∧ ∀ (k : Nat) (r : List Value), rows[k]? = some r → ∀ (j : Nat) (v : Value), r[j]? = some v → w.cell? ⟨b, off + k * size + j, none⟩ = some v)
theorem Tab.keep {w w' : World} {B A n size rows} (h : Tab w B A n size rows) (hk : ∀ p : Addr, p.block < B → w'.cell? p = w.cell? p) : Tab w' B A n size rows :=
  ⟨h.1, fun hn => by
    obtain ⟨b, off, e, hb, hc⟩ := h.2 hn
    exact ⟨b, off, e, hb, fun k r hr j v hv => (hk _ hb).trans (hc k r hr j v hv)⟩⟩
theorem Tab.more {w : World} {B B' A n size rows} (h : Tab w B A n size rows) (hB : B ≤ B') : Tab w B' A n size rows :=
  ⟨h.1, fun hn => by
    obtain ⟨b, off, e, hb, hc⟩ := h.2 hn
    exact ⟨b, off, e, by omega, hc⟩⟩
theorem Tab.below {w w' : World} {B A n size rows} (h : Tab w B A n size rows) (hb : Below B w w') : Tab w' B A n size rows := h.keep fun _ hp => hb.cell hp
theorem Tab.grow {w w' : World} {A n size rows} (h : Tab w w.heap.size A n size rows) (hb : Below w.heap.size w w') : Tab w' w'.heap.size A n size rows := (h.below hb).more hb.size

theorem Tab.two {w : World} {B A n rows} (h : Tab w B A n 2 rows) {k : Nat} {x y : Value} (hr : rows[k]? = some [x, y]) : ∃ b off, A = some ⟨b, off, none⟩ ∧ b < B ∧ w.cell? ⟨b, off + k * 2, none⟩ = some x ∧ w.cell? ⟨b, off + k * 2 + 1, none⟩ = some y := by
  obtain ⟨b, off, e, hb, hc⟩ := h.2 (by have := (List.getElem?_eq_some_iff.1 hr).1; have := h.1; omega)
  exact ⟨b, off, e, hb, hc k _ hr 0 _ rfl, hc k _ hr 1 _ rfl⟩
theorem Tab.three {w : World} {B A n rows} (h : Tab w B A n 3 rows) {k : Nat} {x y z : Value} (hr : rows[k]? = some [x, y, z]) : ∃ b off, A = some ⟨b, off, none⟩ ∧ b < B ∧ w.cell? ⟨b, off + k * 3, none⟩ = some x ∧ w.cell? ⟨b, off + k * 3 + 1, none⟩ = some y ∧ w.cell? ⟨b, off + k * 3 + 2, none⟩ = some z := by
  obtain ⟨b, off, e, hb, hc⟩ := h.2 (by have := (List.getElem?_eq_some_iff.1 hr).1; have := h.1; omega)
  exact ⟨b, off, e, hb, hc k _ hr 0 _ rfl, hc k _ hr 1 _ rfl, hc k _ hr 2 _ rfl⟩
theorem drop_cons {α : Type} {l : List α} {k : Nat} {x : α} (h : l[k]? = some x) : l.drop k = x :: l.drop (k + 1) := by
  have := List.getElem?_eq_some_iff.1 h
  rw [List.drop_eq_getElem_cons this.1, this.2]
theorem get_lt {α : Type} {l : List α} {k n : Nat} (h : l.length = n) (hk : k < n) : ∃ x, l[k]? = some x := ⟨l[k]'(by omega), List.getElem?_eq_getElem _⟩

theorem Tab.one {w : World} {B A n rows} (h : Tab w B A n 1 rows) {k : Nat} {x : Value} (hr : rows[k]? = some [x]) : ∃ b off, A = some ⟨b, off, none⟩ ∧ b < B ∧ w.cell? ⟨b, off + k, none⟩ = some x := by
  obtain ⟨b, off, e, hb, hc⟩ := h.2 (by have := (List.getElem?_eq_some_iff.1 hr).1; have := h.1; omega)
  exact ⟨b, off, e, hb, by simpa using hc k _ hr 0 _ rfl⟩
theorem Tab.four {w : World} {B A n rows} (h : Tab w B A n 4 rows) {k : Nat} {x y z u : Value} (hr : rows[k]? = some [x, y, z, u]) : ∃ b off, A = some ⟨b, off, none⟩ ∧ b < B ∧ w.cell? ⟨b, off + k * 4, none⟩ = some x ∧ w.cell? ⟨b, off + k * 4 + 1, none⟩ = some y ∧ w.cell? ⟨b, off + k * 4 + 2, none⟩ = some z ∧ w.cell? ⟨b, off + k * 4 + 3, none⟩ = some u := by
  obtain ⟨b, off, e, hb, hc⟩ := h.2 (by have := (List.getElem?_eq_some_iff.1 hr).1; have := h.1; omega)
  exact ⟨b, off, e, hb, hc k _ hr 0 _ rfl, hc k _ hr 1 _ rfl, hc k _ hr 2 _ rfl, hc k _ hr 3 _ rfl⟩

structure Ga.At (g : Ga) (w : World) (B : Nat) : Prop where
  o : Tab w B g.oA g.on 1 (g.os.map fun i => [Value.int .i64 i])
  s : Tab w B g.sA g.sn 3 (g.ss.map Sn.cells)
  name : g.name.size ≤ maxLen
  on : g.on ≤ maxLen
  sn : g.sn ≤ maxLen
theorem Ga.At.grow {g : Ga} {w w' : World} (h : g.At w w.heap.size) (hb : Below w.heap.size w w') : g.At w' w'.heap.size := ⟨h.o.grow hb, h.s.grow hb, h.name, h.on, h.sn⟩
theorem Ga.At.keep {g : Ga} {w w' : World} {B : Nat} (h : g.At w B) (hk : ∀ p : Addr, p.block < B → w'.cell? p = w.cell? p) : g.At w' B := ⟨h.o.keep hk, h.s.keep hk, h.name, h.on, h.sn⟩
theorem Ga.At.below {g : Ga} {w w' : World} {B : Nat} (h : g.At w B) (hb : Below B w w') : g.At w' B := ⟨h.o.below hb, h.s.below hb, h.name, h.on, h.sn⟩
theorem Ga.At.more {g : Ga} {w : World} {B B' : Nat} (h : g.At w B) (hB : B ≤ B') : g.At w B' := ⟨h.o.more hB, h.s.more hB, h.name, h.on, h.sn⟩
theorem Ga.At.ol {g : Ga} {w : World} {B : Nat} (h : g.At w B) : g.os.length = g.on := by have := h.o.1; simpa using this
theorem Ga.At.sl {g : Ga} {w : World} {B : Nat} (h : g.At w B) : g.ss.length = g.sn := by have := h.s.1; simpa using this

/-- The numbers of a gate are as stated. -/
structure Ga.Ok (g : Ga) : Prop where
  k0 : 1 ≤ g.kind
  k1 : g.kind ≤ 3
  t0 : 1 ≤ g.travel
  t1 : g.travel ≤ 5000
  n0 : 2 ≤ g.on
  n1 : g.on ≤ 16
  own : ∀ f ∈ g.os, -200000 ≤ f ∧ f ≤ 200000
  open0 : -20000 ≤ g.opn
  open1 : g.opn ≤ 20000
  shut0 : -20000 ≤ g.shut
  shut1 : g.shut ≤ 20000
  h0 : 1 ≤ g.height
  h1 : g.height ≤ 30000
  float0 : 0 ≤ g.float
  float1 : g.float ≤ 10000
  push0 : -10000 ≤ g.push
  push1 : g.push ≤ 10000
  slide0 : 0 ≤ g.slide
  slide1 : g.slide ≤ 10000
  seal0 : 0 ≤ g.sealN
  seal1 : g.sealN ≤ 200000
  drive0 : 0 ≤ g.drive
  drive1 : g.drive ≤ 200000
  brake0 : 0 ≤ g.brake
  brake1 : g.brake ≤ 200000
  speed0 : 1 ≤ g.speed
  speed1 : g.speed ≤ 100
  gravity0 : 1 ≤ g.gravity
  gravity1 : g.gravity ≤ 100
  use0 : 0 ≤ g.use
  use1 : g.use ≤ 100000
  pump0 : 0 ≤ g.pump
  pump1 : g.pump ≤ 100000
  cap0 : 0 ≤ g.capacity
  cap1 : g.capacity ≤ 100000
  slack0 : 0 ≤ g.slack
  slack1 : g.slack ≤ (g.travel - 1) / 2
  sn : g.sn ≤ 6
  sens : ∀ s ∈ g.ss, 0 ≤ s.at_ ∧ s.at_ ≤ 5000 ∧ 0 ≤ s.tol ∧ s.tol ≤ 5000
  wrong0 : 0 ≤ g.wrong
  wrong1 : g.wrong ≤ g.sn
/-- A state that a gate can have. -/
structure Gs.Ok (s : Gs) (g : Ga) : Prop where
  p0 : 0 ≤ s.pos
  p1 : s.pos ≤ g.travel
  c0 : 0 ≤ s.charge
  c1 : s.charge ≤ g.capacity
structure Gt.Ok (t : Gt) : Prop where
  o0 : 0 ≤ t.order
  o1 : t.order ≤ 2
  a0 : -20000 ≤ t.outer
  a1 : t.outer ≤ 20000
  b0 : -20000 ≤ t.inner
  b1 : t.inner ≤ 20000

/-- A gate lies in a block of its own (a variable that closures have captured). -/
structure Ga.Box (g : Ga) (w : World) (b : Nat) : Prop where
  blk : Blk w b 25 #[.string g.name, .int .i64 g.kind, .int .i64 g.travel, .slice g.oA g.on g.oc, .int .i64 g.opn, .int .i64 g.shut, .int .i64 g.height, .int .i64 g.float, .int .i64 g.push, .int .i64 g.slide, .int .i64 g.sealN, .int .i64 g.drive, .int .i64 g.brake, .int .i64 g.speed, .int .i64 g.gravity, .int .i64 g.use, .int .i64 g.pump, .int .i64 g.capacity, .int .i64 g.slack, .slice g.sA g.sn g.sc, .int .i64 g.wrong]
  at_ : g.At w w.heap.size
theorem Ga.Box.grow {g : Ga} {w w' : World} {b : Nat} (h : g.Box w b) (hb : Below w.heap.size w w') : g.Box w' b := ⟨h.blk.thru hb h.blk.lt, h.at_.grow hb⟩
/-- The cells of a gate's block. -/
structure GaCells (w : World) (b : Nat) (g : Ga) : Prop where
  c0 : w.cell? ⟨b, 0, none⟩ = some (.string g.name)
  c1 : w.cell? ⟨b, 1, none⟩ = some (.int .i64 g.kind)
  c2 : w.cell? ⟨b, 2, none⟩ = some (.int .i64 g.travel)
  c3 : w.cell? ⟨b, 3, none⟩ = some (.slice g.oA g.on g.oc)
  c4 : w.cell? ⟨b, 4, none⟩ = some (.int .i64 g.opn)
  c5 : w.cell? ⟨b, 5, none⟩ = some (.int .i64 g.shut)
  c6 : w.cell? ⟨b, 6, none⟩ = some (.int .i64 g.height)
  c7 : w.cell? ⟨b, 7, none⟩ = some (.int .i64 g.float)
  c8 : w.cell? ⟨b, 8, none⟩ = some (.int .i64 g.push)
  c9 : w.cell? ⟨b, 9, none⟩ = some (.int .i64 g.slide)
  c10 : w.cell? ⟨b, 10, none⟩ = some (.int .i64 g.sealN)
  c11 : w.cell? ⟨b, 11, none⟩ = some (.int .i64 g.drive)
  c12 : w.cell? ⟨b, 12, none⟩ = some (.int .i64 g.brake)
  c13 : w.cell? ⟨b, 13, none⟩ = some (.int .i64 g.speed)
  c14 : w.cell? ⟨b, 14, none⟩ = some (.int .i64 g.gravity)
  c15 : w.cell? ⟨b, 15, none⟩ = some (.int .i64 g.use)
  c16 : w.cell? ⟨b, 16, none⟩ = some (.int .i64 g.pump)
  c17 : w.cell? ⟨b, 17, none⟩ = some (.int .i64 g.capacity)
  c18 : w.cell? ⟨b, 18, none⟩ = some (.int .i64 g.slack)
  c19 : w.cell? ⟨b, 19, none⟩ = some (.slice g.sA g.sn g.sc)
  c20 : w.cell? ⟨b, 20, none⟩ = some (.int .i64 g.wrong)
theorem Ga.Box.cells {g : Ga} {w : World} {b : Nat} (h : g.Box w b) : GaCells w b g := by
  have c := h.blk.cell
  exact ⟨c 0, c 1, c 2, c 3, c 4, c 5, c 6, c 7, c 8, c 9, c 10, c 11, c 12, c 13, c 14, c 15, c 16, c 17, c 18, c 19, c 20⟩
end Go.Proofs.YtmhfnnpbnocafaaGreat

namespace Go.Proofs.YtmhfnnpbnocafaaGreat
open Go.RowKit
set_option linter.unusedSimpArgs false
set_option linter.unusedVariables false

theorem mulb {a b A B : Int} (ha0 : 0 ≤ a) (ha : a ≤ A) (hb0 : -B ≤ b) (hb : b ≤ B) (hB : 0 ≤ B) : -(A * B) ≤ a * b ∧ a * b ≤ A * B := by
  have h1 := Int.mul_le_mul_of_nonneg_left hb ha0
  have h2 := Int.mul_le_mul_of_nonneg_left hb0 ha0
  have h3 := Int.mul_le_mul_of_nonneg_right ha hB
  rw [Int.mul_neg] at h2
  omega
theorem mul0 {a b A B : Int} (ha0 : 0 ≤ a) (ha : a ≤ A) (hb0 : 0 ≤ b) (hb : b ≤ B) : 0 ≤ a * b ∧ a * b ≤ A * B := by
  have h1 := Int.mul_le_mul_of_nonneg_left hb ha0
  have h3 := Int.mul_le_mul_of_nonneg_right ha (show 0 ≤ B by omega)
  have h4 := Int.mul_nonneg ha0 hb0
  omega
/-- A weighted middle. -/
theorem mid {a b B T r : Int} (ha0 : -B ≤ a) (ha : a ≤ B) (hb0 : -B ≤ b) (hb : b ≤ B) (hB : 0 ≤ B) (hr0 : 0 ≤ r) (hr : r ≤ T) (hT : 0 < T) :
    -(T * B) ≤ a * (T - r) + b * r ∧ a * (T - r) + b * r ≤ T * B ∧ -B ≤ (a * (T - r) + b * r) / T ∧ (a * (T - r) + b * r) / T ≤ B := by
  have h1 : -((T - r) * B) ≤ a * (T - r) ∧ a * (T - r) ≤ (T - r) * B := by
    have := mulb (a := T - r) (A := T - r) (by omega) (Int.le_refl _) ha0 ha hB
    rw [Int.mul_comm a]; exact this
  have h2 : -(r * B) ≤ b * r ∧ b * r ≤ r * B := by
    have := mulb (a := r) (A := r) (by omega) (Int.le_refl _) hb0 hb hB
    rw [Int.mul_comm b]; exact this
  have h3 : (T - r) * B + r * B = T * B := by rw [← Int.add_mul]; congr 1; omega
  have l : -(T * B) ≤ a * (T - r) + b * r := by omega
  have u : a * (T - r) + b * r ≤ T * B := by omega
  refine ⟨l, u, ?_, ?_⟩
  · rw [Int.le_ediv_iff_mul_le hT, Int.neg_mul, Int.mul_comm]; exact l
  · have : (a * (T - r) + b * r) / T < B + 1 := by
      rw [Int.ediv_lt_iff_lt_mul hT, Int.add_mul, Int.one_mul, Int.mul_comm B]; omega
    omega

/-- Where the own forces around a position are. -/
theorem place {g : Ga} (hg : g.Ok) {p : Int} (h0 : 0 ≤ p) (h1 : p < g.travel) :
    0 ≤ p * (g.on - 1) ∧ p * (g.on - 1) ≤ 75000 ∧ 0 ≤ p * (g.on - 1) / g.travel ∧ p * (g.on - 1) / g.travel < g.on - 1 ∧ 0 ≤ p * (g.on - 1) % g.travel ∧ p * (g.on - 1) % g.travel < g.travel := by
  have t0 := hg.t0
  have t1 := hg.t1
  have n0 := hg.n0
  have n1 := hg.n1
  obtain ⟨a, b⟩ := mul0 (a := p) (A := 5000) (b := (g.on : Int) - 1) (B := 15) h0 (by omega) (by omega) (by omega)
  have c : p * ((g.on : Int) - 1) < g.travel * (g.on - 1) := Int.mul_lt_mul_of_pos_right h1 (by omega)
  refine ⟨a, by omega, Int.ediv_nonneg a (by omega), ?_, Int.emod_nonneg _ (by omega), Int.emod_lt_of_pos _ (by omega)⟩
  rw [Int.ediv_lt_iff_lt_mul (by omega), Int.mul_comm ((g.on : Int) - 1)]
  exact c
theorem own_get {g : Ga} (hg : g.Ok) (hl : g.os.length = g.on) {k : Nat} (hk : k < g.on) : -200000 ≤ g.os.getD k 0 ∧ g.os.getD k 0 ≤ 200000 := by
  rw [List.getD_eq_getElem?_getD, List.getElem?_eq_getElem (by omega)]
  exact hg.own _ (List.getElem_mem _)
theorem own_in {g : Ga} (hg : g.Ok) (hl : g.os.length = g.on) {p : Int} (h0 : 0 ≤ p) (h1 : p ≤ g.travel) : -200000 ≤ ownF g p ∧ ownF g p ≤ 200000 := by
  unfold ownF
  have n0 := hg.n0
  split
  · exact own_get hg hl (by omega)
  · obtain ⟨a, b, c, d, e, f⟩ := place hg h0 (by omega)
    have x := own_get hg hl (k := (p * (g.on - 1) / g.travel).toNat) (by omega)
    have y := own_get hg hl (k := (p * (g.on - 1) / g.travel).toNat + 1) (by omega)
    have := mid x.1 x.2 y.1 y.2 (by omega) e (Int.le_of_lt f) (by have := hg.t0; omega)
    exact this.2.2
theorem edge_in {g : Ga} (hg : g.Ok) {p : Int} (h0 : 0 ≤ p) (h1 : p ≤ g.travel) :
    -100000000 ≤ g.opn * (g.travel - p) + g.shut * p ∧ g.opn * (g.travel - p) + g.shut * p ≤ 100000000 ∧ -20000 ≤ edgeF g p ∧ edgeF g p ≤ 20000 := by
  have t0 := hg.t0
  have t1 := hg.t1
  have := mid (a := g.opn) (b := g.shut) (B := 20000) (T := g.travel) (r := p) (by have := hg.open0; omega) hg.open1 (by have := hg.shut0; omega) hg.shut1 (by omega) h0 h1 (by omega)
  unfold edgeF
  omega
theorem under_in {g : Ga} (hg : g.Ok) (p l : Int) : 0 ≤ underF g p l ∧ underF g p l ≤ 30000 := by
  have a := hg.h0
  have b := hg.h1
  unfold underF
  omega
theorem lift_in {g : Ga} (hg : g.Ok) (p a b : Int) : 0 ≤ g.float * underF g p (min a b) ∧ g.float * underF g p (min a b) ≤ 300000000 ∧ 0 ≤ liftF g p a b ∧ liftF g p a b ≤ 300000 := by
  obtain ⟨u0, u1⟩ := under_in hg p (min a b)
  obtain ⟨x, y⟩ := mul0 hg.float0 hg.float1 u0 u1
  unfold liftF
  omega
theorem push_in {g : Ga} (hg : g.Ok) {a b : Int} (a0 : -20000 ≤ a) (a1 : a ≤ 20000) (b0 : -20000 ≤ b) (b1 : b ≤ 20000) :
    -400000000 ≤ g.push * (a - b) ∧ g.push * (a - b) ≤ 400000000 ∧ -400000 ≤ g.push * (a - b) / 1000 ∧ g.push * (a - b) / 1000 ≤ 400000 := by
  have p0 := hg.push0
  have p1 := hg.push1
  rcases Int.le_total 0 (a - b) with h | h
  · obtain ⟨x, y⟩ := mulb (a := a - b) (A := 40000) (b := g.push) (B := 10000) h (by omega) p0 p1 (by omega)
    rw [Int.mul_comm (a - b)] at x y
    omega
  · obtain ⟨x, y⟩ := mulb (a := -(a - b)) (A := 40000) (b := g.push) (B := 10000) (by omega) (by omega) p0 p1 (by omega)
    rw [Int.mul_comm (-(a - b)), Int.mul_neg] at x y
    omega
theorem slide_in {g : Ga} (hg : g.Ok) (p : Int) {a b : Int} (a0 : -20000 ≤ a) (a1 : a ≤ 20000) (b0 : -20000 ≤ b) (b1 : b ≤ 20000) :
    0 ≤ g.slide * max (a - b) (-(a - b)) ∧ g.slide * max (a - b) (-(a - b)) ≤ 400000000 ∧
    0 ≤ g.slide * max (a - b) (-(a - b)) * underF g p (max a b) ∧ g.slide * max (a - b) (-(a - b)) * underF g p (max a b) ≤ 12000000000000 := by
  obtain ⟨u0, u1⟩ := under_in hg p (max a b)
  obtain ⟨x, y⟩ := mul0 (a := g.slide) (A := 10000) (b := max (a - b) (-(a - b))) (B := 40000) hg.slide0 hg.slide1 (by omega) (by omega)
  obtain ⟨z, t⟩ := mul0 (a := g.slide * max (a - b) (-(a - b))) (A := 400000000) x (by omega) u0 u1
  omega
theorem net_in {g : Ga} (hg : g.Ok) (hl : g.os.length = g.on) {p a b : Int} (h0 : 0 ≤ p) (h1 : p ≤ g.travel) (a0 : -20000 ≤ a) (a1 : a ≤ 20000) (b0 : -20000 ≤ b) (b1 : b ≤ 20000) : -900000 ≤ netF g p a b ∧ netF g p a b ≤ 900000 := by
  have x := own_in hg hl h0 h1
  have y := lift_in hg p a b
  have z := push_in hg a0 a1 b0 b1
  unfold netF
  split <;> omega
theorem rub_in {g : Ga} (hg : g.Ok) (p : Int) {a b : Int} (a0 : -20000 ≤ a) (a1 : a ≤ 20000) (b0 : -20000 ≤ b) (b1 : b ≤ 20000) : 0 ≤ rubF g p a b ∧ rubF g p a b ≤ 12200000 := by
  have x := slide_in hg p a0 a1 b0 b1
  have y := hg.seal0
  have z := hg.seal1
  unfold rubF
  omega
end Go.Proofs.YtmhfnnpbnocafaaGreat

namespace Go.Proofs.YtmhfnnpbnocafaaGreat
open Go.RowKit
set_option linter.unusedSimpArgs false
set_option linter.unusedVariables false

set_option maxRecDepth 100000 in
set_option maxHeartbeats 1000000 in
theorem edge_any (g : Ga) (s : Gs) (w : World) (hg : g.Ok) (hs : s.Ok g) :
    Calls Tryz.prog 130 #[mv g s] w fun e w' => e = .returned (.int .i64 (edgeF g s.pos)) ∧ Below w.heap.size w w' := by
  have t0 := hg.t0
  have t1 := hg.t1
  have a0 := hg.open0
  have a1 := hg.open1
  have b0 := hg.shut0
  have b1 := hg.shut1
  have p0 := hs.p0
  have p1 := hs.p1
  obtain ⟨x0, x1, x2, x3⟩ := edge_in hg p0 p1
  have m1 := mulb (a := g.travel - s.pos) (A := 5000) (b := g.opn) (B := 20000) (by omega) (by omega) (by omega) (by omega) (by omega)
  have m2 := mulb (a := s.pos) (A := 5000) (b := g.shut) (B := 20000) (by omega) (by omega) (by omega) (by omega) (by omega)
  rw [Int.mul_comm (g.travel - s.pos)] at m1
  rw [Int.mul_comm s.pos] at m2
  obtain ⟨m3, m4⟩ := m1
  obtain ⟨m5, m6⟩ := m2
  have H := Lib.hid (fun W => floorDiv_any (g.opn * (g.travel - s.pos) + g.shut * s.pos) g.travel W (by omega) (by omega) (by omega))
  clear hg hs
  go_enter Tryz.func130, Tryz.ntmps130
  go_wp2_with fail
  refine (H.out _).mono ?_
  rintro e w' ⟨rfl, rfl⟩
  go_wp2
  go_ret
  exact ⟨rfl, (by repeat (first | exact Below.refl _ _ | assumption | (refine Below.setCell ?_ (by first | omega | (simp; done) | (simp; omega)) _) | (refine Below.alloc ?_ (by first | omega | (simp; done) | (simp; omega)) _) | refine Below.drew ?_ | (refine below_thru ?_ (by assumption) (by first | omega | (simp; done) | (simp; omega))) | refine below_drewN ?_ _))⟩

set_option maxRecDepth 100000 in
set_option maxHeartbeats 1000000 in
theorem reach_any (g : Ga) (s : Gs) (w : World) (hg : g.Ok) (hs : s.Ok g) :
    Calls Tryz.prog 155 #[mv g s] w fun e w' => e = .returned (.int .i64 (reachF g s)) ∧ Below w.heap.size w w' := by
  have u0 := hg.use0
  have u1 := hg.use1
  have c0 := hs.c0
  have c1 := hs.c1
  have c2 := hg.cap1
  by_cases hu : g.use = 0
  · have hu' : (g.use == 0) = true := by rw [beq_iff_eq]; exact hu
    have hf : reachF g s = g.travel := by unfold reachF; rw [if_pos hu]
    have Hf := Lib.hid hf
    clear hf hu hg hs
    go_enter Tryz.func155, Tryz.ntmps155
    go_wp2
    go_ret
    exact ⟨by rw [Hf.out]; rfl, (by repeat (first | exact Below.refl _ _ | assumption | (refine Below.setCell ?_ (by first | omega | (simp; done) | (simp; omega)) _) | (refine Below.alloc ?_ (by first | omega | (simp; done) | (simp; omega)) _) | refine Below.drew ?_ | (refine below_thru ?_ (by assumption) (by first | omega | (simp; done) | (simp; omega))) | refine below_drewN ?_ _))⟩
  · have hu' : (g.use == 0) = false := by rw [beq_eq_false_iff_ne]; exact hu
    have hf : reachF g s = s.charge * 100 / g.use := by unfold reachF; rw [if_neg hu]
    have Hf := Lib.hid hf
    have hu2 : 0 < g.use := by omega
    clear hf hg hs
    go_enter Tryz.func155, Tryz.ntmps155
    go_wp2
    go_ret
    exact ⟨by rw [Hf.out]; rfl, (by repeat (first | exact Below.refl _ _ | assumption | (refine Below.setCell ?_ (by first | omega | (simp; done) | (simp; omega)) _) | (refine Below.alloc ?_ (by first | omega | (simp; done) | (simp; omega)) _) | refine Below.drew ?_ | (refine below_thru ?_ (by assumption) (by first | omega | (simp; done) | (simp; omega))) | refine below_drewN ?_ _))⟩
end Go.Proofs.YtmhfnnpbnocafaaGreat

namespace Go.Proofs.YtmhfnnpbnocafaaGreat
open Go.RowKit
set_option linter.unusedSimpArgs false
set_option linter.unusedVariables false

theorem quiet_is {P : Program} {f : FuncId} {args : Array Value} {w : World} {n : Nat} {v : Value} (c : ∀ W : World, Calls P f args W fun e w' => e = .returned v ∧ W = w') :
    Calls P f args (w.drewN n) fun e w' => e = .returned v ∧ ∃ m, w' = w.drewN m := (c _).mono fun _ _ ⟨he, h⟩ => ⟨he, n, h.symm⟩
theorem quiet_is2 {P : Program} {f : FuncId} {args : Array Value} {w : World} {a n : Nat} {v : Value} (c : ∀ W : World, Calls P f args W fun e w' => e = .returned v ∧ W = w') :
    Calls P f args (w.drewN (a + n)) fun e w' => e = .returned v ∧ ∃ m, w' = w.drewN (a + m) := (c _).mono fun _ _ ⟨he, h⟩ => ⟨he, n, h.symm⟩
theorem own_cell {g : Ga} {w : World} {B : Nat} (hg : g.At w B) {k : Nat} (hk : k < g.on) : ∃ b off, g.oA = some ⟨b, off, none⟩ ∧ b < B ∧ w.cell? ⟨b, off + k, none⟩ = some (.int .i64 (g.os.getD k 0)) := by
  have hl := hg.ol
  exact hg.o.one (k := k) (by simp [show k < g.os.length by omega])

set_option maxRecDepth 100000 in
set_option maxHeartbeats 1000000 in
theorem own_any (g : Ga) (s : Gs) (w : World) (ha : g.At w w.heap.size) (hg : g.Ok) (hs : s.Ok g) :
    Calls Tryz.prog 102 #[mv g s] w fun e w' => e = .returned (.int .i64 (ownF g s.pos)) ∧ Below w.heap.size w w' := by
  have t0 := hg.t0
  have t1 := hg.t1
  have n0 := hg.n0
  have n1 := hg.n1
  have p0 := hs.p0
  have p1 := hs.p1
  by_cases hp : s.pos = g.travel
  · have hp' : (s.pos == g.travel) = true := by rw [beq_iff_eq]; exact hp
    obtain ⟨b, off, hA, hb, c0⟩ := own_cell ha (k := g.on - 1) (by omega)
    have hf : ownF g s.pos = g.os.getD (g.on - 1) 0 := by unfold ownF; rw [if_pos hp]
    have Hf := Lib.hid hf
    have HA := Lib.hid hA
    have i0 : (0 : Int) ≤ (g.on : Int) - 1 := by omega
    have i1 : (g.on : Int) - 1 < (g.on : Int) := by omega
    have i2 : ((g.on : Int) - 1).toNat = g.on - 1 := by omega
    clear hf hg hs ha hA hp
    unfold mv; rw [HA.out]
    go_enter Tryz.func102, Tryz.ntmps102
    go_wp2
    go_ret
    exact ⟨by rw [Hf.out]; rfl, (by repeat (first | exact Below.refl _ _ | assumption | (refine Below.setCell ?_ (by first | omega | (simp; done) | (simp; omega)) _) | (refine Below.alloc ?_ (by first | omega | (simp; done) | (simp; omega)) _) | refine Below.drew ?_ | (refine below_thru ?_ (by assumption) (by first | omega | (simp; done) | (simp; omega))) | refine below_drewN ?_ _))⟩
  · have hp' : (s.pos == g.travel) = false := by rw [beq_eq_false_iff_ne]; exact hp
    obtain ⟨a0, a1, a2, a3, a4, a5⟩ := place hg p0 (by omega)
    have hf : ownF g s.pos = (g.os.getD (s.pos * (g.on - 1) / g.travel).toNat 0 * (g.travel - s.pos * (g.on - 1) % g.travel) + g.os.getD ((s.pos * (g.on - 1) / g.travel).toNat + 1) 0 * (s.pos * (g.on - 1) % g.travel)) / g.travel := by unfold ownF; rw [if_neg hp]
    have e1 := Int.tdiv_eq_ediv_of_nonneg (b := g.travel) a0
    have e2 := Int.tmod_eq_emod_of_nonneg (b := g.travel) a0
    obtain ⟨k, hk⟩ : ∃ k : Nat, s.pos * ((g.on : Int) - 1) / g.travel = k := ⟨(s.pos * ((g.on : Int) - 1) / g.travel).toNat, by omega⟩
    obtain ⟨r, hr⟩ : ∃ r, s.pos * ((g.on : Int) - 1) % g.travel = r := ⟨_, rfl⟩
    rw [hk] at a2 a3 e1 hf
    rw [hr] at a4 a5 e2 hf
    rw [Int.toNat_natCast] at hf
    obtain ⟨b, off, hA, hb, c0⟩ := own_cell ha (k := k) (by omega)
    obtain ⟨b', off', hA', hb', c1⟩ := own_cell ha (k := k + 1) (by omega)
    rw [hA] at hA'
    cases hA'
    have hl := ha.ol
    obtain ⟨x0, x1⟩ := own_get hg hl (k := k) (by omega)
    obtain ⟨y0, y1⟩ := own_get hg hl (k := k + 1) (by omega)
    obtain ⟨z0, z1, z2, z3⟩ := mid (T := g.travel) (r := r) x0 x1 y0 y1 (by omega) a4 (Int.le_of_lt a5) (by omega)
    have q1 := mulb (a := g.travel - r) (A := 5000) (b := g.os.getD k 0) (B := 200000) (by omega) (by omega) x0 x1 (by omega)
    have q2 := mulb (a := r) (A := 5000) (b := g.os.getD (k + 1) 0) (B := 200000) a4 (by omega) y0 y1 (by omega)
    rw [Int.mul_comm (g.travel - r)] at q1
    rw [Int.mul_comm r] at q2
    generalize g.os.getD k 0 = f0 at *
    generalize g.os.getD (k + 1) 0 = f1 at *
    have w1 : IntKind.i64.wrap (g.travel - r) = g.travel - r := IntWalk.i64_in _ (by omega)
    have w2 : IntKind.i64.wrap (f0 * (g.travel - r)) = f0 * (g.travel - r) := IntWalk.i64_in _ (by omega)
    have w3 : IntKind.i64.wrap (f1 * r) = f1 * r := IntWalk.i64_in _ (by omega)
    have w4 : IntKind.i64.wrap (f0 * (g.travel - r) + f1 * r) = f0 * (g.travel - r) + f1 * r := IntWalk.i64_in _ (by omega)
    have w5 : IntKind.i64.wrap ((k : Int) + 1) = (k : Int) + 1 := IntWalk.i64_in _ (by omega)
    have i0 : (0 : Int) ≤ (k : Int) := Int.natCast_nonneg _
    have i1 : (k : Int) < (g.on : Int) := by omega
    have i2 : (0 : Int) ≤ (k : Int) + 1 := by omega
    have i3 : (k : Int) + 1 < (g.on : Int) := by omega
    have i4 : ((k : Int) + 1).toNat = k + 1 := by omega
    have i5 : ¬ g.travel = 0 := by omega
    have H := Lib.hid (fun W => floorDiv_any (f0 * (g.travel - r) + f1 * r) g.travel W (by omega) (by omega) (by omega))
    have Hf := Lib.hid hf
    have HA := Lib.hid hA
    clear hf hg hs ha hA hp hl q1 q2 z0 z1 z2 z3
    unfold mv; rw [HA.out]
    go_enter Tryz.func102, Tryz.ntmps102
    go_wp2_with fail
    go_quiet (fail)
    go_wp2_with fail
    go_quiet ((go_at_call 100; exact quiet_is2 (fun W => H.out W)))
    go_wp2
    go_ret
    exact ⟨by rw [Hf.out]; rfl, (by repeat (first | exact Below.refl _ _ | assumption | (refine Below.setCell ?_ (by first | omega | (simp; done) | (simp; omega)) _) | (refine Below.alloc ?_ (by first | omega | (simp; done) | (simp; omega)) _) | refine Below.drew ?_ | (refine below_thru ?_ (by assumption) (by first | omega | (simp; done) | (simp; omega))) | refine below_drewN ?_ _))⟩
end Go.Proofs.YtmhfnnpbnocafaaGreat

namespace Go.Proofs.YtmhfnnpbnocafaaGreat
open Go.RowKit
set_option linter.unusedSimpArgs false
set_option linter.unusedVariables false

section
variable {P : Program} {md : Region.Mode} {Q : Exit → Act → World → Prop}

/-- What is left behind the first operations: the last ones in their order. -/
def tailPost (P : Program) (ops : Array Oper) (Q : Exit → Act → World → Prop) (tail : List Oper) : Exit → Act → World → Prop
  | .normal, a, w => wpList P ops Q tail a w
  | e, a, w => Q e a w

theorem wpAny_more {ops : Array Oper} : ∀ (n : Nat) (listed : Array Bool) (a : Act) (w : World), wpAny P md ops Q n listed a w → wpAny P md ops Q (n + 1) listed a w
  | 0, listed, a, w, h => ⟨fun _ => h.2, by rw [h.1]; simp⟩
  | n + 1, listed, a, w, h => ⟨h.1, fun i hi => wpOp_mono (fun a' w' h' => wpAny_more n _ a' w' h') (h.2 i hi)⟩
theorem wpAny_plus {ops : Array Oper} {n : Nat} {listed : Array Bool} {a : Act} {w : World} (h : wpAny P md ops Q n listed a w) : ∀ m, wpAny P md ops Q (n + m) listed a w
  | 0 => h
  | m + 1 => wpAny_more _ _ _ _ (wpAny_plus h m)

theorem Oper.wp_tail {ops : Array Oper} {tail : List Oper} {o : Oper} {a : Act} {w : World} {K : Act → World → Prop} (h : o.wp P a w K (tailPost P ops Q tail)) : o.wp P a w K Q := by
  unfold Oper.wp at *
  generalize (execOp a.eval o).run P w = r at *
  cases r with
  | ok n w' => cases n <;> exact h
  | halt x w' => cases x <;> exact h

/-- The region's form, looked at by program: the first N operations lean on earlier ones alone; each of the last ones waits for all of the first. -/
def headB (l : List Oper) (N : Nat) : Bool :=
  (List.range N).all fun i => match l[i]? with
    | some o => o.after.all (fun e => decide (e.on < i)) && (match o.guard with | some (g, _) => decide (g < N) | none => true)
    | none => false
def waitB (md : Region.Mode) (l : List Oper) (N : Nat) : Bool :=
  (List.range l.length).all fun i => decide (i < N) || (List.range N).all fun j => match l[i]? with
    | some o => o.after.any fun e => decide (e.on = j) && Region.binds md e
    | none => false
def splitB (md : Region.Mode) (l : List Oper) (N : Nat) : Bool :=
  decide (N ≤ l.length) && headB l N && waitB md l N && Region.seqB md l.toArray (l.length - N) N (Array.replicate N true ++ Array.replicate (l.length - N) false)

theorem headB_spec {l : List Oper} {N i : Nat} {o : Oper} (h : headB l N = true) (hi : i < N) (ho : l[i]? = some o) :
    (∀ e ∈ o.after, e.on < i) ∧ (∀ g b, o.guard = some (g, b) → g < N) := by
  have := List.all_eq_true.1 h i (by simpa using hi)
  rw [ho] at this
  simp only [Bool.and_eq_true, Array.all_eq_true'] at this
  refine ⟨fun e he => by simpa using this.1 e he, fun g b hg => ?_⟩
  have h2 := this.2
  rw [hg] at h2
  simpa using h2
theorem waitB_spec {l : List Oper} {N i j : Nat} {o : Oper} (h : waitB md l N = true) (hi : N ≤ i) (ho : l[i]? = some o) (hj : j < N) : ∃ e ∈ o.after, e.on = j ∧ Region.binds md e = true := by
  have hlt := (List.getElem?_eq_some_iff.1 ho).1
  have := List.all_eq_true.1 h i (by simpa using hlt)
  simp only [Bool.or_eq_true, decide_eq_true_eq] at this
  rcases this with h1 | h1
  · omega
  · have := List.all_eq_true.1 h1 j (by simpa using hj)
    rw [ho] at this
    simp only [Array.any_eq_true', Bool.and_eq_true, decide_eq_true_eq] at this
    obtain ⟨e, he, h2, h3⟩ := this
    exact ⟨e, he, h2, h3⟩

/-- 'listed' with the last operations not listed. -/
def ext (listed : Array Bool) (T : Nat) : Array Bool := listed ++ Array.replicate T false
theorem ext_get_lt {listed : Array Bool} {T i : Nat} (d : Bool) (h : i < listed.size) : (ext listed T).getD i d = listed.getD i d := by
  unfold ext
  simp [Array.getD_eq_getD_getElem?, Array.getElem?_append_left h]
theorem ext_get_ge {listed : Array Bool} {T i : Nat} (h : listed.size ≤ i) (hi : i < listed.size + T) (d : Bool) : (ext listed T).getD i d = false := by
  unfold ext
  rw [Array.getD_eq_getD_getElem?, Array.getElem?_append_right h]
  rw [Array.getElem?_replicate, if_pos (by omega)]; rfl
theorem ext_set {listed : Array Bool} {T i : Nat} (h : i < listed.size) : (ext listed T).setIfInBounds i true = ext (listed.setIfInBounds i true) T := by
  unfold ext
  apply Array.ext_getElem?
  intro j
  simp only [Array.getElem?_setIfInBounds, Array.getElem?_append, Array.size_append, Array.size_setIfInBounds]
  repeat' split
  all_goals first | rfl | omega | simp_all

theorem mem_ready {ops : Array Oper} {listed : Array Bool} {i : Nat} : i ∈ Region.ready md ops listed ↔ i < ops.size ∧ listed.getD i true = false ∧ ∃ o, ops[i]? = some o ∧ ∀ e ∈ o.after, Region.binds md e = true → listed.getD e.on false = true := by
  unfold Region.ready
  simp only [List.mem_filter, List.mem_range, Bool.and_eq_true, Bool.not_eq_true']
  constructor
  · rintro ⟨h1, h2, h3⟩
    refine ⟨h1, h2, ops[i], Array.getElem?_eq_getElem h1, fun e he hb => ?_⟩
    rw [Array.getElem?_eq_getElem h1] at h3
    simp only [Option.map_some, Option.getD_some, Array.all_eq_true'] at h3
    have := h3 e he
    simpa [hb] using this
  · rintro ⟨h1, h2, o, ho, h3⟩
    refine ⟨h1, h2, ?_⟩
    rw [ho]
    simp only [Option.map_some, Option.getD_some, Array.all_eq_true']
    intro e he
    cases hb : Region.binds md e
    · simp
    · simpa using h3 e he hb

section
variable {l : List Oper} {N : Nat}
/-- The first N operations as a region of their own. -/
abbrev headOf (l : List Oper) (N : Nat) : Array Oper := (l.take N).toArray

theorem head_get {i : Nat} (h : i < N) : (headOf l N)[i]? = l.toArray[i]? := by
  simp [headOf, List.getElem?_take, h]

theorem all_listed (hH : headB l N = true) (hN : N ≤ l.length) {listed : Array Bool} (hs : listed.size = N) (hr : Region.ready md (headOf l N) listed = []) : listed = Array.replicate N true := by
  have key : ∀ i, i < N → listed.getD i true = true := by
    intro i
    induction i using Nat.strongRecOn with
    | _ i ih =>
      intro hi
      cases hg : listed.getD i true
      · exfalso
        have ho : (headOf l N)[i]? = some (l[i]'(by omega)) := by rw [head_get hi]; simp
        have hm : i ∈ Region.ready md (headOf l N) listed := by
          rw [mem_ready]
          refine ⟨by simp [headOf]; omega, hg, _, ho, fun e he _ => ?_⟩
          have he' := (headB_spec (o := l[i]'(by omega)) hH hi (List.getElem?_eq_getElem _)).1 e he
          have := ih e.on he' (by omega)
          rw [Array.getD_eq_getD_getElem?] at this ⊢
          rw [Array.getElem?_eq_getElem (by omega)] at this ⊢
          simpa using this
        rw [hr] at hm
        cases hm
      · rfl
  apply Array.ext
  · simp [hs]
  · intro i h1 h2
    have := key i (by omega)
    rw [Array.getD_eq_getD_getElem?, Array.getElem?_eq_getElem h1] at this
    simpa using this

theorem yielded_head {tmps : Array Value} {g : Nat} (h : g < N) : yielded (headOf l N) tmps g = yielded l.toArray tmps g := by
  unfold yielded; rw [head_get h]

theorem wanted_head (hH : headB l N = true) {i : Nat} (hi : i < N) {o : Oper} (ho : l[i]? = some o) (tmps : Array Value) :
    Region.wanted o (yielded (headOf l N) tmps) = Region.wanted o (yielded l.toArray tmps) := by
  unfold Region.wanted
  cases hg : o.guard with
  | none => rfl
  | some p =>
    obtain ⟨g, b⟩ := p
    simp only
    rw [yielded_head ((headB_spec hH hi ho).2 g b hg)]

theorem wpOp_head {ops : Array Oper} {tail : List Oper} (hH : headB l N = true) (hN : N ≤ l.length) {i : Nat} (hi : i < N) {a : Act} {w : World} {K K' : Act → World → Prop} (hK : ∀ a w, K a w → K' a w)
    (h : wpOp P (headOf l N) (tailPost P ops Q tail) i K a w) : wpOp P l.toArray Q i K' a w := by
  have ho : l[i]? = some (l[i]'(by omega)) := List.getElem?_eq_getElem _
  refine wpOp_mono hK ?_
  unfold wpOp at h ⊢
  rw [head_get hi] at h
  rw [List.getElem?_toArray, ho] at h ⊢
  simp only at h ⊢
  rw [wanted_head hH hi ho] at h
  split
  · rename_i hw
    rw [if_pos hw] at h
    rcases h with h | ⟨hasks, a0, w0, hq⟩
    · exact .inl (Oper.wp_tail h)
    · exact .inr ⟨hasks, a0, w0, hq⟩
  · rename_i hw
    rw [if_neg hw] at h
    exact h

theorem split_any (hB : splitB md l N = true) : ∀ (n : Nat) (listed : Array Bool) (a : Act) (w : World), listed.size = N →
    wpAny P md (headOf l N) (tailPost P l.toArray Q (l.drop N)) n listed a w → wpAny P md l.toArray Q (n + (l.length - N)) (ext listed (l.length - N)) a w := by
  simp only [splitB, Bool.and_eq_true, decide_eq_true_eq] at hB
  obtain ⟨⟨⟨hN, hH⟩, hW⟩, hS⟩ := hB
  have tail : ∀ (listed : Array Bool) (a : Act) (w : World), listed.size = N → Region.ready md (headOf l N) listed = [] → wpList P l.toArray Q (l.drop N) a w →
      wpAny P md l.toArray Q (l.length - N) (ext listed (l.length - N)) a w := by
    intro listed a w hs hr h
    have hl := all_listed hH hN hs hr
    have hseq := wpAny_of_seq (P := P) (md := md) (ops := l.toArray) (Q' := Q) (l.drop N) N (ext listed (l.length - N)) a w (fun j => by simp) (by rw [List.length_drop, hl]; exact hS) h
    rwa [List.length_drop] at hseq
  intro n
  induction n with
  | zero =>
    intro listed a w hs h
    rw [Nat.zero_add]
    exact tail listed a w hs h.1 h.2
  | succ n ih =>
    intro listed a w hs h
    by_cases hr : Region.ready md (headOf l N) listed = []
    · have := wpAny_plus (tail listed a w hs hr (h.1 hr)) (n + 1)
      rwa [Nat.add_comm] at this
    · rw [show n + 1 + (l.length - N) = (n + (l.length - N)) + 1 by omega]
      have hmem : ∀ i, i ∈ Region.ready md l.toArray (ext listed (l.length - N)) ↔ i ∈ Region.ready md (headOf l N) listed := by
        intro i
        rw [mem_ready, mem_ready]
        constructor
        · rintro ⟨h1, h2, o, ho, h3⟩
          have h1' : i < l.length := by simpa using h1
          have ho' : l[i]? = some o := by simpa using ho
          by_cases hi : i < N
          · refine ⟨by simp [headOf]; omega, by rwa [ext_get_lt _ (by omega)] at h2, o, by rw [head_get hi]; exact ho, fun e he hb => ?_⟩
            have := h3 e he hb
            rwa [ext_get_lt _ (by have := (headB_spec hH hi ho').1 e he; omega)] at this
          · exfalso
            -- one of the first is not listed: it can't have been waited for
            apply hr
            apply List.eq_nil_iff_forall_not_mem.2
            intro j hj
            rw [mem_ready] at hj
            have hjN : j < N := by have := hj.1; simp [headOf] at this; omega
            obtain ⟨e, he, hej, hb⟩ := waitB_spec (md := md) hW (by omega) ho' hjN
            have := h3 e he hb
            rw [hej, ext_get_lt _ (by omega)] at this
            have h4 := hj.2.1
            rw [Array.getD_eq_getD_getElem?, Array.getElem?_eq_getElem (by omega)] at this h4
            simp at this h4
            rw [this] at h4; cases h4
        · rintro ⟨h1, h2, o, ho, h3⟩
          have hi : i < N := by simp [headOf] at h1; omega
          have ho' : l[i]? = some o := by rw [head_get hi] at ho; simpa using ho
          refine ⟨by simp; omega, by rw [ext_get_lt _ (by omega)]; exact h2, o, by simpa using ho', fun e he hb => ?_⟩
          rw [ext_get_lt _ (by have := (headB_spec hH hi ho').1 e he; omega)]
          exact h3 e he hb
      refine ⟨fun h0 => ?_, fun i hi => ?_⟩
      · exact absurd (List.eq_nil_iff_forall_not_mem.2 fun i hi => by have := (hmem i).2 hi; rw [h0] at this; cases this) hr
      · have hi' := (hmem i).1 hi
        have hiN : i < N := by have := (mem_ready.1 hi').1; simp [headOf] at this; omega
        refine wpOp_head hH hN hiN (fun a' w' h' => ?_) (h.2 i hi')
        rw [ext_set (by omega)]
        exact ih _ a' w' (by simpa using hs) h'

/-- **A region that draws its order, cut before its last operations**: the first N in whatever order, with S behind each; then the others one after the other. -/
theorem wp_region_split {id : Nat} {a : Act} {w : World} {S : World → Prop} (N : Nat) (hm : P.follows .mixedOrders = true) (hB : splitB .any l N = true) (hS : S w.drew)
    (h : S w.drew → wpAnyH P .any (headOf l N) (tailPost P l.toArray Q (l.drop N)) S N (Array.replicate N false) a w.drew) : (Code.region id l.toArray true).wp P Q a w := by
  refine wp_region_any hm ?_
  have hN : N ≤ l.length := by
    simp only [splitB, Bool.and_eq_true, decide_eq_true_eq] at hB
    exact hB.1.1.1
  have h1 := split_any hB N (Array.replicate N false) a w.drew (by simp) (wpAny_of_held _ _ _ _ (h hS))
  have e1 : N + (l.length - N) = l.toArray.size := by simp; omega
  have e2 : ext (Array.replicate N false) (l.length - N) = Array.replicate l.toArray.size false := by
    unfold ext
    rw [Array.replicate_append_replicate, e1]
  rw [e1, e2] at h1
  exact h1
end
end

section
variable {P : Program} {md : Region.Mode} {Q : Exit → Act → World → Prop} {S : World → Prop}
/-- A way through a region: which operation comes next, and whether it is taken first ('true') or comes up alone. -/
def planB (md : Region.Mode) (ops : Array Oper) : List (Nat × Bool) → Array Bool → Bool
  | [], listed => (Region.ready md ops listed).isEmpty
  | (i, true) :: r, listed => (Region.ready md ops listed).contains i && Region.free md ops listed i && planB md ops r (listed.setIfInBounds i true)
  | (i, false) :: r, listed => decide (Region.ready md ops listed = [i]) && planB md ops r (listed.setIfInBounds i true)
def wpPlan (P : Program) (L : List Oper) (Q : Exit → Act → World → Prop) (S : World → Prop) : List (Nat × Bool) → Act → World → Prop
  | [], a, w => Q .normal a w
  | (i, true) :: r, a, w => ∃ o v, L[i]? = some o ∧ YieldsIf P L.toArray S o v a ∧ wpPlan P L Q S r (a.put o.dst v) w
  | (i, false) :: r, a, w => ∃ o, L[i]? = some o ∧ ∀ K : Act → World → Prop, Shut (∀ a w, S w → (S w → wpPlan P L Q S r a w) → K a w) → if Region.wanted o (yielded L.toArray a.tmps) = true then Oper.wp P o a w K Q else K (a.put o.dst undef) w
theorem wpPlan_sound {L : List Oper} (hs : Region.noSelect L.toArray = true) (hQ : ∀ c a d v w, Q (.panic c) (Act.put a d v) w → Q (.panic c) a w) : ∀ (pl : List (Nat × Bool)) (listed : Array Bool) (a : Act) (w : World),
    planB md L.toArray pl listed = true → S w → wpPlan P L Q S pl a w → wpAnyH P md L.toArray Q S pl.length listed a w
  | [], listed, a, w, hB, _, h => wpAnyH_done (by simpa [planB] using hB) h _
  | (i, true) :: r, listed, a, w, hB, hS, h => by
    simp only [planB, Bool.and_eq_true] at hB
    obtain ⟨o, v, ho, hy, h⟩ := h
    exact wpAnyH_take (by simpa using ho) hs hB.1.2 hB.1.1 (fun c a w => hQ c a _ _ w) hy hS (wpPlan_sound hs hQ r _ _ _ hB.2 hS h)
  | (i, false) :: r, listed, a, w, hB, hS, h => by
    simp only [planB, Bool.and_eq_true, decide_eq_true_eq] at hB
    obtain ⟨o, ho, h⟩ := h
    refine wpAnyH_all hB.1 (by simp) (fun j hj => ?_)
    have hj : j = i := by simpa using hj
    subst hj
    refine wpOp_step (by simpa using ho) (fun K hK => h K (fun a' w' hS' h' => hK a' w' ⟨hS', wpPlan_sound hs hQ r _ _ _ hB.2 hS' (h' hS')⟩))
theorem wpPlan_take {L : List Oper} {i : Nat} {o : Oper} {v : Value} {r : List (Nat × Bool)} {a : Act} {w : World} (ho : L[i]? = some o) (hy : YieldsIf P L.toArray S o v a) (h : wpPlan P L Q S r (a.put o.dst v) w) : wpPlan P L Q S ((i, true) :: r) a w := ⟨o, v, ho, hy, h⟩
theorem wpPlan_step {L : List Oper} {i : Nat} {o : Oper} {r : List (Nat × Bool)} {a : Act} {w : World} (ho : L[i]? = some o)
    (h : ∀ K : Act → World → Prop, Shut (∀ a w, S w → (S w → wpPlan P L Q S r a w) → K a w) → if Region.wanted o (yielded L.toArray a.tmps) = true then Oper.wp P o a w K Q else K (a.put o.dst undef) w) : wpPlan P L Q S ((i, false) :: r) a w := ⟨o, ho, h⟩

/-- **A region that draws its order, by a plan**: the first N operations by the plan, with S behind each; then the others one after the other. -/
theorem wp_region_plan {l : List Oper} {id : Nat} {a : Act} {w : World} (N : Nat) (pl : List (Nat × Bool)) (hm : P.follows .mixedOrders = true) (hB : splitB .any l N = true) (hs : Region.noSelect (headOf l N) = true) (hl : pl.length = N)
    (hp : planB .any (headOf l N) pl (Array.replicate N false) = true) (hQ : ∀ c a d v w, Q (.panic c) (Act.put a d v) w → Q (.panic c) a w) (hS : S w.drew)
    (h : S w.drew → wpPlan P (l.take N) (tailPost P l.toArray Q (l.drop N)) S pl a w.drew) : (Code.region id l.toArray true).wp P Q a w :=
  wp_region_split N hm hB hS fun hS' => by
    have := wpPlan_sound (P := P) (md := .any) (Q := tailPost P l.toArray Q (l.drop N)) hs (fun c a d v w => hQ c a d v w) pl (Array.replicate N false) a w.drew hp hS' (h hS')
    rwa [hl] at this
end
end Go.Proofs.YtmhfnnpbnocafaaGreat

namespace Go.Proofs.YtmhfnnpbnocafaaGreat
open Go.RowKit
set_option linter.unusedSimpArgs false
set_option linter.unusedVariables false

/-- What a temporary holds, in whatever later world. -/
structure Kind where
  p : Value → World → Prop
  fresh : Bool
  h : ∀ v w w', p v w → Below w.heap.size w w' → p v w'
  f : fresh = true → ∀ v w, p v w → ∃ b, v = .pointer (some ⟨b, 0, none⟩) ∧ b < w.heap.size
def Kind.val (c : Value) : Kind := ⟨fun v _ => v = c, false, fun _ _ _ h _ => h, fun h => by cases h⟩
def Kind.new (B : Nat) (T : TypeId) (cs : Array Value) : Kind := ⟨fun v w => ∃ b, v = .pointer (some ⟨b, 0, none⟩) ∧ B ≤ b ∧ Blk w b T cs, true,
  fun _ _ _ ⟨b, h1, h2, h3⟩ hb => ⟨b, h1, h2, h3.thru hb h3.lt⟩, fun _ _ _ ⟨b, h1, _, h3⟩ => ⟨b, h1, h3.lt⟩⟩
def Kind.say (p : Value → World → Prop) (h : ∀ v w w', p v w → Below w.heap.size w w' → p v w') : Kind := ⟨p, false, h, fun h => by cases h⟩

/-- An operation that is left: its number, its temporary, what it will hold. -/
abbrev Job := Nat × Nat × Kind
def puts (u : Nat → Value) : List Job → Act → Act
  | [], a => a
  | (j, d, _) :: r, a => puts u r (a.put (some d) (u j))
def upd (u : Nat → Value) (i : Nat) (v : Value) (j : Nat) : Value := if j = i then v else u j
theorem upd_same (u : Nat → Value) (i : Nat) (v : Value) : upd u i v i = v := if_pos rfl
theorem upd_other (u : Nat → Value) {i j : Nat} (v : Value) (h : j ≠ i) : upd u i v j = u j := if_neg h

theorem puts_congr {u u' : Nat → Value} : ∀ (js : List Job) (a : Act), (∀ x ∈ js, u x.1 = u' x.1) → puts u js a = puts u' js a
  | [], _, _ => rfl
  | (j, d, k) :: r, a, h => by
    have h1 : u j = u' j := h (j, d, k) (by simp)
    simp only [puts]
    rw [h1]
    exact puts_congr r _ fun x hx => h x (by simp [hx])
theorem puts_comm {u : Nat → Value} (d : Nat) (v : Value) : ∀ (js : List Job) (a : Act), (∀ x ∈ js, x.2.1 ≠ d) → (puts u js a).put (some d) v = puts u js (a.put (some d) v)
  | [], _, _ => rfl
  | (j, d', k) :: r, a, h => by
    have h1 : d' ≠ d := h (j, d', k) (by simp)
    simp only [puts]
    rw [puts_comm d v r _ fun x hx => h x (by simp [hx])]
    congr 1
    exact Act.put_comm a (x := some d) (y := some d') v (u j) (fun d'' hd hd' => by cases hd; cases hd'; exact h1 rfl) |>.symm
theorem put_put (a : Act) (d : Nat) (v v' : Value) : (a.put (some d) v).put (some d) v' = a.put (some d) v' := by
  simp only [Act.put]
  congr 1
  apply Array.ext_getElem?
  intro j
  simp only [Array.getElem?_setIfInBounds, Array.size_setIfInBounds]
  repeat' split
  all_goals first | rfl | simp_all
theorem put_self (a : Act) (d : Nat) : a.put (some d) (a.tmps.getD d undef) = a := by
  cases a with
  | mk t ds =>
  simp only [Act.put]
  congr 1
  apply Array.ext_getElem?
  intro j
  simp only [Array.getElem?_setIfInBounds, Array.getD_eq_getD_getElem?]
  split
  · rename_i h
    subst h
    split
    · rename_i h; rw [Array.getElem?_eq_getElem h]; rfl
    · rename_i h; rw [Array.getElem?_eq_none (by omega)]
  · rfl

def idxs (js : List Job) : List Nat := js.map (·.1)
theorem puts_put {u : Nat → Value} {i d : Nat} {k : Kind} (v : Value) : ∀ (js : List Job) (a : Act), (idxs js).Nodup → (js.map (·.2.1)).Nodup → (i, d, k) ∈ js → (puts u js a).put (some d) v = puts (upd u i v) js a
  | [], _, _, _, h => by cases h
  | (j, d', k') :: r, a, h1, h2, hm => by
    simp only [idxs, List.map_cons, List.nodup_cons] at h1 h2
    rcases List.mem_cons.1 hm with hm | hm
    · cases hm
      simp only [puts]
      rw [puts_comm d v r _ (fun x hx hd => h2.1 (List.mem_map.2 ⟨x, hx, hd⟩)), put_put, upd_same]
      exact puts_congr r _ fun x hx => (upd_other u v fun hxi => h1.1 (List.mem_map.2 ⟨x, hx, hxi⟩)).symm
    · simp only [puts]
      have hji : j ≠ i := fun hji => h1.1 (List.mem_map.2 ⟨(i, d, k), hm, hji.symm⟩)
      rw [puts_put v r _ h1.2 h2.2 hm, upd_other u v hji]
theorem puts_self : ∀ (js : List Job) (a : Act), (idxs js).Nodup → ∃ u, a = puts u js a
  | [], a, _ => ⟨fun _ => undef, rfl⟩
  | (j, d, k) :: r, a, h => by
    simp only [idxs, List.map_cons, List.nodup_cons] at h
    obtain ⟨u, hu⟩ := puts_self r a h.2
    refine ⟨upd u j (a.tmps.getD d undef), ?_⟩
    simp only [puts]
    rw [upd_same, put_self, puts_congr (u' := u) r a fun x hx => upd_other u _ fun hxi => h.1 (List.mem_map.2 ⟨x, hx, hxi⟩)]
    exact hu

/-- What these operations have left. -/
def AllR (u : Nat → Value) (w : World) : List Job → Prop
  | [] => True
  | (j, _, k) :: r => k.p (u j) w ∧ AllR u w r
theorem allR_of {u : Nat → Value} {w : World} : ∀ (js : List Job), (∀ x ∈ js, x.2.2.p (u x.1) w) → AllR u w js
  | [], _ => trivial
  | (j, d, k) :: r, h => ⟨h (j, d, k) (by simp), allR_of r fun x hx => h x (by simp [hx])⟩

section
variable {P : Program} {md : Region.Mode} {Q : Exit → Act → World → Prop} {S : World → Prop}

/-- This operation waits for that number. -/
def waits (md : Region.Mode) (o : Oper) (p : Nat) : Bool := o.after.any fun e => decide (e.on = p) && Region.binds md e
theorem waits_spec {o : Oper} {p : Nat} (h : waits md o p = true) : ∃ e ∈ o.after, Region.binds md e = true ∧ e.on = p := by
  unfold waits at h
  simp only [Array.any_eq_true', Bool.and_eq_true, decide_eq_true_eq] at h
  obtain ⟨e, he, h1, h2⟩ := h
  exact ⟨e, he, h2, h1⟩
theorem waits_of {o : Oper} {e : Edge} (he : e ∈ o.after) (hb : Region.binds md e = true) : waits md o e.on = true := by
  unfold waits
  simp only [Array.any_eq_true', Bool.and_eq_true, decide_eq_true_eq]
  exact ⟨e, he, rfl, hb⟩

/-- What is to be shown of one operation: that it leaves what is said, and no block is another one then. -/
def EachOp (P : Program) (l : List Oper) (Q : Exit → Act → World → Prop) (js ps : List Job) (a0 : Act) (w0 : World) (d : Nat) (k : Kind) (o : Oper) : Prop :=
  ∀ (u : Nat → Value) (w : World), Below w0.heap.size w0 w → AllR u w ps → ∀ a : Act, a = puts u js a0 → ∀ K : Act → World → Prop,
    Shut (∀ (a' : Act) (v : Value) (w' : World), a' = a.put (some d) v → Below w.heap.size w w' → k.p v w' → (k.fresh = true → v = .pointer (some ⟨w.heap.size, 0, none⟩)) → K a' w') →
    if Region.wanted o (yielded l.toArray a.tmps) = true then Oper.wp P o a w K Q else K (a.put o.dst undef) w
/-- .. and of one that only reads or reckons. -/
def EachTake (P : Program) (l : List Oper) (js ps : List Job) (a0 : Act) (w0 : World) (k : Kind) (o : Oper) : Prop :=
  k.fresh = false ∧ ∀ (u : Nat → Value) (w : World), Below w0.heap.size w0 w → AllR u w ps → ∀ a : Act, a = puts u js a0 →
    ∃ v, k.p v w ∧ ((Region.wanted o (yielded l.toArray a.tmps) = true ∧ ∀ W, (execOp a.eval o).run P W = .ok (.value v) W) ∨ (Region.wanted o (yielded l.toArray a.tmps) = false ∧ v = undef))
/-- One operation of those that are left: the operation, and those of the others that it waits for. -/
def EachAt (P : Program) (md : Region.Mode) (l : List Oper) (Q : Exit → Act → World → Prop) (js : List Job) (os : List Nat) (a0 : Act) (w0 : World) (x : Job) : Prop :=
  ∃ (o : Oper) (ps : List Job), l[x.1]? = some o ∧ o.dst = some x.2.1 ∧ (ps.all fun p => waits md o p.1) = true ∧ (∀ p ∈ ps, p ∈ js) ∧
    if os.contains x.1 = true then EachTake P l js ps a0 w0 x.2.2 o else EachOp P l Q js ps a0 w0 x.2.1 x.2.2 o
def Eachs (P : Program) (md : Region.Mode) (l : List Oper) (Q : Exit → Act → World → Prop) (js : List Job) (os : List Nat) (a0 : Act) (w0 : World) : List Job → Prop
  | [] => True
  | x :: r => EachAt P md l Q js os a0 w0 x ∧ Eachs P md l Q js os a0 w0 r
theorem Eachs.nil {l : List Oper} {js : List Job} {os : List Nat} {a0 : Act} {w0 : World} : Eachs P md l Q js os a0 w0 [] := trivial
theorem Eachs.cons {l : List Oper} {js : List Job} {os : List Nat} {a0 : Act} {w0 : World} {x : Job} {r : List Job} (h : EachAt P md l Q js os a0 w0 x) (hr : Eachs P md l Q js os a0 w0 r) : Eachs P md l Q js os a0 w0 (x :: r) := ⟨h, hr⟩
theorem each_op {l : List Oper} {js : List Job} {os : List Nat} {a0 : Act} {w0 : World} {x : Job} {o : Oper} (ps : List Job) (ho : l[x.1]? = some o) (hd : o.dst = some x.2.1) (hw : (ps.all fun p => waits md o p.1) = true) (hm : ∀ p ∈ ps, p ∈ js) (hos : os.contains x.1 = false)
    (h : EachOp P l Q js ps a0 w0 x.2.1 x.2.2 o) : EachAt P md l Q js os a0 w0 x := ⟨o, ps, ho, hd, hw, hm, by rw [hos]; exact h⟩
theorem each_take {l : List Oper} {js : List Job} {os : List Nat} {a0 : Act} {w0 : World} {x : Job} {o : Oper} (ps : List Job) (ho : l[x.1]? = some o) (hd : o.dst = some x.2.1) (hw : (ps.all fun p => waits md o p.1) = true) (hm : ∀ p ∈ ps, p ∈ js) (hos : os.contains x.1 = true)
    (h : EachTake P l js ps a0 w0 x.2.2 o) : EachAt P md l Q js os a0 w0 x := ⟨o, ps, ho, hd, hw, hm, by rw [hos]; exact h⟩
theorem eachs_at {l : List Oper} {js : List Job} {os : List Nat} {a0 : Act} {w0 : World} : ∀ (r : List Job), Eachs P md l Q js os a0 w0 r → ∀ x ∈ r, EachAt P md l Q js os a0 w0 x
  | [], _, x, hx => by cases hx
  | y :: r, h, x, hx => by
    rcases List.mem_cons.1 hx with rfl | hx
    · exact h.1
    · exact eachs_at r h.2 x hx

/-- The region's form, looked at by program. -/
def backB (md : Region.Mode) (l : List Oper) (ns : List Nat) (listed : Array Bool) : Bool :=
  ns.all fun j => !listed.getD j true && match l[j]? with
    | some o => o.after.all fun e => !Region.binds md e || (decide (e.on < j) && (listed.getD e.on false || ns.contains e.on))
    | none => false
def tailB (md : Region.Mode) (l : List Oper) (ns os : List Nat) (listed : Array Bool) : Bool :=
  (List.range l.length).all fun i => listed.getD i true || ns.contains i || match l[i]? with
    | some o => (o.after.any fun e => Region.binds md e && !listed.getD e.on true && !ns.contains e.on) || ns.all fun j => os.contains j || waits md o j
    | none => false
def optB (md : Region.Mode) (l : List Oper) (os : List Nat) : Bool :=
  os.all fun i => match l[i]? with
    | some oi => (List.range l.length).all fun j => decide (j = i) || match l[j]? with
      | some oj => waits md oi j || waits md oj i || oi.apart l.toArray oj
      | none => false
    | none => false
def restB (md : Region.Mode) (l : List Oper) (ns os : List Nat) (listed : Array Bool) : Bool :=
  decide (listed.size = l.length) && backB md l ns listed && tailB md l ns os listed && optB md l os && Region.noSelect l.toArray

def allSet (listed : Array Bool) : List Nat → Array Bool
  | [] => listed
  | j :: r => allSet (listed.setIfInBounds j true) r
theorem allSet_size : ∀ (r : List Nat) (listed : Array Bool), (allSet listed r).size = listed.size
  | [], _ => rfl
  | j :: r, listed => by rw [allSet, allSet_size r]; simp
theorem set_getD (listed : Array Bool) (j i : Nat) (h : i < listed.size) : (listed.setIfInBounds j true).getD i true = if i = j then true else listed.getD i true := by
  rw [Array.getD_eq_getD_getElem?, Array.getElem?_setIfInBounds, Array.getD_eq_getD_getElem?]
  split
  · rename_i e
    subst e
    rw [if_pos rfl, if_pos h]; rfl
  · rename_i e
    rw [if_neg (fun hc => e hc.symm)]
theorem allSet_getD : ∀ (r : List Nat) (listed : Array Bool) (i : Nat), i < listed.size → (allSet listed r).getD i true = if i ∈ r then true else listed.getD i true
  | [], listed, i, h => by simp [allSet]
  | j :: r, listed, i, h => by
    rw [allSet, allSet_getD r _ i (by simpa using h), set_getD listed j i h]
    by_cases h1 : i ∈ r
    · simp [h1]
    · by_cases h2 : i = j
      · simp [h2]
      · simp [h1, h2]

structure Inv (l : List Oper) (js : List Job) (a0 : Act) (w0 : World) (listed0 listed : Array Bool) (a : Act) (w : World) (u : Nat → Value) : Prop where
  a : a = puts u js a0
  b : Below w0.heap.size w0 w
  r : ∀ x ∈ js, listed.getD x.1 true = true → x.2.2.p (u x.1) w
  d : ∀ x ∈ js, ∀ y ∈ js, x.1 ≠ y.1 → listed.getD x.1 true = true → listed.getD y.1 true = true → x.2.2.fresh = true → y.2.2.fresh = true → u x.1 ≠ u y.1
  s : listed.size = l.length
  i : ∀ i, i < l.length → i ∉ idxs js → listed.getD i true = listed0.getD i true

def left (js : List Job) (listed : Array Bool) : Nat := (js.filter fun x => !listed.getD x.1 true).length
theorem left_set {listed : Array Bool} {xi : Nat} (hs : xi < listed.size) (h2 : listed.getD xi true = false) : ∀ (r : List Job), (idxs r).Nodup → left r (listed.setIfInBounds xi true) + (if xi ∈ idxs r then 1 else 0) = left r listed
  | [], _ => rfl
  | q :: r, hn => by
    simp only [idxs, List.map_cons, List.nodup_cons] at hn
    have ih := left_set hs h2 r hn.2
    unfold left at ih ⊢
    rcases Nat.decEq q.1 xi with hne | heq
    · have e1 : (listed.setIfInBounds xi true).getD q.1 true = listed.getD q.1 true := by
        rw [Array.getD_eq_getD_getElem?, Array.getElem?_setIfInBounds_ne (fun h => hne h.symm), Array.getD_eq_getD_getElem?]
      have hm : (xi ∈ idxs (q :: r)) ↔ xi ∈ idxs r := by simp only [idxs, List.map_cons, List.mem_cons]; exact ⟨fun h => h.resolve_left fun h => hne h.symm, .inr⟩
      simp only [hm]
      cases hg : listed.getD q.1 true
      · rw [List.filter_cons_of_pos (by rw [e1, hg]; rfl), List.filter_cons_of_pos (by rw [hg]; rfl), List.length_cons, List.length_cons]
        omega
      · rw [List.filter_cons_of_neg (by rw [e1, hg]; decide), List.filter_cons_of_neg (by rw [hg]; decide)]
        exact ih
    · have e1 : (listed.setIfInBounds xi true).getD q.1 true = true := by rw [heq, set_getD _ _ _ hs, if_pos rfl]
      have hno : xi ∉ idxs r := fun h => hn.1 (by rw [heq]; exact h)
      rw [if_neg hno] at ih
      rw [List.filter_cons_of_neg (by rw [e1]; decide), List.filter_cons_of_pos (by rw [heq, h2]; rfl), List.length_cons, if_pos (by simp [idxs, heq])]
      omega
theorem left_zero {listed : Array Bool} {js : List Job} (h : left js listed = 0) : ∀ x ∈ js, listed.getD x.1 true = true := fun x hx => by
  cases hg : listed.getD x.1 true
  · have hm : x ∈ js.filter fun x => !listed.getD x.1 true := List.mem_filter.2 ⟨hx, by rw [hg]; rfl⟩
    have := List.length_pos_of_mem hm
    unfold left at h
    omega
  · rfl
theorem job_eq : ∀ (l : List Job), (idxs l).Nodup → ∀ y ∈ l, ∀ z ∈ l, y.1 = z.1 → y = z
  | [], _, y, hy => by cases hy
  | q :: r, hn, y, hy => fun z hz hyz => by
    simp only [idxs, List.map_cons, List.nodup_cons] at hn
    rcases List.mem_cons.1 hy with h1 | h1 <;> rcases List.mem_cons.1 hz with h2 | h2
    · rw [h1, h2]
    · exact absurd (List.mem_map.2 ⟨z, h2, by rw [← hyz, h1]⟩) hn.1
    · exact absurd (List.mem_map.2 ⟨y, h1, by rw [hyz, h2]⟩) hn.1
    · exact job_eq r hn.2 y h1 z h2 hyz

/-- One operation more has come up. -/
theorem Inv.next {l : List Oper} {js : List Job} {a0 : Act} {w0 : World} {listed0 listed : Array Bool} {a : Act} {w : World} {u : Nat → Value} (hI : Inv l js a0 w0 listed0 listed a w u) (hnd : (idxs js).Nodup) (hsd : (js.map (·.2.1)).Nodup)
    {xi d : Nat} {k : Kind} (hx : (xi, d, k) ∈ js) (hlt : xi < l.length) {v : Value} {w' : World} (hb' : Below w.heap.size w w') (hk' : k.p v w') (hf' : k.fresh = true → v = .pointer (some ⟨w.heap.size, 0, none⟩)) :
    Inv l js a0 w0 listed0 (listed.setIfInBounds xi true) (a.put (some d) v) w' (upd u xi v) := by
  have hbw : Below w0.heap.size w0 w' := hI.b.trans (hb'.mono hI.b.size)
  have hset : ∀ j, (listed.setIfInBounds xi true).getD j true = true → j = xi ∨ listed.getD j true = true := fun j hj => by
    rcases Nat.decEq j xi with hne | heq
    · right
      rw [Array.getD_eq_getD_getElem?, Array.getElem?_setIfInBounds_ne (fun h => hne h.symm)] at hj
      rw [Array.getD_eq_getD_getElem?]
      exact hj
    · exact .inl heq
  have hxx : ∀ y ∈ js, y.1 = xi → y = (xi, d, k) := fun y hy hyi => job_eq js hnd y hy (xi, d, k) hx hyi
  refine ⟨?_, hbw, fun y hy hl => ?_, fun y hy z hz hne hly hlz hfy hfz => ?_, by rw [Array.size_setIfInBounds]; exact hI.s, fun j hj hlj => ?_⟩
  · rw [hI.a]
    exact puts_put v js a0 hnd hsd hx
  · rcases Nat.decEq y.1 xi with hne | heq
    · rw [upd_other u v hne]
      exact y.2.2.h _ w w' (hI.r y hy ((hset y.1 hl).resolve_left hne)) hb'
    · cases hxx y hy heq
      rw [upd_same]
      exact hk'
  · rcases Nat.decEq y.1 xi with hny | hqy
    · have hly' := (hset y.1 hly).resolve_left hny
      rw [upd_other u v hny]
      rcases Nat.decEq z.1 xi with hnz | hqz
      · rw [upd_other u v hnz]
        exact hI.d y hy z hz hne hly' ((hset z.1 hlz).resolve_left hnz) hfy hfz
      · cases hxx z hz hqz
        rw [upd_same, hf' hfz]
        obtain ⟨b, hb, hblt⟩ := y.2.2.f hfy _ w (hI.r y hy hly')
        rw [hb]
        intro hc
        simp only [Value.pointer.injEq, Option.some.injEq, Addr.mk.injEq] at hc
        omega
    · cases hxx y hy hqy
      have hnz : z.1 ≠ xi := fun h => hne h.symm
      have hlz' := (hset z.1 hlz).resolve_left hnz
      rw [upd_same, upd_other u v hnz, hf' hfy]
      obtain ⟨b, hb, hblt⟩ := z.2.2.f hfz _ w (hI.r z hz hlz')
      rw [hb]
      intro hc
      simp only [Value.pointer.injEq, Option.some.injEq, Addr.mk.injEq] at hc
      omega
  · have hne : j ≠ xi := fun h => hlj (by rw [h]; exact List.mem_map.2 ⟨_, hx, rfl⟩)
    rw [set_getD _ _ _ (by rw [hI.s]; exact hj), if_neg hne]
    exact hI.i j hj hlj

theorem each_all {l : List Oper} {js : List Job} {os : List Nat} {a0 : Act} {w0 : World} {listed0 : Array Bool} {fe : Nat} (hB : restB md l (idxs js) os listed0 = true) (hnd : (idxs js).Nodup) (hsd : (js.map (·.2.1)).Nodup) (hQ : ∀ c a d v w, Q (.panic c) (Act.put a d v) w → Q (.panic c) a w) (hS : ∀ w, Below w0.heap.size w0 w → S w) (hops : Eachs P md l Q js os a0 w0 js)
    (hend : ∀ u w, Below w0.heap.size w0 w → AllR u w js → (∀ x ∈ js, ∀ y ∈ js, x.1 ≠ y.1 → x.2.2.fresh = true → y.2.2.fresh = true → u x.1 ≠ u y.1) → ∀ a, a = puts u js a0 → wpAnyH P md l.toArray Q S fe (allSet listed0 (idxs js)) a w) :
    ∀ (n : Nat) (listed : Array Bool) (a : Act) (w : World) (u : Nat → Value), left js listed = n → Inv l js a0 w0 listed0 listed a w u → wpAnyH P md l.toArray Q S (fe + n) listed a w := by
  unfold restB at hB
  simp only [Bool.and_eq_true, decide_eq_true_eq] at hB
  obtain ⟨⟨⟨⟨hs0, hback⟩, htail⟩, hopt⟩, hsel⟩ := hB
  -- what is known of a job
  have job : ∀ x ∈ js, ∃ o, l[x.1]? = some o ∧ x.1 < l.length ∧ ∀ e ∈ o.after, Region.binds md e = true → e.on < x.1 ∧ (listed0.getD e.on false = true ∨ e.on ∈ idxs js) := fun x hx => by
    have := List.all_eq_true.1 hback x.1 (List.mem_map.2 ⟨x, hx, rfl⟩)
    simp only [Bool.and_eq_true] at this
    obtain ⟨_, h2⟩ := this
    cases ho : l[x.1]? with
    | none => rw [ho] at h2; cases h2
    | some o =>
      rw [ho] at h2
      refine ⟨o, rfl, (List.getElem?_eq_some_iff.1 ho).1, fun e he hb => ?_⟩
      have := Array.all_eq_true'.1 h2 e he
      simp only [hb, Bool.not_true, Bool.false_or, Bool.and_eq_true, decide_eq_true_eq, Bool.or_eq_true, List.contains_iff_mem] at this
      exact this
  have tog : ∀ (listed : Array Bool) (i : Nat), i < listed.size → listed.getD i false = listed.getD i true := fun listed i hi => by
    rw [Array.getD_eq_getD_getElem?, Array.getD_eq_getD_getElem?, Array.getElem?_eq_getElem hi]; rfl
  -- a job all of whose predecessors are listed may come up
  have come : ∀ (listed : Array Bool) (a : Act) (w : World) (u : Nat → Value), Inv l js a0 w0 listed0 listed a w u → ∀ x ∈ js, listed.getD x.1 true = false → (∀ p, (∃ o, l[x.1]? = some o ∧ waits md o p = true) → p ∈ idxs js → listed.getD p true = true) → x.1 ∈ Region.ready md l.toArray listed := fun listed a w u hI x hx hu hp => by
    obtain ⟨o, ho, hlt, hpred⟩ := job x hx
    rw [mem_ready]
    refine ⟨by simpa using hlt, hu, o, by simpa using ho, fun e he hb => ?_⟩
    obtain ⟨h1, h2⟩ := hpred e he hb
    have hsz := hI.s
    rw [tog listed e.on (by omega)]
    by_cases hm : e.on ∈ idxs js
    · exact hp e.on ⟨o, ho, waits_of he hb⟩ hm
    · rw [hI.i e.on (by omega) hm, ← tog listed0 e.on (by omega)]
      exact h2.resolve_right hm
  intro n
  induction n with
  | zero =>
    intro listed a w u hn hI
    have hall := left_zero hn
    have hl : listed = allSet listed0 (idxs js) := by
      apply Array.ext
      · rw [allSet_size, hI.s, hs0]
      · intro i h1 h2
        have hil : i < l.length := by have := hI.s; omega
        have e1 := allSet_getD (idxs js) listed0 i (by omega)
        have e2 : listed.getD i true = listed[i] := by rw [Array.getD_eq_getD_getElem?, Array.getElem?_eq_getElem h1]; rfl
        have e3 : (allSet listed0 (idxs js)).getD i true = (allSet listed0 (idxs js))[i] := by rw [Array.getD_eq_getD_getElem?, Array.getElem?_eq_getElem h2]; rfl
        rw [← e2, ← e3, e1]
        by_cases hm : i ∈ idxs js
        · rw [if_pos hm]
          obtain ⟨x, hx, hxi⟩ := List.mem_map.1 hm
          rw [← hxi]
          exact hall x hx
        · rw [if_neg hm]
          exact hI.i i hil hm
    rw [hl, Nat.add_zero]
    exact hend u w hI.b (allR_of js fun x hx => hI.r x hx (hall x hx)) (fun x hx y hy hne hfx hfy => hI.d x hx y hy hne (hall x hx) (hall y hy) hfx hfy) a hI.a
  | succ n ih =>
    intro listed a w u hn hI
    -- one that only reckons is taken first
    by_cases hop : ∃ x ∈ js, os.contains x.1 = true ∧ x.1 ∈ Region.ready md l.toArray listed
    · obtain ⟨⟨xi, d, k⟩, hx, hox, hr⟩ := hop
      simp only at hox hr
      obtain ⟨h1, h2, o', ho', h3⟩ := mem_ready.1 hr
      have hil : xi < l.length := by simpa using h1
      obtain ⟨o, ps, ho, hd, hpb, hps, hE⟩ := eachs_at js hops (xi, d, k) hx
      simp only at ho hE hd
      rw [if_pos hox] at hE
      have hoo : o' = o := by
        rw [List.getElem?_toArray, ho] at ho'
        exact (Option.some.inj ho').symm
      subst hoo
      obtain ⟨hkf, hE⟩ := hE
      have hpr : ∀ p ∈ ps, p.2.2.p (u p.1) w := fun p hp => by
        have := List.all_eq_true.1 hpb p hp
        obtain ⟨e, he, hb, hep⟩ := waits_spec this
        have hl := h3 e he hb
        rw [hep] at hl
        refine hI.r p (hps p hp) ?_
        rw [Array.getD_eq_getD_getElem?] at hl ⊢
        cases hq : listed[p.1]? with
        | none => rw [hq] at hl; cases hl
        | some b => rw [hq] at hl; simpa using hl
      obtain ⟨v, hkv, hy⟩ := hE u w hI.b (allR_of ps hpr) a hI.a
      · have hnx := hI.next hnd hsd hx hil (Below.refl _ _) hkv (fun h => by rw [hkf] at h; cases h)
        have hle := left_set (by rw [hI.s]; exact hil) h2 js hnd
        rw [if_pos (show xi ∈ idxs js from List.mem_map.2 ⟨_, hx, rfl⟩)] at hle
        have := ih (listed.setIfInBounds xi true) (a.put (some d) v) w (upd u xi v) (by omega) hnx
        refine wpAnyH_first ho' (Region.noSelect_spec hsel) (fun c a w h => hQ c a _ _ w h) (fe + n) listed a w (fun j oj hj hne hju hno => ?_) hr (hy.imp (fun h => ⟨h.1, fun W _ => h.2 W⟩) id) (hS w hI.b) (by rw [hd]; exact this)
        have hjl : j < l.length := by
          have := (Array.getElem?_eq_some_iff.1 hj).1
          simpa using this
        have hox' : xi ∈ os := by simpa using hox
        have hc := List.all_eq_true.1 hopt xi hox'
        rw [ho] at hc
        simp only [List.all_eq_true, List.mem_range] at hc
        have hc := hc j hjl
        have hj' : l[j]? = some oj := by simpa using hj
        rw [hj'] at hc
        simp only [Bool.or_eq_true, decide_eq_true_eq] at hc
        rcases hc with hc | (hc | hc) | hc
        · exact absurd hc hne
        · obtain ⟨e, he, hb, hej⟩ := waits_spec hc
          have := h3 e he hb
          rw [hej, tog listed j (by rw [hI.s]; exact hjl), hju] at this
          cases this
        · obtain ⟨e, he, hb, hei⟩ := waits_spec hc
          exact absurd hei (hno e he hb)
        · exact hc
    · have hopn : ∀ x ∈ js, os.contains x.1 = true → x.1 ∈ Region.ready md l.toArray listed → False := fun x hx h1 h2 => hop ⟨x, hx, h1, h2⟩
      -- some job is left, and the first of them may come up
      have some' : ∃ x ∈ js, x.1 ∈ Region.ready md l.toArray listed := by
        apply Classical.byContradiction
        intro hno
        have : ∀ i, ∀ x ∈ js, x.1 = i → listed.getD x.1 true = true := by
          intro i
          induction i using Nat.strongRecOn with
          | _ i ihi =>
            intro x hx hxi
            cases hg : listed.getD x.1 true
            · exfalso
              refine hno ⟨x, hx, come listed a w u hI x hx hg fun p ⟨o, ho, hw⟩ hp => ?_⟩
              obtain ⟨y, hy, hyp⟩ := List.mem_map.1 hp
              obtain ⟨o', ho', hlt, hpred⟩ := job x hx
              rw [ho] at ho'
              cases ho'
              obtain ⟨e, he, hb, hep⟩ := waits_spec hw
              have := (hpred e he hb).1
              rw [← hyp]
              exact ihi p (by omega) y hy hyp
            · rfl
        have hz : left js listed = 0 := by
          unfold left
          rw [List.length_eq_zero_iff, List.filter_eq_nil_iff]
          intro x hx
          rw [this x.1 x hx rfl]
          decide
        omega
      refine ⟨fun h0 => ?_, fun i hi => ?_⟩
      · obtain ⟨x, _, hx⟩ := some'
        rw [h0] at hx
        cases hx
      · obtain ⟨h1, h2, o', ho', h3⟩ := mem_ready.1 hi
        have hil : i < l.length := by simpa using h1
        by_cases hm : i ∈ idxs js
        · obtain ⟨⟨xi, d, k⟩, hx, hxi⟩ := List.mem_map.1 hm
          simp only at hxi
          subst hxi
          obtain ⟨o, ps, ho, hd, hpb, hps, hE⟩ := eachs_at js hops (xi, d, k) hx
          simp only at ho hE hd
          have hno : ¬ os.contains xi = true := fun h => hopn (xi, d, k) hx h hi
          rw [if_neg hno] at hE
          have hoo : o' = o := by
            rw [List.getElem?_toArray, ho] at ho'
            exact (Option.some.inj ho').symm
          subst hoo
          refine wpOp_step ho' (fun K hK => ?_)
          refine hE u w hI.b (allR_of ps fun p hp => ?_) a hI.a K (fun a' v w' ha' hb' hk' hf' => ?_)
          · have := List.all_eq_true.1 hpb p hp
            obtain ⟨e, he, hb, hep⟩ := waits_spec this
            have hl := h3 e he hb
            rw [hep] at hl
            refine hI.r p (hps p hp) ?_
            rw [Array.getD_eq_getD_getElem?] at hl ⊢
            cases hq : listed[p.1]? with
            | none => rw [hq] at hl; cases hl
            | some b => rw [hq] at hl; simpa using hl
          · have hnx := hI.next hnd hsd hx hil hb' hk' hf'
            have hle := left_set (by rw [hI.s]; exact hil) h2 js hnd
            rw [if_pos hm] at hle
            rw [ha']
            exact hK _ w' ⟨hS w' hnx.b, ih (listed.setIfInBounds xi true) (a.put (some d) v) w' (upd u xi v) (by omega) hnx⟩
        · -- one of the tail: it waits
          exfalso
          have := List.all_eq_true.1 htail i (by simpa using hil)
          simp only [Bool.or_eq_true, List.contains_iff_mem] at this
          rcases this with (hc | hc) | hc
          · rw [hI.i i hil hm, hc] at h2
            cases h2
          · exact hm hc
          · have ho : l[i]? = some o' := by simpa using ho'
            rw [ho] at hc
            simp only [Bool.or_eq_true, Array.any_eq_true', Bool.and_eq_true, Bool.not_eq_true'] at hc
            rcases hc with ⟨e, he, ⟨hb, hu⟩, hnj⟩ | hc
            · have hl := h3 e he hb
              have hlt : e.on < listed0.size := by
                apply Classical.byContradiction
                intro hc
                rw [Array.getD_eq_getD_getElem?, Array.getElem?_eq_none (by omega)] at hu
                cases hu
              have hnj' : e.on ∉ idxs js := fun h => by
                have := List.contains_iff_mem.2 h
                rw [hnj] at this
                cases this
              rw [tog listed e.on (by rw [hI.s]; omega), hI.i e.on (by omega) hnj', hu] at hl
              cases hl
            · -- all that must be are listed; so are those that only reckon
              have hreq : ∀ x ∈ js, ¬ os.contains x.1 = true → listed.getD x.1 true = true := fun x hx hnx => by
                have := List.all_eq_true.1 hc x.1 (List.mem_map.2 ⟨x, hx, rfl⟩)
                simp only [Bool.or_eq_true] at this
                obtain ⟨e, he, hb, hex⟩ := waits_spec (this.resolve_left hnx)
                have hl := h3 e he hb
                obtain ⟨_, _, hlt, _⟩ := job x hx
                rw [hex, tog listed x.1 (by rw [hI.s]; exact hlt)] at hl
                exact hl
              have hall : ∀ j, ∀ x ∈ js, x.1 = j → listed.getD x.1 true = true := by
                intro j
                induction j using Nat.strongRecOn with
                | _ j ihj =>
                  intro x hx hxj
                  cases hg : listed.getD x.1 true
                  · exfalso
                    by_cases hox : os.contains x.1 = true
                    · refine hopn x hx hox (come listed a w u hI x hx hg fun p ⟨o, ho, hw⟩ hp => ?_)
                      obtain ⟨y, hy, hyp⟩ := List.mem_map.1 hp
                      obtain ⟨o'', ho'', hlt, hpred⟩ := job x hx
                      rw [ho] at ho''
                      cases ho''
                      obtain ⟨e, he, hb, hep⟩ := waits_spec hw
                      have := (hpred e he hb).1
                      rw [← hyp]
                      exact ihj p (by omega) y hy hyp
                    · rw [hreq x hx hox] at hg; cases hg
                  · rfl
              obtain ⟨x, hx, hxr⟩ := some'
              have := (mem_ready.1 hxr).2.1
              rw [hall x.1 x hx rfl] at this
              cases this

/-- **The rest of a region, operation by operation, in whatever order**; what is left behind it stands as it is. -/
theorem wpAnyH_each {l : List Oper} {listed : Array Bool} {a0 : Act} {w0 : World} (js : List Job) (os : List Nat) (fe : Nat) (hB : restB md l (idxs js) os listed = true) (hnd : (idxs js).Nodup) (hsd : (js.map (·.2.1)).Nodup) (hQ : ∀ c a d v w, Q (.panic c) (Act.put a d v) w → Q (.panic c) a w)
    (hS : ∀ w, Below w0.heap.size w0 w → S w) (hops : Eachs P md l Q js os a0 w0 js)
    (hend : ∀ u w, Below w0.heap.size w0 w → AllR u w js → (∀ x ∈ js, ∀ y ∈ js, x.1 ≠ y.1 → x.2.2.fresh = true → y.2.2.fresh = true → u x.1 ≠ u y.1) → ∀ a, a = puts u js a0 → wpAnyH P md l.toArray Q S fe (allSet listed (idxs js)) a w) :
    wpAnyH P md l.toArray Q S (fe + js.length) listed a0 w0 := by
  have hB' := hB
  unfold restB at hB'
  simp only [Bool.and_eq_true, decide_eq_true_eq] at hB'
  obtain ⟨⟨⟨⟨hs, hback⟩, _⟩, _⟩, _⟩ := hB'
  obtain ⟨u, hu0⟩ := puts_self js a0 hnd
  have hno : ∀ x ∈ js, listed.getD x.1 true = false := fun x hx => by
    have := List.all_eq_true.1 hback x.1 (List.mem_map.2 ⟨x, hx, rfl⟩)
    simp only [Bool.and_eq_true, Bool.not_eq_true'] at this
    exact this.1
  have hlen : left js listed = js.length := by
    unfold left
    rw [List.length_filter_eq_length_iff]
    intro x hx
    rw [hno x hx]; rfl
  have := each_all (fe := fe) hB hnd hsd hQ hS hops hend js.length listed a0 w0 u hlen ⟨hu0, Below.refl _ _, fun x hx hl => ?_, fun x hx _ _ _ hl => ?_, hs, fun _ _ _ => rfl⟩
  · exact this
  · rw [hno x hx] at hl; cases hl
  · rw [hno x hx] at hl; cases hl
end
end Go.Proofs.YtmhfnnpbnocafaaGreat
