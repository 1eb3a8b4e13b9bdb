/- Rows of cells below a block; a gate, where it lies; its numbers in range. -/
import Derived.Test.YtgdomaddjiggaaaGreatGtEach
namespace Go.Proofs.YtgdomaddjiggaaaGreat
open Go.RowKit
set_option linter.unusedSimpArgs false
set_option linter.unusedVariables false

/-- A slice of rows of cells that lies below block B. -/
def Tab (w : World) (B : Nat) (A : Option Addr) (n size : Nat) (rows : List (List Value)) : Prop :=
  rows.length = n ∧ (0 < n → ∃ b off, A = some ⟨b, off, none⟩ ∧ b < B ∧ ∀ (k : Nat) (r : List Value), rows[k]? = some r → ∀ (j : Nat) (v : Value), r[j]? = some v → w.cell? ⟨b, off + k * size + j, none⟩ = some v)
theorem Tab.keep {w w' : World} {B A n size rows} (h : Tab w B A n size rows) (hk : ∀ p : Addr, p.block < B → w'.cell? p = w.cell? p) : Tab w' B A n size rows :=
  ⟨h.1, fun hn => by
    obtain ⟨b, off, e, hb, hc⟩ := h.2 hn
    exact ⟨b, off, e, hb, fun k r hr j v hv => (hk _ hb).trans (hc k r hr j v hv)⟩⟩
theorem Tab.more {w : World} {B B' A n size rows} (h : Tab w B A n size rows) (hB : B ≤ B') : Tab w B' A n size rows :=
  ⟨h.1, fun hn => by
    obtain ⟨b, off, e, hb, hc⟩ := h.2 hn
    exact ⟨b, off, e, by omega, hc⟩⟩
theorem Tab.below {w w' : World} {B A n size rows} (h : Tab w B A n size rows) (hb : Below B w w') : Tab w' B A n size rows := h.keep fun _ hp => hb.cell hp
theorem Tab.grow {w w' : World} {A n size rows} (h : Tab w w.heap.size A n size rows) (hb : Below w.heap.size w w') : Tab w' w'.heap.size A n size rows := (h.below hb).more hb.size

theorem Tab.two {w : World} {B A n rows} (h : Tab w B A n 2 rows) {k : Nat} {x y : Value} (hr : rows[k]? = some [x, y]) : ∃ b off, A = some ⟨b, off, none⟩ ∧ b < B ∧ w.cell? ⟨b, off + k * 2, none⟩ = some x ∧ w.cell? ⟨b, off + k * 2 + 1, none⟩ = some y := by
  obtain ⟨b, off, e, hb, hc⟩ := h.2 (by have := (List.getElem?_eq_some_iff.1 hr).1; have := h.1; omega)
  exact ⟨b, off, e, hb, hc k _ hr 0 _ rfl, hc k _ hr 1 _ rfl⟩
theorem Tab.three {w : World} {B A n rows} (h : Tab w B A n 3 rows) {k : Nat} {x y z : Value} (hr : rows[k]? = some [x, y, z]) : ∃ b off, A = some ⟨b, off, none⟩ ∧ b < B ∧ w.cell? ⟨b, off + k * 3, none⟩ = some x ∧ w.cell? ⟨b, off + k * 3 + 1, none⟩ = some y ∧ w.cell? ⟨b, off + k * 3 + 2, none⟩ = some z := by
  obtain ⟨b, off, e, hb, hc⟩ := h.2 (by have := (List.getElem?_eq_some_iff.1 hr).1; have := h.1; omega)
  exact ⟨b, off, e, hb, hc k _ hr 0 _ rfl, hc k _ hr 1 _ rfl, hc k _ hr 2 _ rfl⟩
theorem drop_cons {α : Type} {l : List α} {k : Nat} {x : α} (h : l[k]? = some x) : l.drop k = x :: l.drop (k + 1) := by
  have := List.getElem?_eq_some_iff.1 h
  rw [List.drop_eq_getElem_cons this.1, this.2]
theorem get_lt {α : Type} {l : List α} {k n : Nat} (h : l.length = n) (hk : k < n) : ∃ x, l[k]? = some x := ⟨l[k]'(by omega), List.getElem?_eq_getElem _⟩

theorem Tab.one {w : World} {B A n rows} (h : Tab w B A n 1 rows) {k : Nat} {x : Value} (hr : rows[k]? = some [x]) : ∃ b off, A = some ⟨b, off, none⟩ ∧ b < B ∧ w.cell? ⟨b, off + k, none⟩ = some x := by
  obtain ⟨b, off, e, hb, hc⟩ := h.2 (by have := (List.getElem?_eq_some_iff.1 hr).1; have := h.1; omega)
  exact ⟨b, off, e, hb, by simpa using hc k _ hr 0 _ rfl⟩
theorem Tab.four {w : World} {B A n rows} (h : Tab w B A n 4 rows) {k : Nat} {x y z u : Value} (hr : rows[k]? = some [x, y, z, u]) : ∃ b off, A = some ⟨b, off, none⟩ ∧ b < B ∧ w.cell? ⟨b, off + k * 4, none⟩ = some x ∧ w.cell? ⟨b, off + k * 4 + 1, none⟩ = some y ∧ w.cell? ⟨b, off + k * 4 + 2, none⟩ = some z ∧ w.cell? ⟨b, off + k * 4 + 3, none⟩ = some u := by
  obtain ⟨b, off, e, hb, hc⟩ := h.2 (by have := (List.getElem?_eq_some_iff.1 hr).1; have := h.1; omega)
  exact ⟨b, off, e, hb, hc k _ hr 0 _ rfl, hc k _ hr 1 _ rfl, hc k _ hr 2 _ rfl, hc k _ hr 3 _ rfl⟩

structure Ga.At (g : Ga) (w : World) (B : Nat) : Prop where
  o : Tab w B g.oA g.on 1 (g.os.map fun i => [Value.int .i64 i])
  s : Tab w B g.sA g.sn 3 (g.ss.map Sn.cells)
  name : g.name.size ≤ maxLen
  on : g.on ≤ maxLen
  sn : g.sn ≤ maxLen
theorem Ga.At.grow {g : Ga} {w w' : World} (h : g.At w w.heap.size) (hb : Below w.heap.size w w') : g.At w' w'.heap.size := ⟨h.o.grow hb, h.s.grow hb, h.name, h.on, h.sn⟩
theorem Ga.At.keep {g : Ga} {w w' : World} {B : Nat} (h : g.At w B) (hk : ∀ p : Addr, p.block < B → w'.cell? p = w.cell? p) : g.At w' B := ⟨h.o.keep hk, h.s.keep hk, h.name, h.on, h.sn⟩
theorem Ga.At.below {g : Ga} {w w' : World} {B : Nat} (h : g.At w B) (hb : Below B w w') : g.At w' B := ⟨h.o.below hb, h.s.below hb, h.name, h.on, h.sn⟩
theorem Ga.At.more {g : Ga} {w : World} {B B' : Nat} (h : g.At w B) (hB : B ≤ B') : g.At w B' := ⟨h.o.more hB, h.s.more hB, h.name, h.on, h.sn⟩
theorem Ga.At.ol {g : Ga} {w : World} {B : Nat} (h : g.At w B) : g.os.length = g.on := by have := h.o.1; simpa using this
theorem Ga.At.sl {g : Ga} {w : World} {B : Nat} (h : g.At w B) : g.ss.length = g.sn := by have := h.s.1; simpa using this

/-- The numbers of a gate are as stated. -/
structure Ga.Ok (g : Ga) : Prop where
  k0 : 1 ≤ g.kind
  k1 : g.kind ≤ 3
  t0 : 1 ≤ g.travel
  t1 : g.travel ≤ 5000
  n0 : 2 ≤ g.on
  n1 : g.on ≤ 16
  own : ∀ f ∈ g.os, -200000 ≤ f ∧ f ≤ 200000
  open0 : -20000 ≤ g.opn
  open1 : g.opn ≤ 20000
  shut0 : -20000 ≤ g.shut
  shut1 : g.shut ≤ 20000
  h0 : 1 ≤ g.height
  h1 : g.height ≤ 30000
  float0 : 0 ≤ g.float
  float1 : g.float ≤ 10000
  push0 : -10000 ≤ g.push
  push1 : g.push ≤ 10000
  slide0 : 0 ≤ g.slide
  slide1 : g.slide ≤ 10000
  seal0 : 0 ≤ g.sealN
  seal1 : g.sealN ≤ 200000
  drive0 : 0 ≤ g.drive
  drive1 : g.drive ≤ 200000
  brake0 : 0 ≤ g.brake
  brake1 : g.brake ≤ 200000
  speed0 : 1 ≤ g.speed
  speed1 : g.speed ≤ 100
  gravity0 : 1 ≤ g.gravity
  gravity1 : g.gravity ≤ 100
  use0 : 0 ≤ g.use
  use1 : g.use ≤ 100000
  pump0 : 0 ≤ g.pump
  pump1 : g.pump ≤ 100000
  cap0 : 0 ≤ g.capacity
  cap1 : g.capacity ≤ 100000
  slack0 : 0 ≤ g.slack
  slack1 : g.slack ≤ (g.travel - 1) / 2
  sn : g.sn ≤ 6
  sens : ∀ s ∈ g.ss, 0 ≤ s.at_ ∧ s.at_ ≤ 5000 ∧ 0 ≤ s.tol ∧ s.tol ≤ 5000
  wrong0 : 0 ≤ g.wrong
  wrong1 : g.wrong ≤ g.sn
/-- A state that a gate can have. -/
structure Gs.Ok (s : Gs) (g : Ga) : Prop where
  p0 : 0 ≤ s.pos
  p1 : s.pos ≤ g.travel
  c0 : 0 ≤ s.charge
  c1 : s.charge ≤ g.capacity
structure Gt.Ok (t : Gt) : Prop where
  o0 : 0 ≤ t.order
  o1 : t.order ≤ 2
  a0 : -20000 ≤ t.outer
  a1 : t.outer ≤ 20000
  b0 : -20000 ≤ t.inner
  b1 : t.inner ≤ 20000

/-- A gate lies in a block of its own (a variable that closures have captured). -/
structure Ga.Box (g : Ga) (w : World) (b : Nat) : Prop where
  blk : Blk w b 33 #[.string g.name, .int .i64 g.kind, .int .i64 g.travel, .slice g.oA g.on g.oc, .int .i64 g.opn, .int .i64 g.shut, .int .i64 g.height, .int .i64 g.float, .int .i64 g.push, .int .i64 g.slide, .int .i64 g.sealN, .int .i64 g.drive, .int .i64 g.brake, .int .i64 g.speed, .int .i64 g.gravity, .int .i64 g.use, .int .i64 g.pump, .int .i64 g.capacity, .int .i64 g.slack, .slice g.sA g.sn g.sc, .int .i64 g.wrong]
  at_ : g.At w w.heap.size
theorem Ga.Box.grow {g : Ga} {w w' : World} {b : Nat} (h : g.Box w b) (hb : Below w.heap.size w w') : g.Box w' b := ⟨h.blk.thru hb h.blk.lt, h.at_.grow hb⟩
/-- The cells of a gate's block. -/
structure GaCells (w : World) (b : Nat) (g : Ga) : Prop where
  c0 : w.cell? ⟨b, 0, none⟩ = some (.string g.name)
  c1 : w.cell? ⟨b, 1, none⟩ = some (.int .i64 g.kind)
  c2 : w.cell? ⟨b, 2, none⟩ = some (.int .i64 g.travel)
  c3 : w.cell? ⟨b, 3, none⟩ = some (.slice g.oA g.on g.oc)
  c4 : w.cell? ⟨b, 4, none⟩ = some (.int .i64 g.opn)
  c5 : w.cell? ⟨b, 5, none⟩ = some (.int .i64 g.shut)
  c6 : w.cell? ⟨b, 6, none⟩ = some (.int .i64 g.height)
  c7 : w.cell? ⟨b, 7, none⟩ = some (.int .i64 g.float)
  c8 : w.cell? ⟨b, 8, none⟩ = some (.int .i64 g.push)
  c9 : w.cell? ⟨b, 9, none⟩ = some (.int .i64 g.slide)
  c10 : w.cell? ⟨b, 10, none⟩ = some (.int .i64 g.sealN)
  c11 : w.cell? ⟨b, 11, none⟩ = some (.int .i64 g.drive)
  c12 : w.cell? ⟨b, 12, none⟩ = some (.int .i64 g.brake)
  c13 : w.cell? ⟨b, 13, none⟩ = some (.int .i64 g.speed)
  c14 : w.cell? ⟨b, 14, none⟩ = some (.int .i64 g.gravity)
  c15 : w.cell? ⟨b, 15, none⟩ = some (.int .i64 g.use)
  c16 : w.cell? ⟨b, 16, none⟩ = some (.int .i64 g.pump)
  c17 : w.cell? ⟨b, 17, none⟩ = some (.int .i64 g.capacity)
  c18 : w.cell? ⟨b, 18, none⟩ = some (.int .i64 g.slack)
  c19 : w.cell? ⟨b, 19, none⟩ = some (.slice g.sA g.sn g.sc)
  c20 : w.cell? ⟨b, 20, none⟩ = some (.int .i64 g.wrong)
theorem Ga.Box.cells {g : Ga} {w : World} {b : Nat} (h : g.Box w b) : GaCells w b g := by
  have c := h.blk.cell
  exact ⟨c 0, c 1, c 2, c 3, c 4, c 5, c 6, c 7, c 8, c 9, c 10, c 11, c 12, c 13, c 14, c 15, c 16, c 17, c 18, c 19, c 20⟩
end Go.Proofs.YtgdomaddjiggaaaGreat
