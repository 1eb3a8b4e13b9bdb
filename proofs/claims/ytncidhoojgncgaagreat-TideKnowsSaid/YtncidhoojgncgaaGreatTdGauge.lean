/- A gauge as data, and where it lies; the functions that read one. -/
import Derived.Test.YtncidhoojgncgaaGreatTdEach
namespace Go.Proofs.YtncidhoojgncgaaGreat
open Go.RowKit
set_option linter.unusedSimpArgs false
set_option linter.unusedVariables false

/-- A slice of rows of cells that lies below block B. -/
def Tab (w : World) (B : Nat) (A : Option Addr) (n size : Nat) (rows : List (List Value)) : Prop :=
  rows.length = n ∧ (0 < n → ∃ b off, A = some ⟨b, off, none⟩ ∧ b < B ∧ ∀ (k : Nat) (r : List Value), rows[k]? = some r → ∀ (j : Nat) (v : Value), r[j]? = some v → w.cell? ⟨b, off + k * size + j, none⟩ = some v)
theorem Tab.keep {w w' : World} {B A n size rows} (h : Tab w B A n size rows) (hk : ∀ p : Addr, p.block < B → w'.cell? p = w.cell? p) : Tab w' B A n size rows :=
  ⟨h.1, fun hn => by
    obtain ⟨b, off, e, hb, hc⟩ := h.2 hn
    exact ⟨b, off, e, hb, fun k r hr j v hv => (hk _ hb).trans (hc k r hr j v hv)⟩⟩
theorem Tab.more {w : World} {B B' A n size rows} (h : Tab w B A n size rows) (hB : B ≤ B') : Tab w B' A n size rows :=
  ⟨h.1, fun hn => by
    obtain ⟨b, off, e, hb, hc⟩ := h.2 hn
    exact ⟨b, off, e, by omega, hc⟩⟩
theorem Tab.below {w w' : World} {B A n size rows} (h : Tab w B A n size rows) (hb : Below B w w') : Tab w' B A n size rows := h.keep fun _ hp => hb.cell hp
theorem Tab.grow {w w' : World} {A n size rows} (h : Tab w w.heap.size A n size rows) (hb : Below w.heap.size w w') : Tab w' w'.heap.size A n size rows := (h.below hb).more hb.size

theorem Tab.two {w : World} {B A n rows} (h : Tab w B A n 2 rows) {k : Nat} {x y : Value} (hr : rows[k]? = some [x, y]) : ∃ b off, A = some ⟨b, off, none⟩ ∧ b < B ∧ w.cell? ⟨b, off + k * 2, none⟩ = some x ∧ w.cell? ⟨b, off + k * 2 + 1, none⟩ = some y := by
  obtain ⟨b, off, e, hb, hc⟩ := h.2 (by have := (List.getElem?_eq_some_iff.1 hr).1; have := h.1; omega)
  exact ⟨b, off, e, hb, hc k _ hr 0 _ rfl, hc k _ hr 1 _ rfl⟩
theorem Tab.three {w : World} {B A n rows} (h : Tab w B A n 3 rows) {k : Nat} {x y z : Value} (hr : rows[k]? = some [x, y, z]) : ∃ b off, A = some ⟨b, off, none⟩ ∧ b < B ∧ w.cell? ⟨b, off + k * 3, none⟩ = some x ∧ w.cell? ⟨b, off + k * 3 + 1, none⟩ = some y ∧ w.cell? ⟨b, off + k * 3 + 2, none⟩ = some z := by
  obtain ⟨b, off, e, hb, hc⟩ := h.2 (by have := (List.getElem?_eq_some_iff.1 hr).1; have := h.1; omega)
  exact ⟨b, off, e, hb, hc k _ hr 0 _ rfl, hc k _ hr 1 _ rfl, hc k _ hr 2 _ rfl⟩
theorem drop_cons {α : Type} {l : List α} {k : Nat} {x : α} (h : l[k]? = some x) : l.drop k = x :: l.drop (k + 1) := by
  have := List.getElem?_eq_some_iff.1 h
  rw [List.drop_eq_getElem_cons this.1, this.2]
theorem get_lt {α : Type} {l : List α} {k n : Nat} (h : l.length = n) (hk : k < n) : ∃ x, l[k]? = some x := ⟨l[k]'(by omega), List.getElem?_eq_getElem _⟩

structure Dat where
  from_ : Int
  lo : Int
  hi : Int
abbrev Dat.cells (d : Dat) : List Value := [.int .i64 d.from_, .int .i64 d.lo, .int .i64 d.hi]
structure Rd where
  tick : Int
  value : Int
abbrev Rd.cells (d : Rd) : List Value := [.int .i64 d.tick, .int .i64 d.value]
structure Gg where
  name : ByteArray
  err : Int
  rate : Int
  dA : Option Addr
  dn : Nat
  dc : Nat
  ds : List Dat
  rA : Option Addr
  rn : Nat
  rc : Nat
  rs : List Rd
abbrev Gg.v (g : Gg) : Value := .agg #[.string g.name, .int .i64 g.err, .int .i64 g.rate, .slice g.dA g.dn g.dc, .slice g.rA g.rn g.rc]
structure Gg.At (g : Gg) (w : World) (B : Nat) : Prop where
  d : Tab w B g.dA g.dn 3 (g.ds.map Dat.cells)
  r : Tab w B g.rA g.rn 2 (g.rs.map Rd.cells)
  name : g.name.size ≤ maxLen
  dn : g.dn ≤ maxLen
  rn : g.rn ≤ maxLen
theorem Gg.At.grow {g : Gg} {w w' : World} (h : g.At w w.heap.size) (hb : Below w.heap.size w w') : g.At w' w'.heap.size := ⟨h.d.grow hb, h.r.grow hb, h.name, h.dn, h.rn⟩
theorem Gg.At.dl {g : Gg} {w : World} {B : Nat} (h : g.At w B) : g.ds.length = g.dn := by have := h.d.1; simpa using this
theorem Gg.At.rl {g : Gg} {w : World} {B : Nat} (h : g.At w B) : g.rs.length = g.rn := by have := h.r.1; simpa using this

def datFrom : List Dat → Int → Nat → Nat → Nat
  | [], _, at_, _ => at_
  | d :: l, t, at_, i => datFrom l t (if d.from_ ≤ t then i else at_) (i + 1)

set_option maxRecDepth 100000 in
set_option maxHeartbeats 1000000 in
theorem datumAt_any (g : Gg) (t : Int) (w : World) (hg : g.At w w.heap.size) :
    Calls Tryz.prog 149 #[g.v, .int .i64 t] w fun e w' => e = .returned (.int .i64 (datFrom g.ds t 0 0 : Nat)) ∧ Below w.heap.size w w' := by
  obtain ⟨nm, er, rt, dA, dn, dc, ds, rA, rn, rc, rs⟩ := g
  have hl := hg.dl
  have hm := hg.dn
  have hd := hg.d
  simp only at hl hm hd
  unfold maxLen at hm
  clear hg
  have Hl := Lib.hid hl; clear hl
  have Hd := Lib.hid hd; clear hd
  go_enter Tryz.func149, Tryz.ntmps149
  go_wp2
  go_loopw [5, 11] (fun a i wr => ∃ (k at_ : Nat), k ≤ dn ∧ at_ ≤ k ∧ i = .int .i64 k ∧ a = .int .i64 at_ ∧ Hid (datFrom ds t 0 0 = datFrom (ds.drop k) t at_ k) ∧ Below w.heap.size w wr)
    (fun _ i _ => dn - (intOf i).toNat)
  case atStart => exact ⟨0, 0, Nat.zero_le _, Nat.le_refl _, rfl, rfl, rfl, (by repeat (first | exact Below.refl _ _ | assumption | (refine Below.setCell ?_ (by first | omega | (simp; done) | (simp; omega)) _) | (refine Below.alloc ?_ (by first | omega | (simp; done) | (simp; omega)) _) | refine Below.drew ?_ | (refine below_thru ?_ (by assumption) (by first | omega | (simp; done) | (simp; omega))) | refine below_drewN ?_ _))⟩
  case round =>
    obtain ⟨k, at_, hk, hat, rfl, rfl, heq, hbr⟩ := hrel
    obtain ⟨hcr, hfr⟩ := bcell hbr
    have hzr := hbr.size
    by_cases hlt : k < dn
    · obtain ⟨d, hdk⟩ := get_lt Hl.out hlt
      have Hdk := Lib.hid hdk; clear hdk
      obtain ⟨b, off, rfl, hb, c0, c1, c2⟩ := Hd.out.three (k := k) (by simp [Hdk.out]; exact ⟨rfl, rfl, rfl⟩)
      by_cases hft : d.from_ ≤ t
      · go_wp2
        go_roundw
        case rel => exact ⟨k + 1, k, by omega, by omega, by go_num, rfl, by rw [heq.out, drop_cons Hdk.out, datFrom, if_pos hft]; rfl, (by repeat (first | exact Below.refl _ _ | assumption | (refine Below.setCell ?_ (by first | omega | (simp; done) | (simp; omega)) _) | (refine Below.alloc ?_ (by first | omega | (simp; done) | (simp; omega)) _) | refine Below.drew ?_ | (refine below_thru ?_ (by assumption) (by first | omega | (simp; done) | (simp; omega))) | refine below_drewN ?_ _))⟩
        case measure => simp [intOf]; omega
      · go_wp2
        go_roundw
        case rel => exact ⟨k + 1, at_, by omega, by omega, by go_num, rfl, by rw [heq.out, drop_cons Hdk.out, datFrom, if_neg hft]; rfl, (by repeat (first | exact Below.refl _ _ | assumption | (refine Below.setCell ?_ (by first | omega | (simp; done) | (simp; omega)) _) | (refine Below.alloc ?_ (by first | omega | (simp; done) | (simp; omega)) _) | refine Below.drew ?_ | (refine below_thru ?_ (by assumption) (by first | omega | (simp; done) | (simp; omega))) | refine below_drewN ?_ _))⟩
        case measure => simp [intOf]; omega
    · obtain rfl : k = dn := by omega
      go_wp2
      go_ret
      have hz : ds.drop k = [] := by rw [← Hl.out]; exact List.drop_length
      exact ⟨by rw [heq.out, hz]; rfl, (by repeat (first | exact Below.refl _ _ | assumption | (refine Below.setCell ?_ (by first | omega | (simp; done) | (simp; omega)) _) | (refine Below.alloc ?_ (by first | omega | (simp; done) | (simp; omega)) _) | refine Below.drew ?_ | (refine below_thru ?_ (by assumption) (by first | omega | (simp; done) | (simp; omega))) | refine below_drewN ?_ _))⟩
end Go.Proofs.YtncidhoojgncgaaGreat
