/- A table of constituents as data; the arithmetic of parts. -/
import Derived.Test.YtncidhoojgncgaaGreatTdFirst
import Derived.Test.YtncidhoojgncgaaGreatTdGauge
import Derived.Test.YtncidhoojgncgaaGreatTdReg
namespace Go.Proofs.YtncidhoojgncgaaGreat
open Go.RowKit
set_option linter.unusedSimpArgs false
set_option linter.unusedVariables false

theorem Tab.one {w : World} {B A n rows} (h : Tab w B A n 1 rows) {k : Nat} {x : Value} (hr : rows[k]? = some [x]) : ∃ b off, A = some ⟨b, off, none⟩ ∧ b < B ∧ w.cell? ⟨b, off + k, none⟩ = some x := by
  obtain ⟨b, off, e, hb, hc⟩ := h.2 (by have := (List.getElem?_eq_some_iff.1 hr).1; have := h.1; omega)
  exact ⟨b, off, e, hb, by simpa using hc k _ hr 0 _ rfl⟩
theorem Tab.six {w : World} {B A n rows} (h : Tab w B A n 6 rows) {k : Nat} {x0 x1 x2 x3 x4 x5 : Value} (hr : rows[k]? = some [x0, x1, x2, x3, x4, x5]) : ∃ b off, A = some ⟨b, off, none⟩ ∧ b < B ∧ w.cell? ⟨b, off + k * 6, none⟩ = some x0 ∧ w.cell? ⟨b, off + k * 6 + 1, none⟩ = some x1 ∧ w.cell? ⟨b, off + k * 6 + 2, none⟩ = some x2 ∧
    w.cell? ⟨b, off + k * 6 + 3, none⟩ = some x3 ∧ w.cell? ⟨b, off + k * 6 + 4, none⟩ = some x4 ∧ w.cell? ⟨b, off + k * 6 + 5, none⟩ = some x5 := by
  obtain ⟨b, off, e, hb, hc⟩ := h.2 (by have := (List.getElem?_eq_some_iff.1 hr).1; have := h.1; omega)
  exact ⟨b, off, e, hb, hc k _ hr 0 _ rfl, hc k _ hr 1 _ rfl, hc k _ hr 2 _ rfl, hc k _ hr 3 _ rfl, hc k _ hr 4 _ rfl, hc k _ hr 5 _ rfl⟩

structure Cn where
  name : ByteArray
  hA : Option Addr
  hn : Nat
  hc : Nat
  hs : List Int
  offset : Int
  step : Int
  den : Int
  slack : Int
abbrev Cn.cells (c : Cn) : List Value := [.string c.name, .slice c.hA c.hn c.hc, .int .i64 c.offset, .int .i64 c.step, .int .i64 c.den, .int .i64 c.slack]
abbrev Cn.v (c : Cn) : Value := .agg #[.string c.name, .slice c.hA c.hn c.hc, .int .i64 c.offset, .int .i64 c.step, .int .i64 c.den, .int .i64 c.slack]
abbrev ints (l : List Int) : List (List Value) := l.map fun h => [.int .i64 h]
structure Cn.At (c : Cn) (w : World) (B : Nat) : Prop where
  h : Tab w B c.hA c.hn 1 (ints c.hs)
  name : c.name.size ≤ maxLen
  hn : c.hn ≤ maxLen
theorem Cn.At.grow {c : Cn} {w w' : World} (h : c.At w w.heap.size) (hb : Below w.heap.size w w') : c.At w' w'.heap.size := ⟨h.h.grow hb, h.name, h.hn⟩
theorem Cn.At.hl {c : Cn} {w : World} {B : Nat} (h : c.At w B) : c.hs.length = c.hn := by have := h.h.1; simpa using this
structure Tb where
  mean : Int
  cA : Option Addr
  cn : Nat
  cc : Nat
  cs : List Cn
abbrev Tb.v (t : Tb) : Value := .agg #[.int .i64 t.mean, .slice t.cA t.cn t.cc]
structure Tb.At (t : Tb) (w : World) (B : Nat) : Prop where
  c : Tab w B t.cA t.cn 6 (t.cs.map Cn.cells)
  each : ∀ c ∈ t.cs, c.At w B
  cn : t.cn ≤ maxLen
  cc : t.cn ≤ t.cc
theorem Tb.At.grow {t : Tb} {w w' : World} (h : t.At w w.heap.size) (hb : Below w.heap.size w w') : t.At w' w'.heap.size := ⟨h.c.grow hb, fun c hc => (h.each c hc).grow hb, h.cn, h.cc⟩
theorem Tb.At.cl {t : Tb} {w : World} {B : Nat} (h : t.At w B) : t.cs.length = t.cn := by have := h.c.1; simpa using this

/-- The numbers of a constituent are as stated. -/
structure Cn.Ok (c : Cn) : Prop where
  n0 : 2 ≤ c.hn
  n1 : c.hn ≤ 48
  hh : ∀ h ∈ c.hs, -10000 ≤ h ∧ h ≤ 10000
  d0 : 1 ≤ c.den
  d1 : c.den ≤ 1000
  o0 : 0 ≤ c.offset
  o1 : c.offset ≤ c.den * c.hn - 1
  s0 : 1 ≤ c.step
  s1 : c.step ≤ 100000
  k0 : 0 ≤ c.slack
  k1 : c.slack ≤ 1000
def Cn.cycle (c : Cn) : Int := c.den * c.hn
theorem Cn.Ok.cycle {c : Cn} (h : c.Ok) : 2 ≤ c.cycle ∧ c.cycle ≤ 48000 := by
  have h1 : (2 : Int) ≤ (c.hn : Int) := by have := h.n0; omega
  have h2 : (c.hn : Int) ≤ 48 := by have := h.n1; omega
  have := h.d0
  have := h.d1
  constructor
  · have := Int.mul_le_mul h.d0 h1 (by omega) (by omega); unfold Cn.cycle; omega
  · have := Int.mul_le_mul h.d1 h2 (by omega) (by omega); unfold Cn.cycle; omega

set_option maxHeartbeats 1000000 in
theorem cycle_any (c : Cn) (w : World) (h0 : 0 ≤ c.cycle) (h1 : c.cycle ≤ 48000) :
    Calls Tryz.prog 119 #[c.v] w fun e w' => e = .returned (.int .i64 c.cycle) ∧ Below w.heap.size w w' := by
  obtain ⟨nm, hA, hn, hc, hs, of, st, dn, sl⟩ := c
  unfold Cn.cycle at h0 h1 ⊢
  simp only at h0 h1
  go_enter Tryz.func119, Tryz.ntmps119
  go_wp2
  go_ret
  exact ⟨rfl, (by repeat (first | exact Below.refl _ _ | assumption | (refine Below.setCell ?_ (by first | omega | (simp; done) | (simp; omega)) _) | (refine Below.alloc ?_ (by first | omega | (simp; done) | (simp; omega)) _) | refine Below.drew ?_ | (refine below_thru ?_ (by assumption) (by first | omega | (simp; done) | (simp; omega))) | refine below_drewN ?_ _))⟩

theorem mul_small {b x : Int} (hb : 0 < b) (h1 : -b < b * x) (h2 : b * x < b) : x = 0 := by
  rcases Int.lt_trichotomy x 0 with h | h | h
  · have := Int.mul_le_mul_of_nonneg_left (show x ≤ -1 by omega) (show 0 ≤ b by omega); omega
  · exact h
  · have := Int.mul_le_mul_of_nonneg_left (show 1 ≤ x by omega) (show 0 ≤ b by omega); omega
theorem tdiv_floor (a b : Int) (hb : 0 < b) : (if a.tmod b < 0 then a.tdiv b - 1 else a.tdiv b) = a / b := by
  have h1 := Int.mul_tdiv_add_tmod a b
  have h2 := Int.mul_ediv_add_emod a b
  have h3 := Int.emod_nonneg a (show b ≠ 0 by omega)
  have h4 := Int.emod_lt_of_pos a hb
  have h5 : a.tmod b < b := Int.tmod_lt_of_pos a hb
  have h6 : -b < a.tmod b := Int.lt_tmod_of_pos a hb
  split
  · have h7 : b * (a.tdiv b - 1 - a / b) = a % b - a.tmod b - b := by rw [Int.mul_sub, Int.mul_sub]; omega
    have := mul_small hb (x := a.tdiv b - 1 - a / b) (by omega) (by omega)
    omega
  · have h7 : b * (a.tdiv b - a / b) = a % b - a.tmod b := by rw [Int.mul_sub]; omega
    have := mul_small hb (x := a.tdiv b - a / b) (by omega) (by omega)
    omega
theorem tdiv_bound (a b M : Int) (hb : 0 < b) (hM : 0 ≤ M) (h1 : -M ≤ a) (h2 : a ≤ M) : -M ≤ a.tdiv b ∧ a.tdiv b ≤ M := by
  have e := Int.mul_tdiv_add_tmod a b
  have h5 : a.tmod b < b := Int.tmod_lt_of_pos a hb
  have h6 : -b < a.tmod b := Int.lt_tmod_of_pos a hb
  have hbM := Int.mul_le_mul_of_nonneg_right (show 1 ≤ b by omega) hM
  rw [Int.one_mul] at hbM
  constructor
  · rcases Int.lt_or_le (a.tdiv b) (-M) with h | h
    · have := Int.mul_le_mul_of_nonneg_left (show a.tdiv b ≤ -M - 1 by omega) (show 0 ≤ b by omega)
      rw [Int.mul_sub, Int.mul_neg] at this
      omega
    · exact h
  · rcases Int.lt_or_le M (a.tdiv b) with h | h
    · have := Int.mul_le_mul_of_nonneg_left (show M + 1 ≤ a.tdiv b by omega) (show 0 ≤ b by omega)
      rw [Int.mul_add] at this
      omega
    · exact h

set_option maxHeartbeats 1000000 in
theorem floorDiv_any (a b : Int) (w : World) (h1 : -1000000000000 ≤ a) (h2 : a ≤ 1000000000000) (h3 : 1 ≤ b) :
    Calls Tryz.prog 160 #[.int .i64 a, .int .i64 b] w fun e w' => e = .returned (.int .i64 (a / b)) ∧ w = w' := by
  have hf := tdiv_floor a b (by omega)
  obtain ⟨q1, q2⟩ := tdiv_bound a b 1000000000000 (by omega) (by omega) h1 h2
  have hne : (b == 0) = false := by rw [beq_eq_false_iff_ne]; omega
  by_cases hm : a.tmod b < 0
  · rw [if_pos hm] at hf
    have Hf := Lib.hid hf; clear hf
    go_enter Tryz.func160, Tryz.ntmps160
    go_wp2
    go_ret
    exact ⟨by rw [← Hf.out]; rfl, rfl⟩
  · rw [if_neg hm] at hf
    have Hf := Lib.hid hf; clear hf
    go_enter Tryz.func160, Tryz.ntmps160
    go_wp2
    go_ret
    exact ⟨by rw [← Hf.out]; rfl, rfl⟩

set_option maxHeartbeats 1000000 in
theorem ceilDiv_any (a b : Int) (w : World) (h1 : -1000000000000 ≤ a) (h2 : a ≤ 1000000000000) (h3 : 1 ≤ b) :
    Calls Tryz.prog 161 #[.int .i64 a, .int .i64 b] w fun e w' => e = .returned (.int .i64 (-(-a / b))) ∧ w = w' := by
  have q := tdiv_floor (-a) b (by omega)
  obtain ⟨q1, q2⟩ := tdiv_bound (-a) b 1000000000000 (by omega) (by omega) (by omega) (by omega)
  have q3 : -1000000000001 ≤ -a / b ∧ -a / b ≤ 1000000000001 := by split at q <;> omega
  obtain ⟨q4, q5⟩ := q3
  clear q q1 q2
  go_enter Tryz.func161, Tryz.ntmps161
  go_wp2_with fail
  refine (floorDiv_any (-a) b _ (by omega) (by omega) h3).mono ?_
  rintro e w1 ⟨rfl, rfl⟩
  go_wp2
  go_ret
  exact ⟨rfl, rfl⟩

/-- The interpolated height at r parts behind height k, times Den. -/
def Cn.sum (c : Cn) (k : Nat) (r : Int) : Int := c.hs.getD k 0 * (c.den - r) + c.hs.getD ((k + 1) % c.hn) 0 * r
def partS (c : Cn) (k : Nat) (r : Int) : Sp := ⟨c.sum k r / c.den - c.slack, -(-c.sum k r / c.den) + c.slack⟩
end Go.Proofs.YtncidhoojgncgaaGreat
