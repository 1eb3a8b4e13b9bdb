/- The mathematics of a gate's forces and ways: they are within bounds. -/
import Derived.Test.YtgdomaddjiggaaaGreatGtTab
namespace Go.Proofs.YtgdomaddjiggaaaGreat
open Go.RowKit
set_option linter.unusedSimpArgs false
set_option linter.unusedVariables false

theorem mulb {a b A B : Int} (ha0 : 0 ≤ a) (ha : a ≤ A) (hb0 : -B ≤ b) (hb : b ≤ B) (hB : 0 ≤ B) : -(A * B) ≤ a * b ∧ a * b ≤ A * B := by
  have h1 := Int.mul_le_mul_of_nonneg_left hb ha0
  have h2 := Int.mul_le_mul_of_nonneg_left hb0 ha0
  have h3 := Int.mul_le_mul_of_nonneg_right ha hB
  rw [Int.mul_neg] at h2
  omega
theorem mul0 {a b A B : Int} (ha0 : 0 ≤ a) (ha : a ≤ A) (hb0 : 0 ≤ b) (hb : b ≤ B) : 0 ≤ a * b ∧ a * b ≤ A * B := by
  have h1 := Int.mul_le_mul_of_nonneg_left hb ha0
  have h3 := Int.mul_le_mul_of_nonneg_right ha (show 0 ≤ B by omega)
  have h4 := Int.mul_nonneg ha0 hb0
  omega
/-- A weighted middle. -/
theorem mid {a b B T r : Int} (ha0 : -B ≤ a) (ha : a ≤ B) (hb0 : -B ≤ b) (hb : b ≤ B) (hB : 0 ≤ B) (hr0 : 0 ≤ r) (hr : r ≤ T) (hT : 0 < T) :
    -(T * B) ≤ a * (T - r) + b * r ∧ a * (T - r) + b * r ≤ T * B ∧ -B ≤ (a * (T - r) + b * r) / T ∧ (a * (T - r) + b * r) / T ≤ B := by
  have h1 : -((T - r) * B) ≤ a * (T - r) ∧ a * (T - r) ≤ (T - r) * B := by
    have := mulb (a := T - r) (A := T - r) (by omega) (Int.le_refl _) ha0 ha hB
    rw [Int.mul_comm a]; exact this
  have h2 : -(r * B) ≤ b * r ∧ b * r ≤ r * B := by
    have := mulb (a := r) (A := r) (by omega) (Int.le_refl _) hb0 hb hB
    rw [Int.mul_comm b]; exact this
  have h3 : (T - r) * B + r * B = T * B := by rw [← Int.add_mul]; congr 1; omega
  have l : -(T * B) ≤ a * (T - r) + b * r := by omega
  have u : a * (T - r) + b * r ≤ T * B := by omega
  refine ⟨l, u, ?_, ?_⟩
  · rw [Int.le_ediv_iff_mul_le hT, Int.neg_mul, Int.mul_comm]; exact l
  · have : (a * (T - r) + b * r) / T < B + 1 := by
      rw [Int.ediv_lt_iff_lt_mul hT, Int.add_mul, Int.one_mul, Int.mul_comm B]; omega
    omega

/-- Where the own forces around a position are. -/
theorem place {g : Ga} (hg : g.Ok) {p : Int} (h0 : 0 ≤ p) (h1 : p < g.travel) :
    0 ≤ p * (g.on - 1) ∧ p * (g.on - 1) ≤ 75000 ∧ 0 ≤ p * (g.on - 1) / g.travel ∧ p * (g.on - 1) / g.travel < g.on - 1 ∧ 0 ≤ p * (g.on - 1) % g.travel ∧ p * (g.on - 1) % g.travel < g.travel := by
  have t0 := hg.t0
  have t1 := hg.t1
  have n0 := hg.n0
  have n1 := hg.n1
  obtain ⟨a, b⟩ := mul0 (a := p) (A := 5000) (b := (g.on : Int) - 1) (B := 15) h0 (by omega) (by omega) (by omega)
  have c : p * ((g.on : Int) - 1) < g.travel * (g.on - 1) := Int.mul_lt_mul_of_pos_right h1 (by omega)
  refine ⟨a, by omega, Int.ediv_nonneg a (by omega), ?_, Int.emod_nonneg _ (by omega), Int.emod_lt_of_pos _ (by omega)⟩
  rw [Int.ediv_lt_iff_lt_mul (by omega), Int.mul_comm ((g.on : Int) - 1)]
  exact c
theorem own_get {g : Ga} (hg : g.Ok) (hl : g.os.length = g.on) {k : Nat} (hk : k < g.on) : -200000 ≤ g.os.getD k 0 ∧ g.os.getD k 0 ≤ 200000 := by
  rw [List.getD_eq_getElem?_getD, List.getElem?_eq_getElem (by omega)]
  exact hg.own _ (List.getElem_mem _)
theorem own_in {g : Ga} (hg : g.Ok) (hl : g.os.length = g.on) {p : Int} (h0 : 0 ≤ p) (h1 : p ≤ g.travel) : -200000 ≤ ownF g p ∧ ownF g p ≤ 200000 := by
  unfold ownF
  have n0 := hg.n0
  split
  · exact own_get hg hl (by omega)
  · obtain ⟨a, b, c, d, e, f⟩ := place hg h0 (by omega)
    have x := own_get hg hl (k := (p * (g.on - 1) / g.travel).toNat) (by omega)
    have y := own_get hg hl (k := (p * (g.on - 1) / g.travel).toNat + 1) (by omega)
    have := mid x.1 x.2 y.1 y.2 (by omega) e (Int.le_of_lt f) (by have := hg.t0; omega)
    exact this.2.2
theorem edge_in {g : Ga} (hg : g.Ok) {p : Int} (h0 : 0 ≤ p) (h1 : p ≤ g.travel) :
    -100000000 ≤ g.opn * (g.travel - p) + g.shut * p ∧ g.opn * (g.travel - p) + g.shut * p ≤ 100000000 ∧ -20000 ≤ edgeF g p ∧ edgeF g p ≤ 20000 := by
  have t0 := hg.t0
  have t1 := hg.t1
  have := mid (a := g.opn) (b := g.shut) (B := 20000) (T := g.travel) (r := p) (by have := hg.open0; omega) hg.open1 (by have := hg.shut0; omega) hg.shut1 (by omega) h0 h1 (by omega)
  unfold edgeF
  omega
theorem under_in {g : Ga} (hg : g.Ok) (p l : Int) : 0 ≤ underF g p l ∧ underF g p l ≤ 30000 := by
  have a := hg.h0
  have b := hg.h1
  unfold underF
  omega
theorem lift_in {g : Ga} (hg : g.Ok) (p a b : Int) : 0 ≤ g.float * underF g p (min a b) ∧ g.float * underF g p (min a b) ≤ 300000000 ∧ 0 ≤ liftF g p a b ∧ liftF g p a b ≤ 300000 := by
  obtain ⟨u0, u1⟩ := under_in hg p (min a b)
  obtain ⟨x, y⟩ := mul0 hg.float0 hg.float1 u0 u1
  unfold liftF
  omega
theorem push_in {g : Ga} (hg : g.Ok) {a b : Int} (a0 : -20000 ≤ a) (a1 : a ≤ 20000) (b0 : -20000 ≤ b) (b1 : b ≤ 20000) :
    -400000000 ≤ g.push * (a - b) ∧ g.push * (a - b) ≤ 400000000 ∧ -400000 ≤ g.push * (a - b) / 1000 ∧ g.push * (a - b) / 1000 ≤ 400000 := by
  have p0 := hg.push0
  have p1 := hg.push1
  rcases Int.le_total 0 (a - b) with h | h
  · obtain ⟨x, y⟩ := mulb (a := a - b) (A := 40000) (b := g.push) (B := 10000) h (by omega) p0 p1 (by omega)
    rw [Int.mul_comm (a - b)] at x y
    omega
  · obtain ⟨x, y⟩ := mulb (a := -(a - b)) (A := 40000) (b := g.push) (B := 10000) (by omega) (by omega) p0 p1 (by omega)
    rw [Int.mul_comm (-(a - b)), Int.mul_neg] at x y
    omega
theorem slide_in {g : Ga} (hg : g.Ok) (p : Int) {a b : Int} (a0 : -20000 ≤ a) (a1 : a ≤ 20000) (b0 : -20000 ≤ b) (b1 : b ≤ 20000) :
    0 ≤ g.slide * max (a - b) (-(a - b)) ∧ g.slide * max (a - b) (-(a - b)) ≤ 400000000 ∧
    0 ≤ g.slide * max (a - b) (-(a - b)) * underF g p (max a b) ∧ g.slide * max (a - b) (-(a - b)) * underF g p (max a b) ≤ 12000000000000 := by
  obtain ⟨u0, u1⟩ := under_in hg p (max a b)
  obtain ⟨x, y⟩ := mul0 (a := g.slide) (A := 10000) (b := max (a - b) (-(a - b))) (B := 40000) hg.slide0 hg.slide1 (by omega) (by omega)
  obtain ⟨z, t⟩ := mul0 (a := g.slide * max (a - b) (-(a - b))) (A := 400000000) x (by omega) u0 u1
  omega
theorem net_in {g : Ga} (hg : g.Ok) (hl : g.os.length = g.on) {p a b : Int} (h0 : 0 ≤ p) (h1 : p ≤ g.travel) (a0 : -20000 ≤ a) (a1 : a ≤ 20000) (b0 : -20000 ≤ b) (b1 : b ≤ 20000) : -900000 ≤ netF g p a b ∧ netF g p a b ≤ 900000 := by
  have x := own_in hg hl h0 h1
  have y := lift_in hg p a b
  have z := push_in hg a0 a1 b0 b1
  unfold netF
  split <;> omega
theorem rub_in {g : Ga} (hg : g.Ok) (p : Int) {a b : Int} (a0 : -20000 ≤ a) (a1 : a ≤ 20000) (b0 : -20000 ≤ b) (b1 : b ≤ 20000) : 0 ≤ rubF g p a b ∧ rubF g p a b ≤ 12200000 := by
  have x := slide_in hg p a0 a1 b0 b1
  have y := hg.seal0
  have z := hg.seal1
  unfold rubF
  omega
end Go.Proofs.YtgdomaddjiggaaaGreat
