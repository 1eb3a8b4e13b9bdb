/- The own force of a machine. -/
import Derived.Test.YtgdomaddjiggaaaGreatGtEdge
namespace Go.Proofs.YtgdomaddjiggaaaGreat
open Go.RowKit
set_option linter.unusedSimpArgs false
set_option linter.unusedVariables false

theorem quiet_is {P : Program} {f : FuncId} {args : Array Value} {w : World} {n : Nat} {v : Value} (c : ∀ W : World, Calls P f args W fun e w' => e = .returned v ∧ W = w') :
    Calls P f args (w.drewN n) fun e w' => e = .returned v ∧ ∃ m, w' = w.drewN m := (c _).mono fun _ _ ⟨he, h⟩ => ⟨he, n, h.symm⟩
theorem quiet_is2 {P : Program} {f : FuncId} {args : Array Value} {w : World} {a n : Nat} {v : Value} (c : ∀ W : World, Calls P f args W fun e w' => e = .returned v ∧ W = w') :
    Calls P f args (w.drewN (a + n)) fun e w' => e = .returned v ∧ ∃ m, w' = w.drewN (a + m) := (c _).mono fun _ _ ⟨he, h⟩ => ⟨he, n, h.symm⟩
theorem own_cell {g : Ga} {w : World} {B : Nat} (hg : g.At w B) {k : Nat} (hk : k < g.on) : ∃ b off, g.oA = some ⟨b, off, none⟩ ∧ b < B ∧ w.cell? ⟨b, off + k, none⟩ = some (.int .i64 (g.os.getD k 0)) := by
  have hl := hg.ol
  exact hg.o.one (k := k) (by simp [show k < g.os.length by omega])

set_option maxRecDepth 100000 in
set_option maxHeartbeats 1000000 in
theorem own_any (g : Ga) (s : Gs) (w : World) (ha : g.At w w.heap.size) (hg : g.Ok) (hs : s.Ok g) :
    Calls Tryz.prog 134 #[mv g s] w fun e w' => e = .returned (.int .i64 (ownF g s.pos)) ∧ Below w.heap.size w w' := by
  have t0 := hg.t0
  have t1 := hg.t1
  have n0 := hg.n0
  have n1 := hg.n1
  have p0 := hs.p0
  have p1 := hs.p1
  by_cases hp : s.pos = g.travel
  · have hp' : (s.pos == g.travel) = true := by rw [beq_iff_eq]; exact hp
    obtain ⟨b, off, hA, hb, c0⟩ := own_cell ha (k := g.on - 1) (by omega)
    have hf : ownF g s.pos = g.os.getD (g.on - 1) 0 := by unfold ownF; rw [if_pos hp]
    have Hf := Lib.hid hf
    have HA := Lib.hid hA
    have i0 : (0 : Int) ≤ (g.on : Int) - 1 := by omega
    have i1 : (g.on : Int) - 1 < (g.on : Int) := by omega
    have i2 : ((g.on : Int) - 1).toNat = g.on - 1 := by omega
    clear hf hg hs ha hA hp
    unfold mv; rw [HA.out]
    go_enter Tryz.func134, Tryz.ntmps134
    go_wp2
    go_ret
    exact ⟨by rw [Hf.out]; rfl, (by repeat (first | exact Below.refl _ _ | assumption | (refine Below.setCell ?_ (by first | omega | (simp; done) | (simp; omega)) _) | (refine Below.alloc ?_ (by first | omega | (simp; done) | (simp; omega)) _) | refine Below.drew ?_ | (refine below_thru ?_ (by assumption) (by first | omega | (simp; done) | (simp; omega))) | refine below_drewN ?_ _))⟩
  · have hp' : (s.pos == g.travel) = false := by rw [beq_eq_false_iff_ne]; exact hp
    obtain ⟨a0, a1, a2, a3, a4, a5⟩ := place hg p0 (by omega)
    have hf : ownF g s.pos = (g.os.getD (s.pos * (g.on - 1) / g.travel).toNat 0 * (g.travel - s.pos * (g.on - 1) % g.travel) + g.os.getD ((s.pos * (g.on - 1) / g.travel).toNat + 1) 0 * (s.pos * (g.on - 1) % g.travel)) / g.travel := by unfold ownF; rw [if_neg hp]
    have e1 := Int.tdiv_eq_ediv_of_nonneg (b := g.travel) a0
    have e2 := Int.tmod_eq_emod_of_nonneg (b := g.travel) a0
    obtain ⟨k, hk⟩ : ∃ k : Nat, s.pos * ((g.on : Int) - 1) / g.travel = k := ⟨(s.pos * ((g.on : Int) - 1) / g.travel).toNat, by omega⟩
    obtain ⟨r, hr⟩ : ∃ r, s.pos * ((g.on : Int) - 1) % g.travel = r := ⟨_, rfl⟩
    rw [hk] at a2 a3 e1 hf
    rw [hr] at a4 a5 e2 hf
    rw [Int.toNat_natCast] at hf
    obtain ⟨b, off, hA, hb, c0⟩ := own_cell ha (k := k) (by omega)
    obtain ⟨b', off', hA', hb', c1⟩ := own_cell ha (k := k + 1) (by omega)
    rw [hA] at hA'
    cases hA'
    have hl := ha.ol
    obtain ⟨x0, x1⟩ := own_get hg hl (k := k) (by omega)
    obtain ⟨y0, y1⟩ := own_get hg hl (k := k + 1) (by omega)
    obtain ⟨z0, z1, z2, z3⟩ := mid (T := g.travel) (r := r) x0 x1 y0 y1 (by omega) a4 (Int.le_of_lt a5) (by omega)
    have q1 := mulb (a := g.travel - r) (A := 5000) (b := g.os.getD k 0) (B := 200000) (by omega) (by omega) x0 x1 (by omega)
    have q2 := mulb (a := r) (A := 5000) (b := g.os.getD (k + 1) 0) (B := 200000) a4 (by omega) y0 y1 (by omega)
    rw [Int.mul_comm (g.travel - r)] at q1
    rw [Int.mul_comm r] at q2
    generalize g.os.getD k 0 = f0 at *
    generalize g.os.getD (k + 1) 0 = f1 at *
    have w1 : IntKind.i64.wrap (g.travel - r) = g.travel - r := IntWalk.i64_in _ (by omega)
    have w2 : IntKind.i64.wrap (f0 * (g.travel - r)) = f0 * (g.travel - r) := IntWalk.i64_in _ (by omega)
    have w3 : IntKind.i64.wrap (f1 * r) = f1 * r := IntWalk.i64_in _ (by omega)
    have w4 : IntKind.i64.wrap (f0 * (g.travel - r) + f1 * r) = f0 * (g.travel - r) + f1 * r := IntWalk.i64_in _ (by omega)
    have w5 : IntKind.i64.wrap ((k : Int) + 1) = (k : Int) + 1 := IntWalk.i64_in _ (by omega)
    have i0 : (0 : Int) ≤ (k : Int) := Int.natCast_nonneg _
    have i1 : (k : Int) < (g.on : Int) := by omega
    have i2 : (0 : Int) ≤ (k : Int) + 1 := by omega
    have i3 : (k : Int) + 1 < (g.on : Int) := by omega
    have i4 : ((k : Int) + 1).toNat = k + 1 := by omega
    have i5 : ¬ g.travel = 0 := by omega
    have H := Lib.hid (fun W => floorDiv_any (f0 * (g.travel - r) + f1 * r) g.travel W (by omega) (by omega) (by omega))
    have Hf := Lib.hid hf
    have HA := Lib.hid hA
    clear hf hg hs ha hA hp hl q1 q2 z0 z1 z2 z3
    unfold mv; rw [HA.out]
    go_enter Tryz.func134, Tryz.ntmps134
    go_wp2_with fail
    go_quiet (fail)
    go_wp2_with fail
    go_quiet ((go_at_call 132; exact quiet_is2 (fun W => H.out W)))
    go_wp2
    go_ret
    exact ⟨by rw [Hf.out]; rfl, (by repeat (first | exact Below.refl _ _ | assumption | (refine Below.setCell ?_ (by first | omega | (simp; done) | (simp; omega)) _) | (refine Below.alloc ?_ (by first | omega | (simp; done) | (simp; omega)) _) | refine Below.drew ?_ | (refine below_thru ?_ (by assumption) (by first | omega | (simp; done) | (simp; omega))) | refine below_drewN ?_ _))⟩
end Go.Proofs.YtgdomaddjiggaaaGreat
