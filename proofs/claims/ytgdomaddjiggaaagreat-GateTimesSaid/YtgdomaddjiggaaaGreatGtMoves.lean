/- How orders are done. -/
import Derived.Test.YtgdomaddjiggaaaGreatGtAdv
namespace Go.Proofs.YtgdomaddjiggaaaGreat
open Go.RowKit
set_option linter.unusedSimpArgs false
set_option linter.unusedVariables false

abbrev trow (t : Gt) : Array Value := #[.int .i64 t.order, .bool t.power, .int .i64 t.outer, .int .i64 t.inner]
/-- What closing, opening and holding return. -/
def pairV (p : Int × Int) : Value := .tuple #[.int .i64 p.1, .int .i64 p.2]
structure TCells (w : World) (b : Nat) (t : Gt) : Prop where
  c0 : w.cell? ⟨b, 0, none⟩ = some (.int .i64 t.order)
  c1 : w.cell? ⟨b, 1, none⟩ = some (.bool t.power)
  c2 : w.cell? ⟨b, 2, none⟩ = some (.int .i64 t.outer)
  c3 : w.cell? ⟨b, 3, none⟩ = some (.int .i64 t.inner)
theorem tcells_of {w : World} {b : Nat} {t : Gt} {ty : TypeId} (h : Blk w b ty (trow t)) : TCells w b t := ⟨h.cell 0, h.cell 1, h.cell 2, h.cell 3⟩

set_option maxRecDepth 100000 in
set_option maxHeartbeats 4000000 in
theorem close_any (g : Ga) (s : Gs) (t : Gt) (w : World) (ha : g.At w w.heap.size) (hg : g.Ok) (hs : s.Ok g) (ht : t.Ok) :
    Calls Tryz.prog 177 #[mv g s, t.v] w fun e w' => e = .returned (pairV (closeF g s t)) ∧ Below w.heap.size w w' := by
  have Ha := Lib.hid ha
  have HF := Lib.hid (fun W h => forces_any g s t.outer t.inner W h hg hs ht.a0 ht.a1 ht.b0 ht.b1)
  obtain ⟨n0, n1⟩ := net_in hg ha.ol hs.p0 hs.p1 ht.a0 ht.a1 ht.b0 ht.b1
  have p0 := hs.p0
  have p1 := hs.p1
  have t1 := hg.t1
  have HA := Lib.hid (fun W => advance_any g s (netF g s.pos t.outer t.inner) (rubF g s.pos t.outer t.inner) (g.travel - s.pos) t.power W hg hs n0 n1 (by omega) (by omega))
  have hf : closeF g s t = advF g s (netF g s.pos t.outer t.inner) (rubF g s.pos t.outer t.inner) (g.travel - s.pos) t.power := rfl
  generalize netF g s.pos t.outer t.inner = net at *
  generalize rubF g s.pos t.outer t.inner = rub at *
  have w1 : IntKind.i64.wrap (g.travel - s.pos) = g.travel - s.pos := IntWalk.i64_in _ (by omega)
  have Hf := Lib.hid hf
  clear ha hf hg hs ht
  go_enter Tryz.func177, Tryz.ntmps177
  go_wp2_with (with_reducible refine wpl_m ((Blk.new w _ _).alloc _) rfl rfl rfl ?_)
  refine (HF.out _ (Ha.out.grow (by repeat (first | exact Below.refl _ _ | assumption | (refine Below.setCell ?_ (by first | omega | (simp; done) | (simp; omega)) _) | (refine Below.alloc ?_ (by first | omega | (simp; done) | (simp; omega)) _) | refine Below.drew ?_ | (refine below_thru ?_ (by assumption) (by first | omega | (simp; done) | (simp; omega))) | refine below_drewN ?_ _)))).mono ?_
  rintro e w2 ⟨rfl, hb2⟩
  have hz2 := hb2.size
  (try simp at hz2)
  have hM : Blk w2 w.heap.size 107 (mrow g s) := ((Blk.new w _ _).alloc _).thru hb2 (by simp; omega)
  have hT : Blk w2 (w.heap.size + 1) 49 (trow t) := (Blk.new' (w.alloc _) _ _ (by simp)).thru hb2 (by simp)
  have k2 := (mcells_of hM).c2
  have k21 := (mcells_of hM).c21
  have q1 := (tcells_of hT).c1
  have hM := Lib.hid hM
  clear hT
  go_wp2_with (with_reducible refine wpl_m hM.out rfl rfl rfl ?_)
  refine (HA.out _).mono ?_
  rintro e w3 ⟨rfl, hb3⟩
  go_wp2
  go_ret2
  exact ⟨by rw [Hf.out]; rfl, (by repeat (first | exact Below.refl _ _ | assumption | (refine Below.setCell ?_ (by first | omega | (simp; done) | (simp; omega)) _) | (refine Below.alloc ?_ (by first | omega | (simp; done) | (simp; omega)) _) | refine Below.drew ?_ | (refine below_thru ?_ (by assumption) (by first | omega | (simp; done) | (simp; omega))) | refine below_drewN ?_ _))⟩
set_option maxRecDepth 100000 in
set_option maxHeartbeats 4000000 in
theorem open_any (g : Ga) (s : Gs) (t : Gt) (w : World) (ha : g.At w w.heap.size) (hg : g.Ok) (hs : s.Ok g) (ht : t.Ok) :
    Calls Tryz.prog 178 #[mv g s, t.v] w fun e w' => e = .returned (pairV (openF g s t)) ∧ Below w.heap.size w w' := by
  have Ha := Lib.hid ha
  have HF := Lib.hid (fun W h => forces_any g s t.outer t.inner W h hg hs ht.a0 ht.a1 ht.b0 ht.b1)
  obtain ⟨n0, n1⟩ := net_in hg ha.ol hs.p0 hs.p1 ht.a0 ht.a1 ht.b0 ht.b1
  have p0 := hs.p0
  have p1 := hs.p1
  have t1 := hg.t1
  have HA := Lib.hid (fun W => advance_any g s (-netF g s.pos t.outer t.inner) (rubF g s.pos t.outer t.inner) s.pos t.power W hg hs (by omega) (by omega) (by omega) (by omega))
  have hf : openF g s t = (-(advF g s (-netF g s.pos t.outer t.inner) (rubF g s.pos t.outer t.inner) s.pos t.power).1, (advF g s (-netF g s.pos t.outer t.inner) (rubF g s.pos t.outer t.inner) s.pos t.power).2) := rfl
  obtain ⟨v0, v1, _, _, _⟩ := adv_in hg hs (-netF g s.pos t.outer t.inner) (rubF g s.pos t.outer t.inner) p0 t.power
  generalize netF g s.pos t.outer t.inner = net at *
  generalize rubF g s.pos t.outer t.inner = rub at *
  generalize advF g s (-net) rub s.pos t.power = adv at *
  have w1 : IntKind.i64.wrap (-net) = -net := IntWalk.i64_in _ (by omega)
  have Hf := Lib.hid hf
  clear ha hf hg hs ht
  go_enter Tryz.func178, Tryz.ntmps178
  go_wp2_with (with_reducible refine wpl_m ((Blk.new w _ _).alloc _) rfl rfl rfl ?_)
  refine (HF.out _ (Ha.out.grow (by repeat (first | exact Below.refl _ _ | assumption | (refine Below.setCell ?_ (by first | omega | (simp; done) | (simp; omega)) _) | (refine Below.alloc ?_ (by first | omega | (simp; done) | (simp; omega)) _) | refine Below.drew ?_ | (refine below_thru ?_ (by assumption) (by first | omega | (simp; done) | (simp; omega))) | refine below_drewN ?_ _)))).mono ?_
  rintro e w2 ⟨rfl, hb2⟩
  have hz2 := hb2.size
  (try simp at hz2)
  have hM : Blk w2 w.heap.size 107 (mrow g s) := ((Blk.new w _ _).alloc _).thru hb2 (by simp; omega)
  have hT : Blk w2 (w.heap.size + 1) 49 (trow t) := (Blk.new' (w.alloc _) _ _ (by simp)).thru hb2 (by simp)
  have k21 := (mcells_of hM).c21
  have q1 := (tcells_of hT).c1
  have hM := Lib.hid hM
  clear hT
  go_wp2_with (with_reducible refine wpl_m hM.out rfl rfl rfl ?_)
  refine (HA.out _).mono ?_
  rintro e w3 ⟨rfl, hb3⟩
  go_wp2
  go_ret2
  exact ⟨by rw [Hf.out]; rfl, (by repeat (first | exact Below.refl _ _ | assumption | (refine Below.setCell ?_ (by first | omega | (simp; done) | (simp; omega)) _) | (refine Below.alloc ?_ (by first | omega | (simp; done) | (simp; omega)) _) | refine Below.drew ?_ | (refine below_thru ?_ (by assumption) (by first | omega | (simp; done) | (simp; omega))) | refine below_drewN ?_ _))⟩
set_option maxRecDepth 100000 in
set_option maxHeartbeats 4000000 in
theorem hold_any (g : Ga) (s : Gs) (t : Gt) (w : World) (ha : g.At w w.heap.size) (hg : g.Ok) (hs : s.Ok g) (ht : t.Ok) :
    Calls Tryz.prog 179 #[mv g s, t.v] w fun e w' => e = .returned (pairV (holdF g s t)) ∧ Below w.heap.size w w' := by
  have Ha := Lib.hid ha
  have HF := Lib.hid (fun W h => forces_any g s t.outer t.inner W h hg hs ht.a0 ht.a1 ht.b0 ht.b1)
  obtain ⟨n0, n1⟩ := net_in hg ha.ol hs.p0 hs.p1 ht.a0 ht.a1 ht.b0 ht.b1
  have p0 := hs.p0
  have p1 := hs.p1
  have t1 := hg.t1
  obtain ⟨r0, r1⟩ := rub_in hg s.pos ht.a0 ht.a1 ht.b0 ht.b1
  have b0 := hg.brake0
  have b1 := hg.brake1
  have g0 := hg.gravity0
  have g1 := hg.gravity1
  have hf : holdF g s t = if g.brake + rubF g s.pos t.outer t.inner < netF g s.pos t.outer t.inner then (min g.gravity (g.travel - s.pos), 0)
    else if g.brake + rubF g s.pos t.outer t.inner < -netF g s.pos t.outer t.inner then (-min g.gravity s.pos, 0) else (0, 0) := rfl
  generalize netF g s.pos t.outer t.inner = net at *
  generalize rubF g s.pos t.outer t.inner = rub at *
  have w1 : IntKind.i64.wrap (g.travel - s.pos) = g.travel - s.pos := IntWalk.i64_in _ (by omega)
  obtain ⟨m, hm⟩ : ∃ m, min g.gravity (g.travel - s.pos) = m := ⟨_, rfl⟩
  obtain ⟨k, hk⟩ : ∃ k, min g.gravity s.pos = k := ⟨_, rfl⟩
  have m0 : 0 ≤ k := by omega
  have m1 : k ≤ 100 := by omega
  rw [hm, hk] at hf
  have n2 : (if g.travel - s.pos < g.gravity then g.travel - s.pos else g.gravity) = m := by rw [← hm]; split <;> omega
  have n3 : (if s.pos < g.gravity then s.pos else g.gravity) = k := by rw [← hk]; split <;> omega
  clear hm hk
  clear ha hg hs ht
  rcases (show g.brake + rub < net ∨ (¬ g.brake + rub < net ∧ g.brake + rub < -net) ∨ (¬ g.brake + rub < net ∧ ¬ g.brake + rub < -net) by omega) with h1 | ⟨h1, h2⟩ | ⟨h1, h2⟩
  · rw [if_pos h1] at hf
    have Hf := Lib.hid hf
    clear hf
    go_enter Tryz.func179, Tryz.ntmps179
    go_wp2_with (with_reducible refine wpl_m ((Blk.new w _ _).alloc _) rfl rfl rfl ?_)
    refine (HF.out _ (Ha.out.grow (by repeat (first | exact Below.refl _ _ | assumption | (refine Below.setCell ?_ (by first | omega | (simp; done) | (simp; omega)) _) | (refine Below.alloc ?_ (by first | omega | (simp; done) | (simp; omega)) _) | refine Below.drew ?_ | (refine below_thru ?_ (by assumption) (by first | omega | (simp; done) | (simp; omega))) | refine below_drewN ?_ _)))).mono ?_
    rintro e w2 ⟨rfl, hb2⟩
    have hz2 := hb2.size
    (try simp at hz2)
    have hM : Blk w2 w.heap.size 107 (mrow g s) := ((Blk.new w _ _).alloc _).thru hb2 (by simp; omega)
    have hT : Blk w2 (w.heap.size + 1) 49 (trow t) := (Blk.new' (w.alloc _) _ _ (by simp)).thru hb2 (by simp)
    have k12 := (mcells_of hM).c12
    have k14 := (mcells_of hM).c14
    have k2 := (mcells_of hM).c2
    have k21 := (mcells_of hM).c21
    have hM := Lib.hid hM
    clear hT
    go_wp2
    go_ret2
    exact ⟨by rw [Hf.out]; rfl, (by repeat (first | exact Below.refl _ _ | assumption | (refine Below.setCell ?_ (by first | omega | (simp; done) | (simp; omega)) _) | (refine Below.alloc ?_ (by first | omega | (simp; done) | (simp; omega)) _) | refine Below.drew ?_ | (refine below_thru ?_ (by assumption) (by first | omega | (simp; done) | (simp; omega))) | refine below_drewN ?_ _))⟩
  · rw [if_neg h1, if_pos h2] at hf
    have Hf := Lib.hid hf
    clear hf
    go_enter Tryz.func179, Tryz.ntmps179
    go_wp2_with (with_reducible refine wpl_m ((Blk.new w _ _).alloc _) rfl rfl rfl ?_)
    refine (HF.out _ (Ha.out.grow (by repeat (first | exact Below.refl _ _ | assumption | (refine Below.setCell ?_ (by first | omega | (simp; done) | (simp; omega)) _) | (refine Below.alloc ?_ (by first | omega | (simp; done) | (simp; omega)) _) | refine Below.drew ?_ | (refine below_thru ?_ (by assumption) (by first | omega | (simp; done) | (simp; omega))) | refine below_drewN ?_ _)))).mono ?_
    rintro e w2 ⟨rfl, hb2⟩
    have hz2 := hb2.size
    (try simp at hz2)
    have hM : Blk w2 w.heap.size 107 (mrow g s) := ((Blk.new w _ _).alloc _).thru hb2 (by simp; omega)
    have hT : Blk w2 (w.heap.size + 1) 49 (trow t) := (Blk.new' (w.alloc _) _ _ (by simp)).thru hb2 (by simp)
    have k12 := (mcells_of hM).c12
    have k14 := (mcells_of hM).c14
    have k2 := (mcells_of hM).c2
    have k21 := (mcells_of hM).c21
    have hM := Lib.hid hM
    clear hT
    go_wp2
    go_ret2
    exact ⟨by rw [Hf.out]; rfl, (by repeat (first | exact Below.refl _ _ | assumption | (refine Below.setCell ?_ (by first | omega | (simp; done) | (simp; omega)) _) | (refine Below.alloc ?_ (by first | omega | (simp; done) | (simp; omega)) _) | refine Below.drew ?_ | (refine below_thru ?_ (by assumption) (by first | omega | (simp; done) | (simp; omega))) | refine below_drewN ?_ _))⟩
  · rw [if_neg h1, if_neg h2] at hf
    have Hf := Lib.hid hf
    clear hf
    go_enter Tryz.func179, Tryz.ntmps179
    go_wp2_with (with_reducible refine wpl_m ((Blk.new w _ _).alloc _) rfl rfl rfl ?_)
    refine (HF.out _ (Ha.out.grow (by repeat (first | exact Below.refl _ _ | assumption | (refine Below.setCell ?_ (by first | omega | (simp; done) | (simp; omega)) _) | (refine Below.alloc ?_ (by first | omega | (simp; done) | (simp; omega)) _) | refine Below.drew ?_ | (refine below_thru ?_ (by assumption) (by first | omega | (simp; done) | (simp; omega))) | refine below_drewN ?_ _)))).mono ?_
    rintro e w2 ⟨rfl, hb2⟩
    have hz2 := hb2.size
    (try simp at hz2)
    have hM : Blk w2 w.heap.size 107 (mrow g s) := ((Blk.new w _ _).alloc _).thru hb2 (by simp; omega)
    have hT : Blk w2 (w.heap.size + 1) 49 (trow t) := (Blk.new' (w.alloc _) _ _ (by simp)).thru hb2 (by simp)
    have k12 := (mcells_of hM).c12
    have k14 := (mcells_of hM).c14
    have k2 := (mcells_of hM).c2
    have k21 := (mcells_of hM).c21
    have hM := Lib.hid hM
    clear hT
    go_wp2
    go_ret2
    exact ⟨by rw [Hf.out]; rfl, (by repeat (first | exact Below.refl _ _ | assumption | (refine Below.setCell ?_ (by first | omega | (simp; done) | (simp; omega)) _) | (refine Below.alloc ?_ (by first | omega | (simp; done) | (simp; omega)) _) | refine Below.drew ?_ | (refine below_thru ?_ (by assumption) (by first | omega | (simp; done) | (simp; omega))) | refine below_drewN ?_ _))⟩
end Go.Proofs.YtgdomaddjiggaaaGreat
