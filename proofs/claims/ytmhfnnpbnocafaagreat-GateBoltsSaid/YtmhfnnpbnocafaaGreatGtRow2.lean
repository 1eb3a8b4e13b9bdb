/- How much of a machine is below a level. The forces on a machine. How far a machine goes in a direction. How orders are done. Stores of several cells into blocks that are known whole; two results that lie in memory. -/
import Derived.Test.YtmhfnnpbnocafaaGreatGtInv
import Derived.Laws.Rows
import Derived.Deep.MidRow
namespace Go.Proofs.YtmhfnnpbnocafaaGreat
open Go.RowKit
set_option linter.unusedSimpArgs false
set_option linter.unusedVariables false

abbrev mrow (g : Ga) (s : Gs) : Array Value := #[.string g.name, .int .i64 g.kind, .int .i64 g.travel, .slice g.oA g.on g.oc, .int .i64 g.opn, .int .i64 g.shut, .int .i64 g.height, .int .i64 g.float, .int .i64 g.push, .int .i64 g.slide, .int .i64 g.sealN, .int .i64 g.drive, .int .i64 g.brake, .int .i64 g.speed, .int .i64 g.gravity, .int .i64 g.use, .int .i64 g.pump, .int .i64 g.capacity, .int .i64 g.slack, .slice g.sA g.sn g.sc, .int .i64 g.wrong, .int .i64 s.pos, .int .i64 s.charge, .bool s.bolted]
structure MCells (w : World) (b : Nat) (g : Ga) (s : Gs) : Prop extends GaCells w b g where
  c21 : w.cell? ⟨b, 21, none⟩ = some (.int .i64 s.pos)
  c22 : w.cell? ⟨b, 22, none⟩ = some (.int .i64 s.charge)
  c23 : w.cell? ⟨b, 23, none⟩ = some (.bool s.bolted)
theorem mcells_of {w : World} {b : Nat} {g : Ga} {s : Gs} {t : TypeId} (h : Blk w b t (mrow g s)) : MCells w b g s := by
  have c := h.cell
  exact ⟨⟨c 0, c 1, c 2, c 3, c 4, c 5, c 6, c 7, c 8, c 9, c 10, c 11, c 12, c 13, c 14, c 15, c 16, c 17, c 18, c 19, c 20⟩, c 21, c 22, c 23⟩

theorem uMachine : Tryz.prog.underlying 97 = some (.struct #[Field.mk "GtGate" 25 0 true "" "" 0, Field.mk "GtState" 27 21 true "" "" 208]) := by kernel_rfl
theorem iMachine : (Tryz.prog.info? 97).map (·.size) = some 24 := by kernel_rfl
/-- A machine is loaded whole. -/
theorem run_ld_m {w : World} {b : Nat} {t : TypeId} {g : Ga} {s : Gs} (h : Blk w b t (mrow g s)) : (Instr.loadAt 97 (.pointer (some ⟨b, 0, none⟩))).run Tryz.prog w = .ok (mv g s) w := by
  simp only [Instr.loadAt, Instr.sureAddr, Sem.run_bind, Sem.run_pure, Result.andThen_ok, run_loadVar_row w b t 97 (mrow g s) (0, 0) _ h uMachine rfl iMachine]
theorem ld_m {o : Oper} {ev : Operand → Value} {w : World} {x : Operand} {b : Nat} {t : TypeId} {g : Ga} {s : Gs} (ho : o.op = .load 97 x) (hx : ev x = .pointer (some ⟨b, 0, none⟩)) (h : Blk w b t (mrow g s)) :
    (execOp ev o).run Tryz.prog w = .ok (.value (mv g s)) w := by
  unfold execOp
  simp only [ho, hx, Sem.run_bind, run_ld_m h, Sem.run_pure, Result.andThen_ok]
theorem wpl_m {ops : Array Oper} {rest : List Oper} {o : Oper} {a : Act} {w : World} {Q : Exit → Act → World → Prop} {x : Operand} {b : Nat} {t : TypeId} {g : Ga} {s : Gs} (h : Blk w b t (mrow g s)) (hgd : o.guard = none) (ho : o.op = .load 97 x) (hx : a.eval x = .pointer (some ⟨b, 0, none⟩))
    (hk : wpList Tryz.prog ops Q rest (a.put o.dst (mv g s)) w) : wpList Tryz.prog ops Q (o :: rest) a w :=
  wpList_load_row hgd _ x ho b hx t (mrow g s) (0, 0) _ h uMachine rfl iMachine hk

theorem ret_int {k : IntKind} {a b : Int} (h : a = b) : Ending.returned (.int k a) = Ending.returned (.int k b) := by rw [h]

set_option maxRecDepth 100000 in
set_option maxHeartbeats 2000000 in
theorem under_any (g : Ga) (s : Gs) (l : Int) (w : World) (hg : g.Ok) (hs : s.Ok g) (l0 : -20000 ≤ l) (l1 : l ≤ 20000) :
    Calls Tryz.prog 101 #[mv g s, .int .i64 l] w fun e w' => e = .returned (.int .i64 (underF g s.pos l)) ∧ Below w.heap.size w w' := by
  have p0 := hs.p0
  have p1 := hs.p1
  obtain ⟨x0, x1, x2, x3⟩ := edge_in hg p0 p1
  have h0 := hg.h0
  have h1 := hg.h1
  have H := Lib.hid (fun W => edge_any g s W hg hs)
  have hf : underF g s.pos l = min (max (l - edgeF g s.pos) 0) g.height := rfl
  have Hf := Lib.hid hf
  generalize edgeF g s.pos = ed at *
  have w1 : IntKind.i64.wrap (l - ed) = l - ed := IntWalk.i64_in _ (by omega)
  clear hf hg hs x0 x1
  go_enter Tryz.func101, Tryz.ntmps101
  go_wp2_with fail
  refine wp_region_split (S := fun w' => Blk w' w.heap.size 97 (mrow g s)) 9 (by kernel_rfl) (by kernel_rfl) (by exact Blk.drew (Blk.new w _ _)) (fun hHeld => ?_)
  refine wpAnyH_take (i := 0) (v := ?_) rfl (by kernel_rfl) (by kernel_rfl) (by kernel_rfl) (fun _ _ _ h => h) (Or.inl ⟨by kernel_rfl, ?_⟩) hHeld ?_
  rotate_left
  · intro w hSw; (try dsimp only at hSw); skip; go_simp; (try with_reducible rfl)
  (try simp only [Act.put, List.setIfInBounds_toArray, List.set_cons_zero, List.set_cons_succ])
  refine wpAnyH_take (i := 1) (v := mv g s) rfl (by kernel_rfl) (by kernel_rfl) (by kernel_rfl) (fun _ _ _ h => h) (Or.inl ⟨by rfl, fun w hSw => ld_m rfl rfl hSw⟩) hHeld ?_
  (try simp only [Act.put, List.setIfInBounds_toArray, List.set_cons_zero, List.set_cons_succ])
  refine wpAnyH_take (i := 5) (v := ?_) rfl (by kernel_rfl) (by kernel_rfl) (by kernel_rfl) (fun _ _ _ h => h) (Or.inl ⟨by kernel_rfl, ?_⟩) hHeld ?_
  rotate_left
  · intro w hSw; (try dsimp only at hSw); obtain ⟨⟨k0, k1, k2, k3, k4, k5, k6, k7, k8, k9, k10, k11, k12, k13, k14, k15, k16, k17, k18, k19, k20⟩, k21, k22, k23⟩ := mcells_of hSw; go_simp; (try with_reducible rfl)
  (try simp only [Act.put, List.setIfInBounds_toArray, List.set_cons_zero, List.set_cons_succ])
  refine wpAnyH_take (i := 6) (v := ?_) rfl (by kernel_rfl) (by kernel_rfl) (by kernel_rfl) (fun _ _ _ h => h) (Or.inl ⟨by kernel_rfl, ?_⟩) hHeld ?_
  rotate_left
  · intro w hSw; (try dsimp only at hSw); obtain ⟨⟨k0, k1, k2, k3, k4, k5, k6, k7, k8, k9, k10, k11, k12, k13, k14, k15, k16, k17, k18, k19, k20⟩, k21, k22, k23⟩ := mcells_of hSw; go_simp; (try with_reducible rfl)
  (try simp only [Act.put, List.setIfInBounds_toArray, List.set_cons_zero, List.set_cons_succ])
  refine wpAnyH_take (i := 7) (v := ?_) rfl (by kernel_rfl) (by kernel_rfl) (by kernel_rfl) (fun _ _ _ h => h) (Or.inl ⟨by kernel_rfl, ?_⟩) hHeld ?_
  rotate_left
  · intro w hSw; (try dsimp only at hSw); obtain ⟨⟨k0, k1, k2, k3, k4, k5, k6, k7, k8, k9, k10, k11, k12, k13, k14, k15, k16, k17, k18, k19, k20⟩, k21, k22, k23⟩ := mcells_of hSw; go_simp; (try with_reducible rfl)
  (try simp only [Act.put, List.setIfInBounds_toArray, List.set_cons_zero, List.set_cons_succ])
  refine wpAnyH_ready (rs := [2]) (by kernel_rfl) (by simp) ?_
  refine AllReadyH.cons rfl (fun K hK => ?_) AllReadyH.nil
  go_simp
  refine (H.out _).mono ?_
  rintro e w2 ⟨rfl, hb2⟩
  (try dsimp only)
  refine hK.out _ _ (by exact hHeld.thru hb2 hHeld.lt) (fun hHeld => ?_)
  clear hK K
  (try simp only [Act.put, List.setIfInBounds_toArray, List.set_cons_zero, List.set_cons_succ])
  refine wpAnyH_take (i := 3) (v := ?_) rfl (by kernel_rfl) (by kernel_rfl) (by kernel_rfl) (fun _ _ _ h => h) (Or.inl ⟨by kernel_rfl, ?_⟩) hHeld ?_
  rotate_left
  · intro w hSw; (try dsimp only at hSw); skip; go_simp; (try with_reducible rfl)
  (try simp only [Act.put, List.setIfInBounds_toArray, List.set_cons_zero, List.set_cons_succ])
  refine wpAnyH_take (i := 4) (v := ?_) rfl (by kernel_rfl) (by kernel_rfl) (by kernel_rfl) (fun _ _ _ h => h) (Or.inl ⟨by kernel_rfl, ?_⟩) hHeld ?_
  rotate_left
  · intro w hSw; (try dsimp only at hSw); skip; go_simp; (try with_reducible rfl)
  (try simp only [Act.put, List.setIfInBounds_toArray, List.set_cons_zero, List.set_cons_succ])
  refine wpAnyH_take (i := 8) (v := ?_) rfl (by kernel_rfl) (by kernel_rfl) (by kernel_rfl) (fun _ _ _ h => h) (Or.inl ⟨by kernel_rfl, ?_⟩) hHeld ?_
  rotate_left
  · intro w hSw; (try dsimp only at hSw); skip; go_simp; (try with_reducible rfl)
  (try simp only [Act.put, List.setIfInBounds_toArray, List.set_cons_zero, List.set_cons_succ])
  refine wpAnyH_done (by kernel_rfl) ?_ _
  simp only [tailPost, List.drop_succ_cons, List.drop_zero]
  go_wp2
  all_goals
    go_ret
    exact ⟨by rw [Hf.out]; refine ret_int ?_; omega, (by repeat (first | exact Below.refl _ _ | assumption | (refine Below.setCell ?_ (by first | omega | (simp; done) | (simp; omega)) _) | (refine Below.alloc ?_ (by first | omega | (simp; done) | (simp; omega)) _) | refine Below.drew ?_ | (refine below_thru ?_ (by assumption) (by first | omega | (simp; done) | (simp; omega))) | refine below_drewN ?_ _))⟩
end Go.Proofs.YtmhfnnpbnocafaaGreat

namespace Go.Proofs.YtmhfnnpbnocafaaGreat
open Go.RowKit
set_option linter.unusedSimpArgs false
set_option linter.unusedVariables false

set_option maxRecDepth 100000 in
set_option maxHeartbeats 4000000 in
theorem forces_any (g : Ga) (s : Gs) (a b : Int) (w : World) (ha : g.At w w.heap.size) (hg : g.Ok) (hs : s.Ok g) (a0 : -20000 ≤ a) (a1 : a ≤ 20000) (b0 : -20000 ≤ b) (b1 : b ≤ 20000) :
    Calls Tryz.prog 44 #[mv g s, .int .i64 a, .int .i64 b] w fun e w' => e = .returned (.tuple #[.int .i64 (netF g s.pos a b), .int .i64 (rubF g s.pos a b)]) ∧ Below w.heap.size w w' := by
  have Ha := Lib.hid ha; clear ha
  have HU := Lib.hid (fun l W x y => under_any g s l W hg hs x y)
  have HO := Lib.hid (fun W h => own_any g s W h hg hs)
  obtain ⟨o0, o1⟩ := own_in hg Ha.out.ol hs.p0 hs.p1
  obtain ⟨l0, l1, l2, l3⟩ := lift_in hg s.pos a b
  obtain ⟨q0, q1, q2, q3⟩ := push_in hg a0 a1 b0 b1
  obtain ⟨s0, s1, s2, s3⟩ := slide_in hg s.pos a0 a1 b0 b1
  have e0 := hg.seal0
  have e1 := hg.seal1
  have f0 := hg.float0
  have f1 := hg.float1
  have g0 := hg.slide0
  have g1 := hg.slide1
  obtain ⟨u0, u1⟩ := under_in hg s.pos (min a b)
  obtain ⟨v0, v1⟩ := under_in hg s.pos (max a b)
  obtain ⟨lo, hlo⟩ : ∃ lo, min a b = lo := ⟨_, rfl⟩
  obtain ⟨hi, hhi⟩ : ∃ hi, max a b = hi := ⟨_, rfl⟩
  obtain ⟨hd, hhd⟩ : ∃ hd, max (a - b) (-(a - b)) = hd := ⟨_, rfl⟩
  have n1 : (if b < a then b else a) = lo := by rw [← hlo]; split <;> omega
  have n2 : (if a < b then b else a) = hi := by rw [← hhi]; split <;> omega
  have n3 : (if a - b < -(a - b) then -(a - b) else a - b) = hd := by rw [← hhd]; split <;> omega
  have hd0 : 0 ≤ hd := by omega
  have hd1 : hd ≤ 40000 := by omega
  rw [hlo] at l0 l1 u0 u1
  rw [hhi] at s2 s3 v0 v1
  rw [hhd] at s0 s1 s2 s3
  have hnet : netF g s.pos a b = ownF g s.pos + (if g.kind = 3 then g.float * underF g s.pos lo / 1000 else -(g.float * underF g s.pos lo / 1000)) + g.push * (a - b) / 1000 := by unfold netF liftF; rw [hlo]
  have hlift : liftF g s.pos a b = g.float * underF g s.pos lo / 1000 := by unfold liftF; rw [hlo]
  have hrub : rubF g s.pos a b = g.sealN + -(-(g.slide * hd * underF g s.pos hi) / 1000000) := by unfold rubF; rw [hhi, hhd]
  rw [hlift] at l2 l3
  generalize netF g s.pos a b = net at *
  generalize rubF g s.pos a b = rub at *
  have HUl := Lib.hid (fun W => HU.out lo W (by omega) (by omega))
  have HUh := Lib.hid (fun W => HU.out hi W (by omega) (by omega))
  generalize underF g s.pos lo = ul at *
  generalize underF g s.pos hi = uh at *
  generalize ownF g s.pos = ow at *
  have HD1 := Lib.hid (fun W => floorDiv_any (g.float * ul) 1000 W (by omega) (by omega) (by omega))
  have HD2 := Lib.hid (fun W => floorDiv_any (g.push * (a - b)) 1000 W (by omega) (by omega) (by omega))
  have HD3 := Lib.hid (fun W => ceilDiv_any (g.slide * hd * uh) 1000000 W (by omega) (by omega) (by omega))
  have w0 : IntKind.i64.wrap (a - b) = a - b := IntWalk.i64_in _ (by omega)
  have w1 : IntKind.i64.wrap (g.float * ul) = g.float * ul := IntWalk.i64_in _ (by omega)
  have w2 : IntKind.i64.wrap (g.push * (a - b)) = g.push * (a - b) := IntWalk.i64_in _ (by omega)
  have w3 : IntKind.i64.wrap (g.slide * hd) = g.slide * hd := IntWalk.i64_in _ (by omega)
  have w4 : IntKind.i64.wrap (g.slide * hd * uh) = g.slide * hd * uh := IntWalk.i64_in _ (by omega)
  have w5 : IntKind.i64.wrap (-(a - b)) = -(a - b) := IntWalk.i64_in _ (by omega)
  obtain ⟨lf, hlf⟩ : ∃ lf, g.float * ul / 1000 = lf := ⟨_, rfl⟩
  obtain ⟨pf, hpf⟩ : ∃ pf, g.push * (a - b) / 1000 = pf := ⟨_, rfl⟩
  obtain ⟨rf, hrf⟩ : ∃ rf, -(-(g.slide * hd * uh) / 1000000) = rf := ⟨_, rfl⟩
  have r0 : 0 ≤ rf := by omega
  have r1 : rf ≤ 12000000 := by omega
  rw [hlf] at hnet l2 l3
  rw [hpf] at hnet q2 q3
  rw [hrf] at hrub
  rw [hlf] at HD1
  rw [hpf] at HD2
  rw [hrf] at HD3
  have w6 : IntKind.i64.wrap (g.sealN + rf) = g.sealN + rf := IntWalk.i64_in _ (by omega)
  clear hlo hhi hhd hlift hlf hpf hrf HU hg hs s2 s3
  rw [hrub]
  clear hrub
  obtain ⟨lv, hlv, hnet'⟩ : ∃ lv, (((g.kind != 3) = false ∧ lv = lf) ∨ ((g.kind != 3) = true ∧ lv = -lf)) ∧ net = ow + lv + pf := by
    by_cases hk : g.kind = 3
    · rw [if_pos hk] at hnet
      exact ⟨lf, .inl ⟨by rw [hk]; rfl, rfl⟩, hnet⟩
    · rw [if_neg hk] at hnet
      exact ⟨-lf, .inr ⟨by rw [bne_iff_ne]; exact hk, rfl⟩, hnet⟩
  have lv0 : -300000 ≤ lv := by omega
  have lv1 : lv ≤ 300000 := by omega
  have w7 : IntKind.i64.wrap (ow + lv) = ow + lv := IntWalk.i64_in _ (by omega)
  have w8 : IntKind.i64.wrap (ow + lv + pf) = ow + lv + pf := IntWalk.i64_in _ (by omega)
  rw [hnet']
  clear hnet hnet'
  rcases hlv with ⟨hk, rfl⟩ | ⟨hk, rfl⟩
  all_goals
    go_enter Tryz.func44, Tryz.ntmps44
    go_wp2_with fail
    refine wp_region_split (S := fun w' => Blk w' w.heap.size 97 (mrow g s)) 10 (by kernel_rfl) (by kernel_rfl) (by exact Blk.drew (Blk.new w _ _)) (fun hHeld => ?_)
    refine wpAnyH_take (i := 0) (v := ?_) rfl (by kernel_rfl) (by kernel_rfl) (by kernel_rfl) (fun _ _ _ h => h) (Or.inl ⟨by kernel_rfl, ?_⟩) hHeld ?_
    rotate_left
    · intro w hSw; (try dsimp only at hSw); obtain ⟨⟨k0, k1, k2, k3, k4, k5, k6, k7, k8, k9, k10, k11, k12, k13, k14, k15, k16, k17, k18, k19, k20⟩, k21, k22, k23⟩ := mcells_of hSw; go_simp; (try with_reducible rfl)
    (try simp only [Act.put, List.setIfInBounds_toArray, List.set_cons_zero, List.set_cons_succ])
    refine wpAnyH_take (i := 1) (v := ?_) rfl (by kernel_rfl) (by kernel_rfl) (by kernel_rfl) (fun _ _ _ h => h) (Or.inl ⟨by kernel_rfl, ?_⟩) hHeld ?_
    rotate_left
    · intro w hSw; (try dsimp only at hSw); obtain ⟨⟨k0, k1, k2, k3, k4, k5, k6, k7, k8, k9, k10, k11, k12, k13, k14, k15, k16, k17, k18, k19, k20⟩, k21, k22, k23⟩ := mcells_of hSw; go_simp; (try with_reducible rfl)
    (try simp only [Act.put, List.setIfInBounds_toArray, List.set_cons_zero, List.set_cons_succ])
    refine wpAnyH_take (i := 2) (v := ?_) rfl (by kernel_rfl) (by kernel_rfl) (by kernel_rfl) (fun _ _ _ h => h) (Or.inl ⟨by kernel_rfl, ?_⟩) hHeld ?_
    rotate_left
    · intro w hSw; (try dsimp only at hSw); obtain ⟨⟨k0, k1, k2, k3, k4, k5, k6, k7, k8, k9, k10, k11, k12, k13, k14, k15, k16, k17, k18, k19, k20⟩, k21, k22, k23⟩ := mcells_of hSw; go_simp; (try with_reducible rfl)
    (try simp only [Act.put, List.setIfInBounds_toArray, List.set_cons_zero, List.set_cons_succ])
    refine wpAnyH_take (i := 3) (v := mv g s) rfl (by kernel_rfl) (by kernel_rfl) (by kernel_rfl) (fun _ _ _ h => h) (Or.inl ⟨by rfl, fun w hSw => ld_m rfl rfl hSw⟩) hHeld ?_
    (try simp only [Act.put, List.setIfInBounds_toArray, List.set_cons_zero, List.set_cons_succ])
    refine wpAnyH_take (i := 4) (v := ?_) rfl (by kernel_rfl) (by kernel_rfl) (by kernel_rfl) (fun _ _ _ h => h) (Or.inl ⟨by kernel_rfl, ?_⟩) hHeld ?_
    rotate_left
    · intro w hSw; (try dsimp only at hSw); skip; go_simp; (try with_reducible rfl)
    (try simp only [Act.put, List.setIfInBounds_toArray, List.set_cons_zero, List.set_cons_succ])
    refine wpAnyH_take (i := 5) (v := ?_) rfl (by kernel_rfl) (by kernel_rfl) (by kernel_rfl) (fun _ _ _ h => h) (Or.inl ⟨by kernel_rfl, ?_⟩) hHeld ?_
    rotate_left
    · intro w hSw; (try dsimp only at hSw); skip; go_simp; (try with_reducible rfl)
    (try simp only [Act.put, List.setIfInBounds_toArray, List.set_cons_zero, List.set_cons_succ])
    refine wpAnyH_take (i := 6) (v := ?_) rfl (by kernel_rfl) (by kernel_rfl) (by kernel_rfl) (fun _ _ _ h => h) (Or.inl ⟨by kernel_rfl, ?_⟩) hHeld ?_
    rotate_left
    · intro w hSw; (try dsimp only at hSw); skip; go_simp; (try with_reducible rfl)
    (try simp only [Act.put, List.setIfInBounds_toArray, List.set_cons_zero, List.set_cons_succ])
    refine wpAnyH_ready (rs := [7]) (by kernel_rfl) (by simp) ?_
    refine AllReadyH.cons rfl (fun K hK => ?_) AllReadyH.nil
    go_simp
    refine (HUl.out _).mono ?_
    rintro e w2 ⟨rfl, hb2⟩; have hz2 := hb2.size; (try simp at hz2)
    (try dsimp only)
    refine hK.out _ _ (by exact hHeld.thru hb2 hHeld.lt) (fun hHeld => ?_)
    clear hK K
    (try simp only [Act.put, List.setIfInBounds_toArray, List.set_cons_zero, List.set_cons_succ])
    refine wpAnyH_take (i := 8) (v := ?_) rfl (by kernel_rfl) (by kernel_rfl) (by kernel_rfl) (fun _ _ _ h => h) (Or.inl ⟨by kernel_rfl, ?_⟩) hHeld ?_
    rotate_left
    · intro w hSw; (try dsimp only at hSw); skip; go_simp; (try with_reducible rfl)
    (try simp only [Act.put, List.setIfInBounds_toArray, List.set_cons_zero, List.set_cons_succ])
    refine wpAnyH_ready (rs := [9]) (by kernel_rfl) (by simp) ?_
    refine AllReadyH.cons rfl (fun K hK => ?_) AllReadyH.nil
    go_simp
    refine (HD1.out _).mono ?_
    rintro e w3 ⟨rfl, rfl⟩
    (try dsimp only)
    refine hK.out _ _ (by exact hHeld) (fun hHeld => ?_)
    clear hK K
    (try simp only [Act.put, List.setIfInBounds_toArray, List.set_cons_zero, List.set_cons_succ])
    refine wpAnyH_done (by kernel_rfl) ?_ _
    simp only [tailPost, List.drop_succ_cons, List.drop_zero]
    have kc := (mcells_of hHeld).c1
    have hl2 := hHeld.lt
    go_wp2_with fail
    clear kc
    refine wp_region_split (S := fun w' => Blk w' w.heap.size 97 (mrow g s)) 11 (by kernel_rfl) (by kernel_rfl) (by exact Blk.drew hHeld) (fun hHeld => ?_)
    refine wpAnyH_take (i := 0) (v := mv g s) rfl (by kernel_rfl) (by kernel_rfl) (by kernel_rfl) (fun _ _ _ h => h) (Or.inl ⟨by rfl, fun w hSw => ld_m rfl rfl hSw⟩) hHeld ?_
    (try simp only [Act.put, List.setIfInBounds_toArray, List.set_cons_zero, List.set_cons_succ])
    refine wpAnyH_take (i := 2) (v := ?_) rfl (by kernel_rfl) (by kernel_rfl) (by kernel_rfl) (fun _ _ _ h => h) (Or.inl ⟨by kernel_rfl, ?_⟩) hHeld ?_
    rotate_left
    · intro w hSw; (try dsimp only at hSw); skip; go_simp; (try with_reducible rfl)
    (try simp only [Act.put, List.setIfInBounds_toArray, List.set_cons_zero, List.set_cons_succ])
    refine wpAnyH_take (i := 7) (v := ?_) rfl (by kernel_rfl) (by kernel_rfl) (by kernel_rfl) (fun _ _ _ h => h) (Or.inl ⟨by kernel_rfl, ?_⟩) hHeld ?_
    rotate_left
    · intro w hSw; (try dsimp only at hSw); skip; go_simp; (try with_reducible rfl)
    (try simp only [Act.put, List.setIfInBounds_toArray, List.set_cons_zero, List.set_cons_succ])
    refine wpAnyH_take (i := 4) (v := ?_) rfl (by kernel_rfl) (by kernel_rfl) (by kernel_rfl) (fun _ _ _ h => h) (Or.inl ⟨by kernel_rfl, ?_⟩) hHeld ?_
    rotate_left
    · intro w hSw; (try dsimp only at hSw); obtain ⟨⟨k0, k1, k2, k3, k4, k5, k6, k7, k8, k9, k10, k11, k12, k13, k14, k15, k16, k17, k18, k19, k20⟩, k21, k22, k23⟩ := mcells_of hSw; go_simp; (try with_reducible rfl)
    (try simp only [Act.put, List.setIfInBounds_toArray, List.set_cons_zero, List.set_cons_succ])
    refine wpAnyH_take (i := 5) (v := ?_) rfl (by kernel_rfl) (by kernel_rfl) (by kernel_rfl) (fun _ _ _ h => h) (Or.inl ⟨by kernel_rfl, ?_⟩) hHeld ?_
    rotate_left
    · intro w hSw; (try dsimp only at hSw); obtain ⟨⟨k0, k1, k2, k3, k4, k5, k6, k7, k8, k9, k10, k11, k12, k13, k14, k15, k16, k17, k18, k19, k20⟩, k21, k22, k23⟩ := mcells_of hSw; go_simp; (try with_reducible rfl)
    (try simp only [Act.put, List.setIfInBounds_toArray, List.set_cons_zero, List.set_cons_succ])
    refine wpAnyH_take (i := 6) (v := ?_) rfl (by kernel_rfl) (by kernel_rfl) (by kernel_rfl) (fun _ _ _ h => h) (Or.inl ⟨by kernel_rfl, ?_⟩) hHeld ?_
    rotate_left
    · intro w hSw; (try dsimp only at hSw); obtain ⟨⟨k0, k1, k2, k3, k4, k5, k6, k7, k8, k9, k10, k11, k12, k13, k14, k15, k16, k17, k18, k19, k20⟩, k21, k22, k23⟩ := mcells_of hSw; go_simp; (try with_reducible rfl)
    (try simp only [Act.put, List.setIfInBounds_toArray, List.set_cons_zero, List.set_cons_succ])
    refine wpAnyH_take (i := 8) (v := ?_) rfl (by kernel_rfl) (by kernel_rfl) (by kernel_rfl) (fun _ _ _ h => h) (Or.inl ⟨by kernel_rfl, ?_⟩) hHeld ?_
    rotate_left
    · intro w hSw; (try dsimp only at hSw); skip; go_simp; (try with_reducible rfl)
    (try simp only [Act.put, List.setIfInBounds_toArray, List.set_cons_zero, List.set_cons_succ])
    refine wpAnyH_ready (rs := [1]) (by kernel_rfl) (by simp) ?_
    refine AllReadyH.cons rfl (fun K hK => ?_) AllReadyH.nil
    go_simp
    refine (HO.out _ (Ha.out.grow (by repeat (first | exact Below.refl _ _ | assumption | (refine Below.setCell ?_ (by first | omega | (simp; done) | (simp; omega)) _) | (refine Below.alloc ?_ (by first | omega | (simp; done) | (simp; omega)) _) | refine Below.drew ?_ | (refine below_thru ?_ (by assumption) (by first | omega | (simp; done) | (simp; omega))) | refine below_drewN ?_ _)))).mono ?_
    rintro e w4 ⟨rfl, hb4⟩; have hz4 := hb4.size; (try simp at hz4)
    (try dsimp only)
    refine hK.out _ _ (by exact hHeld.thru hb4 hHeld.lt) (fun hHeld => ?_)
    clear hK K
    (try simp only [Act.put, List.setIfInBounds_toArray, List.set_cons_zero, List.set_cons_succ])
    refine wpAnyH_take (i := 3) (v := ?_) rfl (by kernel_rfl) (by kernel_rfl) (by kernel_rfl) (fun _ _ _ h => h) (Or.inl ⟨by kernel_rfl, ?_⟩) hHeld ?_
    rotate_left
    · intro w hSw; (try dsimp only at hSw); skip; go_simp; (try with_reducible rfl)
    (try simp only [Act.put, List.setIfInBounds_toArray, List.set_cons_zero, List.set_cons_succ])
    refine wpAnyH_ready (rs := [9]) (by kernel_rfl) (by simp) ?_
    refine AllReadyH.cons rfl (fun K hK => ?_) AllReadyH.nil
    go_simp
    refine (HD2.out _).mono ?_
    rintro e w5 ⟨rfl, rfl⟩
    (try dsimp only)
    refine hK.out _ _ (by exact hHeld) (fun hHeld => ?_)
    clear hK K
    (try simp only [Act.put, List.setIfInBounds_toArray, List.set_cons_zero, List.set_cons_succ])
    refine wpAnyH_take (i := 10) (v := ?_) rfl (by kernel_rfl) (by kernel_rfl) (by kernel_rfl) (fun _ _ _ h => h) (Or.inl ⟨by kernel_rfl, ?_⟩) hHeld ?_
    rotate_left
    · intro w hSw; (try dsimp only at hSw); skip; go_simp; (try with_reducible rfl)
    (try simp only [Act.put, List.setIfInBounds_toArray, List.set_cons_zero, List.set_cons_succ])
    refine wpAnyH_done (by kernel_rfl) ?_ _
    simp only [tailPost, List.drop_succ_cons, List.drop_zero]
    go_wp2_with fail
    refine wp_region_split (S := fun w' => Blk w' w.heap.size 97 (mrow g s)) 19 (by kernel_rfl) (by kernel_rfl) (by exact Blk.drew hHeld) (fun hHeld => ?_)
    refine wpAnyH_take (i := 11) (v := mv g s) rfl (by kernel_rfl) (by kernel_rfl) (by kernel_rfl) (fun _ _ _ h => h) (Or.inl ⟨by rfl, fun w hSw => ld_m rfl rfl hSw⟩) hHeld ?_
    (try simp only [Act.put, List.setIfInBounds_toArray, List.set_cons_zero, List.set_cons_succ])
    refine wpAnyH_take (i := 0) (v := ?_) rfl (by kernel_rfl) (by kernel_rfl) (by kernel_rfl) (fun _ _ _ h => h) (Or.inl ⟨by kernel_rfl, ?_⟩) hHeld ?_
    rotate_left
    · intro w hSw; (try dsimp only at hSw); obtain ⟨⟨k0, k1, k2, k3, k4, k5, k6, k7, k8, k9, k10, k11, k12, k13, k14, k15, k16, k17, k18, k19, k20⟩, k21, k22, k23⟩ := mcells_of hSw; go_simp; (try with_reducible rfl)
    (try simp only [Act.put, List.setIfInBounds_toArray, List.set_cons_zero, List.set_cons_succ])
    refine wpAnyH_take (i := 1) (v := ?_) rfl (by kernel_rfl) (by kernel_rfl) (by kernel_rfl) (fun _ _ _ h => h) (Or.inl ⟨by kernel_rfl, ?_⟩) hHeld ?_
    rotate_left
    · intro w hSw; (try dsimp only at hSw); obtain ⟨⟨k0, k1, k2, k3, k4, k5, k6, k7, k8, k9, k10, k11, k12, k13, k14, k15, k16, k17, k18, k19, k20⟩, k21, k22, k23⟩ := mcells_of hSw; go_simp; (try with_reducible rfl)
    (try simp only [Act.put, List.setIfInBounds_toArray, List.set_cons_zero, List.set_cons_succ])
    refine wpAnyH_take (i := 2) (v := ?_) rfl (by kernel_rfl) (by kernel_rfl) (by kernel_rfl) (fun _ _ _ h => h) (Or.inl ⟨by kernel_rfl, ?_⟩) hHeld ?_
    rotate_left
    · intro w hSw; (try dsimp only at hSw); obtain ⟨⟨k0, k1, k2, k3, k4, k5, k6, k7, k8, k9, k10, k11, k12, k13, k14, k15, k16, k17, k18, k19, k20⟩, k21, k22, k23⟩ := mcells_of hSw; go_simp; (try with_reducible rfl)
    (try simp only [Act.put, List.setIfInBounds_toArray, List.set_cons_zero, List.set_cons_succ])
    refine wpAnyH_take (i := 3) (v := ?_) rfl (by kernel_rfl) (by kernel_rfl) (by kernel_rfl) (fun _ _ _ h => h) (Or.inl ⟨by kernel_rfl, ?_⟩) hHeld ?_
    rotate_left
    · intro w hSw; (try dsimp only at hSw); obtain ⟨⟨k0, k1, k2, k3, k4, k5, k6, k7, k8, k9, k10, k11, k12, k13, k14, k15, k16, k17, k18, k19, k20⟩, k21, k22, k23⟩ := mcells_of hSw; go_simp; (try with_reducible rfl)
    (try simp only [Act.put, List.setIfInBounds_toArray, List.set_cons_zero, List.set_cons_succ])
    refine wpAnyH_take (i := 4) (v := ?_) rfl (by kernel_rfl) (by kernel_rfl) (by kernel_rfl) (fun _ _ _ h => h) (Or.inl ⟨by kernel_rfl, ?_⟩) hHeld ?_
    rotate_left
    · intro w hSw; (try dsimp only at hSw); obtain ⟨⟨k0, k1, k2, k3, k4, k5, k6, k7, k8, k9, k10, k11, k12, k13, k14, k15, k16, k17, k18, k19, k20⟩, k21, k22, k23⟩ := mcells_of hSw; go_simp; (try with_reducible rfl)
    (try simp only [Act.put, List.setIfInBounds_toArray, List.set_cons_zero, List.set_cons_succ])
    refine wpAnyH_take (i := 5) (v := ?_) rfl (by kernel_rfl) (by kernel_rfl) (by kernel_rfl) (fun _ _ _ h => h) (Or.inl ⟨by kernel_rfl, ?_⟩) hHeld ?_
    rotate_left
    · intro w hSw; (try dsimp only at hSw); obtain ⟨⟨k0, k1, k2, k3, k4, k5, k6, k7, k8, k9, k10, k11, k12, k13, k14, k15, k16, k17, k18, k19, k20⟩, k21, k22, k23⟩ := mcells_of hSw; go_simp; (try with_reducible rfl)
    (try simp only [Act.put, List.setIfInBounds_toArray, List.set_cons_zero, List.set_cons_succ])
    refine wpAnyH_take (i := 6) (v := ?_) rfl (by kernel_rfl) (by kernel_rfl) (by kernel_rfl) (fun _ _ _ h => h) (Or.inl ⟨by kernel_rfl, ?_⟩) hHeld ?_
    rotate_left
    · intro w hSw; (try dsimp only at hSw); skip; go_simp; (try with_reducible rfl)
    (try simp only [Act.put, List.setIfInBounds_toArray, List.set_cons_zero, List.set_cons_succ])
    refine wpAnyH_take (i := 7) (v := ?_) rfl (by kernel_rfl) (by kernel_rfl) (by kernel_rfl) (fun _ _ _ h => h) (Or.inl ⟨by kernel_rfl, ?_⟩) hHeld ?_
    rotate_left
    · intro w hSw; (try dsimp only at hSw); skip; go_simp; (try with_reducible rfl)
    (try simp only [Act.put, List.setIfInBounds_toArray, List.set_cons_zero, List.set_cons_succ])
    refine wpAnyH_take (i := 8) (v := ?_) rfl (by kernel_rfl) (by kernel_rfl) (by kernel_rfl) (fun _ _ _ h => h) (Or.inl ⟨by kernel_rfl, ?_⟩) hHeld ?_
    rotate_left
    · intro w hSw; (try dsimp only at hSw); skip; go_simp; (try with_reducible rfl)
    (try simp only [Act.put, List.setIfInBounds_toArray, List.set_cons_zero, List.set_cons_succ])
    refine wpAnyH_take (i := 9) (v := ?_) rfl (by kernel_rfl) (by kernel_rfl) (by kernel_rfl) (fun _ _ _ h => h) (Or.inl ⟨by kernel_rfl, ?_⟩) hHeld ?_
    rotate_left
    · intro w hSw; (try dsimp only at hSw); skip; go_simp; (try with_reducible rfl)
    (try simp only [Act.put, List.setIfInBounds_toArray, List.set_cons_zero, List.set_cons_succ])
    refine wpAnyH_take (i := 10) (v := ?_) rfl (by kernel_rfl) (by kernel_rfl) (by kernel_rfl) (fun _ _ _ h => h) (Or.inl ⟨by kernel_rfl, ?_⟩) hHeld ?_
    rotate_left
    · intro w hSw; (try dsimp only at hSw); skip; go_simp; (try with_reducible rfl)
    (try simp only [Act.put, List.setIfInBounds_toArray, List.set_cons_zero, List.set_cons_succ])
    refine wpAnyH_take (i := 12) (v := ?_) rfl (by kernel_rfl) (by kernel_rfl) (by kernel_rfl) (fun _ _ _ h => h) (Or.inl ⟨by kernel_rfl, ?_⟩) hHeld ?_
    rotate_left
    · intro w hSw; (try dsimp only at hSw); skip; go_simp; (try with_reducible rfl)
    (try simp only [Act.put, List.setIfInBounds_toArray, List.set_cons_zero, List.set_cons_succ])
    refine wpAnyH_take (i := 13) (v := ?_) rfl (by kernel_rfl) (by kernel_rfl) (by kernel_rfl) (fun _ _ _ h => h) (Or.inl ⟨by kernel_rfl, ?_⟩) hHeld ?_
    rotate_left
    · intro w hSw; (try dsimp only at hSw); skip; go_simp; (try with_reducible rfl)
    (try simp only [Act.put, List.setIfInBounds_toArray, List.set_cons_zero, List.set_cons_succ])
    refine wpAnyH_take (i := 14) (v := ?_) rfl (by kernel_rfl) (by kernel_rfl) (by kernel_rfl) (fun _ _ _ h => h) (Or.inl ⟨by kernel_rfl, ?_⟩) hHeld ?_
    rotate_left
    · intro w hSw; (try dsimp only at hSw); skip; go_simp; (try with_reducible rfl)
    (try simp only [Act.put, List.setIfInBounds_toArray, List.set_cons_zero, List.set_cons_succ])
    refine wpAnyH_ready (rs := [15]) (by kernel_rfl) (by simp) ?_
    refine AllReadyH.cons rfl (fun K hK => ?_) AllReadyH.nil
    go_simp
    refine (HUh.out _).mono ?_
    rintro e w6 ⟨rfl, hb6⟩; have hz6 := hb6.size; (try simp at hz6)
    (try dsimp only)
    refine hK.out _ _ (by exact hHeld.thru hb6 hHeld.lt) (fun hHeld => ?_)
    clear hK K
    (try simp only [Act.put, List.setIfInBounds_toArray, List.set_cons_zero, List.set_cons_succ])
    refine wpAnyH_take (i := 16) (v := ?_) rfl (by kernel_rfl) (by kernel_rfl) (by kernel_rfl) (fun _ _ _ h => h) (Or.inl ⟨by kernel_rfl, ?_⟩) hHeld ?_
    rotate_left
    · intro w hSw; (try dsimp only at hSw); skip; go_simp; (try with_reducible rfl)
    (try simp only [Act.put, List.setIfInBounds_toArray, List.set_cons_zero, List.set_cons_succ])
    refine wpAnyH_ready (rs := [17]) (by kernel_rfl) (by simp) ?_
    refine AllReadyH.cons rfl (fun K hK => ?_) AllReadyH.nil
    go_simp
    refine (HD3.out _).mono ?_
    rintro e w7 ⟨rfl, rfl⟩
    (try dsimp only)
    refine hK.out _ _ (by exact hHeld) (fun hHeld => ?_)
    clear hK K
    (try simp only [Act.put, List.setIfInBounds_toArray, List.set_cons_zero, List.set_cons_succ])
    refine wpAnyH_take (i := 18) (v := ?_) rfl (by kernel_rfl) (by kernel_rfl) (by kernel_rfl) (fun _ _ _ h => h) (Or.inl ⟨by kernel_rfl, ?_⟩) hHeld ?_
    rotate_left
    · intro w hSw; (try dsimp only at hSw); skip; go_simp; (try with_reducible rfl)
    (try simp only [Act.put, List.setIfInBounds_toArray, List.set_cons_zero, List.set_cons_succ])
    refine wpAnyH_done (by kernel_rfl) ?_ _
    simp only [tailPost, List.drop_succ_cons, List.drop_zero]
    go_wp2
    go_ret2
    exact ⟨rfl, (by repeat (first | exact Below.refl _ _ | assumption | (refine Below.setCell ?_ (by first | omega | (simp; done) | (simp; omega)) _) | (refine Below.alloc ?_ (by first | omega | (simp; done) | (simp; omega)) _) | refine Below.drew ?_ | (refine below_thru ?_ (by assumption) (by first | omega | (simp; done) | (simp; omega))) | refine below_drewN ?_ _))⟩
end Go.Proofs.YtmhfnnpbnocafaaGreat

namespace Go.Proofs.YtmhfnnpbnocafaaGreat
open Go.RowKit
set_option linter.unusedSimpArgs false
set_option linter.unusedVariables false

theorem reach_in {g : Ga} {s : Gs} (hg : g.Ok) (hs : s.Ok g) : 0 ≤ reachF g s ∧ reachF g s ≤ 10000000 := by
  have a := hs.c0
  have b := hs.c1
  have c := hg.cap1
  have d := hg.use0
  have e := hg.t0
  have f := hg.t1
  unfold reachF
  split
  · omega
  · rename_i hu
    have hu' : 0 < g.use := by omega
    refine ⟨Int.ediv_nonneg (by omega) (by omega), ?_⟩
    have : s.charge * 100 / g.use ≤ s.charge * 100 := Int.ediv_le_self _ (by omega)
    omega
theorem drive_in {g : Ga} {s : Gs} (hg : g.Ok) (hs : s.Ok g) {left : Int} (h0 : 0 ≤ left) :
    0 ≤ driveF g s left ∧ driveF g s left ≤ left ∧ driveF g s left ≤ 100 ∧ driveF g s left ≤ g.speed ∧ 0 ≤ driveF g s left * g.use ∧ driveF g s left * g.use ≤ 10000000 ∧ 0 ≤ -(-(driveF g s left * g.use) / 100) ∧ -(-(driveF g s left * g.use) / 100) ≤ s.charge := by
  have r := reach_in hg hs
  have a := hg.speed0
  have b := hg.speed1
  have c := hg.use0
  have d := hg.use1
  have c0 := hs.c0
  have e0 : 0 ≤ driveF g s left := by unfold driveF; omega
  have e1 : driveF g s left ≤ left := by unfold driveF; omega
  have e2 : driveF g s left ≤ g.speed := by unfold driveF; omega
  have e3 : driveF g s left ≤ reachF g s := by unfold driveF; omega
  obtain ⟨x, y⟩ := mul0 (a := driveF g s left) (A := 100) e0 (by omega) c d
  have z : driveF g s left * g.use ≤ s.charge * 100 := by
    by_cases hu : g.use = 0
    · rw [hu, Int.mul_zero]; omega
    · have hr : reachF g s = s.charge * 100 / g.use := by unfold reachF; rw [if_neg hu]
      rw [hr, Int.le_ediv_iff_mul_le (by omega)] at e3
      exact e3
  refine ⟨e0, e1, by omega, e2, x, by omega, by omega, by omega⟩
theorem adv_in {g : Ga} {s : Gs} (hg : g.Ok) (hs : s.Ok g) (f r : Int) {left : Int} (h0 : 0 ≤ left) (p : Bool) :
    0 ≤ (advF g s f r left p).1 ∧ (advF g s f r left p).1 ≤ left ∧ (advF g s f r left p).1 ≤ max g.speed g.gravity ∧ 0 ≤ (advF g s f r left p).2 ∧ (advF g s f r left p).2 ≤ s.charge := by
  have a := hg.gravity0
  have b := hs.c0
  have c := hg.speed0
  have d := drive_in hg hs h0
  unfold advF
  split
  · simp only; omega
  · split
    · simp only; omega
    · simp only; omega

set_option maxRecDepth 100000 in
set_option maxHeartbeats 4000000 in
theorem advance_any (g : Ga) (s : Gs) (f r left : Int) (p : Bool) (w : World) (hg : g.Ok) (hs : s.Ok g) (f0 : -900000 ≤ f) (f1 : f ≤ 900000) (l0 : 0 ≤ left) (l1 : left ≤ 5000) :
    Calls Tryz.prog 153 #[mv g s, .int .i64 f, .int .i64 r, .int .i64 left, .bool p] w fun e w' => e = .returned (.tuple #[.int .i64 (advF g s f r left p).1, .int .i64 (advF g s f r left p).2]) ∧ Below w.heap.size w w' := by
  obtain ⟨c0, c1, c2, c3, c4, c5, c6, c7⟩ := drive_in hg hs l0
  have d0 := hg.drive0
  have d1 := hg.drive1
  have g0 := hg.gravity0
  have g1 := hg.gravity1
  have HR := Lib.hid (fun W => reach_any g s W hg hs)
  have hdr : driveF g s left = min (min g.speed left) (reachF g s) := rfl
  have hadv : advF g s f r left p = if r < f then (min g.gravity left, 0) else if p = true ∧ r < f + g.drive then (driveF g s left, -(-(driveF g s left * g.use) / 100)) else (0, 0) := rfl
  generalize reachF g s = rc at *
  generalize driveF g s left = dr at *
  obtain ⟨m, hm⟩ : ∃ m, min g.gravity left = m := ⟨_, rfl⟩
  obtain ⟨k, hk⟩ : ∃ k, min g.speed left = k := ⟨_, rfl⟩
  rw [hm] at hadv
  rw [hk] at hdr
  have n1 : (if left < g.gravity then left else g.gravity) = m := by rw [← hm]; split <;> omega
  have n2 : (if left < g.speed then left else g.speed) = k := by rw [← hk]; split <;> omega
  have n3 : (if rc < k then rc else k) = dr := by rw [hdr]; split <;> omega
  have HC := Lib.hid (fun W => ceilDiv_any (dr * g.use) 100 W (by omega) (by omega) (by omega))
  generalize advF g s f r left p = adv at *
  have w1 : IntKind.i64.wrap (dr * g.use) = dr * g.use := IntWalk.i64_in _ (by omega)
  clear hm hk hdr hg hs c6 c7
  by_cases h1 : r < f
  · rw [if_pos h1] at hadv
    rw [hadv]
    clear hadv
    cases p
    all_goals
      go_enter Tryz.func153, Tryz.ntmps153
      go_wp2
      go_ret2
      exact ⟨rfl, (by repeat (first | exact Below.refl _ _ | assumption | (refine Below.setCell ?_ (by first | omega | (simp; done) | (simp; omega)) _) | (refine Below.alloc ?_ (by first | omega | (simp; done) | (simp; omega)) _) | refine Below.drew ?_ | (refine below_thru ?_ (by assumption) (by first | omega | (simp; done) | (simp; omega))) | refine below_drewN ?_ _))⟩
  · rw [if_neg h1] at hadv
    cases p
    · rw [if_neg (by simp)] at hadv
      rw [hadv]
      clear hadv
      go_enter Tryz.func153, Tryz.ntmps153
      go_wp2
      go_ret2
      exact ⟨rfl, (by repeat (first | exact Below.refl _ _ | assumption | (refine Below.setCell ?_ (by first | omega | (simp; done) | (simp; omega)) _) | (refine Below.alloc ?_ (by first | omega | (simp; done) | (simp; omega)) _) | refine Below.drew ?_ | (refine below_thru ?_ (by assumption) (by first | omega | (simp; done) | (simp; omega))) | refine below_drewN ?_ _))⟩
    · by_cases h2 : r < f + g.drive
      · rw [if_pos ⟨rfl, h2⟩] at hadv
        rw [hadv]
        clear hadv
        have h2' : decide (r < f + g.drive) = true := by simpa using h2
        go_enter Tryz.func153, Tryz.ntmps153
        go_wp2_with fail
        refine wp_region_split (S := fun w' => Blk w' w.heap.size 97 (mrow g s)) 7 (by kernel_rfl) (by kernel_rfl) (by exact Blk.drew (Blk.new w _ _)) (fun hHeld => ?_)
        refine wpAnyH_take (i := 4) (v := mv g s) rfl (by kernel_rfl) (by kernel_rfl) (by kernel_rfl) (fun _ _ _ h => h) (Or.inl ⟨by rfl, fun w hSw => ld_m rfl rfl hSw⟩) hHeld ?_
        (try simp only [Act.put, List.setIfInBounds_toArray, List.set_cons_zero, List.set_cons_succ])
        refine wpAnyH_take (i := 0) (v := ?_) rfl (by kernel_rfl) (by kernel_rfl) (by kernel_rfl) (fun _ _ _ h => h) (Or.inl ⟨by kernel_rfl, ?_⟩) hHeld ?_
        rotate_left
        · intro w hSw; (try dsimp only at hSw); obtain ⟨⟨k0, k1, k2, k3, k4, k5, k6, k7, k8, k9, k10, k11, k12, k13, k14, k15, k16, k17, k18, k19, k20⟩, k21, k22, k23⟩ := mcells_of hSw; go_simp; (try with_reducible rfl)
        (try simp only [Act.put, List.setIfInBounds_toArray, List.set_cons_zero, List.set_cons_succ])
        refine wpAnyH_take (i := 1) (v := ?_) rfl (by kernel_rfl) (by kernel_rfl) (by kernel_rfl) (fun _ _ _ h => h) (Or.inl ⟨by kernel_rfl, ?_⟩) hHeld ?_
        rotate_left
        · intro w hSw; (try dsimp only at hSw); obtain ⟨⟨k0, k1, k2, k3, k4, k5, k6, k7, k8, k9, k10, k11, k12, k13, k14, k15, k16, k17, k18, k19, k20⟩, k21, k22, k23⟩ := mcells_of hSw; go_simp; (try with_reducible rfl)
        (try simp only [Act.put, List.setIfInBounds_toArray, List.set_cons_zero, List.set_cons_succ])
        refine wpAnyH_take (i := 2) (v := ?_) rfl (by kernel_rfl) (by kernel_rfl) (by kernel_rfl) (fun _ _ _ h => h) (Or.inl ⟨by kernel_rfl, ?_⟩) hHeld ?_
        rotate_left
        · intro w hSw; (try dsimp only at hSw); obtain ⟨⟨k0, k1, k2, k3, k4, k5, k6, k7, k8, k9, k10, k11, k12, k13, k14, k15, k16, k17, k18, k19, k20⟩, k21, k22, k23⟩ := mcells_of hSw; go_simp; (try with_reducible rfl)
        (try simp only [Act.put, List.setIfInBounds_toArray, List.set_cons_zero, List.set_cons_succ])
        refine wpAnyH_take (i := 3) (v := ?_) rfl (by kernel_rfl) (by kernel_rfl) (by kernel_rfl) (fun _ _ _ h => h) (Or.inl ⟨by kernel_rfl, ?_⟩) hHeld ?_
        rotate_left
        · intro w hSw; (try dsimp only at hSw); skip; go_simp; (try with_reducible rfl)
        (try simp only [Act.put, List.setIfInBounds_toArray, List.set_cons_zero, List.set_cons_succ])
        refine wpAnyH_ready (rs := [5]) (by kernel_rfl) (by simp) ?_
        refine AllReadyH.cons rfl (fun K hK => ?_) AllReadyH.nil
        go_simp
        refine (HR.out _).mono ?_
        rintro e w2 ⟨rfl, hb2⟩; have hz2 := hb2.size; (try simp at hz2)
        (try dsimp only)
        refine hK.out _ _ (by exact hHeld.thru hb2 hHeld.lt) (fun hHeld => ?_)
        clear hK K
        (try simp only [Act.put, List.setIfInBounds_toArray, List.set_cons_zero, List.set_cons_succ])
        refine wpAnyH_take (i := 6) (v := ?_) rfl (by kernel_rfl) (by kernel_rfl) (by kernel_rfl) (fun _ _ _ h => h) (Or.inl ⟨by kernel_rfl, ?_⟩) hHeld ?_
        rotate_left
        · intro w hSw; (try dsimp only at hSw); skip; go_simp; (try with_reducible rfl)
        (try simp only [Act.put, List.setIfInBounds_toArray, List.set_cons_zero, List.set_cons_succ])
        refine wpAnyH_done (by kernel_rfl) ?_ _
        simp only [tailPost, List.drop_succ_cons, List.drop_zero]
        have kc := (mcells_of hHeld).c15
        have hl2 := hHeld.lt
        go_wp2_with fail
        refine (HC.out _).mono ?_
        rintro e w3 ⟨rfl, rfl⟩
        go_wp2
        go_ret2
        exact ⟨rfl, (by repeat (first | exact Below.refl _ _ | assumption | (refine Below.setCell ?_ (by first | omega | (simp; done) | (simp; omega)) _) | (refine Below.alloc ?_ (by first | omega | (simp; done) | (simp; omega)) _) | refine Below.drew ?_ | (refine below_thru ?_ (by assumption) (by first | omega | (simp; done) | (simp; omega))) | refine below_drewN ?_ _))⟩
      · rw [if_neg (by simp [h2])] at hadv
        rw [hadv]
        clear hadv
        have h2' : decide (r < f + g.drive) = false := by simpa using h2
        go_enter Tryz.func153, Tryz.ntmps153
        go_wp2
        go_ret2
        exact ⟨rfl, (by repeat (first | exact Below.refl _ _ | assumption | (refine Below.setCell ?_ (by first | omega | (simp; done) | (simp; omega)) _) | (refine Below.alloc ?_ (by first | omega | (simp; done) | (simp; omega)) _) | refine Below.drew ?_ | (refine below_thru ?_ (by assumption) (by first | omega | (simp; done) | (simp; omega))) | refine below_drewN ?_ _))⟩
end Go.Proofs.YtmhfnnpbnocafaaGreat

namespace Go.Proofs.YtmhfnnpbnocafaaGreat
open Go.RowKit
set_option linter.unusedSimpArgs false
set_option linter.unusedVariables false

abbrev trow (t : Gt) : Array Value := #[.int .i64 t.order, .bool t.power, .int .i64 t.outer, .int .i64 t.inner]
/-- What closing, opening and holding return. -/
def pairV (p : Int × Int) : Value := .tuple #[.int .i64 p.1, .int .i64 p.2]
structure TCells (w : World) (b : Nat) (t : Gt) : Prop where
  c0 : w.cell? ⟨b, 0, none⟩ = some (.int .i64 t.order)
  c1 : w.cell? ⟨b, 1, none⟩ = some (.bool t.power)
  c2 : w.cell? ⟨b, 2, none⟩ = some (.int .i64 t.outer)
  c3 : w.cell? ⟨b, 3, none⟩ = some (.int .i64 t.inner)
theorem tcells_of {w : World} {b : Nat} {t : Gt} {ty : TypeId} (h : Blk w b ty (trow t)) : TCells w b t := ⟨h.cell 0, h.cell 1, h.cell 2, h.cell 3⟩

set_option maxRecDepth 100000 in
set_option maxHeartbeats 4000000 in
theorem close_any (g : Ga) (s : Gs) (t : Gt) (w : World) (ha : g.At w w.heap.size) (hg : g.Ok) (hs : s.Ok g) (ht : t.Ok) :
    Calls Tryz.prog 147 #[mv g s, t.v] w fun e w' => e = .returned (pairV (closeF g s t)) ∧ Below w.heap.size w w' := by
  have Ha := Lib.hid ha
  have HF := Lib.hid (fun W h => forces_any g s t.outer t.inner W h hg hs ht.a0 ht.a1 ht.b0 ht.b1)
  obtain ⟨n0, n1⟩ := net_in hg ha.ol hs.p0 hs.p1 ht.a0 ht.a1 ht.b0 ht.b1
  have p0 := hs.p0
  have p1 := hs.p1
  have t1 := hg.t1
  have HA := Lib.hid (fun W => advance_any g s (netF g s.pos t.outer t.inner) (rubF g s.pos t.outer t.inner) (g.travel - s.pos) t.power W hg hs n0 n1 (by omega) (by omega))
  have hf : closeF g s t = advF g s (netF g s.pos t.outer t.inner) (rubF g s.pos t.outer t.inner) (g.travel - s.pos) t.power := rfl
  generalize netF g s.pos t.outer t.inner = net at *
  generalize rubF g s.pos t.outer t.inner = rub at *
  have w1 : IntKind.i64.wrap (g.travel - s.pos) = g.travel - s.pos := IntWalk.i64_in _ (by omega)
  have Hf := Lib.hid hf
  clear ha hf hg hs ht
  go_enter Tryz.func147, Tryz.ntmps147
  go_wp2_with (with_reducible refine wpl_m ((Blk.new w _ _).alloc _) rfl rfl rfl ?_)
  refine (HF.out _ (Ha.out.grow (by repeat (first | exact Below.refl _ _ | assumption | (refine Below.setCell ?_ (by first | omega | (simp; done) | (simp; omega)) _) | (refine Below.alloc ?_ (by first | omega | (simp; done) | (simp; omega)) _) | refine Below.drew ?_ | (refine below_thru ?_ (by assumption) (by first | omega | (simp; done) | (simp; omega))) | refine below_drewN ?_ _)))).mono ?_
  rintro e w2 ⟨rfl, hb2⟩
  have hz2 := hb2.size
  (try simp at hz2)
  have hM : Blk w2 w.heap.size 97 (mrow g s) := ((Blk.new w _ _).alloc _).thru hb2 (by simp; omega)
  have hT : Blk w2 (w.heap.size + 1) 51 (trow t) := (Blk.new' (w.alloc _) _ _ (by simp)).thru hb2 (by simp)
  have k2 := (mcells_of hM).c2
  have k21 := (mcells_of hM).c21
  have q1 := (tcells_of hT).c1
  have hM := Lib.hid hM
  clear hT
  go_wp2_with (with_reducible refine wpl_m hM.out rfl rfl rfl ?_)
  refine (HA.out _).mono ?_
  rintro e w3 ⟨rfl, hb3⟩
  go_wp2
  go_ret2
  exact ⟨by rw [Hf.out]; rfl, (by repeat (first | exact Below.refl _ _ | assumption | (refine Below.setCell ?_ (by first | omega | (simp; done) | (simp; omega)) _) | (refine Below.alloc ?_ (by first | omega | (simp; done) | (simp; omega)) _) | refine Below.drew ?_ | (refine below_thru ?_ (by assumption) (by first | omega | (simp; done) | (simp; omega))) | refine below_drewN ?_ _))⟩
set_option maxRecDepth 100000 in
set_option maxHeartbeats 4000000 in
theorem open_any (g : Ga) (s : Gs) (t : Gt) (w : World) (ha : g.At w w.heap.size) (hg : g.Ok) (hs : s.Ok g) (ht : t.Ok) :
    Calls Tryz.prog 148 #[mv g s, t.v] w fun e w' => e = .returned (pairV (openF g s t)) ∧ Below w.heap.size w w' := by
  have Ha := Lib.hid ha
  have HF := Lib.hid (fun W h => forces_any g s t.outer t.inner W h hg hs ht.a0 ht.a1 ht.b0 ht.b1)
  obtain ⟨n0, n1⟩ := net_in hg ha.ol hs.p0 hs.p1 ht.a0 ht.a1 ht.b0 ht.b1
  have p0 := hs.p0
  have p1 := hs.p1
  have t1 := hg.t1
  have HA := Lib.hid (fun W => advance_any g s (-netF g s.pos t.outer t.inner) (rubF g s.pos t.outer t.inner) s.pos t.power W hg hs (by omega) (by omega) (by omega) (by omega))
  have hf : openF g s t = (-(advF g s (-netF g s.pos t.outer t.inner) (rubF g s.pos t.outer t.inner) s.pos t.power).1, (advF g s (-netF g s.pos t.outer t.inner) (rubF g s.pos t.outer t.inner) s.pos t.power).2) := rfl
  obtain ⟨v0, v1, _, _, _⟩ := adv_in hg hs (-netF g s.pos t.outer t.inner) (rubF g s.pos t.outer t.inner) p0 t.power
  generalize netF g s.pos t.outer t.inner = net at *
  generalize rubF g s.pos t.outer t.inner = rub at *
  generalize advF g s (-net) rub s.pos t.power = adv at *
  have w1 : IntKind.i64.wrap (-net) = -net := IntWalk.i64_in _ (by omega)
  have Hf := Lib.hid hf
  clear ha hf hg hs ht
  go_enter Tryz.func148, Tryz.ntmps148
  go_wp2_with (with_reducible refine wpl_m ((Blk.new w _ _).alloc _) rfl rfl rfl ?_)
  refine (HF.out _ (Ha.out.grow (by repeat (first | exact Below.refl _ _ | assumption | (refine Below.setCell ?_ (by first | omega | (simp; done) | (simp; omega)) _) | (refine Below.alloc ?_ (by first | omega | (simp; done) | (simp; omega)) _) | refine Below.drew ?_ | (refine below_thru ?_ (by assumption) (by first | omega | (simp; done) | (simp; omega))) | refine below_drewN ?_ _)))).mono ?_
  rintro e w2 ⟨rfl, hb2⟩
  have hz2 := hb2.size
  (try simp at hz2)
  have hM : Blk w2 w.heap.size 97 (mrow g s) := ((Blk.new w _ _).alloc _).thru hb2 (by simp; omega)
  have hT : Blk w2 (w.heap.size + 1) 51 (trow t) := (Blk.new' (w.alloc _) _ _ (by simp)).thru hb2 (by simp)
  have k21 := (mcells_of hM).c21
  have q1 := (tcells_of hT).c1
  have hM := Lib.hid hM
  clear hT
  go_wp2_with (with_reducible refine wpl_m hM.out rfl rfl rfl ?_)
  refine (HA.out _).mono ?_
  rintro e w3 ⟨rfl, hb3⟩
  go_wp2
  go_ret2
  exact ⟨by rw [Hf.out]; rfl, (by repeat (first | exact Below.refl _ _ | assumption | (refine Below.setCell ?_ (by first | omega | (simp; done) | (simp; omega)) _) | (refine Below.alloc ?_ (by first | omega | (simp; done) | (simp; omega)) _) | refine Below.drew ?_ | (refine below_thru ?_ (by assumption) (by first | omega | (simp; done) | (simp; omega))) | refine below_drewN ?_ _))⟩
set_option maxRecDepth 100000 in
set_option maxHeartbeats 4000000 in
theorem hold_any (g : Ga) (s : Gs) (t : Gt) (w : World) (ha : g.At w w.heap.size) (hg : g.Ok) (hs : s.Ok g) (ht : t.Ok) :
    Calls Tryz.prog 149 #[mv g s, t.v] w fun e w' => e = .returned (pairV (holdF g s t)) ∧ Below w.heap.size w w' := by
  have Ha := Lib.hid ha
  have HF := Lib.hid (fun W h => forces_any g s t.outer t.inner W h hg hs ht.a0 ht.a1 ht.b0 ht.b1)
  obtain ⟨n0, n1⟩ := net_in hg ha.ol hs.p0 hs.p1 ht.a0 ht.a1 ht.b0 ht.b1
  have p0 := hs.p0
  have p1 := hs.p1
  have t1 := hg.t1
  obtain ⟨r0, r1⟩ := rub_in hg s.pos ht.a0 ht.a1 ht.b0 ht.b1
  have b0 := hg.brake0
  have b1 := hg.brake1
  have g0 := hg.gravity0
  have g1 := hg.gravity1
  have hf : holdF g s t = if g.brake + rubF g s.pos t.outer t.inner < netF g s.pos t.outer t.inner then (min g.gravity (g.travel - s.pos), 0)
    else if g.brake + rubF g s.pos t.outer t.inner < -netF g s.pos t.outer t.inner then (-min g.gravity s.pos, 0) else (0, 0) := rfl
  generalize netF g s.pos t.outer t.inner = net at *
  generalize rubF g s.pos t.outer t.inner = rub at *
  have w1 : IntKind.i64.wrap (g.travel - s.pos) = g.travel - s.pos := IntWalk.i64_in _ (by omega)
  obtain ⟨m, hm⟩ : ∃ m, min g.gravity (g.travel - s.pos) = m := ⟨_, rfl⟩
  obtain ⟨k, hk⟩ : ∃ k, min g.gravity s.pos = k := ⟨_, rfl⟩
  have m0 : 0 ≤ k := by omega
  have m1 : k ≤ 100 := by omega
  rw [hm, hk] at hf
  have n2 : (if g.travel - s.pos < g.gravity then g.travel - s.pos else g.gravity) = m := by rw [← hm]; split <;> omega
  have n3 : (if s.pos < g.gravity then s.pos else g.gravity) = k := by rw [← hk]; split <;> omega
  clear hm hk
  clear ha hg hs ht
  rcases (show g.brake + rub < net ∨ (¬ g.brake + rub < net ∧ g.brake + rub < -net) ∨ (¬ g.brake + rub < net ∧ ¬ g.brake + rub < -net) by omega) with h1 | ⟨h1, h2⟩ | ⟨h1, h2⟩
  · rw [if_pos h1] at hf
    have Hf := Lib.hid hf
    clear hf
    go_enter Tryz.func149, Tryz.ntmps149
    go_wp2_with (with_reducible refine wpl_m ((Blk.new w _ _).alloc _) rfl rfl rfl ?_)
    refine (HF.out _ (Ha.out.grow (by repeat (first | exact Below.refl _ _ | assumption | (refine Below.setCell ?_ (by first | omega | (simp; done) | (simp; omega)) _) | (refine Below.alloc ?_ (by first | omega | (simp; done) | (simp; omega)) _) | refine Below.drew ?_ | (refine below_thru ?_ (by assumption) (by first | omega | (simp; done) | (simp; omega))) | refine below_drewN ?_ _)))).mono ?_
    rintro e w2 ⟨rfl, hb2⟩
    have hz2 := hb2.size
    (try simp at hz2)
    have hM : Blk w2 w.heap.size 97 (mrow g s) := ((Blk.new w _ _).alloc _).thru hb2 (by simp; omega)
    have hT : Blk w2 (w.heap.size + 1) 51 (trow t) := (Blk.new' (w.alloc _) _ _ (by simp)).thru hb2 (by simp)
    have k12 := (mcells_of hM).c12
    have k14 := (mcells_of hM).c14
    have k2 := (mcells_of hM).c2
    have k21 := (mcells_of hM).c21
    have hM := Lib.hid hM
    clear hT
    go_wp2
    go_ret2
    exact ⟨by rw [Hf.out]; rfl, (by repeat (first | exact Below.refl _ _ | assumption | (refine Below.setCell ?_ (by first | omega | (simp; done) | (simp; omega)) _) | (refine Below.alloc ?_ (by first | omega | (simp; done) | (simp; omega)) _) | refine Below.drew ?_ | (refine below_thru ?_ (by assumption) (by first | omega | (simp; done) | (simp; omega))) | refine below_drewN ?_ _))⟩
  · rw [if_neg h1, if_pos h2] at hf
    have Hf := Lib.hid hf
    clear hf
    go_enter Tryz.func149, Tryz.ntmps149
    go_wp2_with (with_reducible refine wpl_m ((Blk.new w _ _).alloc _) rfl rfl rfl ?_)
    refine (HF.out _ (Ha.out.grow (by repeat (first | exact Below.refl _ _ | assumption | (refine Below.setCell ?_ (by first | omega | (simp; done) | (simp; omega)) _) | (refine Below.alloc ?_ (by first | omega | (simp; done) | (simp; omega)) _) | refine Below.drew ?_ | (refine below_thru ?_ (by assumption) (by first | omega | (simp; done) | (simp; omega))) | refine below_drewN ?_ _)))).mono ?_
    rintro e w2 ⟨rfl, hb2⟩
    have hz2 := hb2.size
    (try simp at hz2)
    have hM : Blk w2 w.heap.size 97 (mrow g s) := ((Blk.new w _ _).alloc _).thru hb2 (by simp; omega)
    have hT : Blk w2 (w.heap.size + 1) 51 (trow t) := (Blk.new' (w.alloc _) _ _ (by simp)).thru hb2 (by simp)
    have k12 := (mcells_of hM).c12
    have k14 := (mcells_of hM).c14
    have k2 := (mcells_of hM).c2
    have k21 := (mcells_of hM).c21
    have hM := Lib.hid hM
    clear hT
    go_wp2
    go_ret2
    exact ⟨by rw [Hf.out]; rfl, (by repeat (first | exact Below.refl _ _ | assumption | (refine Below.setCell ?_ (by first | omega | (simp; done) | (simp; omega)) _) | (refine Below.alloc ?_ (by first | omega | (simp; done) | (simp; omega)) _) | refine Below.drew ?_ | (refine below_thru ?_ (by assumption) (by first | omega | (simp; done) | (simp; omega))) | refine below_drewN ?_ _))⟩
  · rw [if_neg h1, if_neg h2] at hf
    have Hf := Lib.hid hf
    clear hf
    go_enter Tryz.func149, Tryz.ntmps149
    go_wp2_with (with_reducible refine wpl_m ((Blk.new w _ _).alloc _) rfl rfl rfl ?_)
    refine (HF.out _ (Ha.out.grow (by repeat (first | exact Below.refl _ _ | assumption | (refine Below.setCell ?_ (by first | omega | (simp; done) | (simp; omega)) _) | (refine Below.alloc ?_ (by first | omega | (simp; done) | (simp; omega)) _) | refine Below.drew ?_ | (refine below_thru ?_ (by assumption) (by first | omega | (simp; done) | (simp; omega))) | refine below_drewN ?_ _)))).mono ?_
    rintro e w2 ⟨rfl, hb2⟩
    have hz2 := hb2.size
    (try simp at hz2)
    have hM : Blk w2 w.heap.size 97 (mrow g s) := ((Blk.new w _ _).alloc _).thru hb2 (by simp; omega)
    have hT : Blk w2 (w.heap.size + 1) 51 (trow t) := (Blk.new' (w.alloc _) _ _ (by simp)).thru hb2 (by simp)
    have k12 := (mcells_of hM).c12
    have k14 := (mcells_of hM).c14
    have k2 := (mcells_of hM).c2
    have k21 := (mcells_of hM).c21
    have hM := Lib.hid hM
    clear hT
    go_wp2
    go_ret2
    exact ⟨by rw [Hf.out]; rfl, (by repeat (first | exact Below.refl _ _ | assumption | (refine Below.setCell ?_ (by first | omega | (simp; done) | (simp; omega)) _) | (refine Below.alloc ?_ (by first | omega | (simp; done) | (simp; omega)) _) | refine Below.drew ?_ | (refine below_thru ?_ (by assumption) (by first | omega | (simp; done) | (simp; omega))) | refine below_drewN ?_ _))⟩
end Go.Proofs.YtmhfnnpbnocafaaGreat

namespace Go.Proofs.YtmhfnnpbnocafaaGreat
open Go.RowKit
set_option linter.unusedSimpArgs false
set_option linter.unusedVariables false

def putRow (cs : Array Value) : Nat → List Value → Array Value
  | _, [] => cs
  | o, v :: r => putRow (cs.setIfInBounds o v) (o + 1) r
theorem blk_fars {g b : Nat} {t : TypeId} {cs : Array Value} (hne : g ≠ b) : ∀ (vs : List Value) (o : Nat) (w : World), Blk w g t cs → Blk (w.setCells b o vs) g t cs
  | [], _, _, h => h
  | v :: r, o, w, h => by
    rw [World.setCells]
    exact blk_fars hne r (o + 1) _ (h.far (p := ⟨b, o, none⟩) hne v)
theorem blk_sets {g : Nat} {t : TypeId} : ∀ (vs : List Value) (o : Nat) (w : World) (cs : Array Value), Blk w g t cs → Blk (w.setCells g o vs) g t (putRow cs o vs)
  | [], _, _, _, h => h
  | v :: r, o, w, cs, h => by
    rw [World.setCells, putRow]
    exact blk_sets r (o + 1) _ _ (h.set_ o v)
theorem below_sets' {b B : Nat} {a : World} (hB : B ≤ b) : ∀ (vs : List Value) (o : Nat) (w : World), Below B a w → Below B a (w.setCells b o vs)
  | [], _, _, h => h
  | v :: r, o, w, h => by
    rw [World.setCells]
    exact below_sets' hB r (o + 1) _ (Below.setCell h (p := ⟨b, o, none⟩) hB v)
section
variable {w : World} {g b : Nat} {t : TypeId} {cs : Array Value}
theorem Blk.fars (h : Blk w g t cs) (hne : g ≠ b) (vs : List Value) (o : Nat) : Blk (w.setCells b o vs) g t cs := blk_fars hne vs o w h
theorem Blk.sets (h : Blk w g t cs) (vs : List Value) (o : Nat) : Blk (w.setCells g o vs) g t (putRow cs o vs) := blk_sets vs o w cs h
theorem below_sets {B : Nat} {a : World} (h : Below B a w) (hB : B ≤ b) (vs : List Value) (o : Nat) : Below B a (w.setCells b o vs) := below_sets' hB vs o w h
theorem Blk.there (h : Blk w g t cs) {o n : Nat} (hn : o + n ≤ cs.size) : w.there g o n := fun j hj => by
  refine ⟨?_, h.frozen _⟩
  rw [h.cell]
  rw [Array.getElem?_eq_getElem (by omega)]; rfl
theorem Blk.range (h : Blk w g t cs) {o : Nat} {l : List Value} (hl : (cs.toList.drop o).take l.length = l) : w.rangeAt g o l := fun j v hv => by
  rw [h.cell]
  have hj := (List.getElem?_eq_some_iff.1 hv).1
  rw [← hl, List.getElem?_take, if_pos hj, List.getElem?_drop] at hv
  simpa using hv
end
theorem wanted_of {c : Bool} {p q : Prop} (h : c = true) (hp : p) : if c = true then p else q := by rw [if_pos h]; exact hp
theorem wp_region_held {P : Program} {Q : Exit → Act → World → Prop} {S : World → Prop} {l : List Oper} {id : Nat} {a : Act} {w : World} (hm : P.follows .mixedOrders = true) (hS : S w.drew)
    (h : S w.drew → wpAnyH P .any l.toArray Q S l.length (Array.replicate l.length false) a w.drew) : (Code.region id l.toArray true).wp P Q a w := by
  refine wp_region_any hm ?_
  have := wpAny_of_held _ _ _ _ (h hS)
  simpa using this
theorem ld_row {P : Program} {w : World} {g : Nat} {t ty : TypeId} {cs : Array Value} {fs : Array Field} (h : Blk w g t cs) (hu : P.underlying ty = some (.struct fs)) (hi : (P.info? ty).map (·.size) = some cs.size) :
    (loadVar ty ⟨g, 0, none⟩).run P w = .ok (.agg cs) w := run_loadVar_row w g t ty cs (0, 0) (.struct fs) h hu rfl hi
theorem results_rows2 {P : Program} {fn : Func} {p q : Tmp} {ty1 ty2 : TypeId} (h : fn.results = #[.cell p ty1, .cell q ty2]) (tmps : Array Value) {w : World} {g1 g2 : Nat} {t1 t2 : TypeId} {c1 c2 : Array Value} {f1 f2 : Array Field}
    (hp : tmps.getD p undef = .pointer (some ⟨g1, 0, none⟩)) (hq : tmps.getD q undef = .pointer (some ⟨g2, 0, none⟩)) (h1 : Blk w g1 t1 c1) (h2 : Blk w g2 t2 c2)
    (u1 : P.underlying ty1 = some (.struct f1)) (i1 : (P.info? ty1).map (·.size) = some c1.size) (u2 : P.underlying ty2 = some (.struct f2)) (i2 : (P.info? ty2).map (·.size) = some c2.size) :
    (results fn tmps).run P w = .ok (.tuple #[.agg c1, .agg c2]) w := by
  have hp' : tmps[p]?.getD undef = .pointer (some ⟨g1, 0, none⟩) := by simpa using hp
  have hq' : tmps[q]?.getD undef = .pointer (some ⟨g2, 0, none⟩) := by simpa using hq
  simp [results, h, hp', hq', asAddr, ld_row h1 u1 i1, ld_row h2 u2 i2]
end Go.Proofs.YtmhfnnpbnocafaaGreat
