/- The level of the tide at one tick. -/
import Derived.Test.YtncidhoojgncgaaGreatTdRep
namespace Go.Proofs.YtncidhoojgncgaaGreat
open Go.RowKit
set_option linter.unusedSimpArgs false
set_option linter.unusedVariables false

theorem partS_bounds {c : Cn} {w : World} {B : Nat} {k : Nat} {r : Int} (hc : c.At w B) (hok : c.Ok) (hk : k < c.hn) (hr0 : 0 ≤ r) (hr1 : r < c.den) :
    -30000000 ≤ (partS c k r).lo ∧ (partS c k r).lo ≤ 30000000 ∧ -30000000 ≤ (partS c k r).hi ∧ (partS c k r).hi ≤ 30000000 := by
  have hl := hc.hl
  have hjn : (k + 1) % c.hn < c.hn := Nat.mod_lt _ (by omega)
  have hm0 : c.hs.getD k 0 ∈ c.hs := by rw [List.getD_eq_getElem?_getD, List.getElem?_eq_getElem (by omega)]; exact List.getElem_mem _
  have hm1 : c.hs.getD ((k + 1) % c.hn) 0 ∈ c.hs := by rw [List.getD_eq_getElem?_getD, List.getElem?_eq_getElem (by omega)]; exact List.getElem_mem _
  have hb0 := hok.hh _ hm0
  have hb1 := hok.hh _ hm1
  have hd0 := hok.d0
  have hd1 := hok.d1
  have hk0 := hok.k0
  have hk1 := hok.k1
  have p1 := mul_abs (A := 10000) (B := 1000) hb0.1 hb0.2 (show 0 ≤ c.den - r by omega) (by omega) (by omega)
  have p2 := mul_abs (A := 10000) (B := 1000) hb1.1 hb1.2 hr0 (show r ≤ 1000 by omega) (by omega)
  have hs : -20000000 ≤ c.sum k r ∧ c.sum k r ≤ 20000000 := by unfold Cn.sum; omega
  have d1 := tdiv_floor (c.sum k r) c.den (by omega)
  have d2 := tdiv_bound (c.sum k r) c.den 20000000 (by omega) (by omega) hs.1 hs.2
  have d3 := tdiv_floor (-c.sum k r) c.den (by omega)
  have d4 := tdiv_bound (-c.sum k r) c.den 20000000 (by omega) (by omega) (by omega) (by omega)
  have d5 : -20000001 ≤ c.sum k r / c.den ∧ c.sum k r / c.den ≤ 20000001 := by split at d1 <;> omega
  have d6 : -20000001 ≤ -c.sum k r / c.den ∧ -c.sum k r / c.den ≤ 20000001 := by split at d3 <;> omega
  simp only [partS]
  omega

/-- The place of a constituent at a tick. -/
theorem place_facts {c : Cn} (hok : c.Ok) (x : Int) : 0 ≤ x % c.cycle ∧ x % c.cycle < c.cycle ∧ (x % c.cycle) / c.den = (((x % c.cycle) / c.den).toNat : Int) ∧ ((x % c.cycle) / c.den).toNat < c.hn ∧ 0 ≤ (x % c.cycle) % c.den ∧ (x % c.cycle) % c.den < c.den := by
  have hcy := hok.cycle
  have hd0 := hok.d0
  have h1 := emod_bounds x c.cycle (by omega)
  have h2 : 0 ≤ (x % c.cycle) / c.den := Int.ediv_nonneg h1.1 (by omega)
  have h3 : (x % c.cycle) / c.den < (c.hn : Int) := Int.ediv_lt_of_lt_mul (by omega) (by have := h1.2; rw [Int.mul_comm]; exact this)
  have h4 := emod_bounds (x % c.cycle) c.den (by omega)
  exact ⟨h1.1, h1.2, by omega, by omega, h4.1, h4.2⟩

theorem tideFold_bounds {t : Tb} {tick : Int} {w : World} {B : Nat} (ht : t.At w B) (hok : t.Ok) : ∀ k, k ≤ t.cn → -(20000 + 30000000 * (k : Int)) ≤ (tideFold t tick (t.cs.take k)).lo ∧ (tideFold t tick (t.cs.take k)).lo ≤ 20000 + 30000000 * k ∧
    -(20000 + 30000000 * (k : Int)) ≤ (tideFold t tick (t.cs.take k)).hi ∧ (tideFold t tick (t.cs.take k)).hi ≤ 20000 + 30000000 * k := by
  intro k
  induction k with
  | zero =>
    intro _
    have := hok.m0
    have := hok.m1
    simp [tideFold]
    omega
  | succ k ih =>
    intro hk
    have ih := ih (by omega)
    obtain ⟨c, hc⟩ := get_lt ht.cl (show k < t.cn by omega)
    have hm := List.mem_of_getElem? hc
    have pf := place_facts (hok.c c hm) (c.offset + c.step * tick)
    have pb := partS_bounds (ht.each c hm) (hok.c c hm) pf.2.2.2.1 pf.2.2.2.2.1 pf.2.2.2.2.2
    rw [tideFold_take hc]
    simp only [Sp.plus]
    omega

set_option maxRecDepth 100000 in
set_option maxHeartbeats 4000000 in
theorem tides1_any (t : Tb) (tick : Int) (w : World) (ht : t.At w w.heap.size) (hok : t.Ok) (ht0 : 0 ≤ tick) (ht1 : tick ≤ 200000) :
    Calls Tryz.prog 65 #[t.v, .int .i64 tick, .int .i64 1] w (OneSpan (tideFold t tick t.cs) w) := by
  obtain ⟨F, hF⟩ : ∃ F, tideFold t tick = F := ⟨_, rfl⟩
  have hcl := ht.cl
  have hcn := hok.n
  have htc := ht.c
  have hbnd := fun k hk => tideFold_bounds (tick := tick) ht hok k hk
  have hstep := fun k c (h : t.cs[k]? = some c) => tideFold_take (t := t) (tick := tick) h
  have hEach := fun c (h : c ∈ t.cs) => ht.each c h
  have hOk := fun c (h : c ∈ t.cs) => hok.c c h
  have h0 : tideFold t tick (t.cs.take 0) = ⟨t.mean, t.mean⟩ := rfl
  rw [hF] at hbnd hstep h0 ⊢
  have HF := Lib.hid hF; clear hF
  have Hcl := Lib.hid hcl; clear hcl
  have Htc := Lib.hid htc; clear htc
  have Hbnd := Lib.hid hbnd; clear hbnd
  have Hstep := Lib.hid hstep; clear hstep
  have HEach := Lib.hid hEach; clear hEach
  have HOk := Lib.hid hOk; clear hOk
  have H0 := Lib.hid h0; clear h0
  clear ht hok
  obtain ⟨mean, cA, cn, cc, cs⟩ := t
  simp only at *
  go_enter Tryz.func65, Tryz.ntmps65
  go_wp2_with fail
  refine (spanOf_any _ _ _).mono ?_
  rintro e w1 ⟨rfl, hb1⟩
  obtain ⟨hc1, hf1⟩ := bcell hb1; have hz1 := hb1.size; (try simp at hz1)
  have hl0 : w.heap.size < w1.heap.size := by omega
  go_wp2_with fail
  refine (repeat1_any w1.heap.size ⟨mean, mean⟩ _ (Blk.new _ _ _)).mono ?_
  rintro e w2 ⟨g, rfl, hg, hgb, hb2⟩
  simp only [World.size_alloc] at hgb
  have g0 : w2.cell? ⟨w.heap.size, 1, none⟩ = some (.slice cA cn cc) := by
    have hB : Blk w2 w.heap.size 24 #[.int .i64 mean, .slice cA cn cc] := Blk.thru (Blk.alloc (Blk.thru (Blk.new w _ _) hb1 (by simp)) _) hb2 (by simp; omega)
    exact hB.cell 1
  have hbw : Below w.heap.size w w2 := (by repeat (first | exact Below.refl _ _ | assumption | (refine Below.setCell ?_ (by first | omega | (simp; done) | (simp; omega)) _) | (refine Below.alloc ?_ (by first | omega | (simp; done) | (simp; omega)) _) | refine Below.drew ?_ | (refine below_thru ?_ (by assumption) (by first | omega | (simp; done) | (simp; omega))) | refine below_drewN ?_ _))
  have Hg := Lib.hid hg; clear hg
  clear hc1 hf1
  go_wp2
  go_loopw [25] (fun i wr => ∃ k : Nat, k ≤ cn ∧ i = .int .i64 k ∧ Hid (Blk wr g 107 #[.int .i64 (F (cs.take k)).lo, .int .i64 (F (cs.take k)).hi]) ∧ Below w.heap.size w wr)
    (fun i _ => cn - (intOf i).toNat)
  case atStart => exact ⟨0, Nat.zero_le _, rfl, by rw [H0.out]; exact Hg.out, hbw⟩
  case round =>
    obtain ⟨k, hk, rfl, hbg, hbr⟩ := hrel
    clear g0 hb2 hbw hb1
    obtain ⟨wo, rfl⟩ : ∃ wo : World, wo = wr := ⟨_, rfl⟩
    by_cases hlt : k < cn
    · obtain ⟨c, hck⟩ := get_lt Hcl.out hlt
      have Hck := Lib.hid hck; clear hck
      have hmem : c ∈ cs := List.mem_of_getElem? Hck.out
      have hcok := HOk.out c hmem
      have hcat := HEach.out c hmem
      obtain ⟨b, off, hA, hb, c0, c1, c2, c3, c4, c5⟩ := Htc.out.six (k := k) (x0 := .string c.name) (x1 := .slice c.hA c.hn c.hc) (x2 := .int .i64 c.offset) (x3 := .int .i64 c.step) (x4 := .int .i64 c.den) (x5 := .int .i64 c.slack) (by simp [Hck.out])
      (try simp only at hA)
      subst hA
      have c0 := (hbr.cell (p := ⟨b, off + k * 6, none⟩) hb).trans c0
      have c1 := (hbr.cell (p := ⟨b, off + k * 6 + 1, none⟩) hb).trans c1
      have c2 := (hbr.cell (p := ⟨b, off + k * 6 + 2, none⟩) hb).trans c2
      have c3 := (hbr.cell (p := ⟨b, off + k * 6 + 3, none⟩) hb).trans c3
      have c4 := (hbr.cell (p := ⟨b, off + k * 6 + 4, none⟩) hb).trans c4
      have c5 := (hbr.cell (p := ⟨b, off + k * 6 + 5, none⟩) hb).trans c5
      have Hm := Lib.hid hmem; clear hmem
      have hP := fun W => places_any c tick W hcok ht0 ht1
      have pf := place_facts hcok (c.offset + c.step * tick)
      have hstepk := Hstep.out k c Hck.out
      generalize (c.offset + c.step * tick) % c.cycle = p0 at *
      obtain ⟨K, hK⟩ : ∃ K, (p0 / c.den).toNat = K := ⟨_, rfl⟩
      obtain ⟨R, hR⟩ : ∃ R, p0 % c.den = R := ⟨_, rfl⟩
      rw [hK, hR] at pf hstepk
      obtain ⟨pf1, pf2, pf3, pf4, pf5, pf6⟩ := pf
      have hN := fun bp bc W (hw : Walker c p0 bp bc W) => next_any c p0 bp bc W hcok hw pf1 pf2
      have hpb := partS_bounds hcat hcok pf4 pf5 pf6
      have hpa := fun (W : World) (h : Below w.heap.size w W) => partAt_any c K R W (hcat.grow h) hcok pf4 pf5 pf6
      have hfb := Hbnd.out k (by omega)
      have HP := Lib.hid hP; clear hP
      have HN := Lib.hid hN; clear hN
      have HPA := Lib.hid hpa; clear hpa
      have HS := Lib.hid hstepk; clear hstepk
      have Hc := Lib.hid hcok; clear hcok
      have Hat := Lib.hid hcat; clear hcat
      have HK := Lib.hid hK; clear hK
      have HR := Lib.hid hR; clear hR
      have Hp3 := Lib.hid pf3; clear pf3
      clear pf1 pf2
      obtain ⟨lo, hi, hlohi⟩ : ∃ lo hi, F (cs.take k) = ⟨lo, hi⟩ := ⟨_, _, rfl⟩
      rw [hlohi] at hbg hfb HS
      have Hlh := Lib.hid hlohi; clear hlohi
      obtain ⟨plo, phi, hpart⟩ : ∃ plo phi, partS c K R = ⟨plo, phi⟩ := ⟨_, _, rfl⟩
      rw [hpart] at HPA hpb HS
      clear hpart
      simp only at hfb hpb
      obtain ⟨f1, f2, f3, f4⟩ := hfb
      obtain ⟨q1, q2, q3, q4⟩ := hpb
      go_wp2_with fail
      refine (HP.out _).mono ?_
      rintro e w3 ⟨bp, bc, rfl, hwk, hbc, hb3⟩
      have HW := Lib.hid hwk; clear hwk
      have hgl := hbg.out.lt
      have hb3' := hb3.size
      simp only [World.size_alloc] at hbc hb3 hb3'
      have Hgb := Lib.hid (Blk.thru (hbg.out.alloc _) hb3 (by omega))
      have Hcb : Hid (Blk w3 wo.heap.size 70 c.arr) := Blk.thru (Blk.new wo _ _) hb3 (by omega)
      have hbw3 : Below w.heap.size w w3 := (by repeat (first | exact Below.refl _ _ | assumption | (refine Below.setCell ?_ (by first | omega | (simp; done) | (simp; omega)) _) | (refine Below.alloc ?_ (by first | omega | (simp; done) | (simp; omega)) _) | refine Below.drew ?_ | (refine below_thru ?_ (by assumption) (by first | omega | (simp; done) | (simp; omega))) | refine below_drewN ?_ _))
      have hbr0 := hbr.size
      clear c0 c1 c2 c3 c4 c5 hbg
      go_wp2
      go_loopw [34] (fun i wq => ∃ j : Nat, j ≤ 1 ∧ i = .int .i64 j ∧ Hid ((j = 0 ∧ Walker c p0 bp bc wq ∧ Blk wq g 107 #[.int .i64 lo, .int .i64 hi]) ∨ (j = 1 ∧ Blk wq g 107 #[.int .i64 (lo + plo), .int .i64 (hi + phi)])) ∧ Hid (Blk wq wo.heap.size 70 c.arr) ∧ Below w.heap.size w wq)
        (fun i _ => 1 - (intOf i).toNat)
      case atStart => exact ⟨0, by omega, rfl, .inl ⟨rfl, HW.out, Hgb.out⟩, Hcb, hbw3⟩
      case round =>
        obtain ⟨j, hj, rfl, hst, hcb, hbq⟩ := hrel
        rcases hst.out with ⟨rfl, hwk, hbg⟩ | ⟨rfl, hbg⟩
        · have Hwk := Lib.hid hwk; clear hwk
          have Hbg := Lib.hid hbg; clear hbg
          have hcl' := hcb.out.lt
          have hgl' := Hbg.out.lt
          have hbcp := Hwk.out.2.2
          clear hst
          go_wp2_with fail
          refine (HN.out bp bc _ Hwk.out).mono ?_
          rintro e w4 ⟨rfl, hwk4, hb4⟩
          have hb4' := hb4.size
          rw [Hp3.out, HR.out]
          have hG4 : Blk w4 g 107 #[.int .i64 lo, .int .i64 hi] := Hbg.out.thru hb4 (by omega)
          have hC4 : Blk w4 wo.heap.size 70 c.arr := hcb.out.thru hb4 (by omega)
          obtain ⟨a0, a1, a2, a3, a4, a5⟩ := hC4.six
          obtain ⟨y0, y1, y2, y3⟩ := hG4.two
          have HG4 := Lib.hid hG4; clear hG4
          have HC4 := Lib.hid hC4; clear hC4
          have hbw4 : Below w.heap.size w w4 := (by repeat (first | exact Below.refl _ _ | assumption | (refine Below.setCell ?_ (by first | omega | (simp; done) | (simp; omega)) _) | (refine Below.alloc ?_ (by first | omega | (simp; done) | (simp; omega)) _) | refine Below.drew ?_ | (refine below_thru ?_ (by assumption) (by first | omega | (simp; done) | (simp; omega))) | refine below_drewN ?_ _))
          clear hwk4
          have hg4 : g < w4.heap.size := by omega
          have hgl4 := hg4
          go_wp2_with fail
          refine wp_region_plan (S := fun w' => w'.cell? ⟨wo.heap.size, 0, none⟩ = some (.string c.name) ∧ w'.cell? ⟨wo.heap.size, 1, none⟩ = some (.slice c.hA c.hn c.hc) ∧ w'.cell? ⟨wo.heap.size, 2, none⟩ = some (.int .i64 c.offset) ∧ w'.cell? ⟨wo.heap.size, 3, none⟩ = some (.int .i64 c.step) ∧ w'.cell? ⟨wo.heap.size, 4, none⟩ = some (.int .i64 c.den) ∧ w'.cell? ⟨wo.heap.size, 5, none⟩ = some (.int .i64 c.slack) ∧ w'.cell? ⟨g, 0, none⟩ = some (.int .i64 lo) ∧ w'.cell? ⟨g, 1, none⟩ = some (.int .i64 hi)) 11 [(0, true), (1, true), (2, true), (3, true), (4, true), (5, true), (6, true), (7, true), (8, true), (9, false), (10, false)] (by kernel_rfl) (by kernel_rfl) (by kernel_rfl) rfl (by kernel_rfl) (fun _ _ d _ _ h => by cases d <;> exact h) (by ((go_split_ands; (try dsimp only); (repeat' apply And.intro) <;> first | assumption | (simp; done) | ((repeat (first | (with_reducible refine keep_set ?_ (by first | omega | (simp; done) | (simp; omega))) | (with_reducible refine keep_new ?_ _) | (with_reducible refine keep_drew ?_))); assumption) | (refine (hc9 _ _ (by first | omega | (simp; omega))).trans ?_; assumption) | (refine (hc8 _ _ (by first | omega | (simp; omega))).trans ?_; assumption) | (refine (hc7 _ _ (by first | omega | (simp; omega))).trans ?_; assumption) | (refine (hc6 _ _ (by first | omega | (simp; omega))).trans ?_; assumption) | (refine (hc5 _ _ (by first | omega | (simp; omega))).trans ?_; assumption) | (refine (hc4 _ _ (by first | omega | (simp; omega))).trans ?_; assumption) | (refine (hc3 _ _ (by first | omega | (simp; omega))).trans ?_; assumption) | (refine (hc2 _ _ (by first | omega | (simp; omega))).trans ?_; assumption) | (refine (hc1 _ _ (by first | omega | (simp; omega))).trans ?_; assumption) | (refine (hcr _ _ (by first | omega | (simp; omega))).trans ?_; assumption) | (simp; done) | (simp [go_sem]; done) | go_keep))) (fun hHeld => ?_)
          refine wpPlan_take (v := ?_) rfl (Or.inl ⟨by rfl, ?_⟩) ?_
          rotate_left
          · intro w hSw; (try dsimp only at hSw); go_simp; (try with_reducible rfl)
          (try simp only [Act.put, List.setIfInBounds_toArray, List.set_cons_zero, List.set_cons_succ])
          refine wpPlan_take (v := ?_) rfl (Or.inl ⟨by rfl, ?_⟩) ?_
          rotate_left
          · intro w hSw; (try dsimp only at hSw); go_simp; (try with_reducible rfl)
          (try simp only [Act.put, List.setIfInBounds_toArray, List.set_cons_zero, List.set_cons_succ])
          refine wpPlan_take (v := ?_) rfl (Or.inl ⟨by rfl, ?_⟩) ?_
          rotate_left
          · intro w hSw; (try dsimp only at hSw); go_simp; (try with_reducible rfl)
          (try simp only [Act.put, List.setIfInBounds_toArray, List.set_cons_zero, List.set_cons_succ])
          refine wpPlan_take (v := ?_) rfl (Or.inl ⟨by rfl, ?_⟩) ?_
          rotate_left
          · intro w hSw; (try dsimp only at hSw); go_simp; (try with_reducible rfl)
          (try simp only [Act.put, List.setIfInBounds_toArray, List.set_cons_zero, List.set_cons_succ])
          refine wpPlan_take (v := ?_) rfl (Or.inl ⟨by rfl, ?_⟩) ?_
          rotate_left
          · intro w hSw; (try dsimp only at hSw); go_simp; (try with_reducible rfl)
          (try simp only [Act.put, List.setIfInBounds_toArray, List.set_cons_zero, List.set_cons_succ])
          refine wpPlan_take (v := ?_) rfl (Or.inl ⟨by rfl, ?_⟩) ?_
          rotate_left
          · intro w hSw; (try dsimp only at hSw); go_simp; (try with_reducible rfl)
          (try simp only [Act.put, List.setIfInBounds_toArray, List.set_cons_zero, List.set_cons_succ])
          refine wpPlan_take (v := ?_) rfl (Or.inl ⟨by rfl, ?_⟩) ?_
          rotate_left
          · intro w hSw; (try dsimp only at hSw); go_simp; (try with_reducible rfl)
          (try simp only [Act.put, List.setIfInBounds_toArray, List.set_cons_zero, List.set_cons_succ])
          refine wpPlan_take (v := ?_) rfl (Or.inl ⟨by rfl, ?_⟩) ?_
          rotate_left
          · intro w hSw; (try dsimp only at hSw); go_simp; (try with_reducible rfl)
          (try simp only [Act.put, List.setIfInBounds_toArray, List.set_cons_zero, List.set_cons_succ])
          refine wpPlan_take (v := ?_) rfl (Or.inl ⟨by rfl, ?_⟩) ?_
          rotate_left
          · intro w hSw; (try dsimp only at hSw); go_simp; (try with_reducible rfl)
          (try simp only [Act.put, List.setIfInBounds_toArray, List.set_cons_zero, List.set_cons_succ])
          refine wpPlan_step rfl (fun K hK => ?_)
          go_simp
          refine (HPA.out _ (by repeat (first | exact Below.refl _ _ | assumption | (refine Below.setCell ?_ (by first | omega | (simp; done) | (simp; omega)) _) | (refine Below.alloc ?_ (by first | omega | (simp; done) | (simp; omega)) _) | refine Below.drew ?_ | (refine below_thru ?_ (by assumption) (by first | omega | (simp; done) | (simp; omega))) | refine below_drewN ?_ _))).mono ?_
          rintro e w5 ⟨rfl, hb5⟩; obtain ⟨hc5, hf5⟩ := bcell hb5; have hz5 := hb5.size; (try simp at hz5); have hl5 : g < w5.heap.size := (by omega)
          (try dsimp only)
          refine hK.out _ _ (by ((go_split_ands; (try dsimp only); (repeat' apply And.intro) <;> first | assumption | (simp; done) | ((repeat (first | (with_reducible refine keep_set ?_ (by first | omega | (simp; done) | (simp; omega))) | (with_reducible refine keep_new ?_ _) | (with_reducible refine keep_drew ?_))); assumption) | (refine (hc9 _ _ (by first | omega | (simp; omega))).trans ?_; assumption) | (refine (hc8 _ _ (by first | omega | (simp; omega))).trans ?_; assumption) | (refine (hc7 _ _ (by first | omega | (simp; omega))).trans ?_; assumption) | (refine (hc6 _ _ (by first | omega | (simp; omega))).trans ?_; assumption) | (refine (hc5 _ _ (by first | omega | (simp; omega))).trans ?_; assumption) | (refine (hc4 _ _ (by first | omega | (simp; omega))).trans ?_; assumption) | (refine (hc3 _ _ (by first | omega | (simp; omega))).trans ?_; assumption) | (refine (hc2 _ _ (by first | omega | (simp; omega))).trans ?_; assumption) | (refine (hc1 _ _ (by first | omega | (simp; omega))).trans ?_; assumption) | (refine (hcr _ _ (by first | omega | (simp; omega))).trans ?_; assumption) | (simp; done) | (simp [go_sem]; done) | go_keep))) (fun hHeld => ?_)
          clear hK K
          (try simp only [Act.put, List.setIfInBounds_toArray, List.set_cons_zero, List.set_cons_succ])
          refine wpPlan_step rfl (fun K hK => ?_)
          go_simp
          refine (plus_any lo hi plo phi _ (by omega) (by omega) (by omega) (by omega) (by omega) (by omega) (by omega) (by omega)).mono ?_
          rintro e w6 ⟨rfl, hb6⟩; obtain ⟨hc6, hf6⟩ := bcell hb6; have hz6 := hb6.size; (try simp at hz6); have hl6 : g < w6.heap.size := (by omega); have qf0 : w6.frozen? ⟨g, 0, none⟩ = false := (hf6 _ _ hl5).trans ((hf5 _ _ hg4).trans y2); have qf1 : w6.frozen? ⟨g, 1, none⟩ = false := (hf6 _ _ hl5).trans ((hf5 _ _ hg4).trans y3)
          (try dsimp only)
          refine hK.out _ _ (by ((go_split_ands; (try dsimp only); (repeat' apply And.intro) <;> first | assumption | (simp; done) | ((repeat (first | (with_reducible refine keep_set ?_ (by first | omega | (simp; done) | (simp; omega))) | (with_reducible refine keep_new ?_ _) | (with_reducible refine keep_drew ?_))); assumption) | (refine (hc9 _ _ (by first | omega | (simp; omega))).trans ?_; assumption) | (refine (hc8 _ _ (by first | omega | (simp; omega))).trans ?_; assumption) | (refine (hc7 _ _ (by first | omega | (simp; omega))).trans ?_; assumption) | (refine (hc6 _ _ (by first | omega | (simp; omega))).trans ?_; assumption) | (refine (hc5 _ _ (by first | omega | (simp; omega))).trans ?_; assumption) | (refine (hc4 _ _ (by first | omega | (simp; omega))).trans ?_; assumption) | (refine (hc3 _ _ (by first | omega | (simp; omega))).trans ?_; assumption) | (refine (hc2 _ _ (by first | omega | (simp; omega))).trans ?_; assumption) | (refine (hc1 _ _ (by first | omega | (simp; omega))).trans ?_; assumption) | (refine (hcr _ _ (by first | omega | (simp; omega))).trans ?_; assumption) | (simp; done) | (simp [go_sem]; done) | go_keep))) (fun hHeld => ?_)
          clear hK K
          (try simp only [Act.put, List.setIfInBounds_toArray, List.set_cons_zero, List.set_cons_succ])
          simp only [wpPlan, tailPost, List.drop_succ_cons, List.drop_zero]
          clear hf5 hf6 hc5 hc6
          go_wp2
          go_roundw
          case rel =>
            refine ⟨1, by omega, rfl, .inr ⟨rfl, ?_⟩, ?_, ?_⟩
            · exact Blk.set_ (Blk.set_ (Blk.thru (Blk.thru (cs := #[.int .i64 lo, .int .i64 hi]) HG4.out.drew hb5 hgl4) hb6 hl5) 0 _) 1 _
            · exact Blk.far (Blk.far (Blk.thru (Blk.thru HC4.out.drew hb5 (by show wo.heap.size < w4.heap.size; omega)) hb6 (by omega)) (by simp; omega) _) (by simp; omega) _
            · exact (by repeat (first | exact Below.refl _ _ | assumption | (refine Below.setCell ?_ (by first | omega | (simp; done) | (simp; omega)) _) | (refine Below.alloc ?_ (by first | omega | (simp; done) | (simp; omega)) _) | refine Below.drew ?_ | (refine below_thru ?_ (by assumption) (by first | omega | (simp; done) | (simp; omega))) | refine below_drewN ?_ _))
          case measure => simp [intOf]
        · have Hbg := Lib.hid hbg; clear hbg hst
          go_wp2
          go_roundw
          case rel => exact ⟨k + 1, by omega, by go_num, by rw [HS.out]; exact Hbg.out, hbq⟩
          case measure => simp [intOf]; omega
    · obtain rfl : k = cn := by omega
      have hz : cs.take k = cs := by rw [← Hcl.out]; exact List.take_length
      rw [hz] at hbg
      have Hz := Lib.hid hz; clear hz
      go_wp2
      go_ret
      exact ⟨g, rfl, hbg.out, by omega, hbr⟩
end Go.Proofs.YtncidhoojgncgaaGreat
