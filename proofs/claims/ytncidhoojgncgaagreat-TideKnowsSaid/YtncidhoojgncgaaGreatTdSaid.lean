/- What a gauge says, of all its readings. -/
import Derived.Test.YtncidhoojgncgaaGreatTdSay
import Derived.Test.YtncidhoojgncgaaGreatTdReg
namespace Go.Proofs.YtncidhoojgncgaaGreat
open Go.RowKit
set_option linter.unusedSimpArgs false
set_option linter.unusedVariables false

def Gg.more (g : Gg) (tick : Int) (r : Rd) : Int := g.rate * max (r.tick - tick) (tick - r.tick)
def sayStep (g : Gg) (tick now : Int) (st : Sp × Bool) (r : Rd) : Sp × Bool :=
  if r.tick ≤ now then (st.1.meet ⟨(saidByS g r).lo - g.more tick r, (saidByS g r).hi + g.more tick r⟩, true) else st
def sayFold (g : Gg) (tick now : Int) (l : List Rd) : Sp × Bool := l.foldl (sayStep g tick now) (⟨-20000, 20000⟩, false)
def sayEnd (st : Sp × Bool) : Sp × Int := if st.2 = false then (⟨0, 0⟩, 4) else if st.1.emptyB = true then (⟨0, 0⟩, 9) else (st.1, 0)
def saidF (g : Gg) (tick now : Int) : Sp × Int := sayEnd (sayFold g tick now g.rs)

theorem sayFold_take {g : Gg} {tick now : Int} {l : List Rd} {k : Nat} {r : Rd} (h : l[k]? = some r) : sayFold g tick now (l.take (k + 1)) = sayStep g tick now (sayFold g tick now (l.take k)) r := by
  have h' := List.getElem?_eq_some_iff.1 h
  unfold sayFold
  rw [List.take_succ_eq_append_getElem h'.1, List.foldl_append, h'.2]; rfl

theorem mul_bounds {a b A B : Int} (h1 : 0 ≤ a) (h2 : a ≤ A) (h3 : 0 ≤ b) (h4 : b ≤ B) : 0 ≤ a * b ∧ a * b ≤ A * B :=
  ⟨Int.mul_nonneg h1 h3, Int.mul_le_mul h2 h4 h3 (Int.le_trans h1 h2)⟩

theorem saidByS_bounds {g : Gg} {r : Rd} (hok : g.Ok) (hr : r ∈ g.rs) : -40000 ≤ (saidByS g r).lo ∧ (saidByS g r).lo ≤ 35000 ∧ -35000 ≤ (saidByS g r).hi ∧ (saidByS g r).hi ≤ 40000 := by
  have h1 := hok.rr r hr
  have h2 : g.datum r.tick ∈ g.ds := by
    unfold Gg.datum
    have hk := datFrom_lt g.ds r.tick 0 0 (.inr ⟨rfl, rfl, hok.d1⟩)
    obtain ⟨d, hd⟩ : ∃ d, g.ds[datFrom g.ds r.tick 0 0]? = some d := get_lt rfl (by omega)
    rw [List.getD_eq_getElem?_getD, hd]
    exact List.mem_of_getElem? hd
  have h3 := hok.dd _ h2
  have := hok.e0
  have := hok.e1
  simp only [saidByS]
  omega

set_option maxRecDepth 100000 in
set_option maxHeartbeats 4000000 in
theorem said_any (g : Gg) (tick now : Int) (w : World) (hg : g.At w w.heap.size) (hok : g.Ok) (ht0 : 0 ≤ tick) (ht1 : tick ≤ 200000) :
    Calls Tryz.prog 79 #[g.v, .int .i64 tick, .int .i64 now] w fun e w' => e = .returned (.tuple #[(saidF g tick now).1.v, .int .i64 (saidF g tick now).2]) ∧ Below w.heap.size w w' := by
  obtain ⟨gv, hgv⟩ : ∃ gv, g.v = gv := ⟨_, rfl⟩
  have hSB : ∀ r ∈ g.rs, ∀ W : World, g.At W W.heap.size → Calls Tryz.prog 133 #[gv, .agg #[.int .i64 r.tick, .int .i64 r.value]] W fun e w' => e = .returned (Sp.v ⟨(saidByS g r).lo, (saidByS g r).hi⟩) ∧ Below W.heap.size W w' := fun r hr W h => by
    have hb := hok.rr r hr
    rw [← hgv]
    exact saidBy_any g r W h hok hb.2.2.1 hb.2.2.2
  rw [hgv]
  have hrl := hg.rl
  have hrm := hg.rn
  have hrt := hg.r
  unfold maxLen at hrm
  have hr0 := hok.r0
  have hr1 := hok.r1
  have HSB := Lib.hid hSB; clear hSB
  have Hg := Lib.hid hg; clear hg
  have Hok := Lib.hid hok; clear hok
  obtain ⟨F, hF⟩ : ∃ F, sayFold g tick now = F := ⟨_, rfl⟩
  have hfin : saidF g tick now = sayEnd (F g.rs) := by rw [← hF]; rfl
  rw [hfin]
  clear hfin
  obtain ⟨sb, hsb⟩ : ∃ sb : Rd → Sp, ∀ r, saidByS g r = sb r := ⟨_, fun _ => rfl⟩
  obtain ⟨mo, hmo⟩ : ∃ mo : Rd → Int, ∀ r, g.more tick r = mo r := ⟨_, fun _ => rfl⟩
  have Hgv := Lib.hid hgv; clear hgv
  have HF := Lib.hid hF; clear hF
  have Hrl := Lib.hid hrl; clear hrl
  have Hrt := Lib.hid hrt; clear hrt
  have Hsb := Lib.hid hsb; clear hsb
  have Hmo := Lib.hid hmo; clear hmo
  obtain ⟨nm, er, rt, dA, dn, dc, ds, rA, rn, rc, rs⟩ := g
  simp only at hr0 hr1 hrm
  have hgv : gv = .agg #[.string nm, .int .i64 er, .int .i64 rt, .slice dA dn dc, .slice rA rn rc] := Hgv.out.symm
  subst hgv
  go_enter Tryz.func79, Tryz.ntmps79
  go_wp2_with fail
  refine (allLevels_any _).mono ?_
  rintro e w1 ⟨rfl, hb1⟩
  obtain ⟨hc1, hf1⟩ := bcell hb1; have hz1 := hb1.size; (try simp at hz1)
  have hl1 : w.heap.size + 1 < w1.heap.size := by omega
  have hl0 : w.heap.size < w1.heap.size := by omega
  go_wp2
  go_loopw [9, 16] (fun kn i wr => ∃ (k : Nat) (s : Sp) (b : Bool), k ≤ rn ∧ i = .int .i64 k ∧ kn = .bool b ∧ Hid (F (rs.take k) = (s, b)) ∧ Hid (Blk wr w.heap.size 47 #[.string nm, .int .i64 er, .int .i64 rt, .slice dA dn dc, .slice rA rn rc])
      ∧ Hid (Blk wr (w.heap.size + 1) 107 #[.int .i64 0, .int .i64 0]) ∧ Hid (Blk wr w1.heap.size 107 #[.int .i64 s.lo, .int .i64 s.hi]) ∧ Below w.heap.size w wr)
    (fun _ i _ => rn - (intOf i).toNat)
  case atStart =>
    exact ⟨0, ⟨-20000, 20000⟩, false, Nat.zero_le _, rfl, rfl, by rw [← HF.out]; rfl, (((Blk.new w 47 _).alloc _).thru hb1 (by simp; omega)).alloc _, ((Blk.new' (w.alloc _) 107 _ (by simp)).thru hb1 (by simp)).alloc _, Blk.new _ _ _, (by repeat (first | exact Below.refl _ _ | assumption | (refine Below.setCell ?_ (by first | omega | (simp; done) | (simp; omega)) _) | (refine Below.alloc ?_ (by first | omega | (simp; done) | (simp; omega)) _) | refine Below.drew ?_ | (refine below_thru ?_ (by assumption) (by first | omega | (simp; done) | (simp; omega))) | refine below_drewN ?_ _))⟩
  case round =>
    obtain ⟨k, s, bl, hk, rfl, rfl, hfk, hbg, hbe, hbs, hbr⟩ := hrel
    have hzr := hbs.out.lt
    have hlw : w.heap.size < wr.heap.size := by omega
    have hlw2 : w.heap.size + 1 < wr.heap.size := by omega
    obtain ⟨s0, s1, s2, s3⟩ := hbs.out.two
    obtain ⟨e0, e1, e2, e3⟩ := hbe.out.two
    obtain ⟨g0, g1, g2, g3, g4⟩ := hbg.out.five
    clear hc1 hf1
    by_cases hlt : k < rn
    · obtain ⟨r, hrk⟩ := get_lt Hrl.out hlt
      have Hrk := Lib.hid hrk; clear hrk
      obtain ⟨b, off, hA, hb, c0, c1⟩ := Hrt.out.two (k := k) (x := .int .i64 r.tick) (y := .int .i64 r.value) (by simp [Hrk.out])
      (try simp only at hA)
      subst hA
      have c0 := (hbr.cell (p := ⟨b, off + k * 2, none⟩) hb).trans c0
      have c1 := (hbr.cell (p := ⟨b, off + k * 2 + 1, none⟩) hb).trans c1
      have hmem : r ∈ rs := List.mem_of_getElem? Hrk.out
      have HSBr := Lib.hid (HSB.out r hmem)
      have hrb := Hok.out.rr r hmem
      have hsbb := saidByS_bounds Hok.out hmem
      rw [Hsb.out] at hsbb
      have Hmem := Lib.hid hmem; clear hmem
      obtain ⟨q1, q2, q3, q4⟩ := hrb
      obtain ⟨p1, p2, p3, p4⟩ := hsbb
      have hm := mul_bounds hr0 hr1 (show 0 ≤ max (r.tick - tick) (tick - r.tick) by omega) (show max (r.tick - tick) (tick - r.tick) ≤ 200000 by omega)
      obtain ⟨m1, m2⟩ := hm
      have m3 : rt * max (r.tick - tick) (tick - r.tick) ≤ 1000000000 := by omega
      have hw : IntKind.i64.wrap (rt * max (r.tick - tick) (tick - r.tick)) = rt * max (r.tick - tick) (tick - r.tick) := IntWalk.i64_in _ (by omega)
      by_cases hnow : r.tick ≤ now
      · go_wp2_with fail
        have hzle : w1.heap.size ≤ wr.heap.size := by omega
        have hmo : mo r = rt * max (r.tick - tick) (tick - r.tick) := (Hmo.out r).symm
        have Hmo' := Lib.hid hmo; clear hmo
        have HS := HSBr
        clear HSBr
        rw [Hsb.out] at HS
        have HSBr := Lib.hid HS.out; clear HS; have hw := hw
        refine wp_region_split (S := fun w' => w'.cell? ⟨w.heap.size, 0, none⟩ = some (.string nm) ∧ w'.cell? ⟨w.heap.size, 1, none⟩ = some (.int .i64 er) ∧ w'.cell? ⟨w.heap.size, 2, none⟩ = some (.int .i64 rt) ∧ w'.cell? ⟨w.heap.size, 3, none⟩ = some (.slice dA dn dc) ∧ w'.cell? ⟨w.heap.size, 4, none⟩ = some (.slice (some ⟨b, off, none⟩) rn rc) ∧ w'.cell? ⟨wr.heap.size, 0, none⟩ = some (.int .i64 r.tick) ∧ w'.cell? ⟨wr.heap.size, 1, none⟩ = some (.int .i64 r.value) ∧ w'.cell? ⟨w1.heap.size, 0, none⟩ = some (.int .i64 s.lo) ∧ w'.cell? ⟨w1.heap.size, 1, none⟩ = some (.int .i64 s.hi)) 13 (by kernel_rfl) (by kernel_rfl) (by ((go_split_ands; (try dsimp only); (repeat' apply And.intro) <;> first | assumption | (simp; done) | ((repeat (first | (with_reducible refine keep_set ?_ (by first | omega | (simp; done) | (simp; omega))) | (with_reducible refine keep_new ?_ _) | (with_reducible refine keep_drew ?_))); assumption) | (refine (hc9 _ _ (by first | omega | (simp; omega))).trans ?_; assumption) | (refine (hc8 _ _ (by first | omega | (simp; omega))).trans ?_; assumption) | (refine (hc7 _ _ (by first | omega | (simp; omega))).trans ?_; assumption) | (refine (hc6 _ _ (by first | omega | (simp; omega))).trans ?_; assumption) | (refine (hc5 _ _ (by first | omega | (simp; omega))).trans ?_; assumption) | (refine (hc4 _ _ (by first | omega | (simp; omega))).trans ?_; assumption) | (refine (hc3 _ _ (by first | omega | (simp; omega))).trans ?_; assumption) | (refine (hc2 _ _ (by first | omega | (simp; omega))).trans ?_; assumption) | (refine (hc1 _ _ (by first | omega | (simp; omega))).trans ?_; assumption) | (refine (hcr _ _ (by first | omega | (simp; omega))).trans ?_; assumption) | (simp; done) | (simp [go_sem]; done) | go_keep))) (fun hHeld => ?_)
        refine wpAnyH_take (i := 0) (v := ?_) rfl (by kernel_rfl) (by kernel_rfl) (by kernel_rfl) (fun _ _ _ h => h) (Or.inl ⟨by rfl, ?_⟩) hHeld ?_
        rotate_left
        · intro w hSw; (try dsimp only at hSw); go_simp; (try with_reducible rfl)
        (try simp only [Act.put, List.setIfInBounds_toArray, List.set_cons_zero, List.set_cons_succ])
        refine wpAnyH_take (i := 1) (v := ?_) rfl (by kernel_rfl) (by kernel_rfl) (by kernel_rfl) (fun _ _ _ h => h) (Or.inl ⟨by rfl, ?_⟩) hHeld ?_
        rotate_left
        · intro w hSw; (try dsimp only at hSw); go_simp; (try with_reducible rfl)
        (try simp only [Act.put, List.setIfInBounds_toArray, List.set_cons_zero, List.set_cons_succ])
        refine wpAnyH_take (i := 2) (v := ?_) rfl (by kernel_rfl) (by kernel_rfl) (by kernel_rfl) (fun _ _ _ h => h) (Or.inl ⟨by rfl, ?_⟩) hHeld ?_
        rotate_left
        · intro w hSw; (try dsimp only at hSw); go_simp; (try with_reducible rfl)
        (try simp only [Act.put, List.setIfInBounds_toArray, List.set_cons_zero, List.set_cons_succ])
        refine wpAnyH_take (i := 4) (v := ?_) rfl (by kernel_rfl) (by kernel_rfl) (by kernel_rfl) (fun _ _ _ h => h) (Or.inl ⟨by rfl, ?_⟩) hHeld ?_
        rotate_left
        · intro w hSw; (try dsimp only at hSw); go_simp; (try with_reducible rfl)
        (try simp only [Act.put, List.setIfInBounds_toArray, List.set_cons_zero, List.set_cons_succ])
        refine wpAnyH_take (i := 5) (v := ?_) rfl (by kernel_rfl) (by kernel_rfl) (by kernel_rfl) (fun _ _ _ h => h) (Or.inl ⟨by rfl, ?_⟩) hHeld ?_
        rotate_left
        · intro w hSw; (try dsimp only at hSw); go_simp; (try with_reducible rfl)
        (try simp only [Act.put, List.setIfInBounds_toArray, List.set_cons_zero, List.set_cons_succ])
        refine wpAnyH_take (i := 6) (v := ?_) rfl (by kernel_rfl) (by kernel_rfl) (by kernel_rfl) (fun _ _ _ h => h) (Or.inl ⟨by rfl, ?_⟩) hHeld ?_
        rotate_left
        · intro w hSw; (try dsimp only at hSw); go_simp; (try with_reducible rfl)
        (try simp only [Act.put, List.setIfInBounds_toArray, List.set_cons_zero, List.set_cons_succ])
        refine wpAnyH_take (i := 7) (v := ?_) rfl (by kernel_rfl) (by kernel_rfl) (by kernel_rfl) (fun _ _ _ h => h) (Or.inl ⟨by rfl, ?_⟩) hHeld ?_
        rotate_left
        · intro w hSw; (try dsimp only at hSw); go_simp; (try with_reducible rfl)
        (try simp only [Act.put, List.setIfInBounds_toArray, List.set_cons_zero, List.set_cons_succ])
        refine wpAnyH_take (i := 8) (v := ?_) rfl (by kernel_rfl) (by kernel_rfl) (by kernel_rfl) (fun _ _ _ h => h) (Or.inl ⟨by rfl, ?_⟩) hHeld ?_
        rotate_left
        · intro w hSw; (try dsimp only at hSw); go_simp; (try with_reducible rfl)
        (try simp only [Act.put, List.setIfInBounds_toArray, List.set_cons_zero, List.set_cons_succ])
        refine wpAnyH_ready (rs := [3]) (by kernel_rfl) (by simp) ?_
        refine AllReadyH.cons rfl (fun K hK => ?_) AllReadyH.nil
        go_simp
        refine (HSBr.out _ (Hg.out.grow (by repeat (first | exact Below.refl _ _ | assumption | (refine Below.setCell ?_ (by first | omega | (simp; done) | (simp; omega)) _) | (refine Below.alloc ?_ (by first | omega | (simp; done) | (simp; omega)) _) | refine Below.drew ?_ | (refine below_thru ?_ (by assumption) (by first | omega | (simp; done) | (simp; omega))) | refine below_drewN ?_ _)))).mono ?_
        rintro e w2 ⟨rfl, hb2⟩; obtain ⟨hc2, hf2⟩ := bcell hb2; have hz2 := hb2.size; (try simp at hz2); have hl2 : w1.heap.size < w2.heap.size := by omega
        (try dsimp only)
        refine hK.out _ _ (by ((go_split_ands; (try dsimp only); (repeat' apply And.intro) <;> first | assumption | (simp; done) | ((repeat (first | (with_reducible refine keep_set ?_ (by first | omega | (simp; done) | (simp; omega))) | (with_reducible refine keep_new ?_ _) | (with_reducible refine keep_drew ?_))); assumption) | (refine (hc9 _ _ (by first | omega | (simp; omega))).trans ?_; assumption) | (refine (hc8 _ _ (by first | omega | (simp; omega))).trans ?_; assumption) | (refine (hc7 _ _ (by first | omega | (simp; omega))).trans ?_; assumption) | (refine (hc6 _ _ (by first | omega | (simp; omega))).trans ?_; assumption) | (refine (hc5 _ _ (by first | omega | (simp; omega))).trans ?_; assumption) | (refine (hc4 _ _ (by first | omega | (simp; omega))).trans ?_; assumption) | (refine (hc3 _ _ (by first | omega | (simp; omega))).trans ?_; assumption) | (refine (hc2 _ _ (by first | omega | (simp; omega))).trans ?_; assumption) | (refine (hc1 _ _ (by first | omega | (simp; omega))).trans ?_; assumption) | (refine (hcr _ _ (by first | omega | (simp; omega))).trans ?_; assumption) | (simp; done) | (simp [go_sem]; done) | go_keep))) (fun hHeld => ?_)
        clear hK K
        (try simp only [Act.put, List.setIfInBounds_toArray, List.set_cons_zero, List.set_cons_succ])
        refine wpAnyH_ready (rs := [9]) (by kernel_rfl) (by simp) ?_
        refine AllReadyH.cons rfl (fun K hK => ?_) AllReadyH.nil
        go_simp
        refine (distance_any r.tick tick _ (by omega) (by omega) (by omega) (by omega)).mono ?_
        rintro e w3 ⟨rfl, rfl⟩
        (try dsimp only)
        refine hK.out _ _ (by ((go_split_ands; (try dsimp only); (repeat' apply And.intro) <;> first | assumption | (simp; done) | ((repeat (first | (with_reducible refine keep_set ?_ (by first | omega | (simp; done) | (simp; omega))) | (with_reducible refine keep_new ?_ _) | (with_reducible refine keep_drew ?_))); assumption) | (refine (hc9 _ _ (by first | omega | (simp; omega))).trans ?_; assumption) | (refine (hc8 _ _ (by first | omega | (simp; omega))).trans ?_; assumption) | (refine (hc7 _ _ (by first | omega | (simp; omega))).trans ?_; assumption) | (refine (hc6 _ _ (by first | omega | (simp; omega))).trans ?_; assumption) | (refine (hc5 _ _ (by first | omega | (simp; omega))).trans ?_; assumption) | (refine (hc4 _ _ (by first | omega | (simp; omega))).trans ?_; assumption) | (refine (hc3 _ _ (by first | omega | (simp; omega))).trans ?_; assumption) | (refine (hc2 _ _ (by first | omega | (simp; omega))).trans ?_; assumption) | (refine (hc1 _ _ (by first | omega | (simp; omega))).trans ?_; assumption) | (refine (hcr _ _ (by first | omega | (simp; omega))).trans ?_; assumption) | (simp; done) | (simp [go_sem]; done) | go_keep))) (fun hHeld => ?_)
        clear hK K
        (try simp only [Act.put, List.setIfInBounds_toArray, List.set_cons_zero, List.set_cons_succ])
        refine wpAnyH_take (i := 10) (v := ?_) rfl (by kernel_rfl) (by kernel_rfl) (by kernel_rfl) (fun _ _ _ h => h) (Or.inl ⟨by rfl, ?_⟩) hHeld ?_
        rotate_left
        · intro w hSw; (try dsimp only at hSw); go_simp; (try with_reducible rfl)
        (try simp only [Act.put, List.setIfInBounds_toArray, List.set_cons_zero, List.set_cons_succ])
        refine wpAnyH_ready (rs := [11]) (by kernel_rfl) (by simp) ?_
        refine AllReadyH.cons rfl (fun K hK => ?_) AllReadyH.nil
        go_simp
        refine (wider_any (sb r).lo (sb r).hi (rt * max (r.tick - tick) (tick - r.tick)) _ (by omega) (by omega) (by omega) (by omega) (by omega) (by omega)).mono ?_
        rintro e w4 ⟨rfl, hb4⟩; obtain ⟨hc4, hf4⟩ := bcell hb4; have hz4 := hb4.size; (try simp at hz4); have hl4 : w1.heap.size < w4.heap.size := by omega
        (try dsimp only)
        refine hK.out _ _ (by ((go_split_ands; (try dsimp only); (repeat' apply And.intro) <;> first | assumption | (simp; done) | ((repeat (first | (with_reducible refine keep_set ?_ (by first | omega | (simp; done) | (simp; omega))) | (with_reducible refine keep_new ?_ _) | (with_reducible refine keep_drew ?_))); assumption) | (refine (hc9 _ _ (by first | omega | (simp; omega))).trans ?_; assumption) | (refine (hc8 _ _ (by first | omega | (simp; omega))).trans ?_; assumption) | (refine (hc7 _ _ (by first | omega | (simp; omega))).trans ?_; assumption) | (refine (hc6 _ _ (by first | omega | (simp; omega))).trans ?_; assumption) | (refine (hc5 _ _ (by first | omega | (simp; omega))).trans ?_; assumption) | (refine (hc4 _ _ (by first | omega | (simp; omega))).trans ?_; assumption) | (refine (hc3 _ _ (by first | omega | (simp; omega))).trans ?_; assumption) | (refine (hc2 _ _ (by first | omega | (simp; omega))).trans ?_; assumption) | (refine (hc1 _ _ (by first | omega | (simp; omega))).trans ?_; assumption) | (refine (hcr _ _ (by first | omega | (simp; omega))).trans ?_; assumption) | (simp; done) | (simp [go_sem]; done) | go_keep))) (fun hHeld => ?_)
        clear hK K
        (try simp only [Act.put, List.setIfInBounds_toArray, List.set_cons_zero, List.set_cons_succ])
        refine wpAnyH_ready (rs := [12]) (by kernel_rfl) (by simp) ?_
        refine AllReadyH.cons rfl (fun K hK => ?_) AllReadyH.nil
        go_simp
        refine (meet_any s ⟨(sb r).lo - rt * max (r.tick - tick) (tick - r.tick), (sb r).hi + rt * max (r.tick - tick) (tick - r.tick)⟩ _).mono ?_
        rintro e w5 ⟨rfl, hb5⟩; obtain ⟨hc5, hf5⟩ := bcell hb5; have hz5 := hb5.size; (try simp at hz5); have hl5 : w1.heap.size < w5.heap.size := by omega
        (try dsimp only)
        refine hK.out _ _ (by ((go_split_ands; (try dsimp only); (repeat' apply And.intro) <;> first | assumption | (simp; done) | ((repeat (first | (with_reducible refine keep_set ?_ (by first | omega | (simp; done) | (simp; omega))) | (with_reducible refine keep_new ?_ _) | (with_reducible refine keep_drew ?_))); assumption) | (refine (hc9 _ _ (by first | omega | (simp; omega))).trans ?_; assumption) | (refine (hc8 _ _ (by first | omega | (simp; omega))).trans ?_; assumption) | (refine (hc7 _ _ (by first | omega | (simp; omega))).trans ?_; assumption) | (refine (hc6 _ _ (by first | omega | (simp; omega))).trans ?_; assumption) | (refine (hc5 _ _ (by first | omega | (simp; omega))).trans ?_; assumption) | (refine (hc4 _ _ (by first | omega | (simp; omega))).trans ?_; assumption) | (refine (hc3 _ _ (by first | omega | (simp; omega))).trans ?_; assumption) | (refine (hc2 _ _ (by first | omega | (simp; omega))).trans ?_; assumption) | (refine (hc1 _ _ (by first | omega | (simp; omega))).trans ?_; assumption) | (refine (hcr _ _ (by first | omega | (simp; omega))).trans ?_; assumption) | (simp; done) | (simp [go_sem]; done) | go_keep))) (fun hHeld => ?_)
        clear hK K
        (try simp only [Act.put, List.setIfInBounds_toArray, List.set_cons_zero, List.set_cons_succ])
        refine wpAnyH_done (by kernel_rfl) ?_ _
        simp only [tailPost, List.drop_succ_cons, List.drop_zero]
        go_wp2
        go_roundw
        case rel =>
          refine ⟨k + 1, s.meet ⟨(sb r).lo - rt * max (r.tick - tick) (tick - r.tick), (sb r).hi + rt * max (r.tick - tick) (tick - r.tick)⟩, true, by omega, by go_num, rfl, ?_, ?_, ?_, ?_, ?_⟩
          · rw [← HF.out, sayFold_take Hrk.out, HF.out, hfk.out, sayStep, if_pos hnow, Hsb.out, Hmo.out, Hmo'.out]; rfl
          · exact (((((hbg.out.alloc _).drew.thru hb2 (by simp; omega)).thru hb4 (by omega)).thru hb5 (by omega)).far (by simp; omega) _).far (by simp; omega) _
          · exact (((((hbe.out.alloc _).drew.thru hb2 (by simp; omega)).thru hb4 (by omega)).thru hb5 (by omega)).far (by simp; omega) _).far (by simp; omega) _
          · exact (((((hbs.out.alloc _).drew.thru hb2 (by simp; omega)).thru hb4 (by omega)).thru hb5 (by omega)).set_ 0 _).set_ 1 _
          · exact (by repeat (first | exact Below.refl _ _ | assumption | (refine Below.setCell ?_ (by first | omega | (simp; done) | (simp; omega)) _) | (refine Below.alloc ?_ (by first | omega | (simp; done) | (simp; omega)) _) | refine Below.drew ?_ | (refine below_thru ?_ (by assumption) (by first | omega | (simp; done) | (simp; omega))) | refine below_drewN ?_ _))
        case measure => simp [intOf]; omega
      · go_wp2
        go_roundw
        case rel => exact ⟨k + 1, s, bl, by omega, by go_num, rfl, by rw [← HF.out, sayFold_take Hrk.out, HF.out, hfk.out, sayStep, if_neg hnow]; rfl, hbg.out.alloc _, hbe.out.alloc _, hbs.out.alloc _, (by repeat (first | exact Below.refl _ _ | assumption | (refine Below.setCell ?_ (by first | omega | (simp; done) | (simp; omega)) _) | (refine Below.alloc ?_ (by first | omega | (simp; done) | (simp; omega)) _) | refine Below.drew ?_ | (refine below_thru ?_ (by assumption) (by first | omega | (simp; done) | (simp; omega))) | refine below_drewN ?_ _))⟩
        case measure => simp [intOf]; omega
    · obtain rfl : k = rn := by omega
      have hz : rs.take k = rs := by rw [← Hrl.out]; exact List.take_length
      cases bl
      · have hfin : sayEnd (F rs) = (⟨0, 0⟩, 4) := by rw [← hz, hfk.out]; rfl
        go_wp2
        exact bodyPost_ret (v := .tuple #[Sp.v ⟨0, 0⟩, .int .i64 4]) (by simp [results, Tryz.results79, go_sem, e0, e1, e2, e3] <;> omega) rfl ⟨by rw [hfin], (by repeat (first | exact Below.refl _ _ | assumption | (refine Below.setCell ?_ (by first | omega | (simp; done) | (simp; omega)) _) | (refine Below.alloc ?_ (by first | omega | (simp; done) | (simp; omega)) _) | refine Below.drew ?_ | (refine below_thru ?_ (by assumption) (by first | omega | (simp; done) | (simp; omega))) | refine below_drewN ?_ _))⟩
      · by_cases hem : s.hi < s.lo
        · have hfin : sayEnd (F rs) = (⟨0, 0⟩, 9) := by rw [← hz, hfk.out]; simp [sayEnd, Sp.emptyB, hem]
          have hE : ∀ W : World, Calls Tryz.prog 104 #[.agg #[.int .i64 s.lo, .int .i64 s.hi]] W fun e w' => e = .returned (.bool true) ∧ Below W.heap.size W w' := fun W => by have := empty_any s W; rwa [show s.emptyB = true by simpa [Sp.emptyB] using hem] at this
          have hE := Lib.hid hE
          go_wp2_with fail
          refine (hE.out _).mono ?_
          rintro e w2 ⟨rfl, hb2⟩
          obtain ⟨hc2, hf2⟩ := bcell hb2; have hz2 := hb2.size; (try simp at hz2)
          go_wp2
          exact bodyPost_ret (v := .tuple #[Sp.v ⟨0, 0⟩, .int .i64 9]) (by simp [results, Tryz.results79, go_sem, e0, e1, e2, e3, hc2, hlw2] <;> omega) rfl ⟨by rw [hfin], (by repeat (first | exact Below.refl _ _ | assumption | (refine Below.setCell ?_ (by first | omega | (simp; done) | (simp; omega)) _) | (refine Below.alloc ?_ (by first | omega | (simp; done) | (simp; omega)) _) | refine Below.drew ?_ | (refine below_thru ?_ (by assumption) (by first | omega | (simp; done) | (simp; omega))) | refine below_drewN ?_ _))⟩
        · have hfin : sayEnd (F rs) = (s, 0) := by rw [← hz, hfk.out]; simp [sayEnd, Sp.emptyB, hem]
          have hE : ∀ W : World, Calls Tryz.prog 104 #[.agg #[.int .i64 s.lo, .int .i64 s.hi]] W fun e w' => e = .returned (.bool false) ∧ Below W.heap.size W w' := fun W => by have := empty_any s W; rwa [show s.emptyB = false by simpa [Sp.emptyB] using hem] at this
          have hE := Lib.hid hE
          go_wp2_with fail
          refine (hE.out _).mono ?_
          rintro e w2 ⟨rfl, hb2⟩
          obtain ⟨hc2, hf2⟩ := bcell hb2; have hz2 := hb2.size; (try simp at hz2)
          go_wp2
          exact bodyPost_ret (v := .tuple #[Sp.v s, .int .i64 0]) (by simp [results, Tryz.results79, go_sem, e0, e1, e2, e3, hc2, hlw2] <;> omega) rfl ⟨by rw [hfin], (by repeat (first | exact Below.refl _ _ | assumption | (refine Below.setCell ?_ (by first | omega | (simp; done) | (simp; omega)) _) | (refine Below.alloc ?_ (by first | omega | (simp; done) | (simp; omega)) _) | refine Below.drew ?_ | (refine below_thru ?_ (by assumption) (by first | omega | (simp; done) | (simp; omega))) | refine below_drewN ?_ _))⟩
end Go.Proofs.YtncidhoojgncgaaGreat
