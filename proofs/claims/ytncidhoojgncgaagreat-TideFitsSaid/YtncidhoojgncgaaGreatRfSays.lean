/- What the reference says of a gauge. -/
import Derived.Test.YtncidhoojgncgaaGreatRfCheckG
import Derived.Test.YtncidhoojgncgaaGreatTdSays
namespace Go.Proofs.YtncidhoojgncgaaGreat
open Go.RowKit
set_option linter.unusedSimpArgs false
set_option linter.unusedVariables false

theorem meet_if (s : Sp) (a b : Int) : s.meet ⟨a, b⟩ = ⟨if s.lo < a then a else s.lo, if b < s.hi then b else s.hi⟩ := by
  unfold Sp.meet
  congr 1
  · simp only; omega
  · simp only; omega

set_option maxRecDepth 100000 in
set_option maxHeartbeats 8000000 in
theorem rsays_any (g : Gg) (tick now : Int) (w : World) (hg : g.At w w.heap.size) (hok : g.Ok) (ht0 : 0 ≤ tick) (ht1 : tick ≤ 200000) :
    Calls Tryz.prog 80 #[g.v, .int .i64 tick, .int .i64 now] w fun e w' => e = .returned (.tuple #[(saidF g tick now).1.v, .int .i64 (saidF g tick now).2]) ∧ Below w.heap.size w w' := by
  have hrl := hg.rl
  have hrm := hg.rn
  have hrt := hg.r
  have hdl := hg.dl
  have hdt := hg.d
  have hdm := hg.dn
  unfold maxLen at hrm hdm
  have hr0 := hok.r0
  have hr1 := hok.r1
  have he0 := hok.e0
  have he1 := hok.e1
  have hdlt := fun t => datFrom_lt g.ds t 0 0 (.inr ⟨rfl, rfl, hok.d1⟩)
  have hdd := hok.dd
  have hrr := hok.rr
  have Hg := Lib.hid hg; clear hg
  clear hok
  obtain ⟨F, hF⟩ : ∃ F, sayFold g tick now = F := ⟨_, rfl⟩
  have hfin : saidF g tick now = sayEnd (F g.rs) := by rw [← hF]; rfl
  have hstep := fun (k : Nat) (r : Rd) (h : g.rs[k]? = some r) => sayFold_take (g := g) (tick := tick) (now := now) h
  have hdat : ∀ t, g.datum t = g.ds.getD (datFrom g.ds t 0 0) ⟨0, 0, 0⟩ := fun _ => rfl
  have hnow : ∀ (s : Sp × Bool) (r : Rd), sayStep g tick now s r = if r.tick ≤ now then (s.1.meet ⟨r.value - g.err - (g.datum r.tick).hi - g.rate * max (r.tick - tick) (tick - r.tick), r.value + g.err - (g.datum r.tick).lo + g.rate * max (r.tick - tick) (tick - r.tick)⟩, true) else s := fun _ _ => rfl
  have hz0 : F [] = (⟨-20000, 20000⟩, false) := by rw [← hF]; rfl
  rw [hfin]
  clear hfin
  rw [hF] at hstep
  have HF := Lib.hid hF; clear hF
  have Hrl := Lib.hid hrl; clear hrl
  have Hrt := Lib.hid hrt; clear hrt
  have Hdl := Lib.hid hdl; clear hdl
  have Hdt := Lib.hid hdt; clear hdt
  have Hdd := Lib.hid hdd; clear hdd
  have Hrr := Lib.hid hrr; clear hrr
  have Hdlt := Lib.hid hdlt; clear hdlt
  have Hstep := Lib.hid hstep; clear hstep
  have Hdat := Lib.hid hdat; clear hdat
  have Hnow := Lib.hid hnow; clear hnow
  have Hz0 := Lib.hid hz0; clear hz0
  obtain ⟨nm, er, rt, dA, dn, dc, ds, rA, rn, rc, rs⟩ := g
  simp only at hr0 hr1 hrm hdm he0 he1
  go_enter Tryz.func80, Tryz.ntmps80
  go_wp2
  go_loopw [9, 10] (fun kn i wr => ∃ (k : Nat) (s : Sp) (b : Bool), k ≤ rn ∧ i = .int .i64 k ∧ kn = .bool b ∧ Hid (F (rs.take k) = (s, b)) ∧ Hid (Blk wr w.heap.size 47 #[.string nm, .int .i64 er, .int .i64 rt, .slice dA dn dc, .slice rA rn rc])
      ∧ Hid (Blk wr (w.heap.size + 1) 32 #[.int .i64 0, .int .i64 0]) ∧ Hid (Blk wr (w.heap.size + 1 + 1) 32 #[.int .i64 s.lo, .int .i64 s.hi]) ∧ Below w.heap.size w wr)
    (fun _ i _ => rn - (intOf i).toNat)
  case atStart =>
    exact ⟨0, ⟨-20000, 20000⟩, false, Nat.zero_le _, rfl, rfl, Hz0.out, ((Blk.new w _ _).alloc _).alloc _, (Blk.new' (w.alloc _) _ _ (by simp)).alloc _, Blk.new' ((w.alloc _).alloc _) _ _ (by simp), (by repeat (first | exact Below.refl _ _ | assumption | (refine Below.setCell ?_ (by first | omega | (simp; done) | (simp; omega)) _) | (refine Below.alloc ?_ (by first | omega | (simp; done) | (simp; omega)) _) | refine Below.drew ?_ | (refine below_thru ?_ (by assumption) (by first | omega | (simp; done) | (simp; omega))) | refine below_drewN ?_ _))⟩
  case round =>
    obtain ⟨k, s, bl, hk, rfl, rfl, hfk, hbg, hbe, hbs, hbr⟩ := hrel
    have hzr := hbs.out.lt
    have hlw : w.heap.size < wr.heap.size := by omega
    have hlw2 : w.heap.size + 1 < wr.heap.size := by omega
    obtain ⟨s0, s1, s2, s3⟩ := hbs.out.two
    obtain ⟨e0, e1, e2, e3⟩ := hbe.out.two
    obtain ⟨g0, g1, g2, g3, g4⟩ := hbg.out.five
    by_cases hlt : k < rn
    · obtain ⟨r, hrk⟩ := get_lt Hrl.out hlt
      have Hrk := Lib.hid hrk; clear hrk
      obtain ⟨b, off, hA, hb, c0, c1⟩ := Hrt.out.two (k := k) (x := .int .i64 r.tick) (y := .int .i64 r.value) (by simp [Hrk.out])
      (try simp only at hA)
      subst hA
      have c0 := (hbr.cell (p := ⟨b, off + k * 2, none⟩) hb).trans c0
      have c1 := (hbr.cell (p := ⟨b, off + k * 2 + 1, none⟩) hb).trans c1
      have hmem : r ∈ rs := List.mem_of_getElem? Hrk.out
      obtain ⟨q1, q2, q3, q4⟩ := Hrr.out r hmem
      have Hs := Lib.hid (Hstep.out k r Hrk.out)
      by_cases hnow : r.tick ≤ now
      · obtain ⟨j, hj⟩ : ∃ j, datFrom ds r.tick 0 0 = j := ⟨_, rfl⟩
        have hjl := Hdlt.out r.tick
        (try simp only at hjl)
        rw [hj] at hjl
        have hdl := Hdl.out
        (try simp only at hdl)
        rw [Nat.zero_add, hdl] at hjl
        clear hdl
        obtain ⟨d, hd⟩ := get_lt Hdl.out hjl
        have hdv : Gg.datum ⟨nm, er, rt, dA, dn, dc, ds, some ⟨b, off, none⟩, rn, rc, rs⟩ r.tick = d := by rw [Hdat.out]; (try simp only); rw [hj]; (try simp only at hd); simp [hd]
        obtain ⟨d1, d2, d3, d4, d5⟩ := Hdd.out d (List.mem_of_getElem? hd)
        obtain ⟨bd, od, hA, hbd, x0, x1, x2⟩ := Hdt.out.three (k := j) (x := .int .i64 d.from_) (y := .int .i64 d.lo) (z := .int .i64 d.hi) (by (try simp only at hd); simp [hd])
        (try simp only at hA)
        subst hA
        have x1 := (hbr.cell (p := ⟨bd, od + j * 3 + 1, none⟩) hbd).trans x1
        have x2 := (hbr.cell (p := ⟨bd, od + j * 3 + 2, none⟩) hbd).trans x2
        clear x0 hd
        have HD := Lib.hid (show ∀ (W : World), Gg.At ⟨nm, er, rt, some ⟨bd, od, none⟩, dn, dc, ds, some ⟨b, off, none⟩, rn, rc, rs⟩ W W.heap.size → Calls Tryz.prog 105 #[Gg.v ⟨nm, er, rt, some ⟨bd, od, none⟩, dn, dc, ds, some ⟨b, off, none⟩, rn, rc, rs⟩, .agg #[.int .i64 r.tick, .int .i64 r.value]] W fun e w' => e = .returned (.int .i64 (j : Nat)) ∧ Below W.heap.size W w' from fun W h => by
          have := rdatum_any ⟨nm, er, rt, some ⟨bd, od, none⟩, dn, dc, ds, some ⟨b, off, none⟩, rn, rc, rs⟩ r.tick r.value W h
          (try simp only at this)
          rwa [hj] at this)
        clear hj
        have Hdv := Lib.hid hdv; clear hdv
        have j0 : (0 : Int) ≤ (j : Int) := Int.natCast_nonneg _
        have j1 : (j : Int) < (dn : Int) := by omega
        go_wp2_with fail
        obtain ⟨X, hX, hX0, hX1⟩ : ∃ X : Int, max (r.tick - tick) (tick - r.tick) = X ∧ 0 ≤ X ∧ X ≤ 200000 := ⟨_, rfl, by omega, by omega⟩
        have hm := mul_bounds hr0 hr1 hX0 hX1
        have hfin : F (rs.take (k + 1)) = (s.meet ⟨r.value - er - d.hi - rt * X, r.value + er - d.lo + rt * X⟩, true) := by
          have := Hs.out
          rw [hfk.out, Hnow.out, if_pos hnow, Hdv.out, hX] at this
          exact this
        have Hfin := Lib.hid hfin; clear hfin
        obtain ⟨m1, m2⟩ := hm
        have m3 : rt * X ≤ 1000000000 := by omega
        rcases (show (tick - r.tick < r.tick - tick ∧ r.tick - tick = X) ∨ (¬ tick - r.tick < r.tick - tick ∧ tick - r.tick = X) from by omega) with ⟨hc, hXe⟩ | ⟨hc, hXe⟩
        all_goals
          rw [← hXe] at m1 m2 m3 Hfin
          clear hX hX0 hX1
          clear hXe
          have hlw3 : w.heap.size + 1 + 1 < wr.heap.size := hzr
          refine wp_region_split (S := fun w' => w'.cell? ⟨w.heap.size, 0, none⟩ = some (.string nm) ∧ w'.cell? ⟨w.heap.size, 1, none⟩ = some (.int .i64 er) ∧ w'.cell? ⟨w.heap.size, 2, none⟩ = some (.int .i64 rt) ∧ w'.cell? ⟨w.heap.size, 3, none⟩ = some (.slice (some ⟨bd, od, none⟩) dn dc) ∧ w'.cell? ⟨w.heap.size, 4, none⟩ = some (.slice (some ⟨b, off, none⟩) rn rc) ∧ w'.cell? ⟨wr.heap.size, 0, none⟩ = some (.int .i64 r.tick) ∧ w'.cell? ⟨wr.heap.size, 1, none⟩ = some (.int .i64 r.value) ∧ w'.cell? ⟨bd, od + j * 3 + 1, none⟩ = some (.int .i64 d.lo) ∧ w'.cell? ⟨bd, od + j * 3 + 2, none⟩ = some (.int .i64 d.hi)) 9 (by kernel_rfl) (by kernel_rfl) (by ((go_split_ands; (try dsimp only); (repeat' apply And.intro) <;> first | assumption | (simp; done) | ((repeat (first | (with_reducible refine keep_set ?_ (by first | omega | (simp; done) | (simp; omega))) | (with_reducible refine keep_new ?_ _) | (with_reducible refine keep_drew ?_))); assumption) | (refine (hc9 _ _ (by first | omega | (simp; omega))).trans ?_; assumption) | (refine (hc8 _ _ (by first | omega | (simp; omega))).trans ?_; assumption) | (refine (hc7 _ _ (by first | omega | (simp; omega))).trans ?_; assumption) | (refine (hc6 _ _ (by first | omega | (simp; omega))).trans ?_; assumption) | (refine (hc5 _ _ (by first | omega | (simp; omega))).trans ?_; assumption) | (refine (hc4 _ _ (by first | omega | (simp; omega))).trans ?_; assumption) | (refine (hc3 _ _ (by first | omega | (simp; omega))).trans ?_; assumption) | (refine (hc2 _ _ (by first | omega | (simp; omega))).trans ?_; assumption) | (refine (hc1 _ _ (by first | omega | (simp; omega))).trans ?_; assumption) | (refine (hcr _ _ (by first | omega | (simp; omega))).trans ?_; assumption) | (simp; done) | (simp [go_sem]; done) | go_keep))) (fun hHeld => ?_)
          refine wpAnyH_take (i := 0) (v := ?_) rfl (by kernel_rfl) (by kernel_rfl) (by kernel_rfl) (fun _ _ _ h => h) (Or.inl ⟨by rfl, ?_⟩) hHeld ?_
          rotate_left
          · intro w hSw; (try dsimp only at hSw); go_simp; (try with_reducible rfl)
          (try simp only [Act.put, List.setIfInBounds_toArray, List.set_cons_zero, List.set_cons_succ])
          refine wpAnyH_take (i := 1) (v := ?_) rfl (by kernel_rfl) (by kernel_rfl) (by kernel_rfl) (fun _ _ _ h => h) (Or.inl ⟨by rfl, ?_⟩) hHeld ?_
          rotate_left
          · intro w hSw; (try dsimp only at hSw); go_simp; (try with_reducible rfl)
          (try simp only [Act.put, List.setIfInBounds_toArray, List.set_cons_zero, List.set_cons_succ])
          refine wpAnyH_take (i := 2) (v := ?_) rfl (by kernel_rfl) (by kernel_rfl) (by kernel_rfl) (fun _ _ _ h => h) (Or.inl ⟨by rfl, ?_⟩) hHeld ?_
          rotate_left
          · intro w hSw; (try dsimp only at hSw); go_simp; (try with_reducible rfl)
          (try simp only [Act.put, List.setIfInBounds_toArray, List.set_cons_zero, List.set_cons_succ])
          refine wpAnyH_take (i := 3) (v := ?_) rfl (by kernel_rfl) (by kernel_rfl) (by kernel_rfl) (fun _ _ _ h => h) (Or.inl ⟨by rfl, ?_⟩) hHeld ?_
          rotate_left
          · intro w hSw; (try dsimp only at hSw); go_simp; (try with_reducible rfl)
          (try simp only [Act.put, List.setIfInBounds_toArray, List.set_cons_zero, List.set_cons_succ])
          refine wpAnyH_ready (rs := [4, 8]) (by kernel_rfl) (by simp) ?_
          refine (AllReadyH.cons rfl (fun K hK => ?_) (AllReadyH.cons rfl (fun K hK => ?_) AllReadyH.nil))
          · skip
            go_simp
            refine (HD.out _ (Hg.out.grow (by repeat (first | exact Below.refl _ _ | assumption | (refine Below.setCell ?_ (by first | omega | (simp; done) | (simp; omega)) _) | (refine Below.alloc ?_ (by first | omega | (simp; done) | (simp; omega)) _) | refine Below.drew ?_ | (refine below_thru ?_ (by assumption) (by first | omega | (simp; done) | (simp; omega))) | refine below_drewN ?_ _)))).mono ?_
            rintro e w2 ⟨rfl, hb2⟩; obtain ⟨hc2, hf2⟩ := bcell hb2; have hz2 := hb2.size; (try simp at hz2)
            (try dsimp only)
            refine hK.out _ _ (by ((go_split_ands; (try dsimp only); (repeat' apply And.intro) <;> first | assumption | (simp; done) | ((repeat (first | (with_reducible refine keep_set ?_ (by first | omega | (simp; done) | (simp; omega))) | (with_reducible refine keep_new ?_ _) | (with_reducible refine keep_drew ?_))); assumption) | (refine (hc9 _ _ (by first | omega | (simp; omega))).trans ?_; assumption) | (refine (hc8 _ _ (by first | omega | (simp; omega))).trans ?_; assumption) | (refine (hc7 _ _ (by first | omega | (simp; omega))).trans ?_; assumption) | (refine (hc6 _ _ (by first | omega | (simp; omega))).trans ?_; assumption) | (refine (hc5 _ _ (by first | omega | (simp; omega))).trans ?_; assumption) | (refine (hc4 _ _ (by first | omega | (simp; omega))).trans ?_; assumption) | (refine (hc3 _ _ (by first | omega | (simp; omega))).trans ?_; assumption) | (refine (hc2 _ _ (by first | omega | (simp; omega))).trans ?_; assumption) | (refine (hc1 _ _ (by first | omega | (simp; omega))).trans ?_; assumption) | (refine (hcr _ _ (by first | omega | (simp; omega))).trans ?_; assumption) | (simp; done) | (simp [go_sem]; done) | go_keep))) (fun hHeld => ?_)
            clear hK K
            (try simp only [Act.put, List.setIfInBounds_toArray, List.set_cons_zero, List.set_cons_succ])
            have hl2 : w.heap.size + 1 + 1 < w2.heap.size := (by omega)
            refine wpAnyH_take (i := 5) (v := ?_) rfl (by kernel_rfl) (by kernel_rfl) (by kernel_rfl) (fun _ _ _ h => h) (Or.inl ⟨by rfl, ?_⟩) hHeld ?_
            rotate_left
            · intro w hSw; (try dsimp only at hSw); go_simp; (try with_reducible rfl)
            (try simp only [Act.put, List.setIfInBounds_toArray, List.set_cons_zero, List.set_cons_succ])
            refine wpAnyH_take (i := 6) (v := ?_) rfl (by kernel_rfl) (by kernel_rfl) (by kernel_rfl) (fun _ _ _ h => h) (Or.inl ⟨by rfl, ?_⟩) hHeld ?_
            rotate_left
            · intro w hSw; (try dsimp only at hSw); go_simp; (try with_reducible rfl)
            (try simp only [Act.put, List.setIfInBounds_toArray, List.set_cons_zero, List.set_cons_succ])
            refine wpAnyH_take (i := 7) (v := ?_) rfl (by kernel_rfl) (by kernel_rfl) (by kernel_rfl) (fun _ _ _ h => h) (Or.inl ⟨by rfl, ?_⟩) hHeld ?_
            rotate_left
            · intro w hSw; (try dsimp only at hSw); go_simp; (try with_reducible rfl)
            (try simp only [Act.put, List.setIfInBounds_toArray, List.set_cons_zero, List.set_cons_succ])
            refine wpAnyH_ready (rs := [8]) (by kernel_rfl) (by simp) ?_
            refine (AllReadyH.cons rfl (fun K hK => ?_) AllReadyH.nil)
            go_simp
            (try dsimp only)
            refine hK.out _ _ (by ((go_split_ands; (try dsimp only); (repeat' apply And.intro) <;> first | assumption | (simp; done) | ((repeat (first | (with_reducible refine keep_set ?_ (by first | omega | (simp; done) | (simp; omega))) | (with_reducible refine keep_new ?_ _) | (with_reducible refine keep_drew ?_))); assumption) | (refine (hc9 _ _ (by first | omega | (simp; omega))).trans ?_; assumption) | (refine (hc8 _ _ (by first | omega | (simp; omega))).trans ?_; assumption) | (refine (hc7 _ _ (by first | omega | (simp; omega))).trans ?_; assumption) | (refine (hc6 _ _ (by first | omega | (simp; omega))).trans ?_; assumption) | (refine (hc5 _ _ (by first | omega | (simp; omega))).trans ?_; assumption) | (refine (hc4 _ _ (by first | omega | (simp; omega))).trans ?_; assumption) | (refine (hc3 _ _ (by first | omega | (simp; omega))).trans ?_; assumption) | (refine (hc2 _ _ (by first | omega | (simp; omega))).trans ?_; assumption) | (refine (hc1 _ _ (by first | omega | (simp; omega))).trans ?_; assumption) | (refine (hcr _ _ (by first | omega | (simp; omega))).trans ?_; assumption) | (simp; done) | (simp [go_sem]; done) | go_keep))) (fun hHeld => ?_)
            clear hK K
            (try simp only [Act.put, List.setIfInBounds_toArray, List.set_cons_zero, List.set_cons_succ])
            refine wpAnyH_done (by kernel_rfl) ?_ _
            simp only [tailPost, List.drop_succ_cons, List.drop_zero]
            have hla : w.heap.size < w2.heap.size := by omega
            have hlb : w.heap.size + 1 < w2.heap.size := by omega
            have hlc : wr.heap.size < w2.heap.size := by omega
            go_wp2
            go_roundw
            case rel =>
              refine ⟨k + 1, ⟨_, _⟩, true, by omega, by go_num, rfl, by rw [Hfin.out, meet_if]; rfl, ?_, ?_, ?_, ?_⟩
              · exact ((((hbg.out.alloc _).drew.thru hb2 (by first | (simp; done) | (simp; omega))).far (by first | (simp; done) | (simp; omega)) _).far (by first | (simp; done) | (simp; omega)) _).alloc _
              · exact ((((hbe.out.alloc _).drew.thru hb2 (by first | (simp; done) | (simp; omega))).far (by first | (simp; done) | (simp; omega)) _).far (by first | (simp; done) | (simp; omega)) _).alloc _
              · exact ((((hbs.out.alloc _).drew.thru hb2 (by first | (simp; done) | (simp; omega))).set_ 0 _).set_ 1 _).alloc _
              · exact (by repeat (first | exact Below.refl _ _ | assumption | (refine Below.setCell ?_ (by first | omega | (simp; done) | (simp; omega)) _) | (refine Below.alloc ?_ (by first | omega | (simp; done) | (simp; omega)) _) | refine Below.drew ?_ | (refine below_thru ?_ (by assumption) (by first | omega | (simp; done) | (simp; omega))) | refine below_drewN ?_ _))
            case measure => simp [intOf]; omega
          · skip
            go_simp
            (try dsimp only)
            refine hK.out _ _ (by ((go_split_ands; (try dsimp only); (repeat' apply And.intro) <;> first | assumption | (simp; done) | ((repeat (first | (with_reducible refine keep_set ?_ (by first | omega | (simp; done) | (simp; omega))) | (with_reducible refine keep_new ?_ _) | (with_reducible refine keep_drew ?_))); assumption) | (refine (hc9 _ _ (by first | omega | (simp; omega))).trans ?_; assumption) | (refine (hc8 _ _ (by first | omega | (simp; omega))).trans ?_; assumption) | (refine (hc7 _ _ (by first | omega | (simp; omega))).trans ?_; assumption) | (refine (hc6 _ _ (by first | omega | (simp; omega))).trans ?_; assumption) | (refine (hc5 _ _ (by first | omega | (simp; omega))).trans ?_; assumption) | (refine (hc4 _ _ (by first | omega | (simp; omega))).trans ?_; assumption) | (refine (hc3 _ _ (by first | omega | (simp; omega))).trans ?_; assumption) | (refine (hc2 _ _ (by first | omega | (simp; omega))).trans ?_; assumption) | (refine (hc1 _ _ (by first | omega | (simp; omega))).trans ?_; assumption) | (refine (hcr _ _ (by first | omega | (simp; omega))).trans ?_; assumption) | (simp; done) | (simp [go_sem]; done) | go_keep))) (fun hHeld => ?_)
            clear hK K
            (try simp only [Act.put, List.setIfInBounds_toArray, List.set_cons_zero, List.set_cons_succ])
            refine wpAnyH_ready (rs := [4]) (by kernel_rfl) (by simp) ?_
            refine (AllReadyH.cons rfl (fun K hK => ?_) AllReadyH.nil)
            go_simp
            refine (HD.out _ (Hg.out.grow (by repeat (first | exact Below.refl _ _ | assumption | (refine Below.setCell ?_ (by first | omega | (simp; done) | (simp; omega)) _) | (refine Below.alloc ?_ (by first | omega | (simp; done) | (simp; omega)) _) | refine Below.drew ?_ | (refine below_thru ?_ (by assumption) (by first | omega | (simp; done) | (simp; omega))) | refine below_drewN ?_ _)))).mono ?_
            rintro e w2 ⟨rfl, hb2⟩; obtain ⟨hc2, hf2⟩ := bcell hb2; have hz2 := hb2.size; (try simp at hz2)
            (try dsimp only)
            refine hK.out _ _ (by ((go_split_ands; (try dsimp only); (repeat' apply And.intro) <;> first | assumption | (simp; done) | ((repeat (first | (with_reducible refine keep_set ?_ (by first | omega | (simp; done) | (simp; omega))) | (with_reducible refine keep_new ?_ _) | (with_reducible refine keep_drew ?_))); assumption) | (refine (hc9 _ _ (by first | omega | (simp; omega))).trans ?_; assumption) | (refine (hc8 _ _ (by first | omega | (simp; omega))).trans ?_; assumption) | (refine (hc7 _ _ (by first | omega | (simp; omega))).trans ?_; assumption) | (refine (hc6 _ _ (by first | omega | (simp; omega))).trans ?_; assumption) | (refine (hc5 _ _ (by first | omega | (simp; omega))).trans ?_; assumption) | (refine (hc4 _ _ (by first | omega | (simp; omega))).trans ?_; assumption) | (refine (hc3 _ _ (by first | omega | (simp; omega))).trans ?_; assumption) | (refine (hc2 _ _ (by first | omega | (simp; omega))).trans ?_; assumption) | (refine (hc1 _ _ (by first | omega | (simp; omega))).trans ?_; assumption) | (refine (hcr _ _ (by first | omega | (simp; omega))).trans ?_; assumption) | (simp; done) | (simp [go_sem]; done) | go_keep))) (fun hHeld => ?_)
            clear hK K
            (try simp only [Act.put, List.setIfInBounds_toArray, List.set_cons_zero, List.set_cons_succ])
            have hl2 : w.heap.size + 1 + 1 < w2.heap.size := (by omega)
            refine wpAnyH_take (i := 5) (v := ?_) rfl (by kernel_rfl) (by kernel_rfl) (by kernel_rfl) (fun _ _ _ h => h) (Or.inl ⟨by rfl, ?_⟩) hHeld ?_
            rotate_left
            · intro w hSw; (try dsimp only at hSw); go_simp; (try with_reducible rfl)
            (try simp only [Act.put, List.setIfInBounds_toArray, List.set_cons_zero, List.set_cons_succ])
            refine wpAnyH_take (i := 6) (v := ?_) rfl (by kernel_rfl) (by kernel_rfl) (by kernel_rfl) (fun _ _ _ h => h) (Or.inl ⟨by rfl, ?_⟩) hHeld ?_
            rotate_left
            · intro w hSw; (try dsimp only at hSw); go_simp; (try with_reducible rfl)
            (try simp only [Act.put, List.setIfInBounds_toArray, List.set_cons_zero, List.set_cons_succ])
            refine wpAnyH_take (i := 7) (v := ?_) rfl (by kernel_rfl) (by kernel_rfl) (by kernel_rfl) (fun _ _ _ h => h) (Or.inl ⟨by rfl, ?_⟩) hHeld ?_
            rotate_left
            · intro w hSw; (try dsimp only at hSw); go_simp; (try with_reducible rfl)
            (try simp only [Act.put, List.setIfInBounds_toArray, List.set_cons_zero, List.set_cons_succ])
            refine wpAnyH_done (by kernel_rfl) ?_ _
            simp only [tailPost, List.drop_succ_cons, List.drop_zero]
            have hla : w.heap.size < w2.heap.size := by omega
            have hlb : w.heap.size + 1 < w2.heap.size := by omega
            have hlc : wr.heap.size < w2.heap.size := by omega
            have hld : wr.heap.size + 1 < w2.heap.size := by omega
            go_wp2
            go_roundw
            case rel =>
              refine ⟨k + 1, ⟨_, _⟩, true, by omega, by go_num, rfl, by rw [Hfin.out, meet_if]; rfl, ?_, ?_, ?_, ?_⟩
              · exact ((((((hbg.out.alloc _).drew.alloc _).thru hb2 (by first | (simp; done) | (simp; omega))).far (by first | (simp; done) | (simp; omega)) _).far (by first | (simp; done) | (simp; omega)) _).far (by first | (simp; done) | (simp; omega)) _).far (by first | (simp; done) | (simp; omega)) _
              · exact ((((((hbe.out.alloc _).drew.alloc _).thru hb2 (by first | (simp; done) | (simp; omega))).far (by first | (simp; done) | (simp; omega)) _).far (by first | (simp; done) | (simp; omega)) _).far (by first | (simp; done) | (simp; omega)) _).far (by first | (simp; done) | (simp; omega)) _
              · exact ((((((hbs.out.alloc _).drew.alloc _).thru hb2 (by first | (simp; done) | (simp; omega))).far (by first | (simp; done) | (simp; omega)) _).far (by first | (simp; done) | (simp; omega)) _).set_ 0 _).set_ 1 _
              · exact (by repeat (first | exact Below.refl _ _ | assumption | (refine Below.setCell ?_ (by first | omega | (simp; done) | (simp; omega)) _) | (refine Below.alloc ?_ (by first | omega | (simp; done) | (simp; omega)) _) | refine Below.drew ?_ | (refine below_thru ?_ (by assumption) (by first | omega | (simp; done) | (simp; omega))) | refine below_drewN ?_ _))
            case measure => simp [intOf]; omega
      · go_wp2
        go_roundw
        case rel => exact ⟨k + 1, s, bl, by omega, by go_num, rfl, by rw [Hs.out, hfk.out, Hnow.out, if_neg hnow]; rfl, hbg.out.alloc _, hbe.out.alloc _, hbs.out.alloc _, (by repeat (first | exact Below.refl _ _ | assumption | (refine Below.setCell ?_ (by first | omega | (simp; done) | (simp; omega)) _) | (refine Below.alloc ?_ (by first | omega | (simp; done) | (simp; omega)) _) | refine Below.drew ?_ | (refine below_thru ?_ (by assumption) (by first | omega | (simp; done) | (simp; omega))) | refine below_drewN ?_ _))⟩
        case measure => simp [intOf]; omega
    · obtain rfl : k = rn := by omega
      have hz : rs.take k = rs := by have := Hrl.out; (try simp only at this); rw [← this]; exact List.take_length
      cases bl
      · have hfin : sayEnd (F rs) = (⟨0, 0⟩, 4) := by rw [← hz, hfk.out]; rfl
        have Hfin := Lib.hid hfin; clear hfin
        go_wp2
        exact bodyPost_ret (v := .tuple #[Sp.v ⟨0, 0⟩, .int .i64 4]) (by simp [results, Tryz.results80, go_sem, e0, e1, e2, e3] <;> omega) rfl ⟨by rw [Hfin.out], (by repeat (first | exact Below.refl _ _ | assumption | (refine Below.setCell ?_ (by first | omega | (simp; done) | (simp; omega)) _) | (refine Below.alloc ?_ (by first | omega | (simp; done) | (simp; omega)) _) | refine Below.drew ?_ | (refine below_thru ?_ (by assumption) (by first | omega | (simp; done) | (simp; omega))) | refine below_drewN ?_ _))⟩
      · by_cases hem : s.hi < s.lo
        · have hfin : sayEnd (F rs) = (⟨0, 0⟩, 9) := by rw [← hz, hfk.out]; simp [sayEnd, Sp.emptyB, hem]
          have Hfin := Lib.hid hfin; clear hfin
          go_wp2
          exact bodyPost_ret (v := .tuple #[Sp.v ⟨0, 0⟩, .int .i64 9]) (by simp [results, Tryz.results80, go_sem, e0, e1, e2, e3] <;> omega) rfl ⟨by rw [Hfin.out], (by repeat (first | exact Below.refl _ _ | assumption | (refine Below.setCell ?_ (by first | omega | (simp; done) | (simp; omega)) _) | (refine Below.alloc ?_ (by first | omega | (simp; done) | (simp; omega)) _) | refine Below.drew ?_ | (refine below_thru ?_ (by assumption) (by first | omega | (simp; done) | (simp; omega))) | refine below_drewN ?_ _))⟩
        · have hfin : sayEnd (F rs) = (s, 0) := by rw [← hz, hfk.out]; simp [sayEnd, Sp.emptyB, hem]
          have Hfin := Lib.hid hfin; clear hfin
          go_wp2
          exact bodyPost_ret (v := .tuple #[Sp.v s, .int .i64 0]) (by simp [results, Tryz.results80, go_sem, e0, e1, e2, e3] <;> omega) rfl ⟨by rw [Hfin.out], (by repeat (first | exact Below.refl _ _ | assumption | (refine Below.setCell ?_ (by first | omega | (simp; done) | (simp; omega)) _) | (refine Below.alloc ?_ (by first | omega | (simp; done) | (simp; omega)) _) | refine Below.drew ?_ | (refine below_thru ?_ (by assumption) (by first | omega | (simp; done) | (simp; omega))) | refine below_drewN ?_ _))⟩
end Go.Proofs.YtncidhoojgncgaaGreat
