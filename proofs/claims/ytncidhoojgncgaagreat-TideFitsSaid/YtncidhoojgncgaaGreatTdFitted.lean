/- tide.fitted. -/
import Derived.Test.YtncidhoojgncgaaGreatTdFit
namespace Go.Proofs.YtncidhoojgncgaaGreat
open Go.RowKit
set_option linter.unusedSimpArgs false
set_option linter.unusedVariables false

set_option maxRecDepth 100000 in
set_option maxHeartbeats 4000000 in
theorem fitted_any (g : Gg) (d : Nat) (from_ : Int) (A : Option Addr) (n c : Nat) (l : List Sp) (w : World) (hg : g.At w w.heap.size) (hl : LvAt w w.heap.size A n l) (hok : g.Ok) (hd : d < g.dn)
    (hf0 : 0 ≤ from_) (hf1 : from_ ≤ 200000) (hll : ∀ s ∈ l, -20000 ≤ s.lo ∧ s.lo ≤ s.hi ∧ s.hi ≤ 20000) :
    Calls Tryz.prog 103 #[g.v, .int .i64 d, .int .i64 from_, .slice A n c] w fun e w' => e = .returned (fitFold g d from_ l g.rs).v ∧ Below w.heap.size w w' := by
  obtain ⟨gv, hgv⟩ : ∃ gv, g.v = gv := ⟨_, rfl⟩
  have hrl := hg.rl
  have hrm := hg.rn
  have hrt := hg.r
  have hdl := hg.dl
  have hdt := hg.d
  have hln := hl.len
  have hnm := hl.n
  unfold maxLen at hrm hnm
  obtain ⟨dat, hdat⟩ : ∃ x, g.ds[d]? = some x := get_lt rfl (by omega)
  rw [hgv]
  have Hg := Lib.hid hg; clear hg
  have Hl := Lib.hid hl; clear hl
  have Hok := Lib.hid hok; clear hok
  obtain ⟨F, hF⟩ : ∃ F, fitFold g d from_ l = F := ⟨_, rfl⟩
  have hF0 : F [] = ⟨dat.lo, dat.hi⟩ := by rw [← hF]; simp [fitFold, hdat]
  have hfin : fitFold g d from_ l g.rs = F g.rs := by rw [← hF]
  rw [hfin]
  clear hfin
  have Hgv := Lib.hid hgv; clear hgv
  have HF := Lib.hid hF; clear hF
  have HF0 := Lib.hid hF0; clear hF0
  have Hrl := Lib.hid hrl; clear hrl
  have Hrt := Lib.hid hrt; clear hrt
  have Hdl := Lib.hid hdl; clear hdl
  have Hdt := Lib.hid hdt; clear hdt
  have Hdat := Lib.hid hdat; clear hdat
  have Hll := Lib.hid hll; clear hll
  have Hln := Lib.hid hln; clear hln
  obtain ⟨nm, er, rt, dA, dn, dc, ds, rA, rn, rc, rs⟩ := g
  simp only at hrm hd
  have hgv : gv = .agg #[.string nm, .int .i64 er, .int .i64 rt, .slice dA dn dc, .slice rA rn rc] := Hgv.out.symm
  subst hgv
  obtain ⟨b0, o0, hA0, hb0, y0, y1, y2⟩ := Hdt.out.three (k := d) (x := .int .i64 dat.from_) (y := .int .i64 dat.lo) (z := .int .i64 dat.hi) (by simp [Hdat.out])
  (try simp only at hA0)
  subst hA0
  go_enter Tryz.func103, Tryz.ntmps103
  go_wp2_with fail
  have hl1 : w.heap.size + 1 < w.heap.size + 1 + 1 := by omega
  go_loopw [23] (fun i wr => ∃ (k : Nat) (s : Sp), k ≤ rn ∧ i = .int .i64 k ∧ Hid (F (rs.take k) = s) ∧ Hid (Blk wr w.heap.size 47 #[.string nm, .int .i64 er, .int .i64 rt, .slice (some ⟨b0, o0, none⟩) dn dc, .slice rA rn rc])
      ∧ Hid (Blk wr (w.heap.size + 1) 107 #[.int .i64 0, .int .i64 0]) ∧ Hid (Blk wr (w.heap.size + 1 + 1) 107 #[.int .i64 s.lo, .int .i64 s.hi]) ∧ Below w.heap.size w wr)
    (fun i _ => rn - (intOf i).toNat)
  case atStart => exact ⟨0, ⟨dat.lo, dat.hi⟩, Nat.zero_le _, rfl, HF0.out, ((Blk.new w 47 _).alloc _).alloc _, (Blk.new' (w.alloc _) 107 _ (by simp)).alloc _, Blk.new' ((w.alloc _).alloc _) 107 _ (by simp), (by repeat (first | exact Below.refl _ _ | assumption | (refine Below.setCell ?_ (by first | omega | (simp; done) | (simp; omega)) _) | (refine Below.alloc ?_ (by first | omega | (simp; done) | (simp; omega)) _) | refine Below.drew ?_ | (refine below_thru ?_ (by assumption) (by first | omega | (simp; done) | (simp; omega))) | refine below_drewN ?_ _))⟩
  case round =>
    obtain ⟨k, s, hk, rfl, hfk, hbg, hbe, hbs, hbr⟩ := hrel
    have hzr := hbs.out.lt
    have hlw : w.heap.size < wr.heap.size := by omega
    have hlw2 : w.heap.size + 1 < wr.heap.size := by omega
    obtain ⟨s0, s1, s2, s3⟩ := hbs.out.two
    obtain ⟨e0, e1, e2, e3⟩ := hbe.out.two
    obtain ⟨g0, g1, g2, g3, g4⟩ := hbg.out.five
    by_cases hlt : k < rn
    · obtain ⟨r, hrk⟩ := get_lt Hrl.out hlt
      have Hrk := Lib.hid hrk; clear hrk
      obtain ⟨b, off, hA, hb, c0, c1⟩ := Hrt.out.two (k := k) (x := .int .i64 r.tick) (y := .int .i64 r.value) (by simp [Hrk.out])
      (try simp only at hA)
      subst hA
      have c0 := (hbr.cell (p := ⟨b, off + k * 2, none⟩) hb).trans c0
      have c1 := (hbr.cell (p := ⟨b, off + k * 2 + 1, none⟩) hb).trans c1
      have hmem : r ∈ rs := List.mem_of_getElem? Hrk.out
      have hrb := Hok.out.rr r hmem
      obtain ⟨q1, q2, q3, q4⟩ := hrb
      have he0 := Hok.out.e0
      have he1 := Hok.out.e1
      simp only at he0 he1
      clear hmem
      have HX := Lib.hid (show ∀ W, Calls Tryz.prog 150 #[.agg #[.string nm, .int .i64 er, .int .i64 rt, .slice (some ⟨b0, o0, none⟩) dn dc, .slice (some ⟨b, off, none⟩) rn rc], .agg #[.int .i64 r.tick, .int .i64 r.value]] W fun e w' => e = .returned (Sp.v ⟨r.value - er, r.value + er⟩) ∧ Below W.heap.size W w' from fun W => exact_any ⟨nm, er, rt, some ⟨b0, o0, none⟩, dn, dc, ds, some ⟨b, off, none⟩, rn, rc, rs⟩ r W q3 q4 he0 he1)
      have HD := Lib.hid (fun W h => datumAt_any ⟨nm, er, rt, some ⟨b0, o0, none⟩, dn, dc, ds, some ⟨b, off, none⟩, rn, rc, rs⟩ r.tick W h)
      have hstep := fitFold_take (g := ⟨nm, er, rt, some ⟨b0, o0, none⟩, dn, dc, ds, some ⟨b, off, none⟩, rn, rc, rs⟩) (d := d) (f := from_) (l := l) Hrk.out
      rw [HF.out, hfk.out] at hstep
      unfold fitStep fitB at hstep
      rw [Hln.out] at hstep
      simp only at hstep
      obtain ⟨j, hj⟩ : ∃ j, datFrom ds r.tick 0 0 = j := ⟨_, rfl⟩
      rw [hj] at hstep
      have HD := Lib.hid (show ∀ W, _ → _ from fun W h => by have := HD.out W h; simp only at this; rwa [hj] at this)
      clear hj
      cases hbw : betw (r.tick - from_) 0 (n - 1)
      · rw [hbw] at hstep
        simp only [Bool.false_and, if_neg (Bool.false_ne_true)] at hstep
        have Hstep := Lib.hid hstep; clear hstep
        have HB := Lib.hid (show ∀ W, _ from fun W => by have := between_any (r.tick - from_) 0 (n - 1) W; rwa [hbw] at this)
        clear hbw
        go_wp2_with (go_at_call 57; refine (HB.out _).mono ?_; rintro e w1 ⟨rfl, rfl⟩)
        go_roundw
        case rel => exact ⟨k + 1, s, by omega, by go_num, Hstep.out, hbg.out.alloc _, hbe.out.alloc _, hbs.out.alloc _, (by repeat (first | exact Below.refl _ _ | assumption | (refine Below.setCell ?_ (by first | omega | (simp; done) | (simp; omega)) _) | (refine Below.alloc ?_ (by first | omega | (simp; done) | (simp; omega)) _) | refine Below.drew ?_ | (refine below_thru ?_ (by assumption) (by first | omega | (simp; done) | (simp; omega))) | refine below_drewN ?_ _))⟩
        case measure => simp [intOf]; omega
      · rw [hbw] at hstep
        simp only [Bool.true_and] at hstep
        have hbt : 0 ≤ r.tick - from_ ∧ r.tick - from_ ≤ n - 1 := by simpa [betw] using hbw
        obtain ⟨i1, i2⟩ := hbt
        obtain ⟨m, hm⟩ : ∃ m : Nat, r.tick - from_ = m := ⟨(r.tick - from_).toNat, by omega⟩
        rw [hm] at hbw
        have HB := Lib.hid (show ∀ W, _ from fun W => by have := between_any (m : Int) 0 (n - 1) W; rwa [hbw] at this)
        clear hbw
        obtain ⟨lv, hlv⟩ := get_lt (k := m) Hln.out (by omega)
        obtain ⟨lb, lo_, hlA, hlb, l0, l1⟩ := Hl.out.t.two (k := m) (x := .int .i64 lv.lo) (y := .int .i64 lv.hi) (by simp [hlv])
        subst hlA
        have l0 := (hbr.cell (p := ⟨lb, lo_ + m * 2, none⟩) hlb).trans l0
        have l1 := (hbr.cell (p := ⟨lb, lo_ + m * 2 + 1, none⟩) hlb).trans l1
        obtain ⟨v1, v2, v3⟩ := Hll.out lv (List.mem_of_getElem? hlv)
        have hfs : fitS ⟨nm, er, rt, some ⟨b0, o0, none⟩, dn, dc, ds, some ⟨b, off, none⟩, rn, rc, rs⟩ from_ l r = ⟨r.value - er - lv.hi, r.value + er - lv.lo⟩ := by simp [fitS, hm, hlv]
        rw [hfs] at hstep
        clear hfs hlv
        by_cases hjd : j = d
        · subst hjd
          simp only [beq_self_eq_true, if_true] at hstep
          have Hstep := Lib.hid hstep; clear hstep
          go_wp2_with fail
          refine (HB.out _).mono ?_
          rintro e w1 ⟨rfl, rfl⟩
          go_wp2_with fail
          refine (HD.out _ (Hg.out.grow (by repeat (first | exact Below.refl _ _ | assumption | (refine Below.setCell ?_ (by first | omega | (simp; done) | (simp; omega)) _) | (refine Below.alloc ?_ (by first | omega | (simp; done) | (simp; omega)) _) | refine Below.drew ?_ | (refine below_thru ?_ (by assumption) (by first | omega | (simp; done) | (simp; omega))) | refine below_drewN ?_ _)))).mono ?_
          rintro e w2 ⟨rfl, hb2⟩
          obtain ⟨hc2, hf2⟩ := bcell hb2; have hz2 := hb2.size; (try simp at hz2)
          have hl2 : w.heap.size + 1 + 1 < w2.heap.size := by omega
          go_wp2_with fail
          have hmn : m < n := by omega
          have G2 : Blk w2 w.heap.size 47 #[.string nm, .int .i64 er, .int .i64 rt, .slice (some ⟨b0, o0, none⟩) dn dc, .slice (some ⟨b, off, none⟩) rn rc] := (hbg.out.alloc _).thru hb2 (by simp; omega)
          have E2 : Blk w2 (w.heap.size + 1) 107 #[.int .i64 0, .int .i64 0] := (hbe.out.alloc _).thru hb2 (by simp; omega)
          have S2 : Blk w2 (w.heap.size + 1 + 1) 107 #[.int .i64 s.lo, .int .i64 s.hi] := (hbs.out.alloc _).thru hb2 (by simp; omega)
          have R2 : Blk w2 wr.heap.size 117 #[.int .i64 r.tick, .int .i64 r.value] := (Blk.new wr _ _).thru hb2 (by simp)
          have l0 := (hb2.cell (p := ⟨lb, lo_ + m * 2, none⟩) (by simp; omega)).trans (keep_new l0 _)
          have l1 := (hb2.cell (p := ⟨lb, lo_ + m * 2 + 1, none⟩) (by simp; omega)).trans (keep_new l1 _)
          have hbw2 : Below w.heap.size w w2 := (by repeat (first | exact Below.refl _ _ | assumption | (refine Below.setCell ?_ (by first | omega | (simp; done) | (simp; omega)) _) | (refine Below.alloc ?_ (by first | omega | (simp; done) | (simp; omega)) _) | refine Below.drew ?_ | (refine below_thru ?_ (by assumption) (by first | omega | (simp; done) | (simp; omega))) | refine below_drewN ?_ _))
          have hlr : wr.heap.size < w2.heap.size := by omega
          have hlb2 : lb < w2.heap.size := by omega
          clear c0 c1 g0 g1 g2 g3 g4 s0 s1 s2 s3 e0 e1 e2 e3 hc2 hf2 hbg hbe hbs
          obtain ⟨g0, g1, g2, g3, g4⟩ := G2.five
          obtain ⟨s0, s1, s2, s3⟩ := S2.two
          obtain ⟨r0, r1, r2, r3⟩ := R2.two
          have G2 := Lib.hid G2
          have E2 := Lib.hid E2
          have S2 := Lib.hid S2
          clear R2
          have hla : w.heap.size < w2.heap.size := by omega
          refine wp_region_split (S := fun w' => w'.cell? ⟨w.heap.size, 0, none⟩ = some (.string nm) ∧ w'.cell? ⟨w.heap.size, 1, none⟩ = some (.int .i64 er) ∧ w'.cell? ⟨w.heap.size, 2, none⟩ = some (.int .i64 rt) ∧ w'.cell? ⟨w.heap.size, 3, none⟩ = some (.slice (some ⟨b0, o0, none⟩) dn dc) ∧ w'.cell? ⟨w.heap.size, 4, none⟩ = some (.slice (some ⟨b, off, none⟩) rn rc) ∧ w'.cell? ⟨wr.heap.size, 0, none⟩ = some (.int .i64 r.tick) ∧ w'.cell? ⟨wr.heap.size, 1, none⟩ = some (.int .i64 r.value) ∧ w'.cell? ⟨w.heap.size + 1 + 1, 0, none⟩ = some (.int .i64 s.lo) ∧ w'.cell? ⟨w.heap.size + 1 + 1, 1, none⟩ = some (.int .i64 s.hi) ∧ w'.cell? ⟨lb, lo_ + m * 2, none⟩ = some (.int .i64 lv.lo) ∧ w'.cell? ⟨lb, lo_ + m * 2 + 1, none⟩ = some (.int .i64 lv.hi)) 11 (by kernel_rfl) (by kernel_rfl) (by ((go_split_ands; (try dsimp only); (repeat' apply And.intro) <;> first | assumption | (simp; done) | ((repeat (first | (with_reducible refine keep_set ?_ (by first | omega | (simp; done) | (simp; omega))) | (with_reducible refine keep_new ?_ _) | (with_reducible refine keep_drew ?_))); assumption) | (refine (hc9 _ _ (by first | omega | (simp; omega))).trans ?_; assumption) | (refine (hc8 _ _ (by first | omega | (simp; omega))).trans ?_; assumption) | (refine (hc7 _ _ (by first | omega | (simp; omega))).trans ?_; assumption) | (refine (hc6 _ _ (by first | omega | (simp; omega))).trans ?_; assumption) | (refine (hc5 _ _ (by first | omega | (simp; omega))).trans ?_; assumption) | (refine (hc4 _ _ (by first | omega | (simp; omega))).trans ?_; assumption) | (refine (hc3 _ _ (by first | omega | (simp; omega))).trans ?_; assumption) | (refine (hc2 _ _ (by first | omega | (simp; omega))).trans ?_; assumption) | (refine (hc1 _ _ (by first | omega | (simp; omega))).trans ?_; assumption) | (refine (hcr _ _ (by first | omega | (simp; omega))).trans ?_; assumption) | (simp; done) | (simp [go_sem]; done) | go_keep))) (fun hHeld => ?_)
          refine wpAnyH_take (i := 0) (v := ?_) rfl (by kernel_rfl) (by kernel_rfl) (by kernel_rfl) (fun _ _ _ h => h) (Or.inl ⟨by rfl, ?_⟩) hHeld ?_
          rotate_left
          · intro w hSw; (try dsimp only at hSw); go_simp; (try with_reducible rfl)
          (try simp only [Act.put, List.setIfInBounds_toArray, List.set_cons_zero, List.set_cons_succ])
          refine wpAnyH_take (i := 1) (v := ?_) rfl (by kernel_rfl) (by kernel_rfl) (by kernel_rfl) (fun _ _ _ h => h) (Or.inl ⟨by rfl, ?_⟩) hHeld ?_
          rotate_left
          · intro w hSw; (try dsimp only at hSw); go_simp; (try with_reducible rfl)
          (try simp only [Act.put, List.setIfInBounds_toArray, List.set_cons_zero, List.set_cons_succ])
          refine wpAnyH_take (i := 2) (v := ?_) rfl (by kernel_rfl) (by kernel_rfl) (by kernel_rfl) (fun _ _ _ h => h) (Or.inl ⟨by rfl, ?_⟩) hHeld ?_
          rotate_left
          · intro w hSw; (try dsimp only at hSw); go_simp; (try with_reducible rfl)
          (try simp only [Act.put, List.setIfInBounds_toArray, List.set_cons_zero, List.set_cons_succ])
          refine wpAnyH_take (i := 4) (v := ?_) rfl (by kernel_rfl) (by kernel_rfl) (by kernel_rfl) (fun _ _ _ h => h) (Or.inl ⟨by rfl, ?_⟩) hHeld ?_
          rotate_left
          · intro w hSw; (try dsimp only at hSw); go_simp; (try with_reducible rfl)
          (try simp only [Act.put, List.setIfInBounds_toArray, List.set_cons_zero, List.set_cons_succ])
          refine wpAnyH_take (i := 5) (v := ?_) rfl (by kernel_rfl) (by kernel_rfl) (by kernel_rfl) (fun _ _ _ h => h) (Or.inl ⟨by rfl, ?_⟩) hHeld ?_
          rotate_left
          · intro w hSw; (try dsimp only at hSw); go_simp; (try with_reducible rfl)
          (try simp only [Act.put, List.setIfInBounds_toArray, List.set_cons_zero, List.set_cons_succ])
          refine wpAnyH_take (i := 6) (v := ?_) rfl (by kernel_rfl) (by kernel_rfl) (by kernel_rfl) (fun _ _ _ h => h) (Or.inl ⟨by rfl, ?_⟩) hHeld ?_
          rotate_left
          · intro w hSw; (try dsimp only at hSw); go_simp; (try with_reducible rfl)
          (try simp only [Act.put, List.setIfInBounds_toArray, List.set_cons_zero, List.set_cons_succ])
          refine wpAnyH_take (i := 7) (v := ?_) rfl (by kernel_rfl) (by kernel_rfl) (by kernel_rfl) (fun _ _ _ h => h) (Or.inl ⟨by rfl, ?_⟩) hHeld ?_
          rotate_left
          · intro w hSw; (try dsimp only at hSw); go_simp; (try with_reducible rfl)
          (try simp only [Act.put, List.setIfInBounds_toArray, List.set_cons_zero, List.set_cons_succ])
          refine wpAnyH_take (i := 8) (v := ?_) rfl (by kernel_rfl) (by kernel_rfl) (by kernel_rfl) (fun _ _ _ h => h) (Or.inl ⟨by rfl, ?_⟩) hHeld ?_
          rotate_left
          · intro w hSw; (try dsimp only at hSw); go_simp; (try with_reducible rfl)
          (try simp only [Act.put, List.setIfInBounds_toArray, List.set_cons_zero, List.set_cons_succ])
          refine wpAnyH_ready (rs := [3]) (by kernel_rfl) (by simp) ?_
          refine AllReadyH.cons rfl (fun K hK => ?_) AllReadyH.nil
          go_simp
          refine (HX.out _).mono ?_
          rintro e w3 ⟨rfl, hb3⟩; obtain ⟨hc3, hf3⟩ := bcell hb3; have hz3 := hb3.size; (try simp at hz3); have hl3 : w.heap.size + 1 + 1 < w3.heap.size := (by omega)
          (try dsimp only)
          refine hK.out _ _ (by ((go_split_ands; (try dsimp only); (repeat' apply And.intro) <;> first | assumption | (simp; done) | ((repeat (first | (with_reducible refine keep_set ?_ (by first | omega | (simp; done) | (simp; omega))) | (with_reducible refine keep_new ?_ _) | (with_reducible refine keep_drew ?_))); assumption) | (refine (hc9 _ _ (by first | omega | (simp; omega))).trans ?_; assumption) | (refine (hc8 _ _ (by first | omega | (simp; omega))).trans ?_; assumption) | (refine (hc7 _ _ (by first | omega | (simp; omega))).trans ?_; assumption) | (refine (hc6 _ _ (by first | omega | (simp; omega))).trans ?_; assumption) | (refine (hc5 _ _ (by first | omega | (simp; omega))).trans ?_; assumption) | (refine (hc4 _ _ (by first | omega | (simp; omega))).trans ?_; assumption) | (refine (hc3 _ _ (by first | omega | (simp; omega))).trans ?_; assumption) | (refine (hc2 _ _ (by first | omega | (simp; omega))).trans ?_; assumption) | (refine (hc1 _ _ (by first | omega | (simp; omega))).trans ?_; assumption) | (refine (hcr _ _ (by first | omega | (simp; omega))).trans ?_; assumption) | (simp; done) | (simp [go_sem]; done) | go_keep))) (fun hHeld => ?_)
          clear hK K
          (try simp only [Act.put, List.setIfInBounds_toArray, List.set_cons_zero, List.set_cons_succ])
          refine wpAnyH_ready (rs := [9]) (by kernel_rfl) (by simp) ?_
          refine AllReadyH.cons rfl (fun K hK => ?_) AllReadyH.nil
          go_simp
          refine (less_any (r.value - er) (r.value + er) lv.lo lv.hi _ (by omega) (by omega) (by omega) (by omega) (by omega) (by omega) (by omega) (by omega)).mono ?_
          rintro e w4 ⟨rfl, hb4⟩; obtain ⟨hc4, hf4⟩ := bcell hb4; have hz4 := hb4.size; (try simp at hz4); have hl4 : w.heap.size + 1 + 1 < w4.heap.size := (by omega)
          (try dsimp only)
          refine hK.out _ _ (by ((go_split_ands; (try dsimp only); (repeat' apply And.intro) <;> first | assumption | (simp; done) | ((repeat (first | (with_reducible refine keep_set ?_ (by first | omega | (simp; done) | (simp; omega))) | (with_reducible refine keep_new ?_ _) | (with_reducible refine keep_drew ?_))); assumption) | (refine (hc9 _ _ (by first | omega | (simp; omega))).trans ?_; assumption) | (refine (hc8 _ _ (by first | omega | (simp; omega))).trans ?_; assumption) | (refine (hc7 _ _ (by first | omega | (simp; omega))).trans ?_; assumption) | (refine (hc6 _ _ (by first | omega | (simp; omega))).trans ?_; assumption) | (refine (hc5 _ _ (by first | omega | (simp; omega))).trans ?_; assumption) | (refine (hc4 _ _ (by first | omega | (simp; omega))).trans ?_; assumption) | (refine (hc3 _ _ (by first | omega | (simp; omega))).trans ?_; assumption) | (refine (hc2 _ _ (by first | omega | (simp; omega))).trans ?_; assumption) | (refine (hc1 _ _ (by first | omega | (simp; omega))).trans ?_; assumption) | (refine (hcr _ _ (by first | omega | (simp; omega))).trans ?_; assumption) | (simp; done) | (simp [go_sem]; done) | go_keep))) (fun hHeld => ?_)
          clear hK K
          (try simp only [Act.put, List.setIfInBounds_toArray, List.set_cons_zero, List.set_cons_succ])
          refine wpAnyH_ready (rs := [10]) (by kernel_rfl) (by simp) ?_
          refine AllReadyH.cons rfl (fun K hK => ?_) AllReadyH.nil
          go_simp
          refine (meet_any s ⟨r.value - er - lv.hi, r.value + er - lv.lo⟩ _).mono ?_
          rintro e w5 ⟨rfl, hb5⟩; obtain ⟨hc5, hf5⟩ := bcell hb5; have hz5 := hb5.size; (try simp at hz5); have hl5 : w.heap.size + 1 + 1 < w5.heap.size := (by omega)
          (try dsimp only)
          refine hK.out _ _ (by ((go_split_ands; (try dsimp only); (repeat' apply And.intro) <;> first | assumption | (simp; done) | ((repeat (first | (with_reducible refine keep_set ?_ (by first | omega | (simp; done) | (simp; omega))) | (with_reducible refine keep_new ?_ _) | (with_reducible refine keep_drew ?_))); assumption) | (refine (hc9 _ _ (by first | omega | (simp; omega))).trans ?_; assumption) | (refine (hc8 _ _ (by first | omega | (simp; omega))).trans ?_; assumption) | (refine (hc7 _ _ (by first | omega | (simp; omega))).trans ?_; assumption) | (refine (hc6 _ _ (by first | omega | (simp; omega))).trans ?_; assumption) | (refine (hc5 _ _ (by first | omega | (simp; omega))).trans ?_; assumption) | (refine (hc4 _ _ (by first | omega | (simp; omega))).trans ?_; assumption) | (refine (hc3 _ _ (by first | omega | (simp; omega))).trans ?_; assumption) | (refine (hc2 _ _ (by first | omega | (simp; omega))).trans ?_; assumption) | (refine (hc1 _ _ (by first | omega | (simp; omega))).trans ?_; assumption) | (refine (hcr _ _ (by first | omega | (simp; omega))).trans ?_; assumption) | (simp; done) | (simp [go_sem]; done) | go_keep))) (fun hHeld => ?_)
          clear hK K
          (try simp only [Act.put, List.setIfInBounds_toArray, List.set_cons_zero, List.set_cons_succ])
          refine wpAnyH_done (by kernel_rfl) ?_ _
          simp only [tailPost, List.drop_succ_cons, List.drop_zero]
          have hz2 := S2.out.lt
          have S5 : Blk w5 (w.heap.size + 1 + 1) 107 #[.int .i64 s.lo, .int .i64 s.hi] := ((S2.out.drew.thru hb3 hz2).thru hb4 hl3).thru hb5 hl4
          obtain ⟨y0, y1, y2, y3⟩ := S5.two
          have S5 := Lib.hid S5
          clear hc3 hf3 hc4 hf4 hc5 hf5 s0 s1 s2 s3 g0 g1 g2 g3 g4 r0 r1 r2 r3 l0 l1
          go_wp2
          go_roundw
          case rel =>
            refine ⟨k + 1, s.meet ⟨r.value - er - lv.hi, r.value + er - lv.lo⟩, by omega, by go_num, Hstep.out, ?_, ?_, ?_, ?_⟩
            · exact ((((G2.out.drew.thru hb3 (by show w.heap.size < w2.heap.size; omega)).thru hb4 (by omega)).thru hb5 (by omega)).far (by first | (simp; done) | (simp; omega)) _).far (by first | (simp; done) | (simp; omega)) _
            · exact ((((E2.out.drew.thru hb3 (by show w.heap.size + 1 < w2.heap.size; omega)).thru hb4 (by omega)).thru hb5 (by omega)).far (by first | (simp; done) | (simp; omega)) _).far (by first | (simp; done) | (simp; omega)) _
            · exact (S5.out.set_ 0 _).set_ 1 _
            · exact (by repeat (first | exact Below.refl _ _ | assumption | (refine Below.setCell ?_ (by first | omega | (simp; done) | (simp; omega)) _) | (refine Below.alloc ?_ (by first | omega | (simp; done) | (simp; omega)) _) | refine Below.drew ?_ | (refine below_thru ?_ (by assumption) (by first | omega | (simp; done) | (simp; omega))) | refine below_drewN ?_ _))
          case measure => simp [intOf]; omega
        · have hjd' : ((j : Int) == (d : Int)) = false := by rw [beq_eq_false_iff_ne]; omega
          simp only [hjd', Bool.false_eq_true, if_false] at hstep
          have Hstep := Lib.hid hstep; clear hstep
          go_wp2_with fail
          refine (HB.out _).mono ?_
          rintro e w1 ⟨rfl, rfl⟩
          go_wp2_with fail
          refine (HD.out _ (Hg.out.grow (by repeat (first | exact Below.refl _ _ | assumption | (refine Below.setCell ?_ (by first | omega | (simp; done) | (simp; omega)) _) | (refine Below.alloc ?_ (by first | omega | (simp; done) | (simp; omega)) _) | refine Below.drew ?_ | (refine below_thru ?_ (by assumption) (by first | omega | (simp; done) | (simp; omega))) | refine below_drewN ?_ _)))).mono ?_
          rintro e w2 ⟨rfl, hb2⟩
          obtain ⟨hc2, hf2⟩ := bcell hb2; have hz2 := hb2.size; (try simp at hz2)
          have hl2 : w.heap.size + 1 + 1 < w2.heap.size := by omega
          go_wp2
          go_roundw
          case rel => exact ⟨k + 1, s, by omega, by go_num, Hstep.out, (hbg.out.alloc _).thru hb2 (by simp; omega), (hbe.out.alloc _).thru hb2 (by simp; omega), (hbs.out.alloc _).thru hb2 (by simp; omega), (by repeat (first | exact Below.refl _ _ | assumption | (refine Below.setCell ?_ (by first | omega | (simp; done) | (simp; omega)) _) | (refine Below.alloc ?_ (by first | omega | (simp; done) | (simp; omega)) _) | refine Below.drew ?_ | (refine below_thru ?_ (by assumption) (by first | omega | (simp; done) | (simp; omega))) | refine below_drewN ?_ _))⟩
          case measure => simp [intOf]; omega
    · obtain rfl : k = rn := by omega
      have hz : rs.take k = rs := by rw [← Hrl.out]; exact List.take_length
      have hfin : F rs = s := by rw [← hz, hfk.out]
      go_wp2
      exact bodyPost_ret (v := Sp.v s) (by simp [results, Tryz.results103, go_sem, e0, e1, e2, e3] <;> omega) rfl ⟨by rw [hfin], (by repeat (first | exact Below.refl _ _ | assumption | (refine Below.setCell ?_ (by first | omega | (simp; done) | (simp; omega)) _) | (refine Below.alloc ?_ (by first | omega | (simp; done) | (simp; omega)) _) | refine Below.drew ?_ | (refine below_thru ?_ (by assumption) (by first | omega | (simp; done) | (simp; omega))) | refine below_drewN ?_ _))⟩
end Go.Proofs.YtncidhoojgncgaaGreat
