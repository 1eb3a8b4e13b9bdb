/- The reference's Fit, whole. -/
import Derived.Test.YtncidhoojgncgaaGreatRfFit
namespace Go.Proofs.YtncidhoojgncgaaGreat
open Go.RowKit
set_option linter.unusedSimpArgs false
set_option linter.unusedVariables false

set_option maxRecDepth 100000 in
set_option maxHeartbeats 16000000 in
theorem rFit_any (g : Gg) (d a : Int) (A : Option Addr) (n c : Nat) (l : List Sp) (w : World) (hg : g.At w w.heap.size) (hl : LvAt w w.heap.size A n l) :
    Calls Tryz.prog 46 #[g.v, .int .i64 d, .int .i64 a, .slice A n c] w fun e w' => e = .returned (.tuple #[(fitR g d a n l).1.v, .int .i64 (fitR g d a n l).2]) ∧ Below w.heap.size w w' := by
  have HC := Lib.hid (fun W h => rCheckGauge_any g W h)
  have hz := gaugeF_zero g w w.heap.size hg
  have fa := fitR_a g d a n l
  have fb := fitR_b g d a n l
  have fc := fitR_c g d a n l
  have fd := fitR_d g d a n l
  have fe := fitR_e g d a n l
  generalize fitR g d a n l = R at *
  generalize gaugeF g = f at *
  obtain ⟨fp, fat, fe'⟩ := f
  simp only at hz fa fb fc fd fe
  unfold tri at HC
  have hnm := hl.n
  have hgdn := hg.dn
  have hgrn := hg.rn
  unfold maxLen at hgdn hgrn
  have HB := rin_is d 0 (g.dn - 1)
  have HS := Lib.hid (fun W => rsome_any a n W hnm)
  unfold maxLen at hnm
  by_cases h1 : fe' = 0
  · subst h1
    have hok := hz rfl
    cases h2 : betw d 0 (g.dn - 1)
    · have Hf := Lib.hid (fb rfl h2)
      have HB := Lib.hid (HB _ h2)
      have Hg := Lib.hid hg; clear hg
      clear fa fb fc fd fe h2 hz hl hok
      go_enter Tryz.func46, Tryz.ntmps46
      go_wp2_with fail
      refine (HC.out _ (Hg.out.grow (by repeat (first | exact Below.refl _ _ | assumption | (refine Below.setCell ?_ (by first | omega | (simp; done) | (simp; omega)) _) | (refine Below.alloc ?_ (by first | omega | (simp; done) | (simp; omega)) _) | refine Below.drew ?_ | (refine below_thru ?_ (by assumption) (by first | omega | (simp; done) | (simp; omega))) | refine below_drewN ?_ _)))).mono ?_
      rintro e w1 ⟨rfl, hb1⟩
      obtain ⟨hc1, hf1⟩ := bcell hb1; have hz1 := hb1.size; (try simp at hz1)
      have hl0 : w.heap.size < w1.heap.size := by omega
      have hl1 : w.heap.size + 1 < w1.heap.size := by omega
      go_wp2_with fail
      refine (HB.out _).mono ?_
      rintro e w2 ⟨rfl, rfl⟩
      go_wp2
      exact bodyPost_ret (v := .tuple #[Sp.v ⟨0, 0⟩, .int .i64 4]) (by simp [results, Tryz.results46, go_sem, hc1, hl1] <;> omega) rfl ⟨by rw [Hf.out], (by repeat (first | exact Below.refl _ _ | assumption | (refine Below.setCell ?_ (by first | omega | (simp; done) | (simp; omega)) _) | (refine Below.alloc ?_ (by first | omega | (simp; done) | (simp; omega)) _) | refine Below.drew ?_ | (refine below_thru ?_ (by assumption) (by first | omega | (simp; done) | (simp; omega))) | refine below_drewN ?_ _))⟩
    · have HB := Lib.hid (HB _ h2)
      have fc2 := fc rfl h2
      have fd2 := fd rfl h2
      have fe2 := fe rfl h2
      clear fc fd fe
      have hd : 0 ≤ d ∧ d ≤ g.dn - 1 := by simpa [betw] using h2
      obtain ⟨k, rfl⟩ : ∃ k : Nat, d = k := ⟨d.toNat, by omega⟩
      rw [Int.toNat_natCast] at fe2
      have hkd : k < g.dn := by omega
      clear fa fb h2 hz hd
      obtain ⟨q, hq⟩ : ∃ q, someF a n = q := ⟨_, rfl⟩
      rw [hq] at HS fc2 fd2 fe2
      by_cases h3 : q = 0
      · subst h3
        obtain ⟨n400, hat⟩ := someF_zero a n hq
        have fd := fd2 rfl
        have fe := fe2 rfl
        clear fc2 fd2 fe2 hq
        have hfc := fun r => fitB_cases g k a n r
        have hft := fun (j : Nat) (r : Rd) (h : g.rs[j]? = some r) => fitFold_take (g := g) (d := k) (f := a) (l := l) h
        have hf0 : fitFold g k a l [] = ⟨(g.ds.getD k ⟨0, 0, 0⟩).lo, (g.ds.getD k ⟨0, 0, 0⟩).hi⟩ := rfl
        have hfs : ∀ s r, fitStep g k a l s r = if fitB g k a n r = true then s.meet (fitS g a l r) else s := fun s r => by unfold fitStep; rw [hl.len]
        obtain ⟨F, hF⟩ : ∃ F, fitFold g k a l = F := ⟨_, rfl⟩
        rw [hF] at hft hf0 fe
        have hll := hl.len
        have hlt := hl.t
        have hgd := hg.d
        have hgr := hg.r
        have hgdl := hg.dl
        have hgrl := hg.rl
        obtain ⟨dat, hdat⟩ := get_lt hgdl hkd
        have hdv : g.ds.getD k ⟨0, 0, 0⟩ = dat := by simp [hdat]
        rw [hdv] at hf0
        obtain ⟨b0, o0, hA0, hb0, y0, y1, y2⟩ := hgd.three (k := k) (x := .int .i64 dat.from_) (y := .int .i64 dat.lo) (z := .int .i64 dat.hi) (by simp [hdat])
        have hD := fun t v W h => rdatum_any g t v W h
        have he0 := hok.e0
        have he1 := hok.e1
        have hrr := hok.rr
        have hdd := hok.dd dat (List.mem_of_getElem? hdat)
        obtain ⟨dd1, dd2, dd3, dd4, dd5⟩ := hdd
        have Hg := Lib.hid hg; clear hg
        have Hl := Lib.hid hl; clear hl
        have Hok := Lib.hid hok; clear hok
        have Fd := Lib.hid fd; clear fd
        have Fe := Lib.hid fe; clear fe
        have Hfc := Lib.hid hfc; clear hfc
        have Hft := Lib.hid hft; clear hft
        have Hf0 := Lib.hid hf0; clear hf0
        have Hfs := Lib.hid hfs; clear hfs
        have Hll := Lib.hid hll; clear hll
        have Hlt := Lib.hid hlt; clear hlt
        have Hgr := Lib.hid hgr; clear hgr
        have Hgrl := Lib.hid hgrl; clear hgrl
        have HD := Lib.hid hD; clear hD
        have Hrr := Lib.hid hrr; clear hrr
        have Hat := Lib.hid hat; clear hat
        clear hgd hgdl hdat hdv hF
        obtain ⟨nm, er, rt, dA, dn, dc, ds, rA, rn, rc, rs⟩ := g
        simp only at hgdn hgrn hkd hA0 he0 he1
        subst hA0
        have k0 : (0 : Int) ≤ (k : Int) := Int.natCast_nonneg _
        have k1 : (k : Int) < (dn : Int) := by omega
        have hbw0 : b0 < w.heap.size + 1 := by omega
        go_enter Tryz.func46, Tryz.ntmps46
        go_wp2_with fail
        refine (HC.out _ (Hg.out.grow (by repeat (first | exact Below.refl _ _ | assumption | (refine Below.setCell ?_ (by first | omega | (simp; done) | (simp; omega)) _) | (refine Below.alloc ?_ (by first | omega | (simp; done) | (simp; omega)) _) | refine Below.drew ?_ | (refine below_thru ?_ (by assumption) (by first | omega | (simp; done) | (simp; omega))) | refine below_drewN ?_ _)))).mono ?_
        rintro e w1 ⟨rfl, hb1⟩
        have hz1 := hb1.size
        simp at hz1
        have G1 : Blk w1 w.heap.size 47 #[.string nm, .int .i64 er, .int .i64 rt, .slice (some ⟨b0, o0, none⟩) dn dc, .slice rA rn rc] := ((Blk.new w _ _).alloc _).thru hb1 (by simp; omega)
        have E1 : Blk w1 (w.heap.size + 1) 32 #[.int .i64 0, .int .i64 0] := (Blk.new' (w.alloc _) _ _ (by simp)).thru hb1 (by simp)
        have hbw1 : Below w.heap.size w w1 := (by repeat (first | exact Below.refl _ _ | assumption | (refine Below.setCell ?_ (by first | omega | (simp; done) | (simp; omega)) _) | (refine Below.alloc ?_ (by first | omega | (simp; done) | (simp; omega)) _) | refine Below.drew ?_ | (refine below_thru ?_ (by assumption) (by first | omega | (simp; done) | (simp; omega))) | refine below_drewN ?_ _))
        obtain ⟨g0, g1, g2, g3, g4⟩ := G1.five
        have G1 := Lib.hid G1
        have E1 := Lib.hid E1
        go_wp2_with fail
        refine (HB.out _).mono ?_
        rintro e w2 ⟨rfl, rfl⟩
        go_wp2_with fail
        refine (HS.out _).mono ?_
        rintro e w2 ⟨rfl, rfl⟩
        go_wp2
        clear HB HS HC g0 g1 g2 g3 g4
        go_loopw [13] (fun i wr => ∃ j : Nat, j ≤ n ∧ i = .int .i64 j ∧ Hid (∀ x, x ∈ l.take j → badS x = false) ∧ Hid (Blk wr w.heap.size 47 #[.string nm, .int .i64 er, .int .i64 rt, .slice (some ⟨b0, o0, none⟩) dn dc, .slice rA rn rc])
            ∧ Hid (Blk wr (w.heap.size + 1) 32 #[.int .i64 0, .int .i64 0]) ∧ Below w.heap.size w wr)
          (fun i _ => n - (intOf i).toNat)
        case atStart => exact ⟨0, Nat.zero_le _, rfl, fun x hx => by simp at hx, G1.out, E1.out, hbw1⟩
        case round =>
          obtain ⟨j, hj, rfl, hprev, hbg, hbe, hbr⟩ := hrel
          have hzr := hbe.out.lt
          obtain ⟨e0, e1, e2, e3⟩ := hbe.out.two
          obtain ⟨g0, g1, g2, g3, g4⟩ := hbg.out.five
          by_cases hlt : j < n
          · obtain ⟨s, hs⟩ := get_lt Hll.out hlt
            obtain ⟨lb, lo_, hlA, hlb, l0, l1⟩ := Hlt.out.two (k := j) (x := .int .i64 s.lo) (y := .int .i64 s.hi) (by simp [hs])
            subst hlA
            have l0 := (hbr.cell (p := ⟨lb, lo_ + j * 2, none⟩) hlb).trans l0
            have l1 := (hbr.cell (p := ⟨lb, lo_ + j * 2 + 1, none⟩) hlb).trans l1
            have j0 : (0 : Int) ≤ (j : Int) := Int.natCast_nonneg _
            have j1 : (j : Int) < (n : Int) := by omega
            have hbc := badS_cases s
            have hstop : badS s = true → R = (⟨0, 0⟩, 2) := fun h => Fd.out (List.any_eq_true.2 ⟨s, List.mem_of_getElem? hs, h⟩)
            have hcont : badS s = false → Hid (∀ x, x ∈ l.take (j + 1) → badS x = false) := fun h x hx => by
              have h' := List.getElem?_eq_some_iff.1 hs
              rw [List.take_succ_eq_append_getElem h'.1, List.mem_append] at hx
              rcases hx with hx | hx
              · exact hprev.out x hx
              · rw [List.mem_singleton.1 hx, h'.2]; exact h
            have H1 := rin_is s.lo (-20000) 20000
            have H2 := rin_is s.hi (-20000) 20000
            cases t1 : decide (s.hi < s.lo)
            · cases t2 : betw s.lo (-20000) 20000
              · have Hf := Lib.hid (hstop (by rw [hbc, t1, t2]; rfl))
                have H1 := Lib.hid (H1 _ t2)
                clear hbc hstop hcont H2 t2 hs
                go_wp2_with fail
                refine (H1.out _).mono ?_
                rintro e w1 ⟨rfl, rfl⟩
                go_wp2
                exact bodyPost_ret (v := .tuple #[Sp.v ⟨0, 0⟩, .int .i64 2]) (by simp [results, Tryz.results46, go_sem, e0, e1, e2, e3, hzr] <;> omega) rfl ⟨by rw [Hf.out], (by repeat (first | exact Below.refl _ _ | assumption | (refine Below.setCell ?_ (by first | omega | (simp; done) | (simp; omega)) _) | (refine Below.alloc ?_ (by first | omega | (simp; done) | (simp; omega)) _) | refine Below.drew ?_ | (refine below_thru ?_ (by assumption) (by first | omega | (simp; done) | (simp; omega))) | refine below_drewN ?_ _))⟩
              · cases t3 : betw s.hi (-20000) 20000
                · have Hf := Lib.hid (hstop (by rw [hbc, t1, t2, t3]; rfl))
                  have H1 := Lib.hid (H1 _ t2)
                  have H2 := Lib.hid (H2 _ t3)
                  clear hbc hstop hcont t2 t3 hs
                  go_wp2_with fail
                  refine (H1.out _).mono ?_
                  rintro e w1 ⟨rfl, rfl⟩
                  go_wp2_with fail
                  refine (H2.out _).mono ?_
                  rintro e w1 ⟨rfl, rfl⟩
                  go_wp2
                  exact bodyPost_ret (v := .tuple #[Sp.v ⟨0, 0⟩, .int .i64 2]) (by simp [results, Tryz.results46, go_sem, e0, e1, e2, e3, hzr] <;> omega) rfl ⟨by rw [Hf.out], (by repeat (first | exact Below.refl _ _ | assumption | (refine Below.setCell ?_ (by first | omega | (simp; done) | (simp; omega)) _) | (refine Below.alloc ?_ (by first | omega | (simp; done) | (simp; omega)) _) | refine Below.drew ?_ | (refine below_thru ?_ (by assumption) (by first | omega | (simp; done) | (simp; omega))) | refine below_drewN ?_ _))⟩
                · have Hm := hcont (by rw [hbc, t1, t2, t3]; rfl)
                  have H1 := Lib.hid (H1 _ t2)
                  have H2 := Lib.hid (H2 _ t3)
                  clear hbc hstop hcont t2 t3 hs
                  go_wp2_with fail
                  refine (H1.out _).mono ?_
                  rintro e w1 ⟨rfl, rfl⟩
                  go_wp2_with fail
                  refine (H2.out _).mono ?_
                  rintro e w1 ⟨rfl, rfl⟩
                  go_wp2
                  go_roundw
                  case rel => exact ⟨j + 1, by omega, by go_num, Hm, hbg.out.alloc _, hbe.out.alloc _, (by repeat (first | exact Below.refl _ _ | assumption | (refine Below.setCell ?_ (by first | omega | (simp; done) | (simp; omega)) _) | (refine Below.alloc ?_ (by first | omega | (simp; done) | (simp; omega)) _) | refine Below.drew ?_ | (refine below_thru ?_ (by assumption) (by first | omega | (simp; done) | (simp; omega))) | refine below_drewN ?_ _))⟩
                  case measure => simp [intOf]; omega
            · have Hf := Lib.hid (hstop (by rw [hbc, t1]; rfl))
              clear hbc hstop hcont H1 H2 hs
              go_wp2
              exact bodyPost_ret (v := .tuple #[Sp.v ⟨0, 0⟩, .int .i64 2]) (by simp [results, Tryz.results46, go_sem, e0, e1, e2, e3, hzr] <;> omega) rfl ⟨by rw [Hf.out], (by repeat (first | exact Below.refl _ _ | assumption | (refine Below.setCell ?_ (by first | omega | (simp; done) | (simp; omega)) _) | (refine Below.alloc ?_ (by first | omega | (simp; done) | (simp; omega)) _) | refine Below.drew ?_ | (refine below_thru ?_ (by assumption) (by first | omega | (simp; done) | (simp; omega))) | refine below_drewN ?_ _))⟩
          · obtain rfl : n = j := by omega
            have hany : l.any badS = false := by
              rw [List.any_eq_false]
              intro x hx
              have h' : l.take n = l := by rw [← Hll.out]; exact List.take_length
              have := hprev.out x (by rw [h']; exact hx)
              simp [this]
            have Hfe := Lib.hid (Fe.out hany)
            have Hlv : Hid (∀ x ∈ l, -20000 ≤ x.lo ∧ x.lo ≤ x.hi ∧ x.hi ≤ 20000) := fun x hx => by
              have := List.any_eq_false.1 hany x hx
              simp only [badS, Bool.not_eq_true', Bool.not_eq_false, Sp.withinB, Sp.emptyB, Bool.and_eq_true, decide_eq_true_eq, decide_eq_false_iff_not] at this
              omega
            clear Fd Fe hany hprev
            obtain ⟨wo, rfl⟩ : ∃ wo : World, wo = wr := ⟨_, rfl⟩
            have y1 := (hbr.cell (p := ⟨b0, o0 + k * 3 + 1, none⟩) hb0).trans y1
            have y2 := (hbr.cell (p := ⟨b0, o0 + k * 3 + 2, none⟩) hb0).trans y2
            clear y0
            go_wp2
            go_loopw [16] (fun i wq => ∃ (j : Nat) (s : Sp), j ≤ rn ∧ i = .int .i64 j ∧ Hid (F (rs.take j) = s) ∧ Hid (Blk wq w.heap.size 47 #[.string nm, .int .i64 er, .int .i64 rt, .slice (some ⟨b0, o0, none⟩) dn dc, .slice rA rn rc])
                ∧ Hid (Blk wq (w.heap.size + 1) 32 #[.int .i64 0, .int .i64 0]) ∧ Hid (Blk wq wo.heap.size 32 #[.int .i64 s.lo, .int .i64 s.hi]) ∧ Below w.heap.size w wq)
              (fun i _ => rn - (intOf i).toNat)
            case atStart => exact ⟨0, ⟨dat.lo, dat.hi⟩, Nat.zero_le _, rfl, Hf0.out, hbg.out.alloc _, hbe.out.alloc _, Blk.new _ _ _, (by repeat (first | exact Below.refl _ _ | assumption | (refine Below.setCell ?_ (by first | omega | (simp; done) | (simp; omega)) _) | (refine Below.alloc ?_ (by first | omega | (simp; done) | (simp; omega)) _) | refine Below.drew ?_ | (refine below_thru ?_ (by assumption) (by first | omega | (simp; done) | (simp; omega))) | refine below_drewN ?_ _))⟩
            case round =>
              clear y1 y2 e0 e1 e2 e3 g0 g1 g2 g3 g4
              obtain ⟨j, s, hj, rfl, hfk, hbg', hbe', hbs, hbq⟩ := hrel
              have hzq := hbs.out.lt
              have hla0 : w.heap.size < wr.heap.size := by omega
              have hlb0 : w.heap.size + 1 < wr.heap.size := by omega
              obtain ⟨e0, e1, e2, e3⟩ := hbe'.out.two
              obtain ⟨g0, g1, g2, g3, g4⟩ := hbg'.out.five
              obtain ⟨s0, s1, s2, s3⟩ := hbs.out.two
              by_cases hlt : j < rn
              · obtain ⟨r, hr⟩ := get_lt Hgrl.out hlt
                have hst := Hft.out j r hr
                have hmem := List.mem_of_getElem? hr
                obtain ⟨q1, q2, q3, q4⟩ := Hrr.out r hmem
                obtain ⟨b, off, hA, hb, c0, c1⟩ := Hgr.out.two (k := j) (x := .int .i64 r.tick) (y := .int .i64 r.value) (by simp [hr])
                (try simp only at hA)
                subst hA
                have c0 := (hbq.cell (p := ⟨b, off + j * 2, none⟩) hb).trans c0
                have c1 := (hbq.cell (p := ⟨b, off + j * 2 + 1, none⟩) hb).trans c1
                have j0 : (0 : Int) ≤ (j : Int) := Int.natCast_nonneg _
                have j1 : (j : Int) < (rn : Int) := by omega
                have hfb := Hfc.out r
                have HDr := HD.out r.tick r.value
                obtain ⟨jd, hjd⟩ : ∃ jd, datFrom ds r.tick 0 0 = jd := ⟨_, rfl⟩
                (try simp only at hfb HDr)
                rw [hjd] at hfb HDr
                have HDr := Lib.hid HDr
                rw [hfk.out, Hfs.out] at hst
                clear hjd hr hmem
                go_wp2_with fail
                refine (HDr.out _ (Hg.out.grow (by repeat (first | exact Below.refl _ _ | assumption | (refine Below.setCell ?_ (by first | omega | (simp; done) | (simp; omega)) _) | (refine Below.alloc ?_ (by first | omega | (simp; done) | (simp; omega)) _) | refine Below.drew ?_ | (refine below_thru ?_ (by assumption) (by first | omega | (simp; done) | (simp; omega))) | refine below_drewN ?_ _)))).mono ?_
                rintro e w3 ⟨rfl, hb3⟩
                have hz3 := hb3.size
                simp at hz3
                have G3 : Blk w3 w.heap.size 47 #[.string nm, .int .i64 er, .int .i64 rt, .slice (some ⟨b0, o0, none⟩) dn dc, .slice (some ⟨b, off, none⟩) rn rc] := (hbg'.out.alloc _).thru hb3 (by simp; omega)
                have E3 : Blk w3 (w.heap.size + 1) 32 #[.int .i64 0, .int .i64 0] := (hbe'.out.alloc _).thru hb3 (by simp; omega)
                have S3 : Blk w3 wo.heap.size 32 #[.int .i64 s.lo, .int .i64 s.hi] := (hbs.out.alloc _).thru hb3 (by simp; omega)
                have R3 : Blk w3 wr.heap.size 117 #[.int .i64 r.tick, .int .i64 r.value] := (Blk.new wr _ _).thru hb3 (by simp)
                have hbw3 : Below w.heap.size w w3 := (by repeat (first | exact Below.refl _ _ | assumption | (refine Below.setCell ?_ (by first | omega | (simp; done) | (simp; omega)) _) | (refine Below.alloc ?_ (by first | omega | (simp; done) | (simp; omega)) _) | refine Below.drew ?_ | (refine below_thru ?_ (by assumption) (by first | omega | (simp; done) | (simp; omega))) | refine below_drewN ?_ _))
                have hlq3 : wr.heap.size < w3.heap.size := by omega
                clear c0 c1 g0 g1 g2 g3 g4 s0 s1 s2 s3 e0 e1 e2 e3
                obtain ⟨g0, g1, g2, g3, g4⟩ := G3.five
                obtain ⟨s0, s1, s2, s3⟩ := S3.two
                obtain ⟨r0, r1, r2, r3⟩ := R3.two
                have G3 := Lib.hid G3
                have E3 := Lib.hid E3
                have S3 := Lib.hid S3
                clear R3 hbg' hbe' hbs
                have hla : w.heap.size < w3.heap.size := by omega
                have hlb : wo.heap.size < w3.heap.size := by omega
                by_cases hjk : jd = k
                · have hjk' : ((jd : Int) != (k : Int)) = false := by rw [hjk]; simp
                  by_cases hn0 : n = 0
                  · have hn0' : ((n : Int) == 0) = true := by rw [hn0]; rfl
                    have hfb0 : fitB ⟨nm, er, rt, some ⟨b0, o0, none⟩, dn, dc, ds, some ⟨b, off, none⟩, rn, rc, rs⟩ k a n r = false := by rw [hfb, hn0]; simp
                    rw [hfb0, if_neg (by simp)] at hst
                    have Hst := Lib.hid hst
                    clear hst hfb hfb0 hjk hn0
                    go_wp2
                    go_roundw
                    case rel => exact ⟨j + 1, s, by omega, by go_num, Hst.out, G3.out, E3.out, S3.out, hbw3⟩
                    case measure => simp [intOf]; omega
                  · have hn0' : ((n : Int) == 0) = false := by rw [beq_eq_false_iff_ne]; omega
                    have hab : 0 ≤ a ∧ a ≤ 200000 := by
                      have := Hat.out
                      simp only [areTicksB, hn0', Bool.false_or, Bool.and_eq_true, tickB, betw, decide_eq_true_eq] at this
                      exact this.1
                    obtain ⟨a0, a1⟩ := hab
                    have HI := rin_is r.tick a (a + n - 1)
                    cases ht : betw r.tick a (a + n - 1)
                    · have HI := Lib.hid (HI _ ht)
                      have hfb0 : fitB ⟨nm, er, rt, some ⟨b0, o0, none⟩, dn, dc, ds, some ⟨b, off, none⟩, rn, rc, rs⟩ k a n r = false := by rw [hfb, ht]; simp
                      rw [hfb0, if_neg (by simp)] at hst
                      have Hst := Lib.hid hst
                      clear hst hfb hfb0 hjk hn0 ht
                      go_wp2_with fail
                      refine (HI.out _).mono ?_
                      rintro e w4 ⟨rfl, rfl⟩
                      go_wp2
                      go_roundw
                      case rel => exact ⟨j + 1, s, by omega, by go_num, Hst.out, G3.out, E3.out, S3.out, hbw3⟩
                      case measure => simp [intOf]; omega
                    · have HI := Lib.hid (HI _ ht)
                      have hfb0 : fitB ⟨nm, er, rt, some ⟨b0, o0, none⟩, dn, dc, ds, some ⟨b, off, none⟩, rn, rc, rs⟩ k a n r = true := by rw [hfb, ht, hjk]; simp [hn0]
                      rw [hfb0, if_pos rfl] at hst
                      have htt : a ≤ r.tick ∧ r.tick ≤ a + n - 1 := by simpa [betw] using ht
                      obtain ⟨tt1, tt2⟩ := htt
                      obtain ⟨m, hm⟩ : ∃ m : Nat, r.tick - a = m := ⟨(r.tick - a).toNat, by omega⟩
                      have hmn : m < n := by omega
                      obtain ⟨lv, hlv⟩ := get_lt Hll.out hmn
                      obtain ⟨lb, lo_, hlA, hlb', l0, l1⟩ := Hlt.out.two (k := m) (x := .int .i64 lv.lo) (y := .int .i64 lv.hi) (by simp [hlv])
                      subst hlA
                      have l0 := (hbw3.cell (p := ⟨lb, lo_ + m * 2, none⟩) hlb').trans l0
                      have l1 := (hbw3.cell (p := ⟨lb, lo_ + m * 2 + 1, none⟩) hlb').trans l1
                      obtain ⟨v1, v2, v3⟩ := Hlv.out lv (List.mem_of_getElem? hlv)
                      have hfS : fitS ⟨nm, er, rt, some ⟨b0, o0, none⟩, dn, dc, ds, some ⟨b, off, none⟩, rn, rc, rs⟩ a l r = ⟨r.value - er - lv.hi, r.value + er - lv.lo⟩ := by simp [fitS, hm, hlv]
                      rw [hfS, meet_if] at hst
                      have Hst := Lib.hid hst
                      clear hst hfb hfb0 hjk hn0 ht hfS hlv
                      go_wp2_with fail
                      refine (HI.out _).mono ?_
                      rintro e w4 ⟨rfl, rfl⟩
                      go_wp2
                      go_roundw
                      case rel =>
                        refine ⟨j + 1, ⟨_, _⟩, by omega, by go_num, Hst.out, ?_, ?_, ?_, ?_⟩
                        · first | exact ((G3.out.far (by first | (simp; done) | (simp; omega)) _).far (by first | (simp; done) | (simp; omega)) _).alloc _ | exact ((G3.out.alloc _).far (by first | (simp; done) | (simp; omega)) _).far (by first | (simp; done) | (simp; omega)) _
                        · first | exact ((E3.out.far (by first | (simp; done) | (simp; omega)) _).far (by first | (simp; done) | (simp; omega)) _).alloc _ | exact ((E3.out.alloc _).far (by first | (simp; done) | (simp; omega)) _).far (by first | (simp; done) | (simp; omega)) _
                        · first | exact ((S3.out.set_ 0 _).set_ 1 _).alloc _ | exact ((S3.out.alloc _).set_ 0 _).set_ 1 _
                        · exact (by repeat (first | exact Below.refl _ _ | assumption | (refine Below.setCell ?_ (by first | omega | (simp; done) | (simp; omega)) _) | (refine Below.alloc ?_ (by first | omega | (simp; done) | (simp; omega)) _) | refine Below.drew ?_ | (refine below_thru ?_ (by assumption) (by first | omega | (simp; done) | (simp; omega))) | refine below_drewN ?_ _))
                      case measure => simp [intOf]; omega
                · have hjk' : ((jd : Int) != (k : Int)) = true := by rw [bne_iff_ne]; omega
                  have hfb0 : fitB ⟨nm, er, rt, some ⟨b0, o0, none⟩, dn, dc, ds, some ⟨b, off, none⟩, rn, rc, rs⟩ k a n r = false := by rw [hfb]; simp [hjk]
                  rw [hfb0, if_neg (by simp)] at hst
                  have Hst := Lib.hid hst
                  clear hst hfb hfb0 hjk
                  go_wp2
                  go_roundw
                  case rel => exact ⟨j + 1, s, by omega, by go_num, Hst.out, G3.out, E3.out, S3.out, hbw3⟩
                  case measure => simp [intOf]; omega
              · obtain rfl : rn = j := by omega
                have hz : rs.take rn = rs := by have := Hgrl.out; (try simp only at this); rw [← this]; exact List.take_length
                have hfe := Hfe.out
                (try simp only at hfe)
                rw [← hz, hfk.out] at hfe
                clear hz
                by_cases hem : s.hi < s.lo
                · have Hf : Hid (R = (⟨0, 0⟩, 9)) := by rw [hfe]; simp [Sp.emptyB, hem]; exact trivial
                  clear hfe
                  go_wp2
                  exact bodyPost_ret (v := .tuple #[Sp.v ⟨0, 0⟩, .int .i64 9]) (by simp [results, Tryz.results46, go_sem, e0, e1, e2, e3] <;> omega) rfl ⟨by rw [Hf.out], (by repeat (first | exact Below.refl _ _ | assumption | (refine Below.setCell ?_ (by first | omega | (simp; done) | (simp; omega)) _) | (refine Below.alloc ?_ (by first | omega | (simp; done) | (simp; omega)) _) | refine Below.drew ?_ | (refine below_thru ?_ (by assumption) (by first | omega | (simp; done) | (simp; omega))) | refine below_drewN ?_ _))⟩
                · have Hf : Hid (R = (s, 0)) := by rw [hfe]; simp [Sp.emptyB, hem]; exact trivial
                  clear hfe
                  go_wp2
                  exact bodyPost_ret (v := .tuple #[Sp.v s, .int .i64 0]) (by simp [results, Tryz.results46, go_sem, e0, e1, e2, e3] <;> omega) rfl ⟨by rw [Hf.out], (by repeat (first | exact Below.refl _ _ | assumption | (refine Below.setCell ?_ (by first | omega | (simp; done) | (simp; omega)) _) | (refine Below.alloc ?_ (by first | omega | (simp; done) | (simp; omega)) _) | refine Below.drew ?_ | (refine below_thru ?_ (by assumption) (by first | omega | (simp; done) | (simp; omega))) | refine below_drewN ?_ _))⟩
      · have Hf := Lib.hid (fc2 h3)
        have Hg := Lib.hid hg; clear hg
        have hq' : (q != 0) = true := by simpa using h3
        clear fc2 fd2 fe2 hq h3 hl hok
        go_enter Tryz.func46, Tryz.ntmps46
        go_wp2_with fail
        refine (HC.out _ (Hg.out.grow (by repeat (first | exact Below.refl _ _ | assumption | (refine Below.setCell ?_ (by first | omega | (simp; done) | (simp; omega)) _) | (refine Below.alloc ?_ (by first | omega | (simp; done) | (simp; omega)) _) | refine Below.drew ?_ | (refine below_thru ?_ (by assumption) (by first | omega | (simp; done) | (simp; omega))) | refine below_drewN ?_ _)))).mono ?_
        rintro e w1 ⟨rfl, hb1⟩
        obtain ⟨hc1, hf1⟩ := bcell hb1; have hz1 := hb1.size; (try simp at hz1)
        have hl0 : w.heap.size < w1.heap.size := by omega
        have hl1 : w.heap.size + 1 < w1.heap.size := by omega
        go_wp2_with fail
        refine (HB.out _).mono ?_
        rintro e w2 ⟨rfl, rfl⟩
        go_wp2_with fail
        refine (HS.out _).mono ?_
        rintro e w2 ⟨rfl, rfl⟩
        go_wp2
        exact bodyPost_ret (v := .tuple #[Sp.v ⟨0, 0⟩, .int .i64 q]) (by simp [results, Tryz.results46, go_sem, hc1, hl1] <;> omega) rfl ⟨by rw [Hf.out], (by repeat (first | exact Below.refl _ _ | assumption | (refine Below.setCell ?_ (by first | omega | (simp; done) | (simp; omega)) _) | (refine Below.alloc ?_ (by first | omega | (simp; done) | (simp; omega)) _) | refine Below.drew ?_ | (refine below_thru ?_ (by assumption) (by first | omega | (simp; done) | (simp; omega))) | refine below_drewN ?_ _))⟩
  · have Hf := Lib.hid (fa h1)
    have Hg := Lib.hid hg; clear hg
    have h1' : (fe' != 0) = true := by simpa using h1
    clear fa fb fc fd fe h1 hz hl
    go_enter Tryz.func46, Tryz.ntmps46
    go_wp2_with fail
    refine (HC.out _ (Hg.out.grow (by repeat (first | exact Below.refl _ _ | assumption | (refine Below.setCell ?_ (by first | omega | (simp; done) | (simp; omega)) _) | (refine Below.alloc ?_ (by first | omega | (simp; done) | (simp; omega)) _) | refine Below.drew ?_ | (refine below_thru ?_ (by assumption) (by first | omega | (simp; done) | (simp; omega))) | refine below_drewN ?_ _)))).mono ?_
    rintro e w1 ⟨rfl, hb1⟩
    obtain ⟨hc1, hf1⟩ := bcell hb1; have hz1 := hb1.size; (try simp at hz1)
    have hl0 : w.heap.size < w1.heap.size := by omega
    have hl1 : w.heap.size + 1 < w1.heap.size := by omega
    go_wp2
    exact bodyPost_ret (v := .tuple #[Sp.v ⟨0, 0⟩, .int .i64 fe']) (by simp [results, Tryz.results46, go_sem, hc1, hl1] <;> omega) rfl ⟨by rw [Hf.out], (by repeat (first | exact Below.refl _ _ | assumption | (refine Below.setCell ?_ (by first | omega | (simp; done) | (simp; omega)) _) | (refine Below.alloc ?_ (by first | omega | (simp; done) | (simp; omega)) _) | refine Below.drew ?_ | (refine below_thru ?_ (by assumption) (by first | omega | (simp; done) | (simp; omega))) | refine below_drewN ?_ _))⟩
end Go.Proofs.YtncidhoojgncgaaGreat
