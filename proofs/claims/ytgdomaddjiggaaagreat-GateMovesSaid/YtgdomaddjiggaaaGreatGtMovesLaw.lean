/- GateMoves: Move returns what the document says. -/
import Derived.Test.YtgdomaddjiggaaaGreatGtAwake
import Derived.Test.YtgdomaddjiggaaaGreatGtRefV
import Derived.Test.YtgdomaddjiggaaaGreatGtStatesR
import Derived.Test.YtgdomaddjiggaaaGreatGtReadS
namespace Go.Proofs.YtgdomaddjiggaaaGreat
open Go.RowKit
set_option linter.unusedSimpArgs false
set_option linter.unusedVariables false

set_option maxRecDepth 100000 in
set_option maxHeartbeats 16000000 in
theorem GateMoves_any (l : St) (j : Jo) (w : World) (hl : l.At w w.heap.size) (hj : j.At w w.heap.size) :
    Calls Tryz.prog 8 #[l.v, j.v] w fun e w' => e = .returned (.bool true) ∧ Below w.heap.size w w' := by
  obtain ⟨sA, sn, sc, ss, tA, tn, tc, ts, pA, pn, pc, ps⟩ := j
  have Hl := Lib.hid hl
  have Hs := Lib.hid hj.s
  have Ht := Lib.hid hj.t
  have Hp := Lib.hid hj.p
  have HRef := Lib.hid (fun (W : World) (hW : Below w.heap.size w W) => rMove_any l ss ts ps sA tA pA sn sc tn tc pn pc W (hl.grow hW) (hj.s.grow hW) (hj.t.grow hW) (hj.p.grow hW) hj.sm hj.tm hj.pm)
  have hgm := hl.gn
  have hlv : l.v = .agg #[.slice l.gA l.gn l.gc, .slice l.rA l.rn l.rc] := rfl
  by_cases h0 : (moveFt l ss sn ts tn pn).e = 0
  · have hgn6 : l.gn ≤ 6 := (move_ok hl hj.s hj.t h0).1.n1
    have HM := Lib.hid (fun (W : World) (hW : Below w.heap.size w W) => Move_ok l ss ts ps sA tA pA sn sc tn tc pn pc W (hl.grow hW) (hj.s.grow hW) (hj.t.grow hW) (hj.p.grow hW) h0)
    have HR := Lib.hid (fun (W : World) (hW : Below w.heap.size w W) => (HRef.out W hW).mono fun e w' h => h.1 h0)
    rw [hlv] at HM HR
    have Hms := Lib.hid (show (moveS l ss ts ps).length = (moveS l ss ts ps).length from rfl)
    have HmM := Lib.hid (show (moveM l ss ts ps).length = l.gn by unfold moveM; simp)
    generalize moveS l ss ts ps = ms at *
    generalize moveM l ss ts ps = mm at *
    clear HRef h0 hl hj hlv
    unfold maxLen at hgm
    go_enter Tryz.func8, Tryz.ntmps8
    go_wp2_with fail
    refine (HM.out _ (by repeat (first | exact Below.refl _ _ | assumption | (refine Below.setCell ?_ (by first | omega | (simp; done) | (simp; omega)) _) | (refine Below.alloc ?_ (by first | omega | (simp; done) | (simp; omega)) _) | refine Below.drew ?_ | (refine below_thru ?_ (by assumption) (by first | omega | (simp; done) | (simp; omega))) | refine below_drewN ?_ _))).mono ?_
    rintro e w1 ⟨A, c, gd, rfl, t1, t2, _, hb1⟩
    have hS1 : Blk w1 w.heap.size 25 #[.slice l.gA l.gn l.gc, .slice l.rA l.rn l.rc] := Blk.thru (by (repeat (first | assumption | exact Blk.new _ _ _ | (refine Blk.new' _ _ _ ?_; (simp; done)) | refine Blk.drew ?_ | refine Blk.alloc ?_ _ | (refine Blk.fars ?_ ?_ _ _; rotate_left; (dsimp only; omega)) | (refine Blk.far ?_ ?_ _; rotate_left; (first | (dsimp only; omega) | (simp; done) | (simp; omega) | omega))))) hb1 (by simp <;> omega)
    have hJ1 : Blk w1 (w.heap.size + 1) 71 #[.slice sA sn sc, .slice tA tn tc, .slice pA pn pc] := Blk.thru (by (repeat (first | assumption | exact Blk.new _ _ _ | (refine Blk.new' _ _ _ ?_; (simp; done)) | refine Blk.drew ?_ | refine Blk.alloc ?_ _ | (refine Blk.fars ?_ ?_ _ _; rotate_left; (dsimp only; omega)) | (refine Blk.far ?_ ?_ _; rotate_left; (first | (dsimp only; omega) | (simp; done) | (simp; omega) | omega))))) hb1 (by simp <;> omega)
    have hw1 : Below w.heap.size w w1 := (by repeat (first | exact Below.refl _ _ | assumption | (refine Below.setCell ?_ (by first | omega | (simp; done) | (simp; omega)) _) | (refine Below.alloc ?_ (by first | omega | (simp; done) | (simp; omega)) _) | refine Below.drew ?_ | (refine below_thru ?_ (by assumption) (by first | omega | (simp; done) | (simp; omega))) | refine below_drewN ?_ _))
    have HT1 := Lib.hid t1
    have HT2 := Lib.hid t2
    obtain ⟨s0, s1, _, _⟩ := hS1.two
    obtain ⟨x0, x1, x2, _⟩ := hJ1.three
    have hls := hS1.lt
    have hlj := hJ1.lt
    clear t1 t2 hb1 hS1 hJ1
    go_wp2_with fail
    refine (HR.out _ hw1).mono ?_
    rintro e w2 ⟨A2, c2, B2, d2, rfl, t1, t2, hb2⟩
    have hw2 : Below w.heap.size w w2 := hw1.trans (hb2.mono hw1.size)
    have HTa := Lib.hid (HT1.out.grow hb2)
    have HTb := Lib.hid (HT2.out.grow hb2)
    have HTc := Lib.hid t1
    have HTd := Lib.hid t2
    clear t1 t2 hb2 s0 s1 x0 x1 x2 HT1 HT2
    go_wp2_with fail
    refine (rStates_same ms A A2 l.gn c c2 _ HTa.out HTc.out (by omega)).mono ?_
    rintro e w3 ⟨rfl, hb3⟩
    have hw3 : Below w.heap.size w w3 := hw2.trans (hb3.mono hw2.size)
    have HTb := Lib.hid (HTb.out.grow hb3)
    have HTd := Lib.hid (HTd.out.grow hb3)
    clear hb3
    go_wp2_with fail
    go_loopw [11] (fun i wr => ∃ k : Nat, k ≤ l.gn ∧ i = .int .i64 k ∧ Hid (Below w3.heap.size w3 wr))
      (fun i _ => l.gn - (intOf i).toNat)
    case atStart => exact ⟨0, Nat.zero_le _, rfl, Below.refl _ _⟩
    case round =>
      obtain ⟨k, hk, rfl, hbr⟩ := hrel
      by_cases hlt : k < l.gn
      · obtain ⟨m, hm⟩ := get_lt HmM.out hlt
        obtain ⟨ab, ao, hA, hab, c0, c1, c2⟩ := HTb.out.three (k := k) (x := .int .i64 m.refused) (y := .int .i64 m.moved) (z := .int .i64 m.oil) (by simp [hm])
        obtain ⟨bb, bo, hB, hbb, d0, d1, d2⟩ := HTd.out.three (k := k) (x := .int .i64 m.refused) (y := .int .i64 m.moved) (z := .int .i64 m.oil) (by simp [hm])
        cases hA
        subst hB
        have c0 := (hbr.out.cell (p := ⟨gd, 0 + k * 3, none⟩) hab).trans c0
        have c1 := (hbr.out.cell (p := ⟨gd, 0 + k * 3 + 1, none⟩) hab).trans c1
        have c2 := (hbr.out.cell (p := ⟨gd, 0 + k * 3 + 2, none⟩) hab).trans c2
        have d0 := (hbr.out.cell (p := ⟨bb, bo + k * 3, none⟩) hbb).trans d0
        have d1 := (hbr.out.cell (p := ⟨bb, bo + k * 3 + 1, none⟩) hbb).trans d1
        have d2 := (hbr.out.cell (p := ⟨bb, bo + k * 3 + 2, none⟩) hbb).trans d2
        rw [Nat.zero_add] at c0 c1 c2
        have j0 : (0 : Int) ≤ (k : Int) := Int.natCast_nonneg _
        have j1 : (k : Int) < (l.gn : Int) := by omega
        have hb := hbr
        clear hm hbr
        go_wp2_with fail
        go_quiet (fail)
        go_wp2
        go_roundw
        case rel => exact ⟨k + 1, by omega, by go_num, below_drewN hb.out _⟩
        case measure => simp [intOf]; omega
      · obtain rfl : k = l.gn := by omega
        have hwx : Below w.heap.size w wr := hw3.trans (hbr.out.mono hw3.size)
        clear hbr hlt hk
        go_wp2_with fail
        refine (Awake_any _).mono ?_
        rintro e w4 ⟨rfl, hb4⟩
        go_wp2
        go_ret
        exact ⟨rfl, hwx.trans (hb4.mono hwx.size)⟩
  · have HM := Lib.hid (fun (W : World) (hW : Below w.heap.size w W) => Move_bad l ss ts sA tA pA sn sc tn tc pn pc W (hl.grow hW) (hj.s.grow hW) (hj.t.grow hW) h0)
    have HR := Lib.hid (fun (W : World) (hW : Below w.heap.size w W) => (HRef.out W hW).mono fun e w' h => h.2 h0)
    rw [hlv] at HM HR
    generalize (moveFt l ss sn ts tn pn).e = E at *
    have qe : (E != E) = false := by rw [bne_self_eq_false]
    clear HRef h0 hl hj hlv
    go_enter Tryz.func8, Tryz.ntmps8
    go_wp2_with fail
    refine (HM.out _ (by repeat (first | exact Below.refl _ _ | assumption | (refine Below.setCell ?_ (by first | omega | (simp; done) | (simp; omega)) _) | (refine Below.alloc ?_ (by first | omega | (simp; done) | (simp; omega)) _) | refine Below.drew ?_ | (refine below_thru ?_ (by assumption) (by first | omega | (simp; done) | (simp; omega))) | refine below_drewN ?_ _))).mono ?_
    rintro e w1 ⟨rfl, hb1⟩
    have hS1 : Blk w1 w.heap.size 25 #[.slice l.gA l.gn l.gc, .slice l.rA l.rn l.rc] := Blk.thru (by (repeat (first | assumption | exact Blk.new _ _ _ | (refine Blk.new' _ _ _ ?_; (simp; done)) | refine Blk.drew ?_ | refine Blk.alloc ?_ _ | (refine Blk.fars ?_ ?_ _ _; rotate_left; (dsimp only; omega)) | (refine Blk.far ?_ ?_ _; rotate_left; (first | (dsimp only; omega) | (simp; done) | (simp; omega) | omega))))) hb1 (by simp <;> omega)
    have hJ1 : Blk w1 (w.heap.size + 1) 71 #[.slice sA sn sc, .slice tA tn tc, .slice pA pn pc] := Blk.thru (by (repeat (first | assumption | exact Blk.new _ _ _ | (refine Blk.new' _ _ _ ?_; (simp; done)) | refine Blk.drew ?_ | refine Blk.alloc ?_ _ | (refine Blk.fars ?_ ?_ _ _; rotate_left; (dsimp only; omega)) | (refine Blk.far ?_ ?_ _; rotate_left; (first | (dsimp only; omega) | (simp; done) | (simp; omega) | omega))))) hb1 (by simp <;> omega)
    have hw1 : Below w.heap.size w w1 := (by repeat (first | exact Below.refl _ _ | assumption | (refine Below.setCell ?_ (by first | omega | (simp; done) | (simp; omega)) _) | (refine Below.alloc ?_ (by first | omega | (simp; done) | (simp; omega)) _) | refine Below.drew ?_ | (refine below_thru ?_ (by assumption) (by first | omega | (simp; done) | (simp; omega))) | refine below_drewN ?_ _))
    obtain ⟨s0, s1, _, _⟩ := hS1.two
    obtain ⟨x0, x1, x2, _⟩ := hJ1.three
    have hls := hS1.lt
    have hlj := hJ1.lt
    clear hb1 hS1 hJ1
    go_wp2_with fail
    refine (HR.out _ hw1).mono ?_
    rintro e w2 ⟨rfl, hb2⟩
    have hw2 : Below w.heap.size w w2 := hw1.trans (hb2.mono hw1.size)
    clear hb2 s0 s1 x0 x1 x2
    go_wp2_with fail
    refine (rStates_same [] none none 0 0 0 _ ⟨rfl, fun h => absurd h (by omega)⟩ ⟨rfl, fun h => absurd h (by omega)⟩ (by omega)).mono ?_
    rintro e w3 ⟨rfl, hb3⟩
    have hw3 : Below w.heap.size w w3 := hw2.trans (hb3.mono hw2.size)
    clear hb3
    go_wp2_with fail
    go_loopw [11] (fun i wr => i = .int .i64 0 ∧ wr = w3) (fun i _ => 0)
    case atStart => exact ⟨rfl, rfl⟩
    case round =>
      obtain ⟨rfl, rfl⟩ := hrel
      go_wp2_with fail
      refine (Awake_any _).mono ?_
      rintro e w4 ⟨rfl, hb4⟩
      go_wp2
      go_ret
      exact ⟨rfl, hw3.trans (hb4.mono hw3.size)⟩
end Go.Proofs.YtgdomaddjiggaaaGreat
