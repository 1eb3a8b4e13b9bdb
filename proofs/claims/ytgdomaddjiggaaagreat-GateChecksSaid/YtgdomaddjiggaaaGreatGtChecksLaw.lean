/- GateChecks: Check and CheckSet return what the document says. -/
import Derived.Test.YtgdomaddjiggaaaGreatGtAwake
import Derived.Test.YtgdomaddjiggaaaGreatGtChecks
namespace Go.Proofs.YtgdomaddjiggaaaGreat
open Go.RowKit
set_option linter.unusedSimpArgs false
set_option linter.unusedVariables false

set_option maxRecDepth 100000 in
set_option maxHeartbeats 4000000 in
theorem GateChecks_any (l : St) (w : World) (hl : l.At w w.heap.size) :
    Calls Tryz.prog 3 #[l.v] w fun e w' => e = .returned (.bool true) ∧ Below w.heap.size w w' := by
  have Hl := Lib.hid hl
  have H1 := Lib.hid (fun W h => CheckSet_any l W h)
  have H2 := Lib.hid (fun W h => rCheckSet_any l W h)
  have H3 := Lib.hid (fun g W h => Check_any g W h)
  have H4 := Lib.hid (fun g W h => rCheck_any g W h)
  have hgm := hl.gn
  unfold maxLen at hgm
  obtain ⟨a, b, c, h5⟩ : ∃ a b c, setFt l = ⟨a, b, c⟩ := ⟨_, _, _, rfl⟩
  rw [h5] at H1 H2
  have H1 := Lib.hid (show ∀ W, l.At W W.heap.size → Calls Tryz.prog 20 #[.agg #[.slice l.gA l.gn l.gc, .slice l.rA l.rn l.rc]] W fun e w' => e = .returned (.tuple #[.int .i64 a, .int .i64 b, .int .i64 c]) ∧ Below W.heap.size W w' from H1.out)
  have H2 := Lib.hid (show ∀ W, l.At W W.heap.size → Calls Tryz.prog 21 #[.agg #[.slice l.gA l.gn l.gc, .slice l.rA l.rn l.rc]] W fun e w' => e = .returned (.tuple #[.int .i64 a, .int .i64 b, .int .i64 c]) ∧ Below W.heap.size W w' from H2.out)
  clear hl h5
  go_enter Tryz.func3, Tryz.ntmps3
  go_wp2_with fail
  refine (H1.out _ (Hl.out.grow (by repeat (first | exact Below.refl _ _ | assumption | (refine Below.setCell ?_ (by first | omega | (simp; done) | (simp; omega)) _) | (refine Below.alloc ?_ (by first | omega | (simp; done) | (simp; omega)) _) | refine Below.drew ?_ | (refine below_thru ?_ (by assumption) (by first | omega | (simp; done) | (simp; omega))) | refine below_drewN ?_ _)))).mono ?_
  rintro e w1 ⟨rfl, hb1⟩
  obtain ⟨hc1, hf1⟩ := bcell hb1; have hz1 := hb1.size; (try simp at hz1)
  have hB1 : Blk w1 w.heap.size 25 #[.slice l.gA l.gn l.gc, .slice l.rA l.rn l.rc] := Blk.thru (by (repeat (first | assumption | exact Blk.new _ _ _ | (refine Blk.new' _ _ _ ?_; (simp; done)) | refine Blk.drew ?_ | refine Blk.alloc ?_ _ | (refine Blk.fars ?_ ?_ _ _; rotate_left; (dsimp only; omega)) | (refine Blk.far ?_ ?_ _; rotate_left; (first | (dsimp only; omega) | (simp; done) | (simp; omega) | omega))))) hb1 (by simp <;> omega)
  have hw1 : Below w.heap.size w w1 := (by repeat (first | exact Below.refl _ _ | assumption | (refine Below.setCell ?_ (by first | omega | (simp; done) | (simp; omega)) _) | (refine Below.alloc ?_ (by first | omega | (simp; done) | (simp; omega)) _) | refine Below.drew ?_ | (refine below_thru ?_ (by assumption) (by first | omega | (simp; done) | (simp; omega))) | refine below_drewN ?_ _))
  have HB1 := Lib.hid hB1
  obtain ⟨s0, s1, _, _⟩ := hB1.two
  have hl1 := hB1.lt
  clear hb1 hc1 hf1 hB1
  go_wp2_with fail
  refine (H2.out _ (Hl.out.grow hw1)).mono ?_
  rintro e w2 ⟨rfl, hb2⟩
  have HB2 := Lib.hid (HB1.out.thru hb2 hl1)
  have hw2 := Lib.hid (hw1.trans (hb2.mono hw1.size))
  clear hb2 s0 s1
  go_wp2
  go_loopw [9] (fun i wr => ∃ k : Nat, k ≤ l.gn ∧ k ≤ 10 ∧ i = .int .i64 k ∧ Hid (Blk wr w.heap.size 25 #[.slice l.gA l.gn l.gc, .slice l.rA l.rn l.rc]) ∧ Below w.heap.size w wr)
    (fun i _ => l.gn - (intOf i).toNat)
  case atStart => exact ⟨0, Nat.zero_le _, by omega, rfl, HB2.out, hw2.out⟩
  case round =>
    obtain ⟨k, hk, hk10, rfl, hbl, hbr⟩ := hrel
    obtain ⟨s0, s1, _, _⟩ := hbl.out.two
    have hzr := hbl.out.lt
    by_cases hlt : k < l.gn
    · by_cases hk2 : k < 10
      · obtain ⟨g, hgk⟩ := get_lt Hl.out.g.len hlt
        obtain ⟨gb, go, hA, hgb, hrow⟩ := Hl.out.g.row hgk
        have hga := Hl.out.g.at_ g (List.mem_of_getElem? hgk)
        have Hrow := Lib.hid (range_below hrow hbr hgb)
        have Hga := Lib.hid (hga.grow hbr)
        obtain ⟨fp, fa, ge, hfl⟩ : ∃ fp fa ge, gateF g = ⟨fp, fa, ge⟩ := ⟨_, _, _, rfl⟩
        have HC := Lib.hid (fun W h => H3.out g W h)
        have HD := Lib.hid (fun W h => H4.out g W h)
        rw [hfl] at HC HD
        have HC := Lib.hid (show ∀ W, g.At W W.heap.size → Calls Tryz.prog 22 #[g.v] W fun e w' => e = .returned (.tuple #[.int .i64 fp, .int .i64 fa, .int .i64 ge]) ∧ Below W.heap.size W w' from HC.out)
        have HD := Lib.hid (show ∀ W, g.At W W.heap.size → Calls Tryz.prog 23 #[g.v] W fun e w' => e = .returned (.tuple #[.int .i64 fp, .int .i64 fa, .int .i64 ge]) ∧ Below W.heap.size W w' from HD.out)
        have j0 : (0 : Int) ≤ (k : Int) := Int.natCast_nonneg _
        have j1 : (k : Int) < (l.gn : Int) := by omega
        have j2 : (k : Int) < 10 := by omega
        have hA2 := Lib.hid hA
        rw [hA] at s0
        clear hfl hga hgk hA
        have Hrow0 := Lib.hid hrow
        clear hrow
        go_wp2_with (with_reducible refine wpl_gm (g := g) Hrow.out rfl rfl rfl ?_)
        refine (HC.out _ Hga.out).mono ?_
        rintro e w3 ⟨rfl, hb3⟩
        have HB3 := Lib.hid (hbl.out.thru hb3 hzr)
        have Hga3 := Lib.hid (Hga.out.grow hb3)
        have hw3 := Lib.hid (hbr.trans (hb3.mono hbr.size))
        have Hrow3 := Lib.hid (range_below Hrow0.out hw3.out hgb)
        clear hb3 s0 s1
        obtain ⟨s0, s1, _, _⟩ := HB3.out.two
        have hl3 := HB3.out.lt
        rw [hA2.out] at s0
        go_wp2_with (with_reducible refine wpl_gm (g := g) Hrow3.out rfl rfl rfl ?_)
        refine (HD.out _ Hga3.out).mono ?_
        rintro e w4 ⟨rfl, hb4⟩
        have HB4 := Lib.hid (HB3.out.thru hb4 hl3)
        have hw4 := Lib.hid (hw3.out.trans (hb4.mono hw3.out.size))
        clear hb4 s0 s1
        go_wp2
        go_roundw
        case rel => exact ⟨k + 1, by omega, by omega, by go_num, HB4.out, hw4.out⟩
        case measure => simp [intOf]; omega
      · obtain rfl : k = 10 := by omega
        clear hk2
        go_wp2_with fail
        refine (Awake_any _).mono ?_
        rintro e w4 ⟨rfl, hb4⟩
        go_wp2
        go_ret
        exact ⟨rfl, hbr.trans (hb4.mono hbr.size)⟩
    · obtain rfl : k = l.gn := by omega
      clear hlt
      go_wp2_with fail
      refine (Awake_any _).mono ?_
      rintro e w4 ⟨rfl, hb4⟩
      go_wp2
      go_ret
      exact ⟨rfl, hbr.trans (hb4.mono hbr.size)⟩
end Go.Proofs.YtgdomaddjiggaaaGreat
