/- Awake returns true. -/
import Derived.Test.YtncidhoojgncgaaGreatTdAwake2
namespace Go.Proofs.YtncidhoojgncgaaGreat
open Go.RowKit
set_option linter.unusedSimpArgs false
set_option linter.unusedVariables false

theorem infoGauge : (Tryz.prog.info? 47).map (fun i => (i.zero, i.size, i.bytes)) = some (some (.agg #[.string ByteArray.empty, .int .i64 0, .int .i64 0, .slice none 0 0, .slice none 0 0]), 5, 80) := by kernel_rfl

set_option maxRecDepth 100000 in
set_option maxHeartbeats 2000000 in
theorem Awake_any (w : World) : Calls Tryz.prog 24 #[] w fun e w' => e = .returned (.bool true) ∧ Below w.heap.size w w' := by
  obtain ⟨i0, hi, hz0, hz1, hz2⟩ := info_parts infoGauge
  have hmk : ∃ o, ∀ W : World, (Instr.makeSlice 52 (.int .i64 9) (.int .i64 9)).run Tryz.prog W = .ok (.slice (some ⟨W.heap.size, 0, none⟩) 9 9) (W.alloc o) :=
    ⟨_, fun W => run_make (P := Tryz.prog) W 52 47 i0 _ (by kernel_rfl) hi hz0 .i64 .i64 9 9 (by omega) (by omega) (by rw [hz2]; omega) (by omega)⟩
  obtain ⟨o9, hmk⟩ := hmk
  clear hi hz0 hz1 hz2
  go_enter Tryz.func24, Tryz.ntmps24
  go_wp2_with fail
  refine (Table_any _).mono ?_
  rintro e w1 ⟨g1, g2, rfl, hat, hb1⟩
  have Hat := Lib.hid hat; clear hat
  have hz1 := hb1.size
  go_wp2_with fail
  refine (Level_any _ 1 _ Hat.out).mono ?_
  rw [tabT_level]
  rintro e w2 ⟨rfl, hb2⟩
  clear Hat
  have hz2 := hb2.size
  go_wp2_with fail
  refine (Gauge_any _).mono ?_
  rintro e w3 ⟨g3, g4, rfl, hat, hb3⟩
  have Hat := Lib.hid hat; clear hat
  obtain ⟨hc3, hf3⟩ := bcell hb3; have hz3 := hb3.size; (try simp at hz3)
  go_wp2_with fail
  refine (Says_any _ 92 100 _ Hat.out).mono ?_
  rw [gaugeG_says1]
  rintro e w4 ⟨rfl, hb4⟩
  clear Hat
  obtain ⟨hc4, hf4⟩ := bcell hb4; have hz4 := hb4.size; (try simp at hz4)
  have hl3 : w2.heap.size < w3.heap.size := by omega
  have hl4 : w2.heap.size < w4.heap.size := by omega
  go_wp2_with fail
  refine (Gauge_any _).mono ?_
  rintro e w5 ⟨g5, g6, rfl, hat, hb5⟩
  have Hat := Lib.hid hat; clear hat
  obtain ⟨hc5, hf5⟩ := bcell hb5; have hz5 := hb5.size; (try simp at hz5)
  have hl5 : w4.heap.size < w5.heap.size := by omega
  have hl52 : w2.heap.size < w5.heap.size := by omega
  go_wp2_with fail
  refine (Says_any _ 89 89 _ Hat.out).mono ?_
  rw [gaugeG_says2]
  rintro e w6 ⟨rfl, hb6⟩
  clear Hat
  obtain ⟨hc6, hf6⟩ := bcell hb6; have hz6 := hb6.size; (try simp at hz6)
  have hl6 : w4.heap.size < w6.heap.size := by omega
  have hl62 : w2.heap.size < w6.heap.size := by omega
  go_wp2_with fail
  refine (AgreeLong_any _ 9 9 0 0 _ (by unfold maxLen; omega) (by omega)).mono ?_
  rintro e w7 ⟨rfl, hb7⟩
  obtain ⟨hc7, hf7⟩ := bcell hb7; have hz7 := hb7.size; (try simp at hz7)
  have hl7 : w4.heap.size < w7.heap.size := by omega
  have hl72 : w2.heap.size < w7.heap.size := by omega
  have hl8 : w4.heap.size < w6.heap.size + 1 := by omega
  have hl82 : w2.heap.size < w6.heap.size + 1 := by omega
  have hl9 : w4.heap.size ≤ w6.heap.size := by omega
  have hl92 : w2.heap.size ≤ w6.heap.size := by omega
  have hl10 : w4.heap.size ≤ w5.heap.size := by omega
  have hl102 : w2.heap.size ≤ w5.heap.size := by omega
  have hl112 : w2.heap.size ≤ w4.heap.size := by omega
  have hl122 : w2.heap.size ≤ w3.heap.size := by omega
  go_wp2
  go_ret
  exact ⟨rfl, (by repeat (first | exact Below.refl _ _ | assumption | (refine Below.setCell ?_ (by first | omega | (simp; done) | (simp; omega)) _) | (refine Below.alloc ?_ (by first | omega | (simp; done) | (simp; omega)) _) | refine Below.drew ?_ | (refine below_thru ?_ (by assumption) (by first | omega | (simp; done) | (simp; omega))) | refine below_drewN ?_ _))⟩
end Go.Proofs.YtncidhoojgncgaaGreat
