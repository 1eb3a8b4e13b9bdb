/- The reference's States: two lists of the same states are equal. -/
import Derived.Test.YtgdomaddjiggaaaGreatGtRun
namespace Go.Proofs.YtgdomaddjiggaaaGreat
open Go.RowKit
set_option linter.unusedSimpArgs false
set_option linter.unusedVariables false

set_option maxRecDepth 100000 in
set_option maxHeartbeats 4000000 in
theorem rStates_same (xs : List Gs) (A B : Option Addr) (n c d : Nat) (w : World) (h1 : Tab w w.heap.size A n 3 (xs.map Gs.cells)) (h2 : Tab w w.heap.size B n 3 (xs.map Gs.cells)) (hn : n ≤ 3000) :
    Calls Tryz.prog 33 #[.slice A n c, .slice B n d] w fun e w' => e = .returned (.bool true) ∧ Below w.heap.size w w' := by
  have Hl := Lib.hid (show xs.length = n by have := h1.1; simpa using this)
  have H1 := Lib.hid h1
  have H2 := Lib.hid h2
  clear h1 h2
  go_enter Tryz.func33, Tryz.ntmps33
  go_wp2
  go_loopw [5] (fun i wr => ∃ k : Nat, k ≤ n ∧ i = .int .i64 k ∧ Hid (Below w.heap.size w wr))
    (fun i _ => n - (intOf i).toNat)
  case atStart => exact ⟨0, Nat.zero_le _, rfl, Below.refl _ _⟩
  case round =>
    obtain ⟨k, hk, rfl, hbr⟩ := hrel
    by_cases hlt : k < n
    · obtain ⟨s, hs⟩ := get_lt Hl.out hlt
      obtain ⟨ab, ao, hA, hab, c0, c1, c2⟩ := H1.out.three (k := k) (x := .int .i64 s.pos) (y := .int .i64 s.charge) (z := .bool s.bolted) (by simp [hs])
      obtain ⟨bb, bo, hB, hbb, d0, d1, d2⟩ := H2.out.three (k := k) (x := .int .i64 s.pos) (y := .int .i64 s.charge) (z := .bool s.bolted) (by simp [hs])
      subst hA hB
      have c0 := (hbr.out.cell (p := ⟨ab, ao + k * 3, none⟩) hab).trans c0
      have c1 := (hbr.out.cell (p := ⟨ab, ao + k * 3 + 1, none⟩) hab).trans c1
      have c2 := (hbr.out.cell (p := ⟨ab, ao + k * 3 + 2, none⟩) hab).trans c2
      have d0 := (hbr.out.cell (p := ⟨bb, bo + k * 3, none⟩) hbb).trans d0
      have d1 := (hbr.out.cell (p := ⟨bb, bo + k * 3 + 1, none⟩) hbb).trans d1
      have d2 := (hbr.out.cell (p := ⟨bb, bo + k * 3 + 2, none⟩) hbb).trans d2
      have j0 : (0 : Int) ≤ (k : Int) := Int.natCast_nonneg _
      have j1 : (k : Int) < (n : Int) := by omega
      have hb := hbr
      clear hs hbr
      go_wp2_with fail
      go_quiet (fail)
      go_wp2
      go_roundw
      case rel => exact ⟨k + 1, by omega, by go_num, below_drewN hb.out _⟩
      case measure => simp [intOf]; omega
    · obtain rfl : k = n := by omega
      have hb := hbr
      clear hlt hk hbr
      go_wp2
      go_ret
      exact ⟨rfl, hb.out⟩
end Go.Proofs.YtgdomaddjiggaaaGreat
