/- The reference: why an order to a gate of a set is refused. -/
import Derived.Test.YtgdomaddjiggaaaGreatGtMoveK
import Derived.Test.YtgdomaddjiggaaaGreatGtRefG
namespace Go.Proofs.YtgdomaddjiggaaaGreat
open Go.RowKit
set_option linter.unusedSimpArgs false
set_option linter.unusedVariables false

theorem machs_at {gs : List Ga} {ss : List Gs} {i : Nat} {g : Ga} {s : Gs} (hg : gs[i]? = some g) (hs : ss[i]? = some s) : (machs gs ss)[i]? = some (g, s) := by
  unfold machs; rw [List.getElem?_zip_eq_some]; exact ⟨hg, hs⟩
theorem kept_of {ms : List (Ga × Gs)} {rs : List Gr} {rn : Nat} {i : Int} (h : ∀ k, k < rn → brokenB ms i (rs.getD k ⟨0, 0, 0, 0⟩) = false) : keptB ms rs rn i = true := by
  unfold keptB
  rw [Bool.not_eq_true', List.any_eq_false]
  intro k hk
  show ¬ (brokenB ms i (rs.getD k ⟨0, 0, 0, 0⟩) = true)
  rw [h k (List.mem_range.1 hk)]
  decide
theorem broken_of {ms : List (Ga × Gs)} {rs : List Gr} {rn : Nat} {i : Int} {k : Nat} (hk : k < rn) (h : brokenB ms i (rs.getD k ⟨0, 0, 0, 0⟩) = true) : keptB ms rs rn i = false := by
  unfold keptB
  rw [Bool.not_eq_false', List.any_eq_true]
  exact ⟨k, List.mem_range.2 hk, h⟩

set_option maxRecDepth 100000 in
set_option maxHeartbeats 8000000 in
theorem rrefused_any (l : St) (ss : List Gs) (t : Gt) (i : Nat) (ship : Bool) (sA : Option Addr) (sn sc : Nat) (w : World) (hl : l.At w w.heap.size) (hs : Tab w w.heap.size sA sn 3 (ss.map Gs.cells)) (hi : i < l.gn) (hsn : sn = l.gn) (hn : l.gn ≤ 6) (hrn : l.rn ≤ 12) (hro : ∀ r ∈ l.rs, 0 ≤ r.other ∧ r.other < l.gn) :
    Calls Tryz.prog 150 #[l.v, .slice sA sn sc, .int .i64 (i : Int), t.v, .bool ship] w fun e w' => e = .returned (.int .i64 (refusalF (machs l.gs ss) l.rs l.rn i t.order ship)) ∧ Below w.heap.size w w' := by
  subst hsn
  have hsl : ss.length = l.gn := by have := hs.1; simpa using this
  obtain ⟨g, hgi⟩ := get_lt hl.g.len hi
  obtain ⟨s, hsi⟩ := get_lt hsl (by omega : i < l.gn)
  have hmi := machs_at hgi hsi
  obtain ⟨sb, so, hB, hsb, c0, c1, c2⟩ := hs.three (k := i) (x := .int .i64 s.pos) (y := .int .i64 s.charge) (z := .bool s.bolted) (by simp [hsi])
  have hb : boltAt (machs l.gs ss) i = s.bolted := by unfold boltAt; rw [hmi]; rfl
  have hf : refusalF (machs l.gs ss) l.rs l.rn i t.order ship = if t.order = 0 then 0 else if s.bolted = true then 130 else if ship = true then 131 else if keptB (machs l.gs ss) l.rs l.rn i = true then 0 else 132 := by unfold refusalF; rw [hb]
  rw [hf]
  have Hl := Lib.hid hl
  have Hs := Lib.hid hs
  have Hsl := Lib.hid hsl
  have Hro := Lib.hid hro
  have hgl := Lib.hid hl.g.len
  have i0 : (0 : Int) ≤ (i : Int) := Int.natCast_nonneg _
  have i1 : (i : Int) < (l.gn : Int) := by omega
  subst hB
  clear hf hb hmi hgi hsi hl hs hsl hro c0 c1
  by_cases ho : t.order = 0
  · rw [if_pos ho]
    have q : (t.order == 0) = true := by rw [beq_iff_eq]; exact ho
    clear ho c2
    go_enter Tryz.func150, Tryz.ntmps150
    go_wp2
    go_ret
    exact ⟨rfl, (by repeat (first | exact Below.refl _ _ | assumption | (refine Below.setCell ?_ (by first | omega | (simp; done) | (simp; omega)) _) | (refine Below.alloc ?_ (by first | omega | (simp; done) | (simp; omega)) _) | refine Below.drew ?_ | (refine below_thru ?_ (by assumption) (by first | omega | (simp; done) | (simp; omega))) | refine below_drewN ?_ _))⟩
  rw [if_neg ho]
  have q : (t.order == 0) = false := by rw [beq_eq_false_iff_ne]; exact ho
  clear ho
  rcases (show s.bolted = true ∨ s.bolted = false by cases s.bolted <;> simp) with hb | hb
  · rw [if_pos hb]
    rw [hb] at c2
    clear hb
    go_enter Tryz.func150, Tryz.ntmps150
    go_wp2
    go_ret
    exact ⟨rfl, (by repeat (first | exact Below.refl _ _ | assumption | (refine Below.setCell ?_ (by first | omega | (simp; done) | (simp; omega)) _) | (refine Below.alloc ?_ (by first | omega | (simp; done) | (simp; omega)) _) | refine Below.drew ?_ | (refine below_thru ?_ (by assumption) (by first | omega | (simp; done) | (simp; omega))) | refine below_drewN ?_ _))⟩
  rw [if_neg (by rw [hb]; decide)]
  rw [hb] at c2
  clear hb
  cases ship
  · simp only [Bool.false_eq_true, if_false]
    have Hkept := Lib.hid (kept_of (ms := machs l.gs ss) (rs := l.rs) (rn := l.rn) (i := (i : Int)))
    have Hbroken := Lib.hid (fun k => broken_of (ms := machs l.gs ss) (rs := l.rs) (rn := l.rn) (i := (i : Int)) (k := k))
    generalize keptB (machs l.gs ss) l.rs l.rn i = kb at *
    obtain ⟨ans, hans⟩ : ∃ ans : Int, (if kb = true then (0 : Int) else 132) = ans := ⟨_, rfl⟩
    rw [hans]
    have Hans := Lib.hid hans
    clear hans
    go_enter Tryz.func150, Tryz.ntmps150
    go_wp2
    go_loopw [11] (fun j wr => ∃ k : Nat, k ≤ l.rn ∧ j = .int .i64 k ∧ Hid (∀ q, q < k → brokenB (machs l.gs ss) i (l.rs.getD q ⟨0, 0, 0, 0⟩) = false) ∧ Hid (Blk wr w.heap.size 25 #[.slice l.gA l.gn l.gc, .slice l.rA l.rn l.rc]) ∧ Below w.heap.size w wr)
      (fun j _ => l.rn - (intOf j).toNat)
    case atStart => exact ⟨0, Nat.zero_le _, rfl, fun q hq => by omega, (Blk.new w _ _).alloc _, (by repeat (first | exact Below.refl _ _ | assumption | (refine Below.setCell ?_ (by first | omega | (simp; done) | (simp; omega)) _) | (refine Below.alloc ?_ (by first | omega | (simp; done) | (simp; omega)) _) | refine Below.drew ?_ | (refine below_thru ?_ (by assumption) (by first | omega | (simp; done) | (simp; omega))) | refine below_drewN ?_ _))⟩
    case round =>
      obtain ⟨k, hk, rfl, hprev, hbl, hbr⟩ := hrel
      obtain ⟨s0, s1, _, _⟩ := hbl.out.two
      have hzr := hbl.out.lt
      by_cases hlt : k < l.rn
      · obtain ⟨r, hrk⟩ := get_lt Hl.out.rl hlt
        obtain ⟨rb, off, hA, hrb, d0, d1, d2, d3⟩ := Hl.out.r.four (k := k) (x := .int .i64 r.gate) (y := .int .i64 r.other) (z := .int .i64 r.lo) (u := .int .i64 r.hi) (by simp [hrk])
        have d0 := (hbr.cell (p := ⟨rb, off + k * 4, none⟩) hrb).trans d0
        have d1 := (hbr.cell (p := ⟨rb, off + k * 4 + 1, none⟩) hrb).trans d1
        have d2 := (hbr.cell (p := ⟨rb, off + k * 4 + 2, none⟩) hrb).trans d2
        have d3 := (hbr.cell (p := ⟨rb, off + k * 4 + 3, none⟩) hrb).trans d3
        have hrd : l.rs.getD k ⟨0, 0, 0, 0⟩ = r := by rw [List.getD_eq_getElem?_getD, hrk]; rfl
        obtain ⟨o0, o1⟩ := Hro.out r (List.mem_of_getElem? hrk)
        obtain ⟨q', hq'⟩ : ∃ q' : Nat, r.other = q' := ⟨r.other.toNat, by omega⟩
        obtain ⟨g2, hg2⟩ := get_lt hgl.out (by omega : q' < l.gn)
        obtain ⟨s2, hs2⟩ := get_lt Hsl.out (by omega : q' < l.gn)
        obtain ⟨sb2, so2, hB2, hsb2, e0, e1, e2⟩ := Hs.out.three (k := q') (x := .int .i64 s2.pos) (y := .int .i64 s2.charge) (z := .bool s2.bolted) (by simp [hs2])
        cases hB2
        have e0 := (hbr.cell (p := ⟨sb, so + q' * 3, none⟩) hsb2).trans e0
        have hbk : brokenB (machs l.gs ss) i (l.rs.getD k ⟨0, 0, 0, 0⟩) = (decide (r.gate = (i : Int)) && !betw s2.pos r.lo r.hi) := by
          rw [hrd]
          unfold brokenB posAt
          rw [hq']
          simp [machs_at hg2 hs2]
        have Hbk := Lib.hid hbk
        have HI := Lib.hid (rin_is s2.pos r.lo r.hi _ rfl)
        have j0 : (0 : Int) ≤ (k : Int) := Int.natCast_nonneg _
        have j1 : (k : Int) < (l.rn : Int) := by omega
        have j2 : (0 : Int) ≤ (q' : Int) := Int.natCast_nonneg _
        have j3 : (q' : Int) < (l.gn : Int) := by omega
        have hsbr := World.block_lt_of_cell? wr _ e0
        simp only at hsbr
        rw [hA] at s1
        rw [hq'] at d1
        have hblw := Lib.hid (hbl.out.alloc (.cells #[.int .i64 r.gate, .int .i64 (q' : Int), .int .i64 r.lo, .int .i64 r.hi] 92))
        have Hlt := Lib.hid hlt
        have Hnext := Lib.hid (fun (h : brokenB (machs l.gs ss) i (l.rs.getD k ⟨0, 0, 0, 0⟩) = false) => (show Hid (∀ q, q < k + 1 → brokenB (machs l.gs ss) i (l.rs.getD q ⟨0, 0, 0, 0⟩) = false) from fun q hq => by
          rcases Nat.lt_or_ge q k with h1 | h1
          · exact hprev.out q h1
          · obtain rfl : q = k := by omega
            exact h))
        clear hrk hA hrd hg2 hs2 e1 e2 hbk hq' o0 o1 hprev c2 hbl
        generalize betw s2.pos r.lo r.hi = bb at *
        by_cases hgi : r.gate = (i : Int)
        · have q1 : (r.gate == (i : Int)) = true := by rw [beq_iff_eq]; exact hgi
          cases bb
          · have hbt := Hbroken.out k Hlt.out (by rw [Hbk.out]; simp [hgi])
            have Hbt := Lib.hid hbt
            clear hgi hbt
            go_wp2_with fail
            go_quiet (first | (go_at_call 51; exact quiet_is2 (fun W => (HI.out W).mono fun _ _ h => ⟨h.1, h.2.symm⟩)) | (go_at_call 51; exact quiet_is (fun W => (HI.out W).mono fun _ _ h => ⟨h.1, h.2.symm⟩)))
            go_wp2
            go_ret
            exact ⟨by rw [← Hans.out, Hbt.out]; rfl, (by repeat (first | exact Below.refl _ _ | assumption | (refine Below.setCell ?_ (by first | omega | (simp; done) | (simp; omega)) _) | (refine Below.alloc ?_ (by first | omega | (simp; done) | (simp; omega)) _) | refine Below.drew ?_ | (refine below_thru ?_ (by assumption) (by first | omega | (simp; done) | (simp; omega))) | refine below_drewN ?_ _))⟩
          · have Hn := Lib.hid (Hnext.out (by rw [Hbk.out]; simp))
            clear hgi
            go_wp2_with fail
            go_quiet (first | (go_at_call 51; exact quiet_is2 (fun W => (HI.out W).mono fun _ _ h => ⟨h.1, h.2.symm⟩)) | (go_at_call 51; exact quiet_is (fun W => (HI.out W).mono fun _ _ h => ⟨h.1, h.2.symm⟩)))
            go_wp2
            go_roundw
            case rel => exact ⟨k + 1, by omega, by go_num, Hn.out, hblw.out, (by repeat (first | exact Below.refl _ _ | assumption | (refine Below.setCell ?_ (by first | omega | (simp; done) | (simp; omega)) _) | (refine Below.alloc ?_ (by first | omega | (simp; done) | (simp; omega)) _) | refine Below.drew ?_ | (refine below_thru ?_ (by assumption) (by first | omega | (simp; done) | (simp; omega))) | refine below_drewN ?_ _))⟩
            case measure => simp [intOf]; omega
        · have q1 : (r.gate == (i : Int)) = false := by rw [beq_eq_false_iff_ne]; exact hgi
          have Hn := Lib.hid (Hnext.out (by rw [Hbk.out]; simp [hgi]))
          clear hgi
          go_wp2_with fail
          go_quiet (fail)
          go_wp2
          go_roundw
          case rel => exact ⟨k + 1, by omega, by go_num, Hn.out, hblw.out, (by repeat (first | exact Below.refl _ _ | assumption | (refine Below.setCell ?_ (by first | omega | (simp; done) | (simp; omega)) _) | (refine Below.alloc ?_ (by first | omega | (simp; done) | (simp; omega)) _) | refine Below.drew ?_ | (refine below_thru ?_ (by assumption) (by first | omega | (simp; done) | (simp; omega))) | refine below_drewN ?_ _))⟩
          case measure => simp [intOf]; omega
      · obtain rfl : k = l.rn := by omega
        have Hv := Lib.hid (Hkept.out hprev.out)
        clear hlt hk
        go_wp2
        go_ret
        exact ⟨by rw [← Hans.out, Hv.out]; rfl, hbr⟩
  · rw [if_pos rfl]
    go_enter Tryz.func150, Tryz.ntmps150
    go_wp2
    go_ret
    exact ⟨rfl, (by repeat (first | exact Below.refl _ _ | assumption | (refine Below.setCell ?_ (by first | omega | (simp; done) | (simp; omega)) _) | (refine Below.alloc ?_ (by first | omega | (simp; done) | (simp; omega)) _) | refine Below.drew ?_ | (refine below_thru ?_ (by assumption) (by first | omega | (simp; done) | (simp; omega))) | refine below_drewN ?_ _))⟩
end Go.Proofs.YtgdomaddjiggaaaGreat
