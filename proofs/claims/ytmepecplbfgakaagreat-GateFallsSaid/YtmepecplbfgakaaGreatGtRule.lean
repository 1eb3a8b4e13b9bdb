/- The faults of a rule. -/
import Derived.Test.YtmepecplbfgakaaGreatGtMember
namespace Go.Proofs.YtmepecplbfgakaaGreat
open Go.RowKit
set_option linter.unusedSimpArgs false
set_option linter.unusedVariables false

def ruleA (n : Nat) (r : Gr) : Bool := betw r.gate 0 ((n : Int) - 1) && betw r.other 0 ((n : Int) - 1)
def ruleB (r : Gr) : Bool := r.gate != r.other
def ruleC (r : Gr) : Bool := decide (0 ≤ r.lo) && (decide (r.lo ≤ r.hi) && decide (r.hi ≤ 5000))
def ruleFt (n : Nat) (r : Gr) : Ft := firstF [need (ruleA n r) 4, need (ruleB r) 2, need (ruleC r) 7]
abbrev rrow (r : Gr) : Array Value := #[.int .i64 r.gate, .int .i64 r.other, .int .i64 r.lo, .int .i64 r.hi]
structure RCells (w : World) (b : Nat) (r : Gr) : Prop where
  c0 : w.cell? ⟨b, 0, none⟩ = some (.int .i64 r.gate)
  c1 : w.cell? ⟨b, 1, none⟩ = some (.int .i64 r.other)
  c2 : w.cell? ⟨b, 2, none⟩ = some (.int .i64 r.lo)
  c3 : w.cell? ⟨b, 3, none⟩ = some (.int .i64 r.hi)
theorem rcells_of {w : World} {b : Nat} {r : Gr} {ty : TypeId} (h : Blk w b ty (rrow r)) : RCells w b r := ⟨h.cell 0, h.cell 1, h.cell 2, h.cell 3⟩

set_option maxHeartbeats 1000000 in
theorem rf1_any (r : Gr) (n b c : Nat) (w : World) (hr : Blk w b 92 (rrow r)) (hl : Blk w c 3 #[.int .i64 ((n : Int) - 1)]) :
    Calls Tryz.prog 155 #[.pointer (some ⟨b, 0, none⟩), .pointer (some ⟨c, 0, none⟩)] w fun e w' => e = .returned (need (ruleA n r) 4).v ∧ Below w.heap.size w w' := by
  obtain ⟨r0, r1, r2, r3⟩ := rcells_of hr
  have l0 := hl.cell 0
  simp only [List.getElem?_toArray, List.getElem?_cons_zero] at l0
  have hrl := hr.lt
  have hll := hl.lt
  clear hr hl
  have h1 := bet_is r.gate 0 ((n : Int) - 1)
  have h2 := bet_is r.other 0 ((n : Int) - 1)
  have hf : ruleA n r = (betw r.gate 0 ((n : Int) - 1) && betw r.other 0 ((n : Int) - 1)) := rfl
  rw [hf]
  clear hf
  generalize (n : Int) - 1 = m at *
  cases e1 : betw r.gate 0 m
  · have H1 := Lib.hid (h1 _ e1)
    clear h1 h2 e1
    go_enter Tryz.func155, Tryz.ntmps155
    go_wp2_with fail
    refine (H1.out _).mono ?_
    rintro e w' ⟨rfl, rfl⟩
    go_wp2_with fail
    refine (need_any false 4 _).mono ?_
    rintro e w1 ⟨rfl, hb1⟩
    obtain ⟨hc1, hf1⟩ := bcell hb1; have hz1 := hb1.size; (try simp at hz1)
    go_wp2
    exact bodyPost_ret (v := (need false 4).v) (by simp [results, Tryz.results155, go_sem, hc1] <;> omega) rfl ⟨by simp, (by repeat (first | exact Below.refl _ _ | assumption | (refine Below.setCell ?_ (by first | omega | (simp; done) | (simp; omega)) _) | (refine Below.alloc ?_ (by first | omega | (simp; done) | (simp; omega)) _) | refine Below.drew ?_ | (refine below_thru ?_ (by assumption) (by first | omega | (simp; done) | (simp; omega))) | refine below_drewN ?_ _))⟩
  · have H1 := Lib.hid (h1 _ e1)
    have H2 := Lib.hid (h2 _ rfl)
    clear h1 h2 e1
    go_enter Tryz.func155, Tryz.ntmps155
    go_wp2_with fail
    refine (H1.out _).mono ?_
    rintro e w' ⟨rfl, rfl⟩
    go_wp2_with fail
    refine (H2.out _).mono ?_
    rintro e w' ⟨rfl, rfl⟩
    go_wp2_with fail
    refine (need_any _ 4 _).mono ?_
    rintro e w1 ⟨rfl, hb1⟩
    obtain ⟨hc1, hf1⟩ := bcell hb1; have hz1 := hb1.size; (try simp at hz1)
    go_wp2
    exact bodyPost_ret (v := (need (betw r.other 0 m) 4).v) (by simp [results, Tryz.results155, go_sem, hc1] <;> omega) rfl ⟨by simp, (by repeat (first | exact Below.refl _ _ | assumption | (refine Below.setCell ?_ (by first | omega | (simp; done) | (simp; omega)) _) | (refine Below.alloc ?_ (by first | omega | (simp; done) | (simp; omega)) _) | refine Below.drew ?_ | (refine below_thru ?_ (by assumption) (by first | omega | (simp; done) | (simp; omega))) | refine below_drewN ?_ _))⟩
set_option maxHeartbeats 1000000 in
theorem rf2_any (r : Gr) (b : Nat) (w : World) (hr : Blk w b 92 (rrow r)) :
    Calls Tryz.prog 156 #[.pointer (some ⟨b, 0, none⟩)] w fun e w' => e = .returned (need (ruleB r) 2).v ∧ Below w.heap.size w w' := by
  obtain ⟨r0, r1, r2, r3⟩ := rcells_of hr
  have hrl := hr.lt
  clear hr
  go_enter Tryz.func156, Tryz.ntmps156
  go_wp2_with fail
  refine (need_any (r.gate != r.other) 2 _).mono ?_
  rintro e w1 ⟨rfl, hb1⟩
  obtain ⟨hc1, hf1⟩ := bcell hb1; have hz1 := hb1.size; (try simp at hz1)
  go_wp2
  exact bodyPost_ret (v := (need (r.gate != r.other) 2).v) (by simp [results, Tryz.results156, go_sem, hc1] <;> omega) rfl ⟨by rfl, (by repeat (first | exact Below.refl _ _ | assumption | (refine Below.setCell ?_ (by first | omega | (simp; done) | (simp; omega)) _) | (refine Below.alloc ?_ (by first | omega | (simp; done) | (simp; omega)) _) | refine Below.drew ?_ | (refine below_thru ?_ (by assumption) (by first | omega | (simp; done) | (simp; omega))) | refine below_drewN ?_ _))⟩
set_option maxHeartbeats 1000000 in
theorem rf3_any (r : Gr) (b : Nat) (w : World) (hr : Blk w b 92 (rrow r)) :
    Calls Tryz.prog 157 #[.pointer (some ⟨b, 0, none⟩)] w fun e w' => e = .returned (need (ruleC r) 7).v ∧ Below w.heap.size w w' := by
  obtain ⟨r0, r1, r2, r3⟩ := rcells_of hr
  have hrl := hr.lt
  clear hr
  have hf : ruleC r = (decide (0 ≤ r.lo) && (decide (r.lo ≤ r.hi) && decide (r.hi ≤ 5000))) := rfl
  rw [hf]
  clear hf
  obtain ⟨rg, ro, rl, rh⟩ := r
  simp only at *
  by_cases h1 : 0 ≤ rl
  · by_cases h2 : rl ≤ rh
    · have d1 : decide (0 ≤ rl) = true := by simpa using h1
      have d2 : decide (rl ≤ rh) = true := by simpa using h2
      have Hd := Lib.hid (And.intro d1 d2)
      clear d1 d2
      go_enter Tryz.func157, Tryz.ntmps157
      go_wp2_with fail
      refine (need_any (decide (rh ≤ 5000)) 7 _).mono ?_
      rintro e w1 ⟨rfl, hb1⟩
      obtain ⟨hc1, hf1⟩ := bcell hb1; have hz1 := hb1.size; (try simp at hz1)
      go_wp2
      exact bodyPost_ret (v := (need (decide (rh ≤ 5000)) 7).v) (by simp [results, Tryz.results157, go_sem, hc1] <;> omega) rfl ⟨by rw [Hd.out.1, Hd.out.2]; simp, (by repeat (first | exact Below.refl _ _ | assumption | (refine Below.setCell ?_ (by first | omega | (simp; done) | (simp; omega)) _) | (refine Below.alloc ?_ (by first | omega | (simp; done) | (simp; omega)) _) | refine Below.drew ?_ | (refine below_thru ?_ (by assumption) (by first | omega | (simp; done) | (simp; omega))) | refine below_drewN ?_ _))⟩
    · have d1 : decide (0 ≤ rl) = true := by simpa using h1
      have d2 : decide (rl ≤ rh) = false := by simpa using h2
      have Hd := Lib.hid (And.intro d1 d2)
      clear d1
      go_enter Tryz.func157, Tryz.ntmps157
      go_wp2_with fail
      refine (need_any false 7 _).mono ?_
      rintro e w1 ⟨rfl, hb1⟩
      obtain ⟨hc1, hf1⟩ := bcell hb1; have hz1 := hb1.size; (try simp at hz1)
      go_wp2
      exact bodyPost_ret (v := (need false 7).v) (by simp [results, Tryz.results157, go_sem, hc1] <;> omega) rfl ⟨by rw [Hd.out.1, Hd.out.2]; simp, (by repeat (first | exact Below.refl _ _ | assumption | (refine Below.setCell ?_ (by first | omega | (simp; done) | (simp; omega)) _) | (refine Below.alloc ?_ (by first | omega | (simp; done) | (simp; omega)) _) | refine Below.drew ?_ | (refine below_thru ?_ (by assumption) (by first | omega | (simp; done) | (simp; omega))) | refine below_drewN ?_ _))⟩
  · have d1 : decide (0 ≤ rl) = false := by simpa using h1
    have Hd := Lib.hid d1
    go_enter Tryz.func157, Tryz.ntmps157
    go_wp2_with fail
    refine (need_any false 7 _).mono ?_
    rintro e w1 ⟨rfl, hb1⟩
    obtain ⟨hc1, hf1⟩ := bcell hb1; have hz1 := hb1.size; (try simp at hz1)
    go_wp2
    exact bodyPost_ret (v := (need false 7).v) (by simp [results, Tryz.results157, go_sem, hc1] <;> omega) rfl ⟨by rw [Hd.out]; simp, (by repeat (first | exact Below.refl _ _ | assumption | (refine Below.setCell ?_ (by first | omega | (simp; done) | (simp; omega)) _) | (refine Below.alloc ?_ (by first | omega | (simp; done) | (simp; omega)) _) | refine Below.drew ?_ | (refine below_thru ?_ (by assumption) (by first | omega | (simp; done) | (simp; omega))) | refine below_drewN ?_ _))⟩

set_option maxRecDepth 100000 in
set_option maxHeartbeats 1000000 in
theorem ruleFault_any (r : Gr) (gA : Option Addr) (n gc : Nat) (rv : Value) (w : World) (hn : n ≤ 1000) (hcell : rv.oneCell' = true) :
    Calls Tryz.prog 112 #[.agg #[.slice gA n gc, rv], .agg #[.int .i64 r.gate, .int .i64 r.other, .int .i64 r.lo, .int .i64 r.hi]] w fun e w' => e = .returned (ruleFt n r).v ∧ Below w.heap.size w w' := by
  have hGood : ∀ (W : World) (b0 b1 : Nat), Blk W b0 92 (rrow r) → Blk W b1 3 #[.int .i64 ((n : Int) - 1)] → Good W [⟨155, #[.pointer (some ⟨b0, 0, none⟩), .pointer (some ⟨b1, 0, none⟩)], need (ruleA n r) 4⟩, ⟨156, #[.pointer (some ⟨b0, 0, none⟩)], need (ruleB r) 2⟩, ⟨157, #[.pointer (some ⟨b0, 0, none⟩)], need (ruleC r) 7⟩] := by
    intro W b0 b1 h0 h1 k x hk _ W' hW
    match k, hk with
    | 0, hk => cases hk; exact rf1_any r n b0 b1 W' (h0.thru hW h0.lt) (h1.thru hW h1.lt)
    | 1, hk => cases hk; exact rf2_any r b0 W' (h0.thru hW h0.lt)
    | 2, hk => cases hk; exact rf3_any r b0 W' (h0.thru hW h0.lt)
    | k + 3, hk => simp at hk
  have HGood := Lib.hid hGood; clear hGood
  have j0 : (0 : Int) ≤ (n : Int) := Int.natCast_nonneg _
  have j1 : (n : Int) ≤ 1000 := by omega
  go_enter Tryz.func112, Tryz.ntmps112
  go_wp2_with fail
  refine (first_any _ (w.heap.size + 1 + 1 + 1 + 1) 0 3 [⟨155, #[.pointer (some ⟨w.heap.size + 1, 0, none⟩), .pointer (some ⟨w.heap.size + 1 + 1 + 1, 0, none⟩)], need (ruleA n r) 4⟩, ⟨156, #[.pointer (some ⟨w.heap.size + 1, 0, none⟩)], need (ruleB r) 2⟩, ⟨157, #[.pointer (some ⟨w.heap.size + 1, 0, none⟩)], need (ruleC r) 7⟩] rfl (by omega) (by simp) ?_ (HGood.out _ _ _ ?_ ?_) ?_).mono ?_
  · intro k c hk
    match k, hk with
    | 0, hk => cases hk; exact (Blk.new' _ _ _ (by simp)).cell 0
    | 1, hk => cases hk; exact (Blk.new' _ _ _ (by simp)).cell 1
    | 2, hk => cases hk; exact (Blk.new' _ _ _ (by simp)).cell 2
    | k + 3, hk => simp at hk
  · exact (((Blk.new' (w.alloc _) _ _ (by simp)).alloc _).alloc _).alloc _
  · exact (Blk.new' (((w.alloc _).alloc _).alloc _) _ _ (by simp)).alloc _
  · intro k c hk W
    match k, hk with
    | 0, hk => cases hk; show Sem.run Tryz.prog (callFunc _ _) W = _; kernel_rfl
    | 1, hk => cases hk; show Sem.run Tryz.prog (callFunc _ _) W = _; kernel_rfl
    | 2, hk => cases hk; show Sem.run Tryz.prog (callFunc _ _) W = _; kernel_rfl
    | k + 3, hk => simp at hk
  · rintro e w1 ⟨he, hb1⟩
    replace he : e = .returned (ruleFt n r).v := he
    subst he
    obtain ⟨hc1, hf1⟩ := bcell hb1; have hz1 := hb1.size; (try simp at hz1)
    go_wp2
    exact bodyPost_ret (v := (ruleFt n r).v) (by simp [results, Tryz.results112, go_sem, hc1] <;> omega) rfl ⟨by rfl, (by repeat (first | exact Below.refl _ _ | assumption | (refine Below.setCell ?_ (by first | omega | (simp; done) | (simp; omega)) _) | (refine Below.alloc ?_ (by first | omega | (simp; done) | (simp; omega)) _) | refine Below.drew ?_ | (refine below_thru ?_ (by assumption) (by first | omega | (simp; done) | (simp; omega))) | refine below_drewN ?_ _))⟩
end Go.Proofs.YtmepecplbfgakaaGreat
