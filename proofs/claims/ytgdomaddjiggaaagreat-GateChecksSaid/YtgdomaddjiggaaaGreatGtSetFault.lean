/- The faults of a rule. The faults of a set: setFault. -/
import Derived.Test.YtgdomaddjiggaaaGreatGtMember
namespace Go.Proofs.YtgdomaddjiggaaaGreat
open Go.RowKit
set_option linter.unusedSimpArgs false
set_option linter.unusedVariables false

def ruleA (n : Nat) (r : Gr) : Bool := betw r.gate 0 ((n : Int) - 1) && betw r.other 0 ((n : Int) - 1)
def ruleB (r : Gr) : Bool := r.gate != r.other
def ruleC (r : Gr) : Bool := decide (0 ≤ r.lo) && (decide (r.lo ≤ r.hi) && decide (r.hi ≤ 5000))
def ruleFt (n : Nat) (r : Gr) : Ft := firstF [need (ruleA n r) 4, need (ruleB r) 2, need (ruleC r) 7]
abbrev rrow (r : Gr) : Array Value := #[.int .i64 r.gate, .int .i64 r.other, .int .i64 r.lo, .int .i64 r.hi]
structure RCells (w : World) (b : Nat) (r : Gr) : Prop where
  c0 : w.cell? ⟨b, 0, none⟩ = some (.int .i64 r.gate)
  c1 : w.cell? ⟨b, 1, none⟩ = some (.int .i64 r.other)
  c2 : w.cell? ⟨b, 2, none⟩ = some (.int .i64 r.lo)
  c3 : w.cell? ⟨b, 3, none⟩ = some (.int .i64 r.hi)
theorem rcells_of {w : World} {b : Nat} {r : Gr} {ty : TypeId} (h : Blk w b ty (rrow r)) : RCells w b r := ⟨h.cell 0, h.cell 1, h.cell 2, h.cell 3⟩

set_option maxHeartbeats 1000000 in
theorem rf1_any (r : Gr) (n b c : Nat) (w : World) (hr : Blk w b 92 (rrow r)) (hl : Blk w c 3 #[.int .i64 ((n : Int) - 1)]) :
    Calls Tryz.prog 155 #[.pointer (some ⟨b, 0, none⟩), .pointer (some ⟨c, 0, none⟩)] w fun e w' => e = .returned (need (ruleA n r) 4).v ∧ Below w.heap.size w w' := by
  obtain ⟨r0, r1, r2, r3⟩ := rcells_of hr
  have l0 := hl.cell 0
  simp only [List.getElem?_toArray, List.getElem?_cons_zero] at l0
  have hrl := hr.lt
  have hll := hl.lt
  clear hr hl
  have h1 := bet_is r.gate 0 ((n : Int) - 1)
  have h2 := bet_is r.other 0 ((n : Int) - 1)
  have hf : ruleA n r = (betw r.gate 0 ((n : Int) - 1) && betw r.other 0 ((n : Int) - 1)) := rfl
  rw [hf]
  clear hf
  generalize (n : Int) - 1 = m at *
  cases e1 : betw r.gate 0 m
  · have H1 := Lib.hid (h1 _ e1)
    clear h1 h2 e1
    go_enter Tryz.func155, Tryz.ntmps155
    go_wp2_with fail
    refine (H1.out _).mono ?_
    rintro e w' ⟨rfl, rfl⟩
    go_wp2_with fail
    refine (need_any false 4 _).mono ?_
    rintro e w1 ⟨rfl, hb1⟩
    obtain ⟨hc1, hf1⟩ := bcell hb1; have hz1 := hb1.size; (try simp at hz1)
    go_wp2
    exact bodyPost_ret (v := (need false 4).v) (by simp [results, Tryz.results155, go_sem, hc1] <;> omega) rfl ⟨by simp, (by repeat (first | exact Below.refl _ _ | assumption | (refine Below.setCell ?_ (by first | omega | (simp; done) | (simp; omega)) _) | (refine Below.alloc ?_ (by first | omega | (simp; done) | (simp; omega)) _) | refine Below.drew ?_ | (refine below_thru ?_ (by assumption) (by first | omega | (simp; done) | (simp; omega))) | refine below_drewN ?_ _))⟩
  · have H1 := Lib.hid (h1 _ e1)
    have H2 := Lib.hid (h2 _ rfl)
    clear h1 h2 e1
    go_enter Tryz.func155, Tryz.ntmps155
    go_wp2_with fail
    refine (H1.out _).mono ?_
    rintro e w' ⟨rfl, rfl⟩
    go_wp2_with fail
    refine (H2.out _).mono ?_
    rintro e w' ⟨rfl, rfl⟩
    go_wp2_with fail
    refine (need_any _ 4 _).mono ?_
    rintro e w1 ⟨rfl, hb1⟩
    obtain ⟨hc1, hf1⟩ := bcell hb1; have hz1 := hb1.size; (try simp at hz1)
    go_wp2
    exact bodyPost_ret (v := (need (betw r.other 0 m) 4).v) (by simp [results, Tryz.results155, go_sem, hc1] <;> omega) rfl ⟨by simp, (by repeat (first | exact Below.refl _ _ | assumption | (refine Below.setCell ?_ (by first | omega | (simp; done) | (simp; omega)) _) | (refine Below.alloc ?_ (by first | omega | (simp; done) | (simp; omega)) _) | refine Below.drew ?_ | (refine below_thru ?_ (by assumption) (by first | omega | (simp; done) | (simp; omega))) | refine below_drewN ?_ _))⟩
set_option maxHeartbeats 1000000 in
theorem rf2_any (r : Gr) (b : Nat) (w : World) (hr : Blk w b 92 (rrow r)) :
    Calls Tryz.prog 156 #[.pointer (some ⟨b, 0, none⟩)] w fun e w' => e = .returned (need (ruleB r) 2).v ∧ Below w.heap.size w w' := by
  obtain ⟨r0, r1, r2, r3⟩ := rcells_of hr
  have hrl := hr.lt
  clear hr
  go_enter Tryz.func156, Tryz.ntmps156
  go_wp2_with fail
  refine (need_any (r.gate != r.other) 2 _).mono ?_
  rintro e w1 ⟨rfl, hb1⟩
  obtain ⟨hc1, hf1⟩ := bcell hb1; have hz1 := hb1.size; (try simp at hz1)
  go_wp2
  exact bodyPost_ret (v := (need (r.gate != r.other) 2).v) (by simp [results, Tryz.results156, go_sem, hc1] <;> omega) rfl ⟨by rfl, (by repeat (first | exact Below.refl _ _ | assumption | (refine Below.setCell ?_ (by first | omega | (simp; done) | (simp; omega)) _) | (refine Below.alloc ?_ (by first | omega | (simp; done) | (simp; omega)) _) | refine Below.drew ?_ | (refine below_thru ?_ (by assumption) (by first | omega | (simp; done) | (simp; omega))) | refine below_drewN ?_ _))⟩
set_option maxHeartbeats 1000000 in
theorem rf3_any (r : Gr) (b : Nat) (w : World) (hr : Blk w b 92 (rrow r)) :
    Calls Tryz.prog 157 #[.pointer (some ⟨b, 0, none⟩)] w fun e w' => e = .returned (need (ruleC r) 7).v ∧ Below w.heap.size w w' := by
  obtain ⟨r0, r1, r2, r3⟩ := rcells_of hr
  have hrl := hr.lt
  clear hr
  have hf : ruleC r = (decide (0 ≤ r.lo) && (decide (r.lo ≤ r.hi) && decide (r.hi ≤ 5000))) := rfl
  rw [hf]
  clear hf
  obtain ⟨rg, ro, rl, rh⟩ := r
  simp only at *
  by_cases h1 : 0 ≤ rl
  · by_cases h2 : rl ≤ rh
    · have d1 : decide (0 ≤ rl) = true := by simpa using h1
      have d2 : decide (rl ≤ rh) = true := by simpa using h2
      have Hd := Lib.hid (And.intro d1 d2)
      clear d1 d2
      go_enter Tryz.func157, Tryz.ntmps157
      go_wp2_with fail
      refine (need_any (decide (rh ≤ 5000)) 7 _).mono ?_
      rintro e w1 ⟨rfl, hb1⟩
      obtain ⟨hc1, hf1⟩ := bcell hb1; have hz1 := hb1.size; (try simp at hz1)
      go_wp2
      exact bodyPost_ret (v := (need (decide (rh ≤ 5000)) 7).v) (by simp [results, Tryz.results157, go_sem, hc1] <;> omega) rfl ⟨by rw [Hd.out.1, Hd.out.2]; simp, (by repeat (first | exact Below.refl _ _ | assumption | (refine Below.setCell ?_ (by first | omega | (simp; done) | (simp; omega)) _) | (refine Below.alloc ?_ (by first | omega | (simp; done) | (simp; omega)) _) | refine Below.drew ?_ | (refine below_thru ?_ (by assumption) (by first | omega | (simp; done) | (simp; omega))) | refine below_drewN ?_ _))⟩
    · have d1 : decide (0 ≤ rl) = true := by simpa using h1
      have d2 : decide (rl ≤ rh) = false := by simpa using h2
      have Hd := Lib.hid (And.intro d1 d2)
      clear d1
      go_enter Tryz.func157, Tryz.ntmps157
      go_wp2_with fail
      refine (need_any false 7 _).mono ?_
      rintro e w1 ⟨rfl, hb1⟩
      obtain ⟨hc1, hf1⟩ := bcell hb1; have hz1 := hb1.size; (try simp at hz1)
      go_wp2
      exact bodyPost_ret (v := (need false 7).v) (by simp [results, Tryz.results157, go_sem, hc1] <;> omega) rfl ⟨by rw [Hd.out.1, Hd.out.2]; simp, (by repeat (first | exact Below.refl _ _ | assumption | (refine Below.setCell ?_ (by first | omega | (simp; done) | (simp; omega)) _) | (refine Below.alloc ?_ (by first | omega | (simp; done) | (simp; omega)) _) | refine Below.drew ?_ | (refine below_thru ?_ (by assumption) (by first | omega | (simp; done) | (simp; omega))) | refine below_drewN ?_ _))⟩
  · have d1 : decide (0 ≤ rl) = false := by simpa using h1
    have Hd := Lib.hid d1
    go_enter Tryz.func157, Tryz.ntmps157
    go_wp2_with fail
    refine (need_any false 7 _).mono ?_
    rintro e w1 ⟨rfl, hb1⟩
    obtain ⟨hc1, hf1⟩ := bcell hb1; have hz1 := hb1.size; (try simp at hz1)
    go_wp2
    exact bodyPost_ret (v := (need false 7).v) (by simp [results, Tryz.results157, go_sem, hc1] <;> omega) rfl ⟨by rw [Hd.out]; simp, (by repeat (first | exact Below.refl _ _ | assumption | (refine Below.setCell ?_ (by first | omega | (simp; done) | (simp; omega)) _) | (refine Below.alloc ?_ (by first | omega | (simp; done) | (simp; omega)) _) | refine Below.drew ?_ | (refine below_thru ?_ (by assumption) (by first | omega | (simp; done) | (simp; omega))) | refine below_drewN ?_ _))⟩

set_option maxRecDepth 100000 in
set_option maxHeartbeats 1000000 in
theorem ruleFault_any (r : Gr) (gA : Option Addr) (n gc : Nat) (rv : Value) (w : World) (hn : n ≤ 1000) (hcell : rv.oneCell' = true) :
    Calls Tryz.prog 112 #[.agg #[.slice gA n gc, rv], .agg #[.int .i64 r.gate, .int .i64 r.other, .int .i64 r.lo, .int .i64 r.hi]] w fun e w' => e = .returned (ruleFt n r).v ∧ Below w.heap.size w w' := by
  have hGood : ∀ (W : World) (b0 b1 : Nat), Blk W b0 92 (rrow r) → Blk W b1 3 #[.int .i64 ((n : Int) - 1)] → Good W [⟨155, #[.pointer (some ⟨b0, 0, none⟩), .pointer (some ⟨b1, 0, none⟩)], need (ruleA n r) 4⟩, ⟨156, #[.pointer (some ⟨b0, 0, none⟩)], need (ruleB r) 2⟩, ⟨157, #[.pointer (some ⟨b0, 0, none⟩)], need (ruleC r) 7⟩] := by
    intro W b0 b1 h0 h1 k x hk _ W' hW
    match k, hk with
    | 0, hk => cases hk; exact rf1_any r n b0 b1 W' (h0.thru hW h0.lt) (h1.thru hW h1.lt)
    | 1, hk => cases hk; exact rf2_any r b0 W' (h0.thru hW h0.lt)
    | 2, hk => cases hk; exact rf3_any r b0 W' (h0.thru hW h0.lt)
    | k + 3, hk => simp at hk
  have HGood := Lib.hid hGood; clear hGood
  have j0 : (0 : Int) ≤ (n : Int) := Int.natCast_nonneg _
  have j1 : (n : Int) ≤ 1000 := by omega
  go_enter Tryz.func112, Tryz.ntmps112
  go_wp2_with fail
  refine (first_any _ (w.heap.size + 1 + 1 + 1 + 1) 0 3 [⟨155, #[.pointer (some ⟨w.heap.size + 1, 0, none⟩), .pointer (some ⟨w.heap.size + 1 + 1 + 1, 0, none⟩)], need (ruleA n r) 4⟩, ⟨156, #[.pointer (some ⟨w.heap.size + 1, 0, none⟩)], need (ruleB r) 2⟩, ⟨157, #[.pointer (some ⟨w.heap.size + 1, 0, none⟩)], need (ruleC r) 7⟩] rfl (by omega) (by simp) ?_ (HGood.out _ _ _ ?_ ?_) ?_).mono ?_
  · intro k c hk
    match k, hk with
    | 0, hk => cases hk; exact (Blk.new' _ _ _ (by simp)).cell 0
    | 1, hk => cases hk; exact (Blk.new' _ _ _ (by simp)).cell 1
    | 2, hk => cases hk; exact (Blk.new' _ _ _ (by simp)).cell 2
    | k + 3, hk => simp at hk
  · exact (((Blk.new' (w.alloc _) _ _ (by simp)).alloc _).alloc _).alloc _
  · exact (Blk.new' (((w.alloc _).alloc _).alloc _) _ _ (by simp)).alloc _
  · intro k c hk W
    match k, hk with
    | 0, hk => cases hk; show Sem.run Tryz.prog (callFunc _ _) W = _; kernel_rfl
    | 1, hk => cases hk; show Sem.run Tryz.prog (callFunc _ _) W = _; kernel_rfl
    | 2, hk => cases hk; show Sem.run Tryz.prog (callFunc _ _) W = _; kernel_rfl
    | k + 3, hk => simp at hk
  · rintro e w1 ⟨he, hb1⟩
    replace he : e = .returned (ruleFt n r).v := he
    subst he
    obtain ⟨hc1, hf1⟩ := bcell hb1; have hz1 := hb1.size; (try simp at hz1)
    go_wp2
    exact bodyPost_ret (v := (ruleFt n r).v) (by simp [results, Tryz.results112, go_sem, hc1] <;> omega) rfl ⟨by rfl, (by repeat (first | exact Below.refl _ _ | assumption | (refine Below.setCell ?_ (by first | omega | (simp; done) | (simp; omega)) _) | (refine Below.alloc ?_ (by first | omega | (simp; done) | (simp; omega)) _) | refine Below.drew ?_ | (refine below_thru ?_ (by assumption) (by first | omega | (simp; done) | (simp; omega))) | refine below_drewN ?_ _))⟩
end Go.Proofs.YtgdomaddjiggaaaGreat

namespace Go.Proofs.YtgdomaddjiggaaaGreat
open Go.RowKit
set_option linter.unusedSimpArgs false
set_option linter.unusedVariables false

/-- A set of gates: where its gates and its rules lie. -/
structure St where
  gA : Option Addr
  gn : Nat
  gc : Nat
  gs : List Ga
  rA : Option Addr
  rn : Nat
  rc : Nat
  rs : List Gr
abbrev St.v (l : St) : Value := .agg #[.slice l.gA l.gn l.gc, .slice l.rA l.rn l.rc]
structure St.At (l : St) (w : World) (B : Nat) : Prop where
  g : Gates w B l.gA l.gn l.gs
  r : Tab w B l.rA l.rn 4 (l.rs.map Gr.cells)
  gn : l.gn ≤ maxLen
  rn : l.rn ≤ maxLen
  gc : l.gn ≤ l.gc
theorem St.At.grow {l : St} {w w' : World} (h : l.At w w.heap.size) (hb : Below w.heap.size w w') : l.At w' w'.heap.size := ⟨h.g.grow hb, h.r.grow hb, h.gn, h.rn, h.gc⟩
theorem St.At.below {l : St} {w w' : World} {B : Nat} (h : l.At w B) (hb : Below B w w') : l.At w' B := ⟨h.g.below hb, h.r.below hb, h.gn, h.rn, h.gc⟩
theorem St.At.more {l : St} {w : World} {B B' : Nat} (h : l.At w B) (hB : B ≤ B') : l.At w B' := ⟨h.g.more hB, h.r.more hB, h.gn, h.rn, h.gc⟩
theorem St.At.rl {l : St} {w : World} {B : Nat} (h : l.At w B) : l.rs.length = l.rn := by have := h.r.1; simpa using this
/-- A set in a block of its own. -/
structure St.Box (l : St) (w : World) (b : Nat) : Prop where
  blk : Blk w b 25 #[.slice l.gA l.gn l.gc, .slice l.rA l.rn l.rc]
  at_ : l.At w w.heap.size
theorem St.Box.grow {l : St} {w w' : World} {b : Nat} (h : l.Box w b) (hb : Below w.heap.size w w') : l.Box w' b := ⟨h.blk.thru hb h.blk.lt, h.at_.grow hb⟩
def rAt (l : St) (i : Nat) : Gr := (l.rs[i]?).getD ⟨0, 0, 0, 0⟩
theorem rAt_of {l : St} {i : Nat} {r : Gr} (h : l.rs[i]? = some r) : rAt l i = r := by unfold rAt; rw [h]; rfl
def setL (l : St) : List Ft := [(need (betw l.gn 1 6) 3).in_ 1, (eachF (fun i => memberFt l.gs i) 0 l.gn).in_ 1, (need (decide ((l.rn : Int) ≤ 12)) 3).in_ 2, (eachF (fun i => ruleFt l.gn (rAt l i)) 0 l.rn).in_ 2]
def setFt (l : St) : Ft := firstF (setL l)
theorem uFault : ∃ fs, Tryz.prog.underlying 94 = some (.struct fs) := isStruct (by kernel_rfl)
theorem iFault : (Tryz.prog.info? 94).map (·.size) = some 3 := by kernel_rfl

set_option maxHeartbeats 1000000 in
theorem sf1_any (l : St) (b : Nat) (w : World) (hl : l.Box w b) :
    Calls Tryz.prog 104 #[.pointer (some ⟨b, 0, none⟩)] w fun e w' => e = .returned ((need (betw l.gn 1 6) 3).in_ 1).v ∧ Below w.heap.size w w' := by
  obtain ⟨s0, s1, _, _⟩ := hl.blk.two
  have hlt := hl.blk.lt
  clear hl
  go_enter Tryz.func104, Tryz.ntmps104
  go_wp2_with fail
  refine (between_any _ _ _ _).mono ?_
  rintro e w' ⟨rfl, rfl⟩
  go_wp2_with fail
  refine (need_any (betw l.gn 1 6) 3 _).mono ?_
  rintro e w1 ⟨rfl, hb1⟩
  obtain ⟨hc1, hf1⟩ := bcell hb1; have hz1 := hb1.size; (try simp at hz1)
  go_wp2_with fail
  refine (fault_in_any (need (betw l.gn 1 6) 3) 1 _).mono ?_
  rintro e w2 ⟨rfl, hb2⟩
  obtain ⟨hc2, hf2⟩ := bcell hb2; have hz2 := hb2.size; (try simp at hz2)
  have hl1 : w.heap.size < w1.heap.size := by omega
  go_wp2
  exact bodyPost_ret (v := ((need (betw l.gn 1 6) 3).in_ 1).v) (by simp [results, Tryz.results104, go_sem, hc1, hc2, hl1] <;> omega) rfl ⟨by rfl, (by repeat (first | exact Below.refl _ _ | assumption | (refine Below.setCell ?_ (by first | omega | (simp; done) | (simp; omega)) _) | (refine Below.alloc ?_ (by first | omega | (simp; done) | (simp; omega)) _) | refine Below.drew ?_ | (refine below_thru ?_ (by assumption) (by first | omega | (simp; done) | (simp; omega))) | refine below_drewN ?_ _))⟩
set_option maxHeartbeats 1000000 in
theorem sf3_any (l : St) (b : Nat) (w : World) (hl : l.Box w b) :
    Calls Tryz.prog 109 #[.pointer (some ⟨b, 0, none⟩)] w fun e w' => e = .returned ((need (decide ((l.rn : Int) ≤ 12)) 3).in_ 2).v ∧ Below w.heap.size w w' := by
  obtain ⟨s0, s1, _, _⟩ := hl.blk.two
  have hlt := hl.blk.lt
  have hrn := hl.at_.rn
  unfold maxLen at hrn
  clear hl
  go_enter Tryz.func109, Tryz.ntmps109
  go_wp2_with fail
  refine (need_any (decide ((l.rn : Int) ≤ 12)) 3 _).mono ?_
  rintro e w1 ⟨rfl, hb1⟩
  obtain ⟨hc1, hf1⟩ := bcell hb1; have hz1 := hb1.size; (try simp at hz1)
  go_wp2_with fail
  refine (fault_in_any (need (decide ((l.rn : Int) ≤ 12)) 3) 2 _).mono ?_
  rintro e w2 ⟨rfl, hb2⟩
  obtain ⟨hc2, hf2⟩ := bcell hb2; have hz2 := hb2.size; (try simp at hz2)
  have hl1 : w.heap.size < w1.heap.size := by omega
  go_wp2
  exact bodyPost_ret (v := ((need (decide ((l.rn : Int) ≤ 12)) 3).in_ 2).v) (by simp [results, Tryz.results109, go_sem, hc1, hc2, hl1] <;> omega) rfl ⟨by rfl, (by repeat (first | exact Below.refl _ _ | assumption | (refine Below.setCell ?_ (by first | omega | (simp; done) | (simp; omega)) _) | (refine Below.alloc ?_ (by first | omega | (simp; done) | (simp; omega)) _) | refine Below.drew ?_ | (refine below_thru ?_ (by assumption) (by first | omega | (simp; done) | (simp; omega))) | refine below_drewN ?_ _))⟩
set_option maxHeartbeats 1000000 in
theorem sf21_any (l : St) (b i : Nat) (w : World) (hl : l.Box w b) (hi : i < l.gn) (hn : l.gn ≤ 1000) :
    Calls Tryz.prog 107 #[.int .i64 (i : Int), .pointer (some ⟨b, 0, none⟩)] w fun e w' => e = .returned (memberFt l.gs i).v ∧ Below w.heap.size w w' := by
  obtain ⟨s0, s1, _, _⟩ := hl.blk.two
  have hlt := hl.blk.lt
  have HM := Lib.hid (fun (W : World) (hW : Below w.heap.size w W) => memberFault_any l.gs l.gA l.gn l.gc i W (hl.at_.g.grow hW) hi hn hl.at_.gc)
  clear hl
  generalize memberFt l.gs i = f at *
  go_enter Tryz.func107, Tryz.ntmps107
  go_wp2_with fail
  refine (HM.out _ (by repeat (first | exact Below.refl _ _ | assumption | (refine Below.setCell ?_ (by first | omega | (simp; done) | (simp; omega)) _) | (refine Below.alloc ?_ (by first | omega | (simp; done) | (simp; omega)) _) | refine Below.drew ?_ | (refine below_thru ?_ (by assumption) (by first | omega | (simp; done) | (simp; omega))) | refine below_drewN ?_ _))).mono ?_
  rintro e w1 ⟨rfl, hb1⟩
  obtain ⟨hc1, hf1⟩ := bcell hb1; have hz1 := hb1.size; (try simp at hz1)
  go_wp2
  exact bodyPost_ret (v := f.v) (by simp [results, Tryz.results107, go_sem, hc1] <;> omega) rfl ⟨by rfl, (by repeat (first | exact Below.refl _ _ | assumption | (refine Below.setCell ?_ (by first | omega | (simp; done) | (simp; omega)) _) | (refine Below.alloc ?_ (by first | omega | (simp; done) | (simp; omega)) _) | refine Below.drew ?_ | (refine below_thru ?_ (by assumption) (by first | omega | (simp; done) | (simp; omega))) | refine below_drewN ?_ _))⟩
set_option maxHeartbeats 1000000 in
theorem sf2_any (l : St) (b : Nat) (w : World) (hl : l.Box w b) (hn : l.gn ≤ 1000) :
    Calls Tryz.prog 106 #[.pointer (some ⟨b, 0, none⟩)] w fun e w' => e = .returned ((eachF (fun i => memberFt l.gs i) 0 l.gn).in_ 1).v ∧ Below w.heap.size w w' := by
  have HE := Lib.hid (fun (W : World) (hW : l.Box W b) => each_any W l.gn hn 107 (.pointer (some ⟨b, 0, none⟩)) (fun i => memberFt l.gs i) (fun k W' => by show Sem.run Tryz.prog (callFunc _ _) W' = _; kernel_rfl) (fun k hk _ W' hb => sf21_any l b k W' (hW.grow hb) hk hn))
  have Hl := Lib.hid hl
  obtain ⟨s0, s1, _, _⟩ := hl.blk.two
  have hlt := hl.blk.lt
  clear hl
  generalize eachF (fun i => memberFt l.gs i) 0 l.gn = ef at *
  go_enter Tryz.func106, Tryz.ntmps106
  go_wp2_with fail
  refine (HE.out _ (Hl.out.grow (by repeat (first | exact Below.refl _ _ | assumption | (refine Below.setCell ?_ (by first | omega | (simp; done) | (simp; omega)) _) | (refine Below.alloc ?_ (by first | omega | (simp; done) | (simp; omega)) _) | refine Below.drew ?_ | (refine below_thru ?_ (by assumption) (by first | omega | (simp; done) | (simp; omega))) | refine below_drewN ?_ _)))).mono ?_
  rintro e w1 ⟨rfl, hb1⟩
  obtain ⟨hc1, hf1⟩ := bcell hb1; have hz1 := hb1.size; (try simp at hz1)
  go_wp2_with fail
  refine (fault_in_any ef 1 _).mono ?_
  rintro e w2 ⟨rfl, hb2⟩
  obtain ⟨hc2, hf2⟩ := bcell hb2; have hz2 := hb2.size; (try simp at hz2)
  have hl1 : w.heap.size < w1.heap.size := by omega
  go_wp2
  exact bodyPost_ret (v := (ef.in_ 1).v) (by simp [results, Tryz.results106, go_sem, hc1, hc2, hl1] <;> omega) rfl ⟨by rfl, (by repeat (first | exact Below.refl _ _ | assumption | (refine Below.setCell ?_ (by first | omega | (simp; done) | (simp; omega)) _) | (refine Below.alloc ?_ (by first | omega | (simp; done) | (simp; omega)) _) | refine Below.drew ?_ | (refine below_thru ?_ (by assumption) (by first | omega | (simp; done) | (simp; omega))) | refine below_drewN ?_ _))⟩

/-- What the check of a rule reads. -/
structure RfR (W : World) (b : Nat) (gv rv : Value) (rb ro : Nat) (r : Gr) : Prop where
  st : Blk W b 25 #[gv, rv]
  c0 : W.cell? ⟨rb, ro, none⟩ = some (.int .i64 r.gate)
  c1 : W.cell? ⟨rb, ro + 1, none⟩ = some (.int .i64 r.other)
  c2 : W.cell? ⟨rb, ro + 2, none⟩ = some (.int .i64 r.lo)
  c3 : W.cell? ⟨rb, ro + 3, none⟩ = some (.int .i64 r.hi)
theorem RfR.below {W W' : World} {b rb ro : Nat} {gv rv : Value} {r : Gr} (h : RfR W b gv rv rb ro r) (hb : Below W.heap.size W W') : RfR W' b gv rv rb ro r := by
  have k : ∀ (q : Addr) (v : Value), W.cell? q = some v → W'.cell? q = some v := fun q v hq => (hb.cell (World.block_lt_of_cell? W q hq)).trans hq
  exact ⟨h.st.thru hb h.st.lt, k _ _ h.c0, k _ _ h.c1, k _ _ h.c2, k _ _ h.c3⟩
theorem RfR.drew {W : World} {b rb ro : Nat} {gv rv : Value} {r : Gr} (h : RfR W b gv rv rb ro r) : RfR W.drew b gv rv rb ro r := ⟨h.st, h.c0, h.c1, h.c2, h.c3⟩
theorem RfR.sets {W : World} {b rb ro : Nat} {gv rv : Value} {r : Gr} (h : RfR W b gv rv rb ro r) {d : Nat} (h1 : b ≠ d) (h2 : rb ≠ d) (vs : List Value) (o : Nat) : RfR (W.setCells d o vs) b gv rv rb ro r := by
  have k : ∀ (q : Addr) (v : Value), q.block ≠ d → W.cell? q = some v → (W.setCells d o vs).cell? q = some v := fun q v hq h => (World.cell?_setCells_out d vs o W q (fun hb _ => absurd hb hq)).trans h
  exact ⟨h.st.fars h1 _ _, k _ _ h2 h.c0, k _ _ h2 h.c1, k _ _ h2 h.c2, k _ _ h2 h.c3⟩

set_option maxRecDepth 100000 in
set_option maxHeartbeats 2000000 in
theorem sf41_any (l : St) (b i : Nat) (w : World) (hl : l.Box w b) (hi : i < l.rn) (hn : l.gn ≤ 1000) (hrn : l.rn ≤ 1000) :
    Calls Tryz.prog 111 #[.int .i64 (i : Int), .pointer (some ⟨b, 0, none⟩)] w fun e w' => e = .returned (ruleFt l.gn (rAt l i)).v ∧ Below w.heap.size w w' := by
  obtain ⟨r, hri⟩ := get_lt hl.at_.rl hi
  obtain ⟨rb, off, hA, hb, c0, c1, c2, c3⟩ := hl.at_.r.four (k := i) (x := .int .i64 r.gate) (y := .int .i64 r.other) (z := .int .i64 r.lo) (u := .int .i64 r.hi) (by simp [hri])
  rw [rAt_of hri]
  have hst := hl.blk
  rw [hA] at hst
  have hlt := hst.lt
  have hR : RfR w b (.slice l.gA l.gn l.gc) (.slice (some ⟨rb, off, none⟩) l.rn l.rc) rb (off + i * 4) r := ⟨hst, c0, c1, c2, c3⟩
  have hR1 : RfR (w.alloc (.cells #[.int .i64 0, .int .i64 0, .int .i64 0] 94)).drew b (.slice l.gA l.gn l.gc) (.slice (some ⟨rb, off, none⟩) l.rn l.rc) rb (off + i * 4) r := (hR.below (by repeat (first | exact Below.refl _ _ | assumption | (refine Below.setCell ?_ (by first | omega | (simp; done) | (simp; omega)) _) | (refine Below.alloc ?_ (by first | omega | (simp; done) | (simp; omega)) _) | refine Below.drew ?_ | (refine below_thru ?_ (by assumption) (by first | omega | (simp; done) | (simp; omega))) | refine below_drewN ?_ _))).drew
  have j0 : (0 : Int) ≤ (i : Int) := Int.natCast_nonneg _
  have j1 : (i : Int) < (l.rn : Int) := by omega
  have HF := Lib.hid (fun W => ruleFault_any r l.gA l.gn l.gc (.slice (some ⟨rb, off, none⟩) l.rn l.rc) W hn rfl)
  generalize ruleFt l.gn r = f at *
  obtain ⟨s0, s1, _, _⟩ := hst.two
  clear hl hA hri c0 c1 c2 c3 hR hst
  go_enter Tryz.func111, Tryz.ntmps111
  go_wp2_with fail
  refine wp_region_held (S := fun W' => RfR W' b (.slice l.gA l.gn l.gc) (.slice (some ⟨rb, off, none⟩) l.rn l.rc) rb (off + i * 4) r) (by kernel_rfl) (by exact hR1) (fun hHeld => ?_)
  refine wpAnyH_take (i := 0) (v := ?_) rfl (by kernel_rfl) (by kernel_rfl) (by kernel_rfl) (fun _ _ _ h => h) (Or.inl ⟨by rfl, ?_⟩) hHeld ?_
  rotate_left
  · intro w hSw; (try dsimp only at hSw); obtain ⟨st, y0, y1, y2, y3⟩ := hSw; have s0 := st.cell 0; have s1 := st.cell 1; simp only [List.getElem?_toArray, List.getElem?_cons_zero, List.getElem?_cons_succ] at s0 s1; go_simp; (try with_reducible rfl)
  (try simp only [Act.put, List.setIfInBounds_toArray, List.set_cons_zero, List.set_cons_succ])
  refine wpAnyH_take (i := 1) (v := ?_) rfl (by kernel_rfl) (by kernel_rfl) (by kernel_rfl) (fun _ _ _ h => h) (Or.inl ⟨by rfl, ?_⟩) hHeld ?_
  rotate_left
  · intro w hSw; (try dsimp only at hSw); obtain ⟨st, y0, y1, y2, y3⟩ := hSw; have s0 := st.cell 0; have s1 := st.cell 1; simp only [List.getElem?_toArray, List.getElem?_cons_zero, List.getElem?_cons_succ] at s0 s1; go_simp; (try with_reducible rfl)
  (try simp only [Act.put, List.setIfInBounds_toArray, List.set_cons_zero, List.set_cons_succ])
  refine wpAnyH_take (i := 2) (v := ?_) rfl (by kernel_rfl) (by kernel_rfl) (by kernel_rfl) (fun _ _ _ h => h) (Or.inl ⟨by rfl, ?_⟩) hHeld ?_
  rotate_left
  · intro w hSw; (try dsimp only at hSw); obtain ⟨st, y0, y1, y2, y3⟩ := hSw; have s0 := st.cell 0; have s1 := st.cell 1; simp only [List.getElem?_toArray, List.getElem?_cons_zero, List.getElem?_cons_succ] at s0 s1; go_simp; (try with_reducible rfl)
  (try simp only [Act.put, List.setIfInBounds_toArray, List.set_cons_zero, List.set_cons_succ])
  refine wpAnyH_take (i := 3) (v := ?_) rfl (by kernel_rfl) (by kernel_rfl) (by kernel_rfl) (fun _ _ _ h => h) (Or.inl ⟨by rfl, ?_⟩) hHeld ?_
  rotate_left
  · intro w hSw; (try dsimp only at hSw); obtain ⟨st, y0, y1, y2, y3⟩ := hSw; have s0 := st.cell 0; have s1 := st.cell 1; simp only [List.getElem?_toArray, List.getElem?_cons_zero, List.getElem?_cons_succ] at s0 s1; go_simp; (try with_reducible rfl)
  (try simp only [Act.put, List.setIfInBounds_toArray, List.set_cons_zero, List.set_cons_succ])
  refine wpAnyH_take (i := 4) (v := ?_) rfl (by kernel_rfl) (by kernel_rfl) (by kernel_rfl) (fun _ _ _ h => h) (Or.inl ⟨by rfl, ?_⟩) hHeld ?_
  rotate_left
  · intro w hSw; (try dsimp only at hSw); obtain ⟨st, y0, y1, y2, y3⟩ := hSw; have s0 := st.cell 0; have s1 := st.cell 1; simp only [List.getElem?_toArray, List.getElem?_cons_zero, List.getElem?_cons_succ] at s0 s1; go_simp; (try with_reducible rfl)
  (try simp only [Act.put, List.setIfInBounds_toArray, List.set_cons_zero, List.set_cons_succ])
  refine wpAnyH_take (i := 5) (v := ?_) rfl (by kernel_rfl) (by kernel_rfl) (by kernel_rfl) (fun _ _ _ h => h) (Or.inl ⟨by rfl, ?_⟩) hHeld ?_
  rotate_left
  · intro w hSw; (try dsimp only at hSw); obtain ⟨st, y0, y1, y2, y3⟩ := hSw; have s0 := st.cell 0; have s1 := st.cell 1; simp only [List.getElem?_toArray, List.getElem?_cons_zero, List.getElem?_cons_succ] at s0 s1; go_simp; (try with_reducible rfl)
  (try simp only [Act.put, List.setIfInBounds_toArray, List.set_cons_zero, List.set_cons_succ])
  refine wpAnyH_ready (rs := [6]) (by kernel_rfl) (by simp) ?_
  refine AllReadyH.cons rfl (fun K hK => ?_) AllReadyH.nil
  go_simp
  refine (HF.out _).mono ?_
  rintro e w1 ⟨rfl, hb1⟩; have hz1 := hb1.size; (try simp at hz1)
  (try dsimp only)
  refine hK.out _ _ (by exact hHeld.below hb1) (fun hHeld => ?_)
  clear hK K
  (try simp only [Act.put, List.setIfInBounds_toArray, List.set_cons_zero, List.set_cons_succ])
  have hF1 : Blk w1 w.heap.size 94 #[.int .i64 0, .int .i64 0, .int .i64 0] := Blk.thru (by (repeat (first | assumption | exact Blk.new _ _ _ | (refine Blk.new' _ _ _ ?_; (simp; done)) | refine Blk.drew ?_ | refine Blk.alloc ?_ _ | (refine Blk.fars ?_ ?_ _ _; rotate_left; (dsimp only; omega)) | (refine Blk.far ?_ ?_ _; rotate_left; (first | (dsimp only; omega) | (simp; done) | (simp; omega) | omega))))) hb1 (by simp)
  have hB1 : Below w.heap.size w w1 := (by repeat (first | exact Below.refl _ _ | assumption | (refine Below.setCell ?_ (by first | omega | (simp; done) | (simp; omega)) _) | (refine Below.alloc ?_ (by first | omega | (simp; done) | (simp; omega)) _) | refine Below.drew ?_ | (refine below_thru ?_ (by assumption) (by first | omega | (simp; done) | (simp; omega))) | refine below_drewN ?_ _))
  (try simp only [List.getElem_toArray, List.getElem_cons_zero, List.getElem_cons_succ, Act.put, List.setIfInBounds_toArray, List.set_cons_zero, List.set_cons_succ])
  refine wpAnyH_ready (rs := [7]) (by kernel_rfl) (by simp) ?_
  refine AllReadyH.cons rfl (fun K hK => ?_) AllReadyH.nil
  refine wanted_of (by rfl) (wp_store_mid (P := Tryz.prog) 94 _ _ rfl (w.heap.size) 0 #[.int .i64 f.part, .int .i64 f.at_, .int .i64 f.e] rfl rfl (Blk.there hF1 (by show 0 + 3 ≤ 3; omega)) (by kernel_rfl) (by simp [Value.oneCell']) ?_)
  refine hK.out _ _ (by exact hHeld.sets (by omega) (by omega) _ _) (fun hHeld => ?_)
  clear hK K
  (try simp only [Act.put, List.setIfInBounds_toArray, List.set_cons_zero, List.set_cons_succ])
  refine wpAnyH_done (by kernel_rfl) ?_ _
  (try simp only [List.getElem_toArray, List.getElem_cons_zero, List.getElem_cons_succ, Act.put, List.setIfInBounds_toArray, List.set_cons_zero, List.set_cons_succ])
  have hFe : Blk (w1.setCells w.heap.size 0 (#[.int .i64 f.part, .int .i64 f.at_, .int .i64 f.e] : Array Value).toList) w.heap.size 94 #[.int .i64 f.part, .int .i64 f.at_, .int .i64 f.e] := Blk.sets hF1 _ _
  have hBe : Below w.heap.size w (w1.setCells w.heap.size 0 (#[.int .i64 f.part, .int .i64 f.at_, .int .i64 f.e] : Array Value).toList) := below_sets hB1 (Nat.le_refl _) _ _
  obtain ⟨fs, hu⟩ := uFault
  go_wp2
  exact bodyPost_ret (results_cell_row rfl _ _ w.heap.size 94 #[.int .i64 f.part, .int .i64 f.at_, .int .i64 f.e] (0, 0) _ rfl hFe hu rfl iFault) rfl ⟨rfl, hBe⟩
set_option maxHeartbeats 1000000 in
theorem sf4_any (l : St) (b : Nat) (w : World) (hl : l.Box w b) (hn : l.gn ≤ 1000) (hrn : l.rn ≤ 1000) :
    Calls Tryz.prog 110 #[.pointer (some ⟨b, 0, none⟩)] w fun e w' => e = .returned ((eachF (fun i => ruleFt l.gn (rAt l i)) 0 l.rn).in_ 2).v ∧ Below w.heap.size w w' := by
  have HE := Lib.hid (fun (W : World) (hW : l.Box W b) => each_any W l.rn hrn 111 (.pointer (some ⟨b, 0, none⟩)) (fun i => ruleFt l.gn (rAt l i)) (fun k W' => by show Sem.run Tryz.prog (callFunc _ _) W' = _; kernel_rfl) (fun k hk _ W' hb => sf41_any l b k W' (hW.grow hb) hk hn hrn))
  have Hl := Lib.hid hl
  obtain ⟨s0, s1, _, _⟩ := hl.blk.two
  have hlt := hl.blk.lt
  clear hl
  generalize eachF (fun i => ruleFt l.gn (rAt l i)) 0 l.rn = ef at *
  go_enter Tryz.func110, Tryz.ntmps110
  go_wp2_with fail
  refine (HE.out _ (Hl.out.grow (by repeat (first | exact Below.refl _ _ | assumption | (refine Below.setCell ?_ (by first | omega | (simp; done) | (simp; omega)) _) | (refine Below.alloc ?_ (by first | omega | (simp; done) | (simp; omega)) _) | refine Below.drew ?_ | (refine below_thru ?_ (by assumption) (by first | omega | (simp; done) | (simp; omega))) | refine below_drewN ?_ _)))).mono ?_
  rintro e w1 ⟨rfl, hb1⟩
  obtain ⟨hc1, hf1⟩ := bcell hb1; have hz1 := hb1.size; (try simp at hz1)
  go_wp2_with fail
  refine (fault_in_any ef 2 _).mono ?_
  rintro e w2 ⟨rfl, hb2⟩
  obtain ⟨hc2, hf2⟩ := bcell hb2; have hz2 := hb2.size; (try simp at hz2)
  have hl1 : w.heap.size < w1.heap.size := by omega
  go_wp2
  exact bodyPost_ret (v := (ef.in_ 2).v) (by simp [results, Tryz.results110, go_sem, hc1, hc2, hl1] <;> omega) rfl ⟨by rfl, (by repeat (first | exact Below.refl _ _ | assumption | (refine Below.setCell ?_ (by first | omega | (simp; done) | (simp; omega)) _) | (refine Below.alloc ?_ (by first | omega | (simp; done) | (simp; omega)) _) | refine Below.drew ?_ | (refine below_thru ?_ (by assumption) (by first | omega | (simp; done) | (simp; omega))) | refine below_drewN ?_ _))⟩

def setC (l : St) (p : Value) : List Chk := [⟨104, #[p], (need (betw l.gn 1 6) 3).in_ 1⟩, ⟨106, #[p], (eachF (fun i => memberFt l.gs i) 0 l.gn).in_ 1⟩, ⟨109, #[p], (need (decide ((l.rn : Int) ≤ 12)) 3).in_ 2⟩, ⟨110, #[p], (eachF (fun i => ruleFt l.gn (rAt l i)) 0 l.rn).in_ 2⟩]
theorem setC_good (l : St) (b : Nat) (w : World) (hl : l.Box w b) : Good w (setC l (.pointer (some ⟨b, 0, none⟩))) := by
  intro k c hk hprev W hW
  have hb := hl.grow hW
  match k, hk with
  | 0, hk => cases hk; exact sf1_any l b W hb
  | 1, hk =>
    cases hk
    have h2 : betw l.gn 1 6 = true := need_e (c := 3) (by omega) (hprev 0 _ (by omega) rfl)
    simp only [betw, Bool.and_eq_true, decide_eq_true_eq] at h2
    exact sf2_any l b W hb (by omega)
  | 2, hk => cases hk; exact sf3_any l b W hb
  | 3, hk =>
    cases hk
    have h2 : betw l.gn 1 6 = true := need_e (c := 3) (by omega) (hprev 0 _ (by omega) rfl)
    have h3 : decide ((l.rn : Int) ≤ 12) = true := need_e (c := 3) (by omega) (hprev 2 _ (by omega) rfl)
    simp only [betw, Bool.and_eq_true, decide_eq_true_eq] at h2 h3
    exact sf4_any l b W hb (by omega) (by omega)
  | k + 4, hk => simp [setC] at hk
theorem setC_plain (l : St) (p : Value) : ∀ (k : Nat) (c : Chk), (setC l p)[k]? = some c → Plain c.f c.caps := by
  intro k c hk W
  match k, hk with
  | 0, hk => cases hk; show Sem.run Tryz.prog (callFunc _ _) W = _; kernel_rfl
  | 1, hk => cases hk; show Sem.run Tryz.prog (callFunc _ _) W = _; kernel_rfl
  | 2, hk => cases hk; show Sem.run Tryz.prog (callFunc _ _) W = _; kernel_rfl
  | 3, hk => cases hk; show Sem.run Tryz.prog (callFunc _ _) W = _; kernel_rfl
  | k + 4, hk => simp [setC] at hk
set_option maxRecDepth 100000 in
set_option maxHeartbeats 1000000 in
theorem setFault_any (l : St) (w : World) (hl : l.At w w.heap.size) :
    Calls Tryz.prog 50 #[l.v] w fun e w' => e = .returned (setFt l).v ∧ Below w.heap.size w w' := by
  have Hl := Lib.hid hl; clear hl
  have HGood := Lib.hid (fun W b (h : l.Box W b) => setC_good l b W h)
  go_enter Tryz.func50, Tryz.ntmps50
  go_wp2_with fail
  refine (first_any _ (w.heap.size + 1 + 1) 0 4 (setC l (.pointer (some ⟨w.heap.size, 0, none⟩))) rfl (by omega) (by simp) ?_ (HGood.out _ _ ⟨?_, ?_⟩) (setC_plain l _)).mono ?_
  · intro k c hk
    match k, hk with
    | 0, hk => cases hk; exact (Blk.new' _ _ _ (by simp)).cell 0
    | 1, hk => cases hk; exact (Blk.new' _ _ _ (by simp)).cell 1
    | 2, hk => cases hk; exact (Blk.new' _ _ _ (by simp)).cell 2
    | 3, hk => cases hk; exact (Blk.new' _ _ _ (by simp)).cell 3
    | k + 4, hk => simp [setC] at hk
  · exact ((Blk.new w _ _).alloc _).alloc _
  · exact Hl.out.grow (by repeat (first | exact Below.refl _ _ | assumption | (refine Below.setCell ?_ (by first | omega | (simp; done) | (simp; omega)) _) | (refine Below.alloc ?_ (by first | omega | (simp; done) | (simp; omega)) _) | refine Below.drew ?_ | (refine below_thru ?_ (by assumption) (by first | omega | (simp; done) | (simp; omega))) | refine below_drewN ?_ _))
  · rintro e w1 ⟨he, hb1⟩
    replace he : e = .returned (setFt l).v := he
    subst he
    obtain ⟨hc1, hf1⟩ := bcell hb1; have hz1 := hb1.size; (try simp at hz1)
    go_wp2
    exact bodyPost_ret (v := (setFt l).v) (by simp [results, Tryz.results50, go_sem, hc1] <;> omega) rfl ⟨by rfl, (by repeat (first | exact Below.refl _ _ | assumption | (refine Below.setCell ?_ (by first | omega | (simp; done) | (simp; omega)) _) | (refine Below.alloc ?_ (by first | omega | (simp; done) | (simp; omega)) _) | refine Below.drew ?_ | (refine below_thru ?_ (by assumption) (by first | omega | (simp; done) | (simp; omega))) | refine below_drewN ?_ _))⟩
/-- What a set without a fault is. -/
structure St.Ok (l : St) : Prop where
  n0 : 1 ≤ l.gn
  n1 : l.gn ≤ 6
  rn : l.rn ≤ 12
  g : ∀ g ∈ l.gs, g.Ok
  r : ∀ r ∈ l.rs, (0 ≤ r.gate ∧ r.gate < l.gn) ∧ (0 ≤ r.other ∧ r.other < l.gn) ∧ r.gate ≠ r.other ∧ 0 ≤ r.lo ∧ r.lo ≤ r.hi ∧ r.hi ≤ 5000
theorem setFt_ok (l : St) (w : World) (B : Nat) (hl : l.At w B) (h : (setFt l).e = 0) : l.Ok := by
  have hall := first0 _ h
  have h1 := need_e (b := betw l.gn 1 6) (c := 3) (by omega) (hall ((need (betw l.gn 1 6) 3).in_ 1) (by simp [setL]))
  have h2 := each0 _ _ _ (show (eachF (fun i => memberFt l.gs i) 0 l.gn).e = 0 from hall ((eachF (fun i => memberFt l.gs i) 0 l.gn).in_ 1) (by simp [setL]))
  have h3 := need_e (b := decide ((l.rn : Int) ≤ 12)) (c := 3) (by omega) (hall ((need (decide ((l.rn : Int) ≤ 12)) 3).in_ 2) (by simp [setL]))
  have h4 := each0 _ _ _ (show (eachF (fun i => ruleFt l.gn (rAt l i)) 0 l.rn).e = 0 from hall ((eachF (fun i => ruleFt l.gn (rAt l i)) 0 l.rn).in_ 2) (by simp [setL]))
  simp only [betw, Bool.and_eq_true, decide_eq_true_eq] at h1 h3
  refine ⟨by omega, by omega, by omega, fun g hg => ?_, fun r hr => ?_⟩
  · obtain ⟨i, hi, rfl⟩ := List.getElem_of_mem hg
    have hgl := hl.g.len
    have := h2 i (by omega) (by omega)
    have := first0 _ this (gateF (gAt l.gs i)) (by simp)
    rw [gAt_of (List.getElem?_eq_getElem hi)] at this
    exact gateF_ok _ w B (hl.g.at_ _ (List.getElem_mem hi)) this
  · obtain ⟨i, hi, rfl⟩ := List.getElem_of_mem hr
    have hrl := hl.rl
    have h5 := h4 i (by omega) (by omega)
    rw [rAt_of (List.getElem?_eq_getElem hi)] at h5
    have a1 := need_e (b := ruleA l.gn l.rs[i]) (c := 4) (by omega) (first0 _ h5 (need (ruleA l.gn l.rs[i]) 4) (by simp))
    have a2 := need_e (b := ruleB l.rs[i]) (c := 2) (by omega) (first0 _ h5 (need (ruleB l.rs[i]) 2) (by simp))
    have a3 := need_e (b := ruleC l.rs[i]) (c := 7) (by omega) (first0 _ h5 (need (ruleC l.rs[i]) 7) (by simp))
    simp only [ruleA, ruleB, ruleC, betw, Bool.and_eq_true, decide_eq_true_eq, bne_iff_ne] at a1 a2 a3
    exact ⟨⟨a1.1.1, by omega⟩, ⟨a1.2.1, by omega⟩, a2, a3.1, a3.2.1, a3.2.2⟩
end Go.Proofs.YtgdomaddjiggaaaGreat
