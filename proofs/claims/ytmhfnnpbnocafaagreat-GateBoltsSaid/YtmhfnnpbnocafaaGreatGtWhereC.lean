/- Where, Sure, Bolt. -/
import Derived.Test.YtmhfnnpbnocafaaGreatGtWhereB
namespace Go.Proofs.YtmhfnnpbnocafaaGreat
open Go.RowKit
set_option linter.unusedSimpArgs false
set_option linter.unusedVariables false

/-- A span and an error. -/
structure Wh where
  lo : Int
  hi : Int
  e : Int
abbrev Wh.v (h : Wh) : Value := .tuple #[.agg #[.int .i64 h.lo, .int .i64 h.hi], .int .i64 h.e]
def spanF (xs : List Nat) : Wh := if loW xs < 0 then ⟨0, 0, 9⟩ else ⟨loW xs, hiW xs, 0⟩
theorem whereV_is (xs : List Nat) : whereV xs = (spanF xs).v := by unfold whereV spanF; split <;> rfl
abbrev posL (g : Ga) (rs : List Int) : List Nat := okL g.ss rs g.sn g.wrong (g.travel.toNat + 1)
def whF (g : Ga) (rs : List Int) (rn : Nat) : Wh := if (gateF g).e = 0 then (if rn = g.sn then spanF (posL g rs) else ⟨0, 0, 2⟩) else ⟨0, 0, (gateF g).e⟩

set_option maxRecDepth 100000 in
set_option maxHeartbeats 2000000 in
theorem where1_any (g : Ga) (rA : Option Addr) (rn rc : Nat) (w : World) (h0 : rn ≠ g.sn) :
    Calls Tryz.prog 27 #[g.v, .slice rA rn rc] w fun e w' => e = .returned (Wh.v ⟨0, 0, 2⟩) ∧ Below w.heap.size w w' := by
  have hne : ((rn : Int) != (g.sn : Int)) = true := by rw [bne_iff_ne]; omega
  have hne2 : ((rn : Int) == (g.sn : Int)) = false := by rw [beq_eq_false_iff_ne]; omega
  clear h0
  go_enter Tryz.func27, Tryz.ntmps27
  go_wp2
  exact bodyPost_ret (v := .tuple #[.agg #[.int .i64 0, .int .i64 0], .int .i64 2]) (by simp [results, Tryz.results27, go_sem] <;> omega) rfl ⟨rfl, (by repeat (first | exact Below.refl _ _ | assumption | (refine Below.setCell ?_ (by first | omega | (simp; done) | (simp; omega)) _) | (refine Below.alloc ?_ (by first | omega | (simp; done) | (simp; omega)) _) | refine Below.drew ?_ | (refine below_thru ?_ (by assumption) (by first | omega | (simp; done) | (simp; omega))) | refine below_drewN ?_ _))⟩

theorem where2_any (g : Ga) (rs : List Int) (rA : Option Addr) (rn rc : Nat) (w : World) (hg : g.At w w.heap.size) (hr : Tab w w.heap.size rA rn 1 (rs.map fun i => [Value.int .i64 i])) (h : (gateF g).e = 0) :
    Calls Tryz.prog 27 #[g.v, .slice rA rn rc] w fun e w' => e = .returned (whF g rs rn).v ∧ Below w.heap.size w w' := by
  unfold whF
  rw [if_pos h]
  by_cases hn : rn = g.sn
  · rw [if_pos hn, ← whereV_is]
    exact where_any g rs rA rn rc w hg hr hn (gateF_ok g w _ hg h)
  · rw [if_neg hn]
    exact where1_any g rA rn rc w hn

set_option maxRecDepth 100000 in
set_option maxHeartbeats 2000000 in
theorem Where_any (g : Ga) (rs : List Int) (rA : Option Addr) (rn rc : Nat) (w : World) (hg : g.At w w.heap.size) (hr : Tab w w.heap.size rA rn 1 (rs.map fun i => [Value.int .i64 i])) :
    Calls Tryz.prog 8 #[g.v, .slice rA rn rc] w fun e w' => e = .returned (whF g rs rn).v ∧ Below w.heap.size w w' := by
  have Hg := Lib.hid hg
  have HF := Lib.hid (fun W h => gateFault_any g W h)
  by_cases hf : (gateF g).e = 0
  · have hfe : ((gateF g).e != 0) = false := by rw [bne_eq_false_iff_eq]; exact hf
    have HW := Lib.hid (fun (W : World) (hW : Below w.heap.size w W) => where2_any g rs rA rn rc W (hg.grow hW) (hr.grow hW) hf)
    generalize whF g rs rn = wh at *
    generalize gateF g = F at *
    obtain ⟨Fp, Fa, Fe⟩ := F
    obtain ⟨hlo, hhi, he⟩ := wh
    clear hg hr hf
    go_enter Tryz.func8, Tryz.ntmps8
    go_wp2_with (with_reducible refine wpl_g (g := g) ((Blk.new w _ _).alloc _) rfl rfl rfl ?_)
    refine (HF.out _ (Hg.out.grow (by repeat (first | exact Below.refl _ _ | assumption | (refine Below.setCell ?_ (by first | omega | (simp; done) | (simp; omega)) _) | (refine Below.alloc ?_ (by first | omega | (simp; done) | (simp; omega)) _) | refine Below.drew ?_ | (refine below_thru ?_ (by assumption) (by first | omega | (simp; done) | (simp; omega))) | refine below_drewN ?_ _)))).mono ?_
    rintro e w1 ⟨rfl, hb1⟩
    obtain ⟨hc1, hf1⟩ := bcell hb1; have hz1 := hb1.size; (try simp at hz1)
    have hB1 : Blk w1 w.heap.size 25 (grow g) := Blk.thru (by (repeat (first | assumption | exact Blk.new _ _ _ | (refine Blk.new' _ _ _ ?_; (simp; done)) | refine Blk.drew ?_ | refine Blk.alloc ?_ _ | (refine Blk.fars ?_ ?_ _ _; rotate_left; (dsimp only; omega)) | (refine Blk.far ?_ ?_ _; rotate_left; (first | (dsimp only; omega) | (simp; done) | (simp; omega) | omega))))) hb1 (by simp <;> omega)
    have hl1 : w.heap.size + 1 < w1.heap.size := by omega
    have hl0 : w.heap.size < w1.heap.size := by omega
    go_wp2_with (with_reducible refine wpl_g (g := g) (b := w.heap.size) (t := 25) (by (repeat (first | assumption | exact Blk.new _ _ _ | (refine Blk.new' _ _ _ ?_; (simp; done)) | refine Blk.drew ?_ | refine Blk.alloc ?_ _ | (refine Blk.fars ?_ ?_ _ _; rotate_left; (dsimp only; omega)) | (refine Blk.far ?_ ?_ _; rotate_left; (first | (dsimp only; omega) | (simp; done) | (simp; omega) | omega))))) rfl rfl rfl ?_)
    refine (HW.out _ (by repeat (first | exact Below.refl _ _ | assumption | (refine Below.setCell ?_ (by first | omega | (simp; done) | (simp; omega)) _) | (refine Below.alloc ?_ (by first | omega | (simp; done) | (simp; omega)) _) | refine Below.drew ?_ | (refine below_thru ?_ (by assumption) (by first | omega | (simp; done) | (simp; omega))) | refine below_drewN ?_ _))).mono ?_
    rintro e w2 ⟨rfl, hb2⟩
    obtain ⟨hc2, hf2⟩ := bcell hb2; have hz2 := hb2.size; (try simp at hz2)
    have hR1 : Blk w1 (w.heap.size + 1) 31 #[.int .i64 0, .int .i64 0] := Blk.thru (by (repeat (first | assumption | exact Blk.new _ _ _ | (refine Blk.new' _ _ _ ?_; (simp; done)) | refine Blk.drew ?_ | refine Blk.alloc ?_ _ | (refine Blk.fars ?_ ?_ _ _; rotate_left; (dsimp only; omega)) | (refine Blk.far ?_ ?_ _; rotate_left; (first | (dsimp only; omega) | (simp; done) | (simp; omega) | omega))))) hb1 (by simp <;> omega)
    have hR2 : Blk w2 (w.heap.size + 1) 31 #[.int .i64 0, .int .i64 0] := Blk.thru (by (repeat (first | assumption | exact Blk.new _ _ _ | (refine Blk.new' _ _ _ ?_; (simp; done)) | refine Blk.drew ?_ | refine Blk.alloc ?_ _ | (refine Blk.fars ?_ ?_ _ _; rotate_left; (dsimp only; omega)) | (refine Blk.far ?_ ?_ _; rotate_left; (first | (dsimp only; omega) | (simp; done) | (simp; omega) | omega))))) hb2 (by simp <;> omega)
    obtain ⟨r0, r1, x0, x1⟩ := hR2.two
    clear hR1 hB1
    have hl2 : w.heap.size + 1 < w2.heap.size := by omega
    have hl3 : w.heap.size < w2.heap.size := by omega
    go_wp2
    exact bodyPost_ret (v := .tuple #[.agg #[.int .i64 hlo, .int .i64 hhi], .int .i64 he]) (by simp [results, Tryz.results8, go_sem, r0, r1, hl2] <;> omega) rfl ⟨rfl, (by repeat (first | exact Below.refl _ _ | assumption | (refine Below.setCell ?_ (by first | omega | (simp; done) | (simp; omega)) _) | (refine Below.alloc ?_ (by first | omega | (simp; done) | (simp; omega)) _) | refine Below.drew ?_ | (refine below_thru ?_ (by assumption) (by first | omega | (simp; done) | (simp; omega))) | refine below_drewN ?_ _))⟩
  · have hfe : ((gateF g).e != 0) = true := by rw [bne_iff_ne]; exact hf
    have Hv := Lib.hid (show whF g rs rn = ⟨0, 0, (gateF g).e⟩ from if_neg hf)
    generalize whF g rs rn = wh at *
    generalize gateF g = F at *
    obtain ⟨Fp, Fa, Fe⟩ := F
    clear hg hr hf
    go_enter Tryz.func8, Tryz.ntmps8
    go_wp2_with (with_reducible refine wpl_g (g := g) ((Blk.new w _ _).alloc _) rfl rfl rfl ?_)
    refine (HF.out _ (Hg.out.grow (by repeat (first | exact Below.refl _ _ | assumption | (refine Below.setCell ?_ (by first | omega | (simp; done) | (simp; omega)) _) | (refine Below.alloc ?_ (by first | omega | (simp; done) | (simp; omega)) _) | refine Below.drew ?_ | (refine below_thru ?_ (by assumption) (by first | omega | (simp; done) | (simp; omega))) | refine below_drewN ?_ _)))).mono ?_
    rintro e w1 ⟨rfl, hb1⟩
    obtain ⟨hc1, hf1⟩ := bcell hb1; have hz1 := hb1.size; (try simp at hz1)
    have hR1 : Blk w1 (w.heap.size + 1) 31 #[.int .i64 0, .int .i64 0] := Blk.thru (by (repeat (first | assumption | exact Blk.new _ _ _ | (refine Blk.new' _ _ _ ?_; (simp; done)) | refine Blk.drew ?_ | refine Blk.alloc ?_ _ | (refine Blk.fars ?_ ?_ _ _; rotate_left; (dsimp only; omega)) | (refine Blk.far ?_ ?_ _; rotate_left; (first | (dsimp only; omega) | (simp; done) | (simp; omega) | omega))))) hb1 (by simp <;> omega)
    obtain ⟨r0, r1, x0, x1⟩ := hR1.two
    have hl1 : w.heap.size + 1 < w1.heap.size := by omega
    have hl0 : w.heap.size < w1.heap.size := by omega
    clear hR1
    go_wp2
    go_region
    go_wp2
    rw [Hv.out]
    exact bodyPost_ret (v := .tuple #[.agg #[.int .i64 0, .int .i64 0], .int .i64 Fe]) (by simp [results, Tryz.results8, go_sem, r0, r1, hl1] <;> omega) rfl ⟨rfl, (by repeat (first | exact Below.refl _ _ | assumption | (refine Below.setCell ?_ (by first | omega | (simp; done) | (simp; omega)) _) | (refine Below.alloc ?_ (by first | omega | (simp; done) | (simp; omega)) _) | refine Below.drew ?_ | (refine below_thru ?_ (by assumption) (by first | omega | (simp; done) | (simp; omega))) | refine below_drewN ?_ _))⟩

/-- The end at which a gate is. -/
def endR (g : Ga) (lo hi : Int) : Int := if hi ≤ g.slack then 1 else if g.travel - g.slack ≤ lo then 2 else 0
set_option maxRecDepth 100000 in
set_option maxHeartbeats 2000000 in
theorem end_any (g : Ga) (lo hi : Int) (w : World) (ok : g.Ok) :
    Calls Tryz.prog 30 #[g.v, .agg #[.int .i64 lo, .int .i64 hi]] w fun e w' => e = .returned (.int .i64 (endR g lo hi)) ∧ Below w.heap.size w w' := by
  have t0 := ok.t0
  have t1 := ok.t1
  have k0 := ok.slack0
  have k1 := ok.slack1
  clear ok
  by_cases h1 : hi ≤ g.slack
  · have hv : endR g lo hi = 1 := if_pos h1
    rw [hv]
    clear hv k1
    go_enter Tryz.func30, Tryz.ntmps30
    go_wp2
    go_ret
    exact ⟨rfl, (by repeat (first | exact Below.refl _ _ | assumption | (refine Below.setCell ?_ (by first | omega | (simp; done) | (simp; omega)) _) | (refine Below.alloc ?_ (by first | omega | (simp; done) | (simp; omega)) _) | refine Below.drew ?_ | (refine below_thru ?_ (by assumption) (by first | omega | (simp; done) | (simp; omega))) | refine below_drewN ?_ _))⟩
  · by_cases h2 : g.travel - g.slack ≤ lo
    · have hv : endR g lo hi = 2 := (if_neg h1).trans (if_pos h2)
      have hs : g.slack ≤ 5000 := by omega
      rw [hv]
      clear hv k1
      go_enter Tryz.func30, Tryz.ntmps30
      go_wp2
      go_ret
      exact ⟨rfl, (by repeat (first | exact Below.refl _ _ | assumption | (refine Below.setCell ?_ (by first | omega | (simp; done) | (simp; omega)) _) | (refine Below.alloc ?_ (by first | omega | (simp; done) | (simp; omega)) _) | refine Below.drew ?_ | (refine below_thru ?_ (by assumption) (by first | omega | (simp; done) | (simp; omega))) | refine below_drewN ?_ _))⟩
    · have hv : endR g lo hi = 0 := (if_neg h1).trans (if_neg h2)
      have hs : g.slack ≤ 5000 := by omega
      rw [hv]
      clear hv k1
      go_enter Tryz.func30, Tryz.ntmps30
      go_wp2
      go_ret
      exact ⟨rfl, (by repeat (first | exact Below.refl _ _ | assumption | (refine Below.setCell ?_ (by first | omega | (simp; done) | (simp; omega)) _) | (refine Below.alloc ?_ (by first | omega | (simp; done) | (simp; omega)) _) | refine Below.drew ?_ | (refine below_thru ?_ (by assumption) (by first | omega | (simp; done) | (simp; omega))) | refine below_drewN ?_ _))⟩

def sureF (g : Ga) (rs : List Int) (rn : Nat) : Int × Int := if (whF g rs rn).e = 0 then (endR g (whF g rs rn).lo (whF g rs rn).hi, 0) else (0, (whF g rs rn).e)
theorem wh_ok {g : Ga} {rs : List Int} {rn : Nat} (h : (whF g rs rn).e = 0) : (gateF g).e = 0 := by
  unfold whF at h
  split at h
  · assumption
  · exact h
set_option maxRecDepth 100000 in
set_option maxHeartbeats 2000000 in
theorem Sure_any (g : Ga) (rs : List Int) (rA : Option Addr) (rn rc : Nat) (w : World) (hg : g.At w w.heap.size) (hr : Tab w w.heap.size rA rn 1 (rs.map fun i => [Value.int .i64 i])) :
    Calls Tryz.prog 10 #[g.v, .slice rA rn rc] w fun e w' => e = .returned (.tuple #[.int .i64 (sureF g rs rn).1, .int .i64 (sureF g rs rn).2]) ∧ Below w.heap.size w w' := by
  have HW := Lib.hid (fun (W : World) (hW : Below w.heap.size w W) => Where_any g rs rA rn rc W (hg.grow hW) (hr.grow hW))
  by_cases h : (whF g rs rn).e = 0
  · have hok := gateF_ok g w _ hg (wh_ok h)
    have hv : sureF g rs rn = (endR g (whF g rs rn).lo (whF g rs rn).hi, 0) := if_pos h
    have HE := Lib.hid (fun lo hi W => end_any g lo hi W hok)
    rw [hv]
    have hfe : ((whF g rs rn).e != 0) = false := by rw [bne_eq_false_iff_eq]; exact h
    generalize whF g rs rn = wh at *
    obtain ⟨lo, hi, we⟩ := wh
    clear hok hv hg hr
    subst h
    go_enter Tryz.func10, Tryz.ntmps10
    go_wp2_with (with_reducible refine wpl_g (g := g) (Blk.new w _ _) rfl rfl rfl ?_)
    refine (HW.out _ (by repeat (first | exact Below.refl _ _ | assumption | (refine Below.setCell ?_ (by first | omega | (simp; done) | (simp; omega)) _) | (refine Below.alloc ?_ (by first | omega | (simp; done) | (simp; omega)) _) | refine Below.drew ?_ | (refine below_thru ?_ (by assumption) (by first | omega | (simp; done) | (simp; omega))) | refine below_drewN ?_ _))).mono ?_
    rintro e w1 ⟨rfl, hb1⟩
    obtain ⟨hc1, hf1⟩ := bcell hb1; have hz1 := hb1.size; (try simp at hz1)
    have hB1 : Blk w1 w.heap.size 25 (grow g) := Blk.thru (by (repeat (first | assumption | exact Blk.new _ _ _ | (refine Blk.new' _ _ _ ?_; (simp; done)) | refine Blk.drew ?_ | refine Blk.alloc ?_ _ | (refine Blk.fars ?_ ?_ _ _; rotate_left; (dsimp only; omega)) | (refine Blk.far ?_ ?_ _; rotate_left; (first | (dsimp only; omega) | (simp; done) | (simp; omega) | omega))))) hb1 (by simp <;> omega)
    have hl0 : w.heap.size < w1.heap.size := by omega
    go_wp2_with (with_reducible refine wpl_g (g := g) (b := w.heap.size) (t := 25) (by (repeat (first | assumption | exact Blk.new _ _ _ | (refine Blk.new' _ _ _ ?_; (simp; done)) | refine Blk.drew ?_ | refine Blk.alloc ?_ _ | (refine Blk.fars ?_ ?_ _ _; rotate_left; (dsimp only; omega)) | (refine Blk.far ?_ ?_ _; rotate_left; (first | (dsimp only; omega) | (simp; done) | (simp; omega) | omega))))) rfl rfl rfl ?_)
    refine (HE.out _ _ _).mono ?_
    rintro e w2 ⟨rfl, hb2⟩
    obtain ⟨hc2, hf2⟩ := bcell hb2; have hz2 := hb2.size; (try simp at hz2)
    go_wp2
    exact bodyPost_ret (v := .tuple #[.int .i64 (endR g lo hi), .int .i64 0]) (by simp [results, Tryz.results10, go_sem] <;> omega) rfl ⟨rfl, (by repeat (first | exact Below.refl _ _ | assumption | (refine Below.setCell ?_ (by first | omega | (simp; done) | (simp; omega)) _) | (refine Below.alloc ?_ (by first | omega | (simp; done) | (simp; omega)) _) | refine Below.drew ?_ | (refine below_thru ?_ (by assumption) (by first | omega | (simp; done) | (simp; omega))) | refine below_drewN ?_ _))⟩
  · have hv : sureF g rs rn = (0, (whF g rs rn).e) := if_neg h
    rw [hv]
    have hfe : ((whF g rs rn).e != 0) = true := by rw [bne_iff_ne]; exact h
    generalize whF g rs rn = wh at *
    obtain ⟨lo, hi, we⟩ := wh
    clear hv hg hr h
    go_enter Tryz.func10, Tryz.ntmps10
    go_wp2_with (with_reducible refine wpl_g (g := g) (Blk.new w _ _) rfl rfl rfl ?_)
    refine (HW.out _ (by repeat (first | exact Below.refl _ _ | assumption | (refine Below.setCell ?_ (by first | omega | (simp; done) | (simp; omega)) _) | (refine Below.alloc ?_ (by first | omega | (simp; done) | (simp; omega)) _) | refine Below.drew ?_ | (refine below_thru ?_ (by assumption) (by first | omega | (simp; done) | (simp; omega))) | refine below_drewN ?_ _))).mono ?_
    rintro e w1 ⟨rfl, hb1⟩
    obtain ⟨hc1, hf1⟩ := bcell hb1; have hz1 := hb1.size; (try simp at hz1)
    go_wp2
    exact bodyPost_ret (v := .tuple #[.int .i64 0, .int .i64 we]) (by simp [results, Tryz.results10, go_sem] <;> omega) rfl ⟨rfl, (by repeat (first | exact Below.refl _ _ | assumption | (refine Below.setCell ?_ (by first | omega | (simp; done) | (simp; omega)) _) | (refine Below.alloc ?_ (by first | omega | (simp; done) | (simp; omega)) _) | refine Below.drew ?_ | (refine below_thru ?_ (by assumption) (by first | omega | (simp; done) | (simp; omega))) | refine below_drewN ?_ _))⟩

def boltL (g : Ga) (s : Gs) (on : Bool) : List Ft := [stateFt g s, need (!on || !s.bolted) 5, need (on || s.bolted) 4]
def boltFt (g : Ga) (s : Gs) (on : Bool) : Ft := firstF (boltL g s on)
def boltF (g : Ga) (s : Gs) (on : Bool) (rs : List Int) (rn : Nat) : Gs × Int :=
  if (boltFt g s on).e = 0 then (if on = true then (if (sureF g rs rn).2 = 0 then (if (sureF g rs rn).1 = 0 then (⟨0, 0, false⟩, 9) else (⟨s.pos, s.charge, true⟩, 0)) else (⟨0, 0, false⟩, (sureF g rs rn).2)) else (⟨s.pos, s.charge, false⟩, 0)) else (⟨0, 0, false⟩, (boltFt g s on).e)
abbrev boltV (u : Gs × Int) : Value := .tuple #[.agg #[.int .i64 u.1.pos, .int .i64 u.1.charge, .bool u.1.bolted], .int .i64 u.2]

set_option maxHeartbeats 1000000 in
theorem bolt1_any (g : Ga) (s : Gs) (b c : Nat) (w : World) (hg : g.Box w b) (hs : Blk w c 27 #[.int .i64 s.pos, .int .i64 s.charge, .bool s.bolted]) :
    Calls Tryz.prog 32 #[.pointer (some ⟨b, 0, none⟩), .pointer (some ⟨c, 0, none⟩)] w fun e w' => e = .returned (stateFt g s).v ∧ Below w.heap.size w w' := by
  have hB := Lib.hid hg.blk
  have HA := Lib.hid hg.at_
  have hlt := hg.blk.lt
  obtain ⟨s0, s1, s2, _⟩ := hs.three
  have hsl := hs.lt
  clear hg hs
  go_enter Tryz.func32, Tryz.ntmps32
  go_wp2_with (with_reducible refine wpl_g (hB.out.alloc _) rfl rfl rfl ?_)
  refine (stateFault_any g s _ (HA.out.grow (by repeat (first | exact Below.refl _ _ | assumption | (refine Below.setCell ?_ (by first | omega | (simp; done) | (simp; omega)) _) | (refine Below.alloc ?_ (by first | omega | (simp; done) | (simp; omega)) _) | refine Below.drew ?_ | (refine below_thru ?_ (by assumption) (by first | omega | (simp; done) | (simp; omega))) | refine below_drewN ?_ _)))).mono ?_
  rintro e w1 ⟨rfl, hb1⟩
  obtain ⟨hc1, hf1⟩ := bcell hb1; have hz1 := hb1.size; (try simp at hz1)
  go_wp2
  exact bodyPost_ret (v := (stateFt g s).v) (by simp [results, Tryz.results32, go_sem, hc1] <;> omega) rfl ⟨by rfl, (by repeat (first | exact Below.refl _ _ | assumption | (refine Below.setCell ?_ (by first | omega | (simp; done) | (simp; omega)) _) | (refine Below.alloc ?_ (by first | omega | (simp; done) | (simp; omega)) _) | refine Below.drew ?_ | (refine below_thru ?_ (by assumption) (by first | omega | (simp; done) | (simp; omega))) | refine below_drewN ?_ _))⟩
set_option maxHeartbeats 1000000 in
theorem bolt2_any (on : Bool) (s : Gs) (b c : Nat) (w : World) (hb : Blk w b 4 #[.bool on]) (hs : Blk w c 27 #[.int .i64 s.pos, .int .i64 s.charge, .bool s.bolted]) :
    Calls Tryz.prog 34 #[.pointer (some ⟨b, 0, none⟩), .pointer (some ⟨c, 0, none⟩)] w fun e w' => e = .returned (need (!on || !s.bolted) 5).v ∧ Below w.heap.size w w' := by
  have b0 := hb.cell 0
  simp only [List.getElem?_toArray, List.getElem?_cons_zero] at b0
  obtain ⟨s0, s1, s2, _⟩ := hs.three
  have hbl := hb.lt
  have hsl := hs.lt
  obtain ⟨sp, sq, sb⟩ := s
  have HN := Lib.hid (fun W => need_any (!on || !sb) 5 W)
  clear hb hs
  cases on
  · cases sb
    · have HN : Hid (∀ W : World, Calls Tryz.prog 35 #[.bool true, .int .i64 5] W fun e w' => e = .returned (need true 5).v ∧ Below W.heap.size W w') := HN.out
      show Calls _ _ _ _ fun e w' => e = .returned (need true 5).v ∧ _
      go_enter Tryz.func34, Tryz.ntmps34
      go_wp2_with fail
      refine (HN.out _).mono ?_
      rintro e w1 ⟨rfl, hb1⟩
      obtain ⟨hc1, hf1⟩ := bcell hb1; have hz1 := hb1.size; (try simp at hz1)
      go_wp2
      exact bodyPost_ret (v := (need true 5).v) (by simp [results, Tryz.results34, go_sem, hc1] <;> omega) rfl ⟨by rfl, (by repeat (first | exact Below.refl _ _ | assumption | (refine Below.setCell ?_ (by first | omega | (simp; done) | (simp; omega)) _) | (refine Below.alloc ?_ (by first | omega | (simp; done) | (simp; omega)) _) | refine Below.drew ?_ | (refine below_thru ?_ (by assumption) (by first | omega | (simp; done) | (simp; omega))) | refine below_drewN ?_ _))⟩
    · have HN : Hid (∀ W : World, Calls Tryz.prog 35 #[.bool true, .int .i64 5] W fun e w' => e = .returned (need true 5).v ∧ Below W.heap.size W w') := HN.out
      show Calls _ _ _ _ fun e w' => e = .returned (need true 5).v ∧ _
      go_enter Tryz.func34, Tryz.ntmps34
      go_wp2_with fail
      refine (HN.out _).mono ?_
      rintro e w1 ⟨rfl, hb1⟩
      obtain ⟨hc1, hf1⟩ := bcell hb1; have hz1 := hb1.size; (try simp at hz1)
      go_wp2
      exact bodyPost_ret (v := (need true 5).v) (by simp [results, Tryz.results34, go_sem, hc1] <;> omega) rfl ⟨by rfl, (by repeat (first | exact Below.refl _ _ | assumption | (refine Below.setCell ?_ (by first | omega | (simp; done) | (simp; omega)) _) | (refine Below.alloc ?_ (by first | omega | (simp; done) | (simp; omega)) _) | refine Below.drew ?_ | (refine below_thru ?_ (by assumption) (by first | omega | (simp; done) | (simp; omega))) | refine below_drewN ?_ _))⟩
  · cases sb
    · have HN : Hid (∀ W : World, Calls Tryz.prog 35 #[.bool true, .int .i64 5] W fun e w' => e = .returned (need true 5).v ∧ Below W.heap.size W w') := HN.out
      show Calls _ _ _ _ fun e w' => e = .returned (need true 5).v ∧ _
      go_enter Tryz.func34, Tryz.ntmps34
      go_wp2_with fail
      refine (HN.out _).mono ?_
      rintro e w1 ⟨rfl, hb1⟩
      obtain ⟨hc1, hf1⟩ := bcell hb1; have hz1 := hb1.size; (try simp at hz1)
      go_wp2
      exact bodyPost_ret (v := (need true 5).v) (by simp [results, Tryz.results34, go_sem, hc1] <;> omega) rfl ⟨by rfl, (by repeat (first | exact Below.refl _ _ | assumption | (refine Below.setCell ?_ (by first | omega | (simp; done) | (simp; omega)) _) | (refine Below.alloc ?_ (by first | omega | (simp; done) | (simp; omega)) _) | refine Below.drew ?_ | (refine below_thru ?_ (by assumption) (by first | omega | (simp; done) | (simp; omega))) | refine below_drewN ?_ _))⟩
    · have HN : Hid (∀ W : World, Calls Tryz.prog 35 #[.bool false, .int .i64 5] W fun e w' => e = .returned (need false 5).v ∧ Below W.heap.size W w') := HN.out
      show Calls _ _ _ _ fun e w' => e = .returned (need false 5).v ∧ _
      go_enter Tryz.func34, Tryz.ntmps34
      go_wp2_with fail
      refine (HN.out _).mono ?_
      rintro e w1 ⟨rfl, hb1⟩
      obtain ⟨hc1, hf1⟩ := bcell hb1; have hz1 := hb1.size; (try simp at hz1)
      go_wp2
      exact bodyPost_ret (v := (need false 5).v) (by simp [results, Tryz.results34, go_sem, hc1] <;> omega) rfl ⟨by rfl, (by repeat (first | exact Below.refl _ _ | assumption | (refine Below.setCell ?_ (by first | omega | (simp; done) | (simp; omega)) _) | (refine Below.alloc ?_ (by first | omega | (simp; done) | (simp; omega)) _) | refine Below.drew ?_ | (refine below_thru ?_ (by assumption) (by first | omega | (simp; done) | (simp; omega))) | refine below_drewN ?_ _))⟩
set_option maxHeartbeats 1000000 in
theorem bolt3_any (on : Bool) (s : Gs) (b c : Nat) (w : World) (hb : Blk w b 4 #[.bool on]) (hs : Blk w c 27 #[.int .i64 s.pos, .int .i64 s.charge, .bool s.bolted]) :
    Calls Tryz.prog 36 #[.pointer (some ⟨b, 0, none⟩), .pointer (some ⟨c, 0, none⟩)] w fun e w' => e = .returned (need (on || s.bolted) 4).v ∧ Below w.heap.size w w' := by
  have b0 := hb.cell 0
  simp only [List.getElem?_toArray, List.getElem?_cons_zero] at b0
  obtain ⟨s0, s1, s2, _⟩ := hs.three
  have hbl := hb.lt
  have hsl := hs.lt
  obtain ⟨sp, sq, sb⟩ := s
  have HN := Lib.hid (fun W => need_any (on || sb) 4 W)
  clear hb hs
  cases on
  · cases sb
    · have HN : Hid (∀ W : World, Calls Tryz.prog 35 #[.bool false, .int .i64 4] W fun e w' => e = .returned (need false 4).v ∧ Below W.heap.size W w') := HN.out
      show Calls _ _ _ _ fun e w' => e = .returned (need false 4).v ∧ _
      go_enter Tryz.func36, Tryz.ntmps36
      go_wp2_with fail
      refine (HN.out _).mono ?_
      rintro e w1 ⟨rfl, hb1⟩
      obtain ⟨hc1, hf1⟩ := bcell hb1; have hz1 := hb1.size; (try simp at hz1)
      go_wp2
      exact bodyPost_ret (v := (need false 4).v) (by simp [results, Tryz.results36, go_sem, hc1] <;> omega) rfl ⟨by rfl, (by repeat (first | exact Below.refl _ _ | assumption | (refine Below.setCell ?_ (by first | omega | (simp; done) | (simp; omega)) _) | (refine Below.alloc ?_ (by first | omega | (simp; done) | (simp; omega)) _) | refine Below.drew ?_ | (refine below_thru ?_ (by assumption) (by first | omega | (simp; done) | (simp; omega))) | refine below_drewN ?_ _))⟩
    · have HN : Hid (∀ W : World, Calls Tryz.prog 35 #[.bool true, .int .i64 4] W fun e w' => e = .returned (need true 4).v ∧ Below W.heap.size W w') := HN.out
      show Calls _ _ _ _ fun e w' => e = .returned (need true 4).v ∧ _
      go_enter Tryz.func36, Tryz.ntmps36
      go_wp2_with fail
      refine (HN.out _).mono ?_
      rintro e w1 ⟨rfl, hb1⟩
      obtain ⟨hc1, hf1⟩ := bcell hb1; have hz1 := hb1.size; (try simp at hz1)
      go_wp2
      exact bodyPost_ret (v := (need true 4).v) (by simp [results, Tryz.results36, go_sem, hc1] <;> omega) rfl ⟨by rfl, (by repeat (first | exact Below.refl _ _ | assumption | (refine Below.setCell ?_ (by first | omega | (simp; done) | (simp; omega)) _) | (refine Below.alloc ?_ (by first | omega | (simp; done) | (simp; omega)) _) | refine Below.drew ?_ | (refine below_thru ?_ (by assumption) (by first | omega | (simp; done) | (simp; omega))) | refine below_drewN ?_ _))⟩
  · cases sb
    · have HN : Hid (∀ W : World, Calls Tryz.prog 35 #[.bool true, .int .i64 4] W fun e w' => e = .returned (need true 4).v ∧ Below W.heap.size W w') := HN.out
      show Calls _ _ _ _ fun e w' => e = .returned (need true 4).v ∧ _
      go_enter Tryz.func36, Tryz.ntmps36
      go_wp2_with fail
      refine (HN.out _).mono ?_
      rintro e w1 ⟨rfl, hb1⟩
      obtain ⟨hc1, hf1⟩ := bcell hb1; have hz1 := hb1.size; (try simp at hz1)
      go_wp2
      exact bodyPost_ret (v := (need true 4).v) (by simp [results, Tryz.results36, go_sem, hc1] <;> omega) rfl ⟨by rfl, (by repeat (first | exact Below.refl _ _ | assumption | (refine Below.setCell ?_ (by first | omega | (simp; done) | (simp; omega)) _) | (refine Below.alloc ?_ (by first | omega | (simp; done) | (simp; omega)) _) | refine Below.drew ?_ | (refine below_thru ?_ (by assumption) (by first | omega | (simp; done) | (simp; omega))) | refine below_drewN ?_ _))⟩
    · have HN : Hid (∀ W : World, Calls Tryz.prog 35 #[.bool true, .int .i64 4] W fun e w' => e = .returned (need true 4).v ∧ Below W.heap.size W w') := HN.out
      show Calls _ _ _ _ fun e w' => e = .returned (need true 4).v ∧ _
      go_enter Tryz.func36, Tryz.ntmps36
      go_wp2_with fail
      refine (HN.out _).mono ?_
      rintro e w1 ⟨rfl, hb1⟩
      obtain ⟨hc1, hf1⟩ := bcell hb1; have hz1 := hb1.size; (try simp at hz1)
      go_wp2
      exact bodyPost_ret (v := (need true 4).v) (by simp [results, Tryz.results36, go_sem, hc1] <;> omega) rfl ⟨by rfl, (by repeat (first | exact Below.refl _ _ | assumption | (refine Below.setCell ?_ (by first | omega | (simp; done) | (simp; omega)) _) | (refine Below.alloc ?_ (by first | omega | (simp; done) | (simp; omega)) _) | refine Below.drew ?_ | (refine below_thru ?_ (by assumption) (by first | omega | (simp; done) | (simp; omega))) | refine below_drewN ?_ _))⟩

end Go.Proofs.YtmhfnnpbnocafaaGreat
