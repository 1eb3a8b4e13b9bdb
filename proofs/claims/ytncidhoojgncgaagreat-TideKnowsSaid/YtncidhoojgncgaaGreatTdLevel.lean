/- Level. -/
import Derived.Test.YtncidhoojgncgaaGreatTdTide
namespace Go.Proofs.YtncidhoojgncgaaGreat
open Go.RowKit
set_option linter.unusedSimpArgs false
set_option linter.unusedVariables false

theorem firstF_zero : ∀ (l : List Ft), (firstF l).e = 0 → ∀ f ∈ l, f.e = 0
  | [], _, f, hf => by cases hf
  | a :: l, h, f, hf => by
    simp only [firstF] at h
    split at h
    · rename_i h0
      rcases List.mem_cons.1 hf with rfl | hf
      · exact h0
      · exact firstF_zero l h f hf
    · rename_i h0; exact absurd h h0
theorem eachF_zero (c : Nat → Ft) : ∀ (n i : Nat), (eachF c i n).e = 0 → ∀ j, i ≤ j → j < i + n → (c j).e = 0
  | 0, i, _, j, h1, h2 => by omega
  | n + 1, i, h, j, h1, h2 => by
    simp only [eachF] at h
    split at h
    · rename_i h0
      rcases Nat.eq_or_lt_of_le h1 with rfl | h3
      · exact h0
      · exact eachF_zero c n (i + 1) h j (by omega) (by omega)
    · rename_i h0; exact absurd h h0

theorem tableF_zero (t : Tb) (w : World) (B : Nat) (hat : t.At w B) (h : (tableF t).e = 0) : t.Ok := by
  unfold tableF at h
  split at h
  · rename_i hm
    split at h
    · rename_i hn
      simp only [levelB, betw, Bool.and_eq_true, decide_eq_true_eq] at hm
      refine ⟨hm.1, hm.2, hn, fun c hc => ?_⟩
      obtain ⟨i, hi, rfl⟩ := List.getElem_of_mem hc
      have hcl := hat.cl
      have h1 := eachF_zero _ _ _ h i (by omega) (by omega)
      unfold constAt at h1
      rw [List.getElem?_eq_getElem hi] at h1
      simp only at h1
      have h2 := firstF_zero _ h1
      have hat' := hat.each _ hc
      have hhl := hat'.hl
      generalize t.cs[i] = c at *
      have n3 := need_e (by omega) (h2 _ (show need (betw c.hn 2 48) 3 ∈ constL t.cs c i by simp [constL]))
      have n4 := need_e (by omega) (h2 _ (show need (numB c) 7 ∈ constL t.cs c i by simp [constL]))
      simp only [numB, heightsBad, betw, Bool.and_eq_true, Bool.not_eq_true', decide_eq_true_eq, List.any_eq_false, Bool.not_eq_false'] at n3 n4
      obtain ⟨a1, ⟨a2, a3⟩, ⟨a4, a5⟩, ⟨a6, a7⟩, a8, a9⟩ := n4
      exact ⟨by omega, by omega, fun h hh => by have := a1 h hh; simp at this; exact this, a2, a3, a4, a5, a6, a7, a8, a9⟩
    · simp at h
  · simp at h

def levelF (t : Tb) (tick : Int) : Sp × Int :=
  if (tableF t).e = 0 then (if tickB tick = true then (tideFold t tick t.cs, 0) else (⟨0, 0⟩, 7)) else (⟨0, 0⟩, (tableF t).e)

set_option maxHeartbeats 1000000 in
theorem level1_any (t : Tb) (b : Nat) (w : World) (ht : t.Box w b) :
    Calls Tryz.prog 61 #[.pointer (some ⟨b, 0, none⟩)] w fun e w' => e = .returned (tableF t).v ∧ Below w.heap.size w w' := by
  obtain ⟨g0, g1, g2, g3⟩ := ht.blk.two
  have hlt := ht.blk.lt
  have Ht := Lib.hid ht.at_
  clear ht
  go_enter Tryz.func61, Tryz.ntmps61
  go_wp2_with fail
  refine (tableFault_any t _ (Ht.out.grow (by repeat (first | exact Below.refl _ _ | assumption | (refine Below.setCell ?_ (by first | omega | (simp; done) | (simp; omega)) _) | (refine Below.alloc ?_ (by first | omega | (simp; done) | (simp; omega)) _) | refine Below.drew ?_ | (refine below_thru ?_ (by assumption) (by first | omega | (simp; done) | (simp; omega))) | refine below_drewN ?_ _)))).mono ?_
  rintro e w1 ⟨rfl, hb1⟩
  obtain ⟨hc1, hf1⟩ := bcell hb1; have hz1 := hb1.size; (try simp at hz1)
  go_wp2
  exact bodyPost_ret (v := (tableF t).v) (by simp [results, Tryz.results61, go_sem, hc1] <;> omega) rfl ⟨by rfl, (by repeat (first | exact Below.refl _ _ | assumption | (refine Below.setCell ?_ (by first | omega | (simp; done) | (simp; omega)) _) | (refine Below.alloc ?_ (by first | omega | (simp; done) | (simp; omega)) _) | refine Below.drew ?_ | (refine below_thru ?_ (by assumption) (by first | omega | (simp; done) | (simp; omega))) | refine below_drewN ?_ _))⟩
set_option maxHeartbeats 1000000 in
theorem level2_any (x : Int) (bx : Nat) (w : World) (hx : Blk w bx 3 #[.int .i64 x]) :
    Calls Tryz.prog 62 #[.pointer (some ⟨bx, 0, none⟩)] w fun e w' => e = .returned (need (tickB x) 7).v ∧ Below w.heap.size w w' := by
  have x0 := hx.cell 0
  simp only [List.getElem?_toArray, List.getElem?_cons_zero] at x0
  have xl := hx.lt
  clear hx
  go_enter Tryz.func62, Tryz.ntmps62
  go_wp2_with fail
  refine (isTick_any _ _).mono ?_
  rintro e w1 ⟨rfl, rfl⟩
  go_wp2_with fail
  refine (need_any _ _ _).mono ?_
  rintro e w1 ⟨rfl, hb1⟩
  obtain ⟨hc1, hf1⟩ := bcell hb1; have hz1 := hb1.size; (try simp at hz1)
  go_wp2
  exact bodyPost_ret (v := (need (tickB x) 7).v) (by simp [results, Tryz.results62, go_sem, hc1] <;> omega) rfl ⟨by rfl, (by repeat (first | exact Below.refl _ _ | assumption | (refine Below.setCell ?_ (by first | omega | (simp; done) | (simp; omega)) _) | (refine Below.alloc ?_ (by first | omega | (simp; done) | (simp; omega)) _) | refine Below.drew ?_ | (refine below_thru ?_ (by assumption) (by first | omega | (simp; done) | (simp; omega))) | refine below_drewN ?_ _))⟩

def levelC (t : Tb) (x : Int) (p q : Value) : List Chk := [⟨61, #[p], tableF t⟩, ⟨62, #[q], need (tickB x) 7⟩]
theorem levelC_plain (t : Tb) (x : Int) (p q : Value) : ∀ (k : Nat) (c : Chk), (levelC t x p q)[k]? = some c → Plain c.f c.caps := by
  intro k c hk W
  match k, hk with
  | 0, hk => cases hk; show Sem.run Tryz.prog (callFunc _ _) W = _; kernel_rfl
  | 1, hk => cases hk; show Sem.run Tryz.prog (callFunc _ _) W = _; kernel_rfl
  | k + 2, hk => simp [levelC] at hk
theorem levelC_good (t : Tb) (x : Int) (b bx : Nat) (w : World) (ht : t.Box w b) (hx : Blk w bx 3 #[.int .i64 x]) : Good w (levelC t x (.pointer (some ⟨b, 0, none⟩)) (.pointer (some ⟨bx, 0, none⟩))) := by
  intro k c hk hprev W hW
  match k, hk with
  | 0, hk => cases hk; exact level1_any t b W (ht.grow hW)
  | 1, hk => cases hk; exact level2_any x bx W (hx.thru hW hx.lt)
  | k + 2, hk => simp [levelC] at hk
theorem levelF_eq (t : Tb) (x : Int) (p q : Value) : levelF t x = if (firstF ((levelC t x p q).map (·.r))).e = 0 then (tideFold t x t.cs, 0) else (⟨0, 0⟩, (firstF ((levelC t x p q).map (·.r))).e) := by
  unfold levelF
  simp only [levelC, List.map_cons, List.map_nil, firstF]
  by_cases h : (tableF t).e = 0
  · simp only [h, if_true]
    cases tickB x <;> simp [need]
  · simp [h]
theorem levelF_zero (t : Tb) (x : Int) (p q : Value) (h : (firstF ((levelC t x p q).map (·.r))).e = 0) : (tableF t).e = 0 ∧ 0 ≤ x ∧ x ≤ 200000 := by
  simp only [levelC, List.map_cons, List.map_nil, firstF] at h
  by_cases h0 : (tableF t).e = 0
  · simp only [h0, if_true] at h
    refine ⟨h0, ?_⟩
    cases ht : tickB x
    · rw [ht] at h; simp [need] at h
    · simp only [tickB, betw, Bool.and_eq_true, decide_eq_true_eq] at ht; omega
  · simp [h0] at h

set_option maxRecDepth 100000 in
set_option maxHeartbeats 2000000 in
theorem Level_any (t : Tb) (x : Int) (w : World) (ht : t.At w w.heap.size) :
    Calls Tryz.prog 25 #[t.v, .int .i64 x] w fun e w' => e = .returned (.tuple #[(levelF t x).1.v, .int .i64 (levelF t x).2]) ∧ Below w.heap.size w w' := by
  have Ht := Lib.hid ht; clear ht
  have HGood := Lib.hid (fun W b bx (h : t.Box W b) h1 => levelC_good t x b bx W h h1)
  go_enter Tryz.func25, Tryz.ntmps25
  go_wp2_with fail
  refine (first_any _ (w.heap.size + 1 + 1 + 1) 0 2 (levelC t x (.pointer (some ⟨w.heap.size, 0, none⟩)) (.pointer (some ⟨w.heap.size + 1, 0, none⟩))) rfl (by omega) (by simp) ?_ (HGood.out _ _ _ ⟨?_, ?_⟩ ?_) (levelC_plain t x _ _)).mono ?_
  · intro k c hk
    match k, hk with
    | 0, hk => cases hk; exact (Blk.new' _ _ _ (by simp)).cell 0
    | 1, hk => cases hk; exact (Blk.new' _ _ _ (by simp)).cell 1
    | k + 2, hk => simp [levelC] at hk
  · exact (((Blk.new w _ _).alloc _).alloc _).alloc _
  · exact Ht.out.grow (by repeat (first | exact Below.refl _ _ | assumption | (refine Below.setCell ?_ (by first | omega | (simp; done) | (simp; omega)) _) | (refine Below.alloc ?_ (by first | omega | (simp; done) | (simp; omega)) _) | refine Below.drew ?_ | (refine below_thru ?_ (by assumption) (by first | omega | (simp; done) | (simp; omega))) | refine below_drewN ?_ _))
  · exact ((Blk.new' (w.alloc _) _ _ (by simp)).alloc _).alloc _
  · rintro e w1 ⟨rfl, hb1⟩
    have hfin := levelF_eq t x (.pointer (some ⟨w.heap.size, 0, none⟩)) (.pointer (some ⟨w.heap.size + 1, 0, none⟩))
    have hz := levelF_zero t x (.pointer (some ⟨w.heap.size, 0, none⟩)) (.pointer (some ⟨w.heap.size + 1, 0, none⟩))
    generalize firstF ((levelC t x (.pointer (some ⟨w.heap.size, 0, none⟩)) (.pointer (some ⟨w.heap.size + 1, 0, none⟩))).map (·.r)) = f at *
    obtain ⟨p, a, c⟩ := f
    simp only at hfin hz
    obtain ⟨hc1, hf1⟩ := bcell hb1; have hz1 := hb1.size; (try simp at hz1)
    have hl0 : w.heap.size < w1.heap.size := by omega
    have hl1 : w.heap.size + 1 < w1.heap.size := by omega
    have hl2 : w.heap.size + 1 + 1 < w1.heap.size := by omega
    by_cases hc : c = 0
    · subst hc
      have hz := hz rfl
      simp only [if_true] at hfin
      obtain ⟨z1, z2, z3⟩ := hz
      have hok := tableF_zero t w w.heap.size Ht.out z1
      have Hs := Lib.hid (fun W h => tides1_any t x W h hok z2 z3)
      have Hf := Lib.hid hfin
      clear hfin z1 hok HGood
      go_wp2_with fail
      refine (Hs.out _ (Ht.out.grow (by repeat (first | exact Below.refl _ _ | assumption | (refine Below.setCell ?_ (by first | omega | (simp; done) | (simp; omega)) _) | (refine Below.alloc ?_ (by first | omega | (simp; done) | (simp; omega)) _) | refine Below.drew ?_ | (refine below_thru ?_ (by assumption) (by first | omega | (simp; done) | (simp; omega))) | refine below_drewN ?_ _)))).mono ?_
      rintro e w2 ⟨g, rfl, hg, hgb, hb2⟩
      obtain ⟨y0, y1, y2, y3⟩ := hg.two
      generalize hs : tideFold t x t.cs = s at *
      have Hs' := Lib.hid hs; clear hs hg
      obtain ⟨lo, hi⟩ := s
      simp only at y0 y1
      obtain ⟨hc2, hf2⟩ := bcell hb2; have hz2 := hb2.size; (try simp at hz2)
      have hl4 : w.heap.size + 1 + 1 < w2.heap.size := by omega
      have hl5 : w.heap.size + 1 + 1 ≤ w1.heap.size := by omega
      have hgn : ¬ g = w.heap.size + 1 + 1 := by simp at hgb; omega
      go_wp2
      exact bodyPost_ret (v := .tuple #[Sp.v ⟨lo, hi⟩, .int .i64 0]) (by simp [results, Tryz.results25, go_sem, hc1, hc2, hl2, hl4, hl5, hl1] <;> omega) rfl ⟨by rw [Hf.out], (by repeat (first | exact Below.refl _ _ | assumption | (refine Below.setCell ?_ (by first | omega | (simp; done) | (simp; omega)) _) | (refine Below.alloc ?_ (by first | omega | (simp; done) | (simp; omega)) _) | refine Below.drew ?_ | (refine below_thru ?_ (by assumption) (by first | omega | (simp; done) | (simp; omega))) | refine below_drewN ?_ _))⟩
    · have hc' : (c != 0) = true := by simpa using hc
      rw [if_neg hc] at hfin
      have Hf := Lib.hid hfin
      clear hfin hz HGood
      go_wp2_with fail
      go_region
      all_goals go_wp2
      all_goals exact bodyPost_ret (v := .tuple #[Sp.v ⟨0, 0⟩, .int .i64 c]) (by simp [results, Tryz.results25, go_sem, hc1, hl2] <;> omega) rfl ⟨by rw [Hf.out], (by repeat (first | exact Below.refl _ _ | assumption | (refine Below.setCell ?_ (by first | omega | (simp; done) | (simp; omega)) _) | (refine Below.alloc ?_ (by first | omega | (simp; done) | (simp; omega)) _) | refine Below.drew ?_ | (refine below_thru ?_ (by assumption) (by first | omega | (simp; done) | (simp; omega))) | refine below_drewN ?_ _))⟩
end Go.Proofs.YtncidhoojgncgaaGreat
