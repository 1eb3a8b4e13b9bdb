/- Says. -/
import Derived.Test.YtncidhoojgncgaaGreatTdGauges
namespace Go.Proofs.YtncidhoojgncgaaGreat
open Go.RowKit
set_option linter.unusedSimpArgs false
set_option linter.unusedVariables false

def saysC (g : Gg) (x y : Int) (p q r : Value) : List Chk := [⟨77, #[p], gaugeF g⟩, ⟨78, #[q, r], need (tickB x && tickB y) 7⟩]
theorem saysC_plain (g : Gg) (x y : Int) (p q r : Value) : ∀ (k : Nat) (c : Chk), (saysC g x y p q r)[k]? = some c → Plain c.f c.caps := by
  intro k c hk W
  match k, hk with
  | 0, hk => cases hk; show Sem.run Tryz.prog (callFunc _ _) W = _; kernel_rfl
  | 1, hk => cases hk; show Sem.run Tryz.prog (callFunc _ _) W = _; kernel_rfl
  | k + 2, hk => simp [saysC] at hk
theorem saysC_good (g : Gg) (x y : Int) (b bx b2 : Nat) (w : World) (hg : g.Box w b) (hx : Blk w bx 3 #[.int .i64 x]) (hy : Blk w b2 3 #[.int .i64 y]) : Good w (saysC g x y (.pointer (some ⟨b, 0, none⟩)) (.pointer (some ⟨bx, 0, none⟩)) (.pointer (some ⟨b2, 0, none⟩))) := by
  intro k c hk hprev W hW
  match k, hk with
  | 0, hk => cases hk; exact says1_any g b W (hg.grow hW)
  | 1, hk => cases hk; exact says2_any x y bx b2 W (hx.thru hW hx.lt) (hy.thru hW hy.lt)
  | k + 2, hk => simp [saysC] at hk
theorem saysF_eq (g : Gg) (x y : Int) (p q r : Value) : saysF g x y = if (firstF ((saysC g x y p q r).map (·.r))).e = 0 then saidF g x y else (⟨0, 0⟩, (firstF ((saysC g x y p q r).map (·.r))).e) := by
  unfold saysF
  simp only [saysC, List.map_cons, List.map_nil, firstF]
  by_cases h : (gaugeF g).e = 0
  · simp only [h, if_true]
    cases tickB x && tickB y <;> simp [need]
  · simp [h]
theorem saysF_zero (g : Gg) (x y : Int) (p q r : Value) (h : (firstF ((saysC g x y p q r).map (·.r))).e = 0) : (gaugeF g).e = 0 ∧ 0 ≤ x ∧ x ≤ 200000 ∧ 0 ≤ y ∧ y ≤ 200000 := by
  simp only [saysC, List.map_cons, List.map_nil, firstF] at h
  by_cases h0 : (gaugeF g).e = 0
  · simp only [h0, if_true] at h
    refine ⟨h0, ?_⟩
    cases ht : tickB x && tickB y
    · rw [ht] at h; simp [need] at h
    · simp only [tickB, betw, Bool.and_eq_true, decide_eq_true_eq] at ht; omega
  · simp [h0] at h

set_option maxRecDepth 100000 in
set_option maxHeartbeats 2000000 in
theorem Says_any (g : Gg) (x y : Int) (w : World) (hg : g.At w w.heap.size) :
    Calls Tryz.prog 37 #[g.v, .int .i64 x, .int .i64 y] w fun e w' => e = .returned (.tuple #[(saysF g x y).1.v, .int .i64 (saysF g x y).2]) ∧ Below w.heap.size w w' := by
  have Hg := Lib.hid hg; clear hg
  have hGood := fun W b bx b2 (h : g.Box W b) h1 h2 => saysC_good g x y b bx b2 W h h1 h2
  have HGood := Lib.hid hGood; clear hGood
  go_enter Tryz.func37, Tryz.ntmps37
  go_wp2_with fail
  refine (first_any _ (w.heap.size + 1 + 1 + 1 + 1) 0 2 (saysC g x y (.pointer (some ⟨w.heap.size, 0, none⟩)) (.pointer (some ⟨w.heap.size + 1, 0, none⟩)) (.pointer (some ⟨w.heap.size + 1 + 1, 0, none⟩))) rfl (by omega) (by simp) ?_ (HGood.out _ _ _ _ ⟨?_, ?_⟩ ?_ ?_) (saysC_plain g x y _ _ _)).mono ?_
  · intro k c hk
    match k, hk with
    | 0, hk => cases hk; exact (Blk.new' _ _ _ (by simp)).cell 0
    | 1, hk => cases hk; exact (Blk.new' _ _ _ (by simp)).cell 1
    | k + 2, hk => simp [saysC] at hk
  · exact ((((Blk.new w _ _).alloc _).alloc _).alloc _).alloc _
  · exact Hg.out.grow (by repeat (first | exact Below.refl _ _ | assumption | (refine Below.setCell ?_ (by first | omega | (simp; done) | (simp; omega)) _) | (refine Below.alloc ?_ (by first | omega | (simp; done) | (simp; omega)) _) | refine Below.drew ?_ | (refine below_thru ?_ (by assumption) (by first | omega | (simp; done) | (simp; omega))) | refine below_drewN ?_ _))
  · exact (((Blk.new' (w.alloc _) _ _ (by simp)).alloc _).alloc _).alloc _
  · exact ((Blk.new' ((w.alloc _).alloc _) _ _ (by simp)).alloc _).alloc _
  · rintro e w1 ⟨rfl, hb1⟩
    have hfin := saysF_eq g x y (.pointer (some ⟨w.heap.size, 0, none⟩)) (.pointer (some ⟨w.heap.size + 1, 0, none⟩)) (.pointer (some ⟨w.heap.size + 1 + 1, 0, none⟩))
    have hz := saysF_zero g x y (.pointer (some ⟨w.heap.size, 0, none⟩)) (.pointer (some ⟨w.heap.size + 1, 0, none⟩)) (.pointer (some ⟨w.heap.size + 1 + 1, 0, none⟩))
    generalize firstF ((saysC g x y (.pointer (some ⟨w.heap.size, 0, none⟩)) (.pointer (some ⟨w.heap.size + 1, 0, none⟩)) (.pointer (some ⟨w.heap.size + 1 + 1, 0, none⟩))).map (·.r)) = f at *
    obtain ⟨p, a, c⟩ := f
    simp only at hfin hz
    obtain ⟨hc1, hf1⟩ := bcell hb1; have hz1 := hb1.size; (try simp at hz1)
    have hl0 : w.heap.size < w1.heap.size := by omega
    have hl1 : w.heap.size + 1 < w1.heap.size := by omega
    have hl2 : w.heap.size + 1 + 1 < w1.heap.size := by omega
    have hl3 : w.heap.size + 1 + 1 + 1 < w1.heap.size := by omega
    by_cases hc : c = 0
    · subst hc
      have hz := hz rfl
      simp only [if_true] at hfin
      obtain ⟨z1, z2, z3, z4, z5⟩ := hz
      have hok := gaugeF_zero g w w.heap.size Hg.out z1
      have Hs := Lib.hid (fun W h => said_any g x y W h hok z2 z3)
      have Hf := Lib.hid hfin
      clear hfin z1 hok HGood
      go_wp2_with fail
      refine (Hs.out _ (Hg.out.grow (by repeat (first | exact Below.refl _ _ | assumption | (refine Below.setCell ?_ (by first | omega | (simp; done) | (simp; omega)) _) | (refine Below.alloc ?_ (by first | omega | (simp; done) | (simp; omega)) _) | refine Below.drew ?_ | (refine below_thru ?_ (by assumption) (by first | omega | (simp; done) | (simp; omega))) | refine below_drewN ?_ _)))).mono ?_
      rintro e w2 ⟨rfl, hb2⟩
      generalize hs : saidF g x y = s
      have Hs' := Lib.hid hs; clear hs
      obtain ⟨⟨lo, hi⟩, er⟩ := s
      obtain ⟨hc2, hf2⟩ := bcell hb2; have hz2 := hb2.size; (try simp at hz2)
      have hl4 : w.heap.size + 1 + 1 + 1 < w2.heap.size := by omega
      have hl5 : w.heap.size + 1 + 1 + 1 < w1.heap.size + 1 := by omega
      go_wp2
      exact bodyPost_ret (v := .tuple #[Sp.v ⟨lo, hi⟩, .int .i64 er]) (by simp [results, Tryz.results37, go_sem, hc1, hc2, hl3, hl4, hl5] <;> omega) rfl ⟨by rw [Hf.out, Hs'.out], (by repeat (first | exact Below.refl _ _ | assumption | (refine Below.setCell ?_ (by first | omega | (simp; done) | (simp; omega)) _) | (refine Below.alloc ?_ (by first | omega | (simp; done) | (simp; omega)) _) | refine Below.drew ?_ | (refine below_thru ?_ (by assumption) (by first | omega | (simp; done) | (simp; omega))) | refine below_drewN ?_ _))⟩
    · have hc' : (c != 0) = true := by simpa using hc
      rw [if_neg hc] at hfin
      have Hf := Lib.hid hfin
      clear hfin hz HGood
      go_wp2_with fail
      go_region
      all_goals go_wp2
      all_goals exact bodyPost_ret (v := .tuple #[Sp.v ⟨0, 0⟩, .int .i64 c]) (by simp [results, Tryz.results37, go_sem, hc1, hl3] <;> omega) rfl ⟨by rw [Hf.out], (by repeat (first | exact Below.refl _ _ | assumption | (refine Below.setCell ?_ (by first | omega | (simp; done) | (simp; omega)) _) | (refine Below.alloc ?_ (by first | omega | (simp; done) | (simp; omega)) _) | refine Below.drew ?_ | (refine below_thru ?_ (by assumption) (by first | omega | (simp; done) | (simp; omega))) | refine below_drewN ?_ _))⟩
end Go.Proofs.YtncidhoojgncgaaGreat
