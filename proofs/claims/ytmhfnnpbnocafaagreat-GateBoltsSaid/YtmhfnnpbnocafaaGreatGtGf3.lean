/- The faults of a gate: gateFault. -/
import Derived.Test.YtmhfnnpbnocafaaGreatGtGf2
import Derived.Test.YtmhfnnpbnocafaaGreatGtNums
namespace Go.Proofs.YtmhfnnpbnocafaaGreat
open Go.RowKit
set_option linter.unusedSimpArgs false
set_option linter.unusedVariables false

set_option maxHeartbeats 1000000 in
theorem gf6_any (g : Ga) (b : Nat) (w : World) (hg : g.Box w b) (t0 : 1 ≤ g.travel) (t1 : g.travel ≤ 5000) :
    Calls Tryz.prog 73 #[.pointer (some ⟨b, 0, none⟩)] w fun e w' => e = .returned ((need (numsB g) 7).in_ 3).v ∧ Below w.heap.size w w' := by
  have hB := Lib.hid hg.blk
  have hlt := hg.blk.lt
  clear hg
  have HN := Lib.hid (fun W => nums_any g W t0 t1)
  generalize numsB g = nb at *
  go_enter Tryz.func73, Tryz.ntmps73
  go_wp2_with (with_reducible refine wpl_g (hB.out.alloc _) rfl rfl rfl ?_)
  refine (HN.out _).mono ?_
  rintro e w1 ⟨rfl, hb1⟩
  obtain ⟨hc1, hf1⟩ := bcell hb1; have hz1 := hb1.size; (try simp at hz1)
  have hl0 : w.heap.size < w1.heap.size := by omega
  go_wp2_with fail
  refine (need_any nb 7 _).mono ?_
  rintro e w2 ⟨rfl, hb2⟩
  obtain ⟨hc2, hf2⟩ := bcell hb2; have hz2 := hb2.size; (try simp at hz2)
  have hl2 : w.heap.size < w2.heap.size := by omega
  go_wp2_with fail
  refine (fault_in_any (need nb 7) 3 _).mono ?_
  rintro e w3 ⟨rfl, hb3⟩
  obtain ⟨hc3, hf3⟩ := bcell hb3; have hz3 := hb3.size; (try simp at hz3)
  have hl3 : w.heap.size < w3.heap.size := by omega
  go_wp2
  exact bodyPost_ret (v := ((need nb 7).in_ 3).v) (by simp [results, Tryz.results73, go_sem, hc1, hc2, hc3, hl0, hl2, hl3] <;> omega) rfl ⟨by rfl, (by repeat (first | exact Below.refl _ _ | assumption | (refine Below.setCell ?_ (by first | omega | (simp; done) | (simp; omega)) _) | (refine Below.alloc ?_ (by first | omega | (simp; done) | (simp; omega)) _) | refine Below.drew ?_ | (refine below_thru ?_ (by assumption) (by first | omega | (simp; done) | (simp; omega))) | refine below_drewN ?_ _))⟩

def gateL (g : Ga) : List Ft := [(need (nameB g.name) 6).in_ 1, (need (betw g.kind 1 3) 2).in_ 1, (need (betw g.travel 1 5000) 7).in_ 1, (need (betw g.on 2 16) 3).in_ 2, (eachF (fun i => ownFt g i) 0 g.on).in_ 2, (need (numsB g) 7).in_ 3, (need (decide ((g.sn : Int) ≤ 6)) 3).in_ 4, (eachF (fun i => sensAt g i) 0 g.sn).in_ 4, (need (betw g.wrong 0 g.sn) 7).in_ 4]
def gateF (g : Ga) : Ft := firstF (gateL g)
def gateC (g : Ga) (p : Value) : List Chk := [⟨64, #[p], (need (nameB g.name) 6).in_ 1⟩, ⟨67, #[p], (need (betw g.kind 1 3) 2).in_ 1⟩, ⟨68, #[p], (need (betw g.travel 1 5000) 7).in_ 1⟩, ⟨69, #[p], (need (betw g.on 2 16) 3).in_ 2⟩, ⟨70, #[p], (eachF (fun i => ownFt g i) 0 g.on).in_ 2⟩, ⟨73, #[p], (need (numsB g) 7).in_ 3⟩, ⟨75, #[p], (need (decide ((g.sn : Int) ≤ 6)) 3).in_ 4⟩, ⟨76, #[p], (eachF (fun i => sensAt g i) 0 g.sn).in_ 4⟩, ⟨79, #[p], (need (betw g.wrong 0 g.sn) 7).in_ 4⟩]
theorem need_e {b : Bool} {c : Int} (hc : c ≠ 0) (h : (need b c).e = 0) : b = true := by
  cases b
  · exact absurd h hc
  · rfl
theorem gateC_good (g : Ga) (b : Nat) (w : World) (hg : g.Box w b) : Good w (gateC g (.pointer (some ⟨b, 0, none⟩))) := by
  intro k c hk hprev W hW
  have hb := hg.grow hW
  match k, hk with
  | 0, hk => cases hk; exact gf1_any g b W hb
  | 1, hk => cases hk; exact gf2_any g b W hb
  | 2, hk => cases hk; exact gf3_any g b W hb
  | 3, hk => cases hk; exact gf4_any g b W hb
  | 4, hk =>
    cases hk
    have h2 : betw g.on 2 16 = true := need_e (c := 3) (by omega) (hprev 3 _ (by omega) rfl)
    simp only [betw, Bool.and_eq_true, decide_eq_true_eq] at h2
    exact gf5_any g b W hb (by omega)
  | 5, hk =>
    cases hk
    have h2 : betw g.travel 1 5000 = true := need_e (c := 7) (by omega) (hprev 2 _ (by omega) rfl)
    simp only [betw, Bool.and_eq_true, decide_eq_true_eq] at h2
    exact gf6_any g b W hb h2.1 h2.2
  | 6, hk => cases hk; exact gf7_any g b W hb
  | 7, hk =>
    cases hk
    have h2 : decide ((g.sn : Int) ≤ 6) = true := need_e (c := 3) (by omega) (hprev 6 _ (by omega) rfl)
    simp only [decide_eq_true_eq] at h2
    exact gf8_any g b W hb (by omega)
  | 8, hk => cases hk; exact gf9_any g b W hb
  | k + 9, hk => simp [gateC] at hk
theorem gateC_plain (g : Ga) (p : Value) : ∀ (k : Nat) (c : Chk), (gateC g p)[k]? = some c → Plain c.f c.caps := by
  intro k c hk W
  match k, hk with
  | 0, hk => cases hk; show Sem.run Tryz.prog (callFunc _ _) W = _; kernel_rfl
  | 1, hk => cases hk; show Sem.run Tryz.prog (callFunc _ _) W = _; kernel_rfl
  | 2, hk => cases hk; show Sem.run Tryz.prog (callFunc _ _) W = _; kernel_rfl
  | 3, hk => cases hk; show Sem.run Tryz.prog (callFunc _ _) W = _; kernel_rfl
  | 4, hk => cases hk; show Sem.run Tryz.prog (callFunc _ _) W = _; kernel_rfl
  | 5, hk => cases hk; show Sem.run Tryz.prog (callFunc _ _) W = _; kernel_rfl
  | 6, hk => cases hk; show Sem.run Tryz.prog (callFunc _ _) W = _; kernel_rfl
  | 7, hk => cases hk; show Sem.run Tryz.prog (callFunc _ _) W = _; kernel_rfl
  | 8, hk => cases hk; show Sem.run Tryz.prog (callFunc _ _) W = _; kernel_rfl
  | k + 9, hk => simp [gateC] at hk

set_option maxRecDepth 100000 in
set_option maxHeartbeats 1000000 in
theorem gateFault_any (g : Ga) (w : World) (hg : g.At w w.heap.size) :
    Calls Tryz.prog 26 #[g.v] w fun e w' => e = .returned (gateF g).v ∧ Below w.heap.size w w' := by
  have Hg := Lib.hid hg; clear hg
  have hGood := fun W b (h : g.Box W b) => gateC_good g b W h
  have HGood := Lib.hid hGood; clear hGood
  go_enter Tryz.func26, Tryz.ntmps26
  go_wp2_with fail
  refine (first_any _ (w.heap.size + 1 + 1) 0 9 (gateC g (.pointer (some ⟨w.heap.size, 0, none⟩))) rfl (by omega) (by simp) ?_ (HGood.out _ _ ⟨?_, ?_⟩) (gateC_plain g _)).mono ?_
  · intro k c hk
    match k, hk with
    | 0, hk => cases hk; exact (Blk.new' _ _ _ (by simp)).cell 0
    | 1, hk => cases hk; exact (Blk.new' _ _ _ (by simp)).cell 1
    | 2, hk => cases hk; exact (Blk.new' _ _ _ (by simp)).cell 2
    | 3, hk => cases hk; exact (Blk.new' _ _ _ (by simp)).cell 3
    | 4, hk => cases hk; exact (Blk.new' _ _ _ (by simp)).cell 4
    | 5, hk => cases hk; exact (Blk.new' _ _ _ (by simp)).cell 5
    | 6, hk => cases hk; exact (Blk.new' _ _ _ (by simp)).cell 6
    | 7, hk => cases hk; exact (Blk.new' _ _ _ (by simp)).cell 7
    | 8, hk => cases hk; exact (Blk.new' _ _ _ (by simp)).cell 8
    | k + 9, hk => simp [gateC] at hk
  · exact ((Blk.new w _ _).alloc _).alloc _
  · exact Hg.out.grow (by repeat (first | exact Below.refl _ _ | assumption | (refine Below.setCell ?_ (by first | omega | (simp; done) | (simp; omega)) _) | (refine Below.alloc ?_ (by first | omega | (simp; done) | (simp; omega)) _) | refine Below.drew ?_ | (refine below_thru ?_ (by assumption) (by first | omega | (simp; done) | (simp; omega))) | refine below_drewN ?_ _))
  · rintro e w1 ⟨he, hb1⟩
    replace he : e = .returned (gateF g).v := he
    subst he
    obtain ⟨hc1, hf1⟩ := bcell hb1; have hz1 := hb1.size; (try simp at hz1)
    go_wp2
    exact bodyPost_ret (v := (gateF g).v) (by simp [results, Tryz.results26, go_sem, hc1] <;> omega) rfl ⟨by rfl, (by repeat (first | exact Below.refl _ _ | assumption | (refine Below.setCell ?_ (by first | omega | (simp; done) | (simp; omega)) _) | (refine Below.alloc ?_ (by first | omega | (simp; done) | (simp; omega)) _) | refine Below.drew ?_ | (refine below_thru ?_ (by assumption) (by first | omega | (simp; done) | (simp; omega))) | refine below_drewN ?_ _))⟩

theorem first0 : ∀ (l : List Ft), (firstF l).e = 0 → ∀ f ∈ l, f.e = 0 := by
  intro l
  induction l with
  | nil => intro _ f hf; cases hf
  | cons a l ih =>
    intro h f hf
    simp only [firstF] at h
    split at h
    · rename_i h0
      rcases List.mem_cons.1 hf with rfl | hf
      · exact h0
      · exact ih h f hf
    · rename_i h0; exact absurd h h0
theorem each0 (c : Nat → Ft) (n i : Nat) (h : (eachF c i n).e = 0) : ∀ j, i ≤ j → j < i + n → (c j).e = 0 := by
  induction n generalizing i with
  | zero => intro j h1 h2; omega
  | succ n ih =>
    intro j h1 h2
    simp only [eachF] at h
    split at h
    · rename_i h0
      rcases Nat.eq_or_lt_of_le h1 with rfl | h3
      · exact h0
      · exact ih (i + 1) h j (by omega) (by omega)
    · rename_i h0; exact absurd h h0
/-- A gate without a fault has its numbers as stated. -/
theorem gateF_ok (g : Ga) (w : World) (B : Nat) (hat : g.At w B) (h : (gateF g).e = 0) : g.Ok := by
  have hol := hat.ol
  have hsl := hat.sl
  have hall := first0 _ h
  have h2 := need_e (b := betw g.kind 1 3) (c := 2) (by omega) (hall ((need (betw g.kind 1 3) 2).in_ 1) (by simp [gateL]))
  have h3 := need_e (b := betw g.travel 1 5000) (c := 7) (by omega) (hall ((need (betw g.travel 1 5000) 7).in_ 1) (by simp [gateL]))
  have h4 := need_e (b := betw g.on 2 16) (c := 3) (by omega) (hall ((need (betw g.on 2 16) 3).in_ 2) (by simp [gateL]))
  have h5 := each0 _ _ _ (show (eachF (fun i => ownFt g i) 0 g.on).e = 0 from hall ((eachF (fun i => ownFt g i) 0 g.on).in_ 2) (by simp [gateL]))
  have h6 := need_e (b := numsB g) (c := 7) (by omega) (hall ((need (numsB g) 7).in_ 3) (by simp [gateL]))
  have h7 := need_e (b := decide ((g.sn : Int) ≤ 6)) (c := 3) (by omega) (hall ((need (decide ((g.sn : Int) ≤ 6)) 3).in_ 4) (by simp [gateL]))
  have h8 := each0 _ _ _ (show (eachF (fun i => sensAt g i) 0 g.sn).e = 0 from hall ((eachF (fun i => sensAt g i) 0 g.sn).in_ 4) (by simp [gateL]))
  have h9 := need_e (b := betw g.wrong 0 g.sn) (c := 7) (by omega) (hall ((need (betw g.wrong 0 g.sn) 7).in_ 4) (by simp [gateL]))
  simp only [numsB, levels2B, levelB, betw, Bool.and_eq_true, decide_eq_true_eq] at h2 h3 h4 h6 h7 h9
  have ho : ∀ f ∈ g.os, -200000 ≤ f ∧ f ≤ 200000 := by
    intro f hf
    obtain ⟨i, hi, rfl⟩ := List.getElem_of_mem hf
    have := first0 _ (h5 i (by omega) (by omega)) (need (betw (g.os.getD i 0) (-200000) 200000) 7) (by simp)
    have := need_e (c := 7) (by omega) this
    rw [List.getD_eq_getElem?_getD, List.getElem?_eq_getElem hi] at this
    simpa [betw] using this
  have hs : ∀ s ∈ g.ss, 0 ≤ s.at_ ∧ s.at_ ≤ 5000 ∧ 0 ≤ s.tol ∧ s.tol ≤ 5000 := by
    intro s hs
    obtain ⟨i, hi, rfl⟩ := List.getElem_of_mem hs
    have := h8 i (by omega) (by omega)
    unfold sensAt at this
    rw [List.getD_eq_getElem?_getD, List.getElem?_eq_getElem hi] at this
    have := first0 _ this (need (betw g.ss[i].at_ 0 5000 && betw g.ss[i].tol 0 5000) 7) (by simp)
    have := need_e (c := 7) (by omega) this
    simp only [betw, Bool.and_eq_true, decide_eq_true_eq] at this
    omega
  constructor <;> first | omega | assumption
end Go.Proofs.YtmhfnnpbnocafaaGreat
