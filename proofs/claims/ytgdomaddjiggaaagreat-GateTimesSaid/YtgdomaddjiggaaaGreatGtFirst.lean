/- 'first' and 'each' return the first fault of their checks. -/
import Derived.Test.YtgdomaddjiggaaaGreatGtLeaf
namespace Go.Proofs.YtgdomaddjiggaaaGreat
open Go.RowKit
set_option linter.unusedSimpArgs false
set_option linter.unusedVariables false

/-- A check: a function value, and the fault that it returns. -/
structure Chk where
  f : FuncId
  caps : Array Value
  r : Ft
def Good (w : World) (cs : List Chk) : Prop := ∀ (k : Nat) (c : Chk), cs[k]? = some c → (∀ (j : Nat) (d : Chk), j < k → cs[j]? = some d → d.r.e = 0) → ∀ W, Below w.heap.size w W →
  Calls Tryz.prog c.f c.caps W fun e w' => e = .returned c.r.v ∧ Below W.heap.size W w'

/-- The function value is one of a function with a body. -/
def Plain (f : FuncId) (caps : Array Value) : Prop := ∀ W : World, Sem.run Tryz.prog (callFunc f caps) W = .ok (.enter f caps) W

theorem firstF_all : ∀ (l : List Ft), (∀ (j : Nat) (f : Ft), l[j]? = some f → f.e = 0) → firstF l = ⟨0, 0, 0⟩
  | [], _ => rfl
  | f :: l, h => by
    have h0 := h 0 f rfl
    simp only [firstF, h0, if_true]
    exact firstF_all l fun j g hg => h (j + 1) g (by simpa using hg)
theorem firstF_at : ∀ (l : List Ft) (k : Nat) (f : Ft), l[k]? = some f → f.e ≠ 0 → (∀ (j : Nat) (g : Ft), j < k → l[j]? = some g → g.e = 0) → firstF l = f
  | [], k, f, h, _, _ => by simp at h
  | g :: l, 0, f, h, hf, _ => by
    simp at h; subst h
    simp [firstF, hf]
  | g :: l, k + 1, f, h, hf, hj => by
    have h0 := hj 0 g (by omega) rfl
    simp only [firstF, h0, if_true]
    exact firstF_at l k f (by simpa using h) hf fun j d hd he => hj (j + 1) d (by omega) (by simpa using he)

set_option maxRecDepth 100000 in
set_option maxHeartbeats 1000000 in
theorem first_any (w : World) (b off n : Nat) (cs : List Chk) (hn : cs.length = n) (hmax : n ≤ 1000) (hb : b < w.heap.size)
    (hcell : ∀ (k : Nat) (c : Chk), cs[k]? = some c → w.cell? ⟨b, off + k, none⟩ = some (.func (.func c.f) #[] c.caps)) (hg : Good w cs) (hp : ∀ (k : Nat) (c : Chk), cs[k]? = some c → Plain c.f c.caps) :
    Calls Tryz.prog 60 #[.slice (some ⟨b, off, none⟩) n n] w fun e w' => e = .returned (firstF (cs.map (·.r))).v ∧ Below w.heap.size w w' := by
  have Hn := Lib.hid hn; clear hn
  have Hcell := Lib.hid hcell; clear hcell
  have Hg := Lib.hid hg; clear hg
  have Hp := Lib.hid hp; clear hp
  go_enter Tryz.func60, Tryz.ntmps60
  go_wp2
  go_loopw [8] (fun i wr => ∃ k : Nat, k ≤ n ∧ i = .int .i64 k ∧ Hid (∀ (j : Nat) (d : Chk), j < k → cs[j]? = some d → d.r.e = 0) ∧ Below (w.heap.size + 1) (w.alloc (.cells #[.int .i64 0, .int .i64 0, .int .i64 0] 94)) wr)
    (fun i _ => n - (intOf i).toNat)
  case atStart => exact ⟨0, Nat.zero_le _, rfl, fun j d h => by omega, Below.refl _ _⟩
  case round =>
    obtain ⟨k, hk, rfl, hprev, hbr⟩ := hrel
    obtain ⟨hcr, hfr⟩ := bcell (W := w.alloc (.cells #[.int .i64 0, .int .i64 0, .int .i64 0] 94)) (by simpa using hbr)
    have hzr := hbr.size
    simp at hzr
    by_cases hlt : k < n
    · obtain ⟨c, hc⟩ : ∃ c, cs[k]? = some c := ⟨cs[k]'(by rw [Hn.out]; exact hlt), List.getElem?_eq_getElem _⟩
      have Hc := Lib.hid hc; clear hc
      have hcl : w.cell? ⟨b, off + k, none⟩ = some (.func (.func c.f) #[] c.caps) := Hcell.out k c Hc.out
      have hpl : ∀ W : World, Sem.run Tryz.prog (callFunc c.f c.caps) W = .ok (.enter c.f c.caps) W := Hp.out k c Hc.out
      go_wp2_with fail
      refine (Hg.out k c Hc.out hprev.out wr ⟨hbr.os, hbr.tape, hbr.output, by omega, fun i hi => (hbr.block i (by omega)).trans (Below.heap_alloc w _ i hi)⟩).mono ?_
      rintro e w1 ⟨rfl, hb1⟩
      obtain ⟨hc1, hf1⟩ := bcell hb1; have hz1 := hb1.size; (try simp at hz1)
      have hlr : w.heap.size < wr.heap.size := by omega
      have hl1 : w.heap.size < w1.heap.size := by omega
      obtain ⟨f, caps, r1, r2, r3⟩ := c
      by_cases h0 : r3 = 0
      · subst h0
        go_wp2
        go_roundw
        case rel =>
          refine ⟨k + 1, by omega, by go_num, ?_, ?_⟩
          · intro j d hj hd
            rcases Nat.lt_or_ge j k with h | h
            · exact hprev.out j d h hd
            · obtain rfl : j = k := by omega
              rw [Hc.out] at hd; cases hd; rfl
          · exact (by repeat (first | exact Below.refl _ _ | assumption | (refine Below.setCell ?_ (by first | omega | (simp; done) | (simp; omega)) _) | (refine Below.alloc ?_ (by first | omega | (simp; done) | (simp; omega)) _) | refine Below.drew ?_ | (refine below_thru ?_ (by assumption) (by first | omega | (simp; done) | (simp; omega))) | refine below_drewN ?_ _))
        case measure => simp [intOf]; omega
      · have h0' : (r3 != 0) = true := by simpa using h0
        go_wp2
        have hfin : firstF (cs.map (·.r)) = ⟨r1, r2, r3⟩ := firstF_at _ k _ (by simp [Hc.out]) h0 fun j g hj hg => by
          obtain ⟨d, hd, rfl⟩ := by simpa using hg
          exact hprev.out j d hj hd
        exact bodyPost_ret (v := Ft.v ⟨r1, r2, r3⟩) (by simp [results, Tryz.results60, go_sem, hc1, hl1, hcr, hlr] <;> omega) rfl ⟨by rw [hfin], (by repeat (first | exact Below.refl _ _ | assumption | (refine Below.setCell ?_ (by first | omega | (simp; done) | (simp; omega)) _) | (refine Below.alloc ?_ (by first | omega | (simp; done) | (simp; omega)) _) | refine Below.drew ?_ | (refine below_thru ?_ (by assumption) (by first | omega | (simp; done) | (simp; omega))) | refine below_drewN ?_ _))⟩
    · obtain rfl : k = n := by omega
      have hlr : w.heap.size < wr.heap.size := by omega
      go_wp2
      have hfin : firstF (cs.map (·.r)) = ⟨0, 0, 0⟩ := firstF_all _ fun j g hg => by
        obtain ⟨d, hd, rfl⟩ := by simpa using hg
        exact hprev.out j d (by have := (List.getElem?_eq_some_iff.1 hd).1; rw [Hn.out] at this; exact this) hd
      exact bodyPost_ret (v := Ft.v ⟨0, 0, 0⟩) (by simp [results, Tryz.results60, go_sem, hcr, hlr] <;> omega) rfl ⟨by rw [hfin], (by repeat (first | exact Below.refl _ _ | assumption | (refine Below.setCell ?_ (by first | omega | (simp; done) | (simp; omega)) _) | (refine Below.alloc ?_ (by first | omega | (simp; done) | (simp; omega)) _) | refine Below.drew ?_ | (refine below_thru ?_ (by assumption) (by first | omega | (simp; done) | (simp; omega))) | refine below_drewN ?_ _))⟩
end Go.Proofs.YtgdomaddjiggaaaGreat
