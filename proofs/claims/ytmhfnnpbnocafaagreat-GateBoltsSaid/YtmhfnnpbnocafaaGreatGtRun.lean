/- The faults of what Run is asked. What a gate alone does in step after step: models, and what is kept. Run: the states of a gate after each of its steps. -/
import Derived.Test.YtmhfnnpbnocafaaGreatGtTime
namespace Go.Proofs.YtmhfnnpbnocafaaGreat
open Go.RowKit
set_option linter.unusedSimpArgs false
set_option linter.unusedVariables false

set_option maxRecDepth 100000 in
set_option maxHeartbeats 1000000 in
theorem eachL_any (w : World) (n : Nat) (hmax : n ≤ 3000) (f : FuncId) (c0 : Value) (r : Nat → Ft)
    (hp : ∀ (k : Nat) (W : World), Sem.run Tryz.prog (callFunc f #[.int .i64 k, c0]) W = .ok (.enter f #[.int .i64 k, c0]) W)
    (hg : ∀ k, k < n → (∀ j, j < k → (r j).e = 0) → ∀ W, Below w.heap.size w W → Calls Tryz.prog f #[.int .i64 k, c0] W fun e w' => e = .returned (r k).v ∧ Below W.heap.size W w') :
    Calls Tryz.prog 54 #[.int .i64 n, .func (.func f) #[] #[c0]] w fun e w' => e = .returned (eachF r 0 n).v ∧ Below w.heap.size w w' := by
  have Hg := Lib.hid hg; clear hg
  have Hp := Lib.hid hp; clear hp
  go_enter Tryz.func54, Tryz.ntmps54
  go_wp2
  go_loopw [8] (fun i wr => ∃ k : Nat, k ≤ n ∧ i = .int .i64 k ∧ Hid (∀ j, j < k → (r j).e = 0) ∧ Below (w.heap.size + 1) (w.alloc (.cells #[.int .i64 0, .int .i64 0, .int .i64 0] 80)) wr)
    (fun i _ => n - (intOf i).toNat)
  case atStart => exact ⟨0, Nat.zero_le _, rfl, fun j h => by omega, Below.refl _ _⟩
  case round =>
    obtain ⟨k, hk, rfl, hprev, hbr⟩ := hrel
    obtain ⟨hcr, hfr⟩ := bcell (W := w.alloc (.cells #[.int .i64 0, .int .i64 0, .int .i64 0] 80)) (by simpa using hbr)
    have hzr := hbr.size
    simp at hzr
    have hlr : w.heap.size < wr.heap.size := by omega
    by_cases hlt : k < n
    · have hpl : ∀ W : World, Sem.run Tryz.prog (callFunc f #[.int .i64 k, c0]) W = .ok (.enter f #[.int .i64 k, c0]) W := Hp.out k
      go_wp2_with fail
      refine (Hg.out k hlt hprev.out wr ⟨hbr.os, hbr.tape, hbr.output, by omega, fun i hi => (hbr.block i (by omega)).trans (Below.heap_alloc w _ i hi)⟩).mono ?_
      rintro e w1 ⟨rfl, hb1⟩
      obtain ⟨hc1, hf1⟩ := bcell hb1; have hz1 := hb1.size; (try simp at hz1)
      have hl1 : w.heap.size < w1.heap.size := by omega
      obtain ⟨r1, r2, r3, hr⟩ : ∃ r1 r2 r3, r k = ⟨r1, r2, r3⟩ := ⟨_, _, _, rfl⟩
      have Hr := Lib.hid hr
      rw [hr]
      clear hr
      by_cases h0 : r3 = 0
      · subst h0
        go_wp2
        go_roundw
        case rel =>
          refine ⟨k + 1, by omega, by go_num, ?_, ?_⟩
          · intro j hj
            rcases Nat.lt_or_ge j k with h | h
            · exact hprev.out j h
            · obtain rfl : j = k := by omega
              rw [Hr.out]
          · exact (by repeat (first | exact Below.refl _ _ | assumption | (refine Below.setCell ?_ (by first | omega | (simp; done) | (simp; omega)) _) | (refine Below.alloc ?_ (by first | omega | (simp; done) | (simp; omega)) _) | refine Below.drew ?_ | (refine below_thru ?_ (by assumption) (by first | omega | (simp; done) | (simp; omega))) | refine below_drewN ?_ _))
        case measure => simp [intOf]; omega
      · have h0' : (r3 != 0) = true := by simpa using h0
        go_wp2
        have hfin : eachF r 0 n = ⟨r1, k, r3⟩ := by
          rw [eachF_skip r k 0 n (by omega) (by simpa using hprev.out)]
          obtain ⟨m, hm⟩ : ∃ m, n - k = m + 1 := ⟨n - k - 1, by omega⟩
          rw [hm, eachF, Nat.zero_add, Hr.out]
          simp [h0]
        exact bodyPost_ret (v := Ft.v ⟨r1, k, r3⟩) (by simp [results, Tryz.results54, go_sem, hc1, hl1, hcr, hlr] <;> omega) rfl ⟨by rw [hfin], (by repeat (first | exact Below.refl _ _ | assumption | (refine Below.setCell ?_ (by first | omega | (simp; done) | (simp; omega)) _) | (refine Below.alloc ?_ (by first | omega | (simp; done) | (simp; omega)) _) | refine Below.drew ?_ | (refine below_thru ?_ (by assumption) (by first | omega | (simp; done) | (simp; omega))) | refine below_drewN ?_ _))⟩
    · obtain rfl : k = n := by omega
      go_wp2
      have hfin : eachF r 0 k = ⟨0, 0, 0⟩ := by
        rw [eachF_skip r k 0 k (by omega) (by simpa using hprev.out), Nat.sub_self]; rfl
      exact bodyPost_ret (v := Ft.v ⟨0, 0, 0⟩) (by simp [results, Tryz.results54, go_sem, hcr, hlr] <;> omega) rfl ⟨by rw [hfin], (by repeat (first | exact Below.refl _ _ | assumption | (refine Below.setCell ?_ (by first | omega | (simp; done) | (simp; omega)) _) | (refine Below.alloc ?_ (by first | omega | (simp; done) | (simp; omega)) _) | refine Below.drew ?_ | (refine below_thru ?_ (by assumption) (by first | omega | (simp; done) | (simp; omega))) | refine below_drewN ?_ _))⟩

def tAt (ts : List Gt) (i : Nat) : Gt := (ts[i]?).getD ⟨0, false, 0, 0⟩
theorem tAt_of {ts : List Gt} {i : Nat} {t : Gt} (h : ts[i]? = some t) : tAt ts i = t := by unfold tAt; rw [h]; rfl
def runFL (g : Ga) (s : Gs) (n : Nat) (ts : List Gt) : List Ft := [gateF g, need (decide ((n : Int) ≤ 2000)) 3, stateFt g s, eachF (fun i => orderFt (tAt ts i)) 0 n]
def runFt (g : Ga) (s : Gs) (n : Nat) (ts : List Gt) : Ft := firstF (runFL g s n ts)

set_option maxHeartbeats 1000000 in
theorem run1_any (g : Ga) (b : Nat) (w : World) (hg : g.Box w b) :
    Calls Tryz.prog 58 #[.pointer (some ⟨b, 0, none⟩)] w fun e w' => e = .returned (gateF g).v ∧ Below w.heap.size w w' := by
  have hB := Lib.hid hg.blk
  have HA := Lib.hid hg.at_
  have hlt := hg.blk.lt
  clear hg
  go_enter Tryz.func58, Tryz.ntmps58
  go_wp2_with (with_reducible refine wpl_g (hB.out.alloc _) rfl rfl rfl ?_)
  refine (gateFault_any g _ (HA.out.grow (by repeat (first | exact Below.refl _ _ | assumption | (refine Below.setCell ?_ (by first | omega | (simp; done) | (simp; omega)) _) | (refine Below.alloc ?_ (by first | omega | (simp; done) | (simp; omega)) _) | refine Below.drew ?_ | (refine below_thru ?_ (by assumption) (by first | omega | (simp; done) | (simp; omega))) | refine below_drewN ?_ _)))).mono ?_
  rintro e w1 ⟨rfl, hb1⟩
  obtain ⟨hc1, hf1⟩ := bcell hb1; have hz1 := hb1.size; (try simp at hz1)
  go_wp2
  exact bodyPost_ret (v := (gateF g).v) (by simp [results, Tryz.results58, go_sem, hc1] <;> omega) rfl ⟨by rfl, (by repeat (first | exact Below.refl _ _ | assumption | (refine Below.setCell ?_ (by first | omega | (simp; done) | (simp; omega)) _) | (refine Below.alloc ?_ (by first | omega | (simp; done) | (simp; omega)) _) | refine Below.drew ?_ | (refine below_thru ?_ (by assumption) (by first | omega | (simp; done) | (simp; omega))) | refine below_drewN ?_ _))⟩
set_option maxHeartbeats 1000000 in
theorem run2_any (A : Option Addr) (n c b : Nat) (w : World) (hb : Blk w b 63 #[.slice A n c]) (hn : n ≤ maxLen) :
    Calls Tryz.prog 59 #[.pointer (some ⟨b, 0, none⟩)] w fun e w' => e = .returned (need (decide ((n : Int) ≤ 2000)) 3).v ∧ Below w.heap.size w w' := by
  have s0 := hb.cell 0
  simp only [List.getElem?_toArray, List.getElem?_cons_zero] at s0
  have hlt := hb.lt
  unfold maxLen at hn
  clear hb
  go_enter Tryz.func59, Tryz.ntmps59
  go_wp2_with fail
  refine (need_any (decide ((n : Int) ≤ 2000)) 3 _).mono ?_
  rintro e w1 ⟨rfl, hb1⟩
  obtain ⟨hc1, hf1⟩ := bcell hb1; have hz1 := hb1.size; (try simp at hz1)
  go_wp2
  exact bodyPost_ret (v := (need (decide ((n : Int) ≤ 2000)) 3).v) (by simp [results, Tryz.results59, go_sem, hc1] <;> omega) rfl ⟨by rfl, (by repeat (first | exact Below.refl _ _ | assumption | (refine Below.setCell ?_ (by first | omega | (simp; done) | (simp; omega)) _) | (refine Below.alloc ?_ (by first | omega | (simp; done) | (simp; omega)) _) | refine Below.drew ?_ | (refine below_thru ?_ (by assumption) (by first | omega | (simp; done) | (simp; omega))) | refine below_drewN ?_ _))⟩
set_option maxHeartbeats 1000000 in
theorem run3_any (g : Ga) (s : Gs) (b c : Nat) (w : World) (hg : g.Box w b) (hs : Blk w c 27 #[.int .i64 s.pos, .int .i64 s.charge, .bool s.bolted]) :
    Calls Tryz.prog 60 #[.pointer (some ⟨b, 0, none⟩), .pointer (some ⟨c, 0, none⟩)] w fun e w' => e = .returned (stateFt g s).v ∧ Below w.heap.size w w' := by
  have hB := Lib.hid hg.blk
  have HA := Lib.hid hg.at_
  have hlt := hg.blk.lt
  obtain ⟨s0, s1, s2, _⟩ := hs.three
  have hsl := hs.lt
  clear hg hs
  go_enter Tryz.func60, Tryz.ntmps60
  go_wp2_with (with_reducible refine wpl_g (hB.out.alloc _) rfl rfl rfl ?_)
  refine (stateFault_any g s _ (HA.out.grow (by repeat (first | exact Below.refl _ _ | assumption | (refine Below.setCell ?_ (by first | omega | (simp; done) | (simp; omega)) _) | (refine Below.alloc ?_ (by first | omega | (simp; done) | (simp; omega)) _) | refine Below.drew ?_ | (refine below_thru ?_ (by assumption) (by first | omega | (simp; done) | (simp; omega))) | refine below_drewN ?_ _)))).mono ?_
  rintro e w1 ⟨rfl, hb1⟩
  obtain ⟨hc1, hf1⟩ := bcell hb1; have hz1 := hb1.size; (try simp at hz1)
  go_wp2
  exact bodyPost_ret (v := (stateFt g s).v) (by simp [results, Tryz.results60, go_sem, hc1] <;> omega) rfl ⟨by rfl, (by repeat (first | exact Below.refl _ _ | assumption | (refine Below.setCell ?_ (by first | omega | (simp; done) | (simp; omega)) _) | (refine Below.alloc ?_ (by first | omega | (simp; done) | (simp; omega)) _) | refine Below.drew ?_ | (refine below_thru ?_ (by assumption) (by first | omega | (simp; done) | (simp; omega))) | refine below_drewN ?_ _))⟩
set_option maxHeartbeats 1000000 in
theorem run41_any (ts : List Gt) (A : Option Addr) (n c i b : Nat) (w : World) (hb : Blk w b 63 #[.slice A n c]) (ht : Tab w w.heap.size A n 4 (ts.map Gt.cells)) (hi : i < n) (hn : n ≤ 3000) :
    Calls Tryz.prog 62 #[.int .i64 (i : Int), .pointer (some ⟨b, 0, none⟩)] w fun e w' => e = .returned (orderFt (tAt ts i)).v ∧ Below w.heap.size w w' := by
  have hl : ts.length = n := by have := ht.1; simpa using this
  obtain ⟨t, hti⟩ := get_lt hl hi
  obtain ⟨tb, off, hA, htb, c0, c1, c2, c3⟩ := ht.four (k := i) (x := .int .i64 t.order) (y := .bool t.power) (z := .int .i64 t.outer) (u := .int .i64 t.inner) (by simp [hti])
  rw [tAt_of hti]
  subst hA
  have s0 := hb.cell 0
  simp only [List.getElem?_toArray, List.getElem?_cons_zero] at s0
  have hlt := hb.lt
  have j0 : (0 : Int) ≤ (i : Int) := Int.natCast_nonneg _
  have j1 : (i : Int) < (n : Int) := by omega
  have HO := Lib.hid (fun W => orderFault_any t W)
  generalize orderFt t = f at *
  clear hb ht hl hti
  go_enter Tryz.func62, Tryz.ntmps62
  go_wp2_with fail
  refine (HO.out _).mono ?_
  rintro e w1 ⟨rfl, hb1⟩
  obtain ⟨hc1, hf1⟩ := bcell hb1; have hz1 := hb1.size; (try simp at hz1)
  go_wp2
  exact bodyPost_ret (v := f.v) (by simp [results, Tryz.results62, go_sem, hc1] <;> omega) rfl ⟨by rfl, (by repeat (first | exact Below.refl _ _ | assumption | (refine Below.setCell ?_ (by first | omega | (simp; done) | (simp; omega)) _) | (refine Below.alloc ?_ (by first | omega | (simp; done) | (simp; omega)) _) | refine Below.drew ?_ | (refine below_thru ?_ (by assumption) (by first | omega | (simp; done) | (simp; omega))) | refine below_drewN ?_ _))⟩
set_option maxHeartbeats 1000000 in
theorem run4_any (ts : List Gt) (A : Option Addr) (n c b : Nat) (w : World) (hb : Blk w b 63 #[.slice A n c]) (ht : Tab w w.heap.size A n 4 (ts.map Gt.cells)) (hn : n ≤ 3000) :
    Calls Tryz.prog 61 #[.pointer (some ⟨b, 0, none⟩)] w fun e w' => e = .returned (eachF (fun i => orderFt (tAt ts i)) 0 n).v ∧ Below w.heap.size w w' := by
  have HE := Lib.hid (fun (W : World) (hW : Below w.heap.size w W) => eachL_any W n hn 62 (.pointer (some ⟨b, 0, none⟩)) (fun i => orderFt (tAt ts i)) (fun k W' => by show Sem.run Tryz.prog (callFunc _ _) W' = _; kernel_rfl) (fun k hk _ W' hw => run41_any ts A n c k b W' ((hb.thru hW hb.lt).thru hw (hb.thru hW hb.lt).lt) ((ht.grow hW).grow hw) hk hn))
  have s0 := hb.cell 0
  simp only [List.getElem?_toArray, List.getElem?_cons_zero] at s0
  have hlt := hb.lt
  clear hb ht
  generalize eachF (fun i => orderFt (tAt ts i)) 0 n = ef at *
  go_enter Tryz.func61, Tryz.ntmps61
  go_wp2_with fail
  refine (HE.out _ (by repeat (first | exact Below.refl _ _ | assumption | (refine Below.setCell ?_ (by first | omega | (simp; done) | (simp; omega)) _) | (refine Below.alloc ?_ (by first | omega | (simp; done) | (simp; omega)) _) | refine Below.drew ?_ | (refine below_thru ?_ (by assumption) (by first | omega | (simp; done) | (simp; omega))) | refine below_drewN ?_ _))).mono ?_
  rintro e w1 ⟨rfl, hb1⟩
  obtain ⟨hc1, hf1⟩ := bcell hb1; have hz1 := hb1.size; (try simp at hz1)
  go_wp2
  exact bodyPost_ret (v := ef.v) (by simp [results, Tryz.results61, go_sem, hc1] <;> omega) rfl ⟨by rfl, (by repeat (first | exact Below.refl _ _ | assumption | (refine Below.setCell ?_ (by first | omega | (simp; done) | (simp; omega)) _) | (refine Below.alloc ?_ (by first | omega | (simp; done) | (simp; omega)) _) | refine Below.drew ?_ | (refine below_thru ?_ (by assumption) (by first | omega | (simp; done) | (simp; omega))) | refine below_drewN ?_ _))⟩
end Go.Proofs.YtmhfnnpbnocafaaGreat

namespace Go.Proofs.YtmhfnnpbnocafaaGreat
open Go.RowKit
set_option linter.unusedSimpArgs false
set_option linter.unusedVariables false

/-- A step of a gate by itself. -/
def lone (g : Ga) (s : Gs) (t : Gt) : Gs := afterF g s t (lockF s t)
def runL (g : Ga) : Gs → List Gt → List Gs
  | _, [] => []
  | s, t :: ts => lone g s t :: runL g (lone g s t) ts
def endF (g : Ga) : Gs → List Gt → Gs
  | s, [] => s
  | s, t :: ts => endF g (lone g s t) ts
theorem runL_len (g : Ga) : ∀ (s : Gs) (ts : List Gt), (runL g s ts).length = ts.length
  | _, [] => rfl
  | s, t :: ts => by simp [runL, runL_len g (lone g s t) ts]
theorem runL_append (g : Ga) : ∀ (s : Gs) (a b : List Gt), runL g s (a ++ b) = runL g s a ++ runL g (endF g s a) b
  | s, [], b => rfl
  | s, t :: a, b => by
    show lone g s t :: runL g (lone g s t) (a ++ b) = lone g s t :: (runL g (lone g s t) a ++ runL g (endF g (lone g s t) a) b)
    rw [runL_append g (lone g s t) a b]
theorem endF_append (g : Ga) : ∀ (s : Gs) (a b : List Gt), endF g s (a ++ b) = endF g (endF g s a) b
  | s, [], b => rfl
  | s, t :: a, b => endF_append g (lone g s t) a b
theorem endF_ok {g : Ga} (hg : g.Ok) : ∀ (s : Gs) (ts : List Gt), s.Ok g → (endF g s ts).Ok g
  | s, [], h => h
  | s, t :: ts, h => endF_ok hg (lone g s t) ts (after_ok hg h t _)
theorem take_next {ts : List Gt} {k : Nat} {t : Gt} (h : ts[k]? = some t) : ts.take (k + 1) = ts.take k ++ [t] := by rw [List.take_add_one, h]; rfl
theorem endF_next (g : Ga) (s : Gs) {ts : List Gt} {k : Nat} {t : Gt} (h : ts[k]? = some t) : endF g s (ts.take (k + 1)) = lone g (endF g s (ts.take k)) t := by
  rw [take_next h, endF_append]; rfl
theorem runL_next (g : Ga) (s : Gs) {ts : List Gt} {k : Nat} {t : Gt} (h : ts[k]? = some t) : runL g s (ts.take (k + 1)) = runL g s (ts.take k) ++ [lone g (endF g s (ts.take k)) t] := by
  rw [take_next h, runL_append]; rfl
theorem runL_at (g : Ga) (s : Gs) {ts : List Gt} {k : Nat} (h : k < ts.length) : (runL g s ts)[k]? = some (endF g s (ts.take (k + 1))) := by
  obtain ⟨t, ht⟩ : ∃ t, ts[k]? = some t := ⟨_, List.getElem?_eq_getElem h⟩
  have e : ts = ts.take (k + 1) ++ ts.drop (k + 1) := (List.take_append_drop _ _).symm
  have hl : (runL g s (ts.take k)).length = k := by rw [runL_len, List.length_take]; omega
  have e2 : runL g s ts = runL g s (ts.take (k + 1)) ++ runL g (endF g s (ts.take (k + 1))) (ts.drop (k + 1)) := by rw [← runL_append, List.take_append_drop]
  rw [e2, runL_next g s ht, List.append_assoc, List.getElem?_append_right (by omega), hl, Nat.sub_self, endF_next g s ht]
  rfl
theorem run_ok {g : Ga} {s : Gs} {n : Nat} {ts : List Gt} {w : World} {B : Nat} (hg : g.At w B) (hl : ts.length = n) (h : (runFt g s n ts).e = 0) : g.Ok ∧ s.Ok g ∧ n ≤ 2000 ∧ ∀ t ∈ ts, (orderFt t).e = 0 := by
  have h2 := need_e (b := decide ((n : Int) ≤ 2000)) (c := 3) (by omega) (first0 _ h (need (decide ((n : Int) ≤ 2000)) 3) (by simp [runFL]))
  have h3 := first0 _ h (stateFt g s) (by simp [runFL])
  have h4 := each0 _ _ _ (first0 _ h (eachF (fun i => orderFt (tAt ts i)) 0 n) (by simp [runFL]))
  simp only [decide_eq_true_eq] at h2
  refine ⟨(state_ok hg h3).1, (state_ok hg h3).2, by omega, fun t ht => ?_⟩
  obtain ⟨i, hi⟩ := List.getElem?_of_mem ht
  have hlt := (List.getElem?_eq_some_iff.1 hi).1
  have := h4 i (by omega) (by omega)
  rwa [tAt_of hi] at this
theorem each_fine (c : Nat → Ft) : ∀ (n i : Nat), (∀ j, i ≤ j → j < i + n → (c j).e = 0) → eachF c i n = ⟨0, 0, 0⟩
  | 0, i, _ => rfl
  | n + 1, i, h => by
    rw [eachF, if_pos (h i (by omega) (by omega))]
    exact each_fine c n (i + 1) fun j h1 h2 => h j (by omega) (by omega)
theorem state_fine {g : Ga} {s : Gs} (h0 : (gateF g).e = 0) (hs : s.Ok g) : stateFt g s = ⟨0, 0, 0⟩ := firstF_all _ fun j f hj => by
  match j, hj with
  | 0, hj => cases hj; exact h0
  | 1, hj =>
    cases hj
    rw [show stateB g s = true by simp [stateB, betw, hs.p0, hs.p1, hs.c0, hs.c1]]; rfl
  | j + 2, hj => simp at hj
theorem run_fine {g : Ga} {s : Gs} {n : Nat} {ts : List Gt} (h0 : (gateF g).e = 0) (hs : s.Ok g) (hn : n ≤ 2000) (hl : ts.length = n) (ht : ∀ t ∈ ts, (orderFt t).e = 0) : (runFt g s n ts).e = 0 := by
  have : runFt g s n ts = ⟨0, 0, 0⟩ := firstF_all _ fun j f hj => by
    match j, hj with
    | 0, hj => cases hj; exact h0
    | 1, hj => cases hj; rw [show decide ((n : Int) ≤ 2000) = true by simp; omega]; rfl
    | 2, hj => cases hj; rw [state_fine h0 hs]
    | 3, hj =>
      cases hj
      rw [each_fine _ n 0 fun j _ hj => by
        obtain ⟨t, hti⟩ := get_lt hl (by omega : j < n)
        rw [tAt_of hti]
        exact ht t (List.mem_of_getElem? hti)]
    | j + 4, hj => simp [runFL] at hj
  rw [this]
end Go.Proofs.YtmhfnnpbnocafaaGreat

namespace Go.Proofs.YtmhfnnpbnocafaaGreat
open Go.RowKit
set_option linter.unusedSimpArgs false
set_option linter.unusedVariables false

theorem owns_kept {w W : World} {base b : Nat} {e : TypeId} {size n : Nat} {v : Value} {xs : List Value} (h : w.ownsRow base e size v n xs) (hb : w.grownBy W (some b)) (hne : b < base) : W.ownsRow base e size v n xs := by
  refine ⟨h.1, ?_⟩
  rcases h.2 with h1 | ⟨g, cap, cur, h1, h2, h3, h4⟩
  · exact .inl h1
  · exact .inr ⟨g, cap, cur, h1, h2, Blk.kept (show Blk w g e cur from h3) hb (by omega), h4⟩
def gsCells (l : List Gs) : List Value := (l.map Gs.cells).flatten
theorem gsCells_next (l : List Gs) (s : Gs) : gsCells (l ++ [s]) = gsCells l ++ s.cells := by unfold gsCells; simp
def runC (gb sb lb : Nat) (g : Ga) (s : Gs) (n : Nat) (ts : List Gt) : List Chk := [⟨58, #[.pointer (some ⟨gb, 0, none⟩)], gateF g⟩, ⟨59, #[.pointer (some ⟨lb, 0, none⟩)], need (decide ((n : Int) ≤ 2000)) 3⟩, ⟨60, #[.pointer (some ⟨gb, 0, none⟩), .pointer (some ⟨sb, 0, none⟩)], stateFt g s⟩, ⟨61, #[.pointer (some ⟨lb, 0, none⟩)], eachF (fun i => orderFt (tAt ts i)) 0 n⟩]
theorem runC_good (gb sb lb : Nat) (g : Ga) (s : Gs) (A : Option Addr) (n c : Nat) (ts : List Gt) (W : World) (hg : g.Box W gb) (hs : Blk W sb 27 #[.int .i64 s.pos, .int .i64 s.charge, .bool s.bolted]) (hl : Blk W lb 63 #[.slice A n c]) (ht : Tab W W.heap.size A n 4 (ts.map Gt.cells)) (hn : n ≤ maxLen) : Good W (runC gb sb lb g s n ts) := by
  intro k x hk hprev W' hW
  match k, hk with
  | 0, hk => cases hk; exact run1_any g gb W' (hg.grow hW)
  | 1, hk => cases hk; exact run2_any A n c lb W' (hl.thru hW hl.lt) hn
  | 2, hk => cases hk; exact run3_any g s gb sb W' (hg.grow hW) (hs.thru hW hs.lt)
  | 3, hk =>
    cases hk
    have h2 : decide ((n : Int) ≤ 2000) = true := need_e (c := 3) (by omega) (hprev 1 _ (by omega) rfl)
    simp only [decide_eq_true_eq] at h2
    exact run4_any ts A n c lb W' (hl.thru hW hl.lt) (ht.grow hW) (by omega)
  | k + 4, hk => simp [runC] at hk
theorem runC_plain (gb sb lb : Nat) (g : Ga) (s : Gs) (n : Nat) (ts : List Gt) : ∀ (k : Nat) (c : Chk), (runC gb sb lb g s n ts)[k]? = some c → Plain c.f c.caps := by
  intro k c hk W
  match k, hk with
  | 0, hk => cases hk; show Sem.run Tryz.prog (callFunc _ _) W = _; kernel_rfl
  | 1, hk => cases hk; show Sem.run Tryz.prog (callFunc _ _) W = _; kernel_rfl
  | 2, hk => cases hk; show Sem.run Tryz.prog (callFunc _ _) W = _; kernel_rfl
  | 3, hk => cases hk; show Sem.run Tryz.prog (callFunc _ _) W = _; kernel_rfl
  | k + 4, hk => simp [runC] at hk

set_option maxRecDepth 100000 in
set_option maxHeartbeats 4000000 in
theorem Run_bad (g : Ga) (s : Gs) (ts : List Gt) (A : Option Addr) (n c : Nat) (w : World) (hg : g.At w w.heap.size) (ht : Tab w w.heap.size A n 4 (ts.map Gt.cells)) (hn : n ≤ maxLen) (h0 : (runFt g s n ts).e ≠ 0) :
    Calls Tryz.prog 25 #[g.v, s.v, .slice A n c] w fun e w' => e = .returned (.tuple #[.slice none 0 0, .int .i64 (runFt g s n ts).e]) ∧ Below w.heap.size w w' := by
  have Hg := Lib.hid hg
  have Ht := Lib.hid ht
  have HGood := Lib.hid (fun W gb sb lb h1 h2 h3 h4 => runC_good gb sb lb g s A n c ts W h1 h2 h3 h4 hn)
  obtain ⟨fp, fa, fe, hfl⟩ : ∃ fp fa fe, runFt g s n ts = ⟨fp, fa, fe⟩ := ⟨_, _, _, rfl⟩
  have Hfl := Lib.hid hfl
  rw [hfl] at h0 ⊢
  simp only at h0
  have h0' : (fe != 0) = true := by rw [bne_iff_ne]; exact h0
  clear hfl h0 hg ht hn
  go_enter Tryz.func25, Tryz.ntmps25
  go_wp2_with fail
  refine (first_any _ (w.heap.size + 1 + 1 + 1) 0 4 (runC w.heap.size (w.heap.size + 1) (w.heap.size + 1 + 1) g s n ts) rfl (by omega) (by simp) ?_ (HGood.out _ _ _ _ ⟨?_, ?_⟩ ?_ ?_ ?_) (runC_plain _ _ _ g s n ts)).mono ?_
  · intro k c hk
    match k, hk with
    | 0, hk => cases hk; exact (Blk.new' _ _ _ (by simp)).cell 0
    | 1, hk => cases hk; exact (Blk.new' _ _ _ (by simp)).cell 1
    | 2, hk => cases hk; exact (Blk.new' _ _ _ (by simp)).cell 2
    | 3, hk => cases hk; exact (Blk.new' _ _ _ (by simp)).cell 3
    | k + 4, hk => simp [runC] at hk
  · exact (((Blk.new w _ _).alloc _).alloc _).alloc _
  · exact Hg.out.grow (by repeat (first | exact Below.refl _ _ | assumption | (refine Below.setCell ?_ (by first | omega | (simp; done) | (simp; omega)) _) | (refine Below.alloc ?_ (by first | omega | (simp; done) | (simp; omega)) _) | refine Below.drew ?_ | (refine below_thru ?_ (by assumption) (by first | omega | (simp; done) | (simp; omega))) | refine below_drewN ?_ _))
  · exact ((Blk.new' (w.alloc _) _ _ (by simp)).alloc _).alloc _
  · exact (Blk.new' ((w.alloc _).alloc _) _ _ (by simp)).alloc _
  · exact Ht.out.grow (by repeat (first | exact Below.refl _ _ | assumption | (refine Below.setCell ?_ (by first | omega | (simp; done) | (simp; omega)) _) | (refine Below.alloc ?_ (by first | omega | (simp; done) | (simp; omega)) _) | refine Below.drew ?_ | (refine below_thru ?_ (by assumption) (by first | omega | (simp; done) | (simp; omega))) | refine below_drewN ?_ _))
  rintro e w1 ⟨he, hb1⟩
  replace he : e = .returned (runFt g s n ts).v := he
  rw [Hfl.out] at he
  subst he
  obtain ⟨hc1, hf1⟩ := bcell hb1; have hz1 := hb1.size; (try simp at hz1)
  have hl1 : w.heap.size < w1.heap.size := by omega
  go_wp2_with fail
  go_quiet (fail)
  go_wp2
  go_ret2
  exact ⟨rfl, (by repeat (first | exact Below.refl _ _ | assumption | (refine Below.setCell ?_ (by first | omega | (simp; done) | (simp; omega)) _) | (refine Below.alloc ?_ (by first | omega | (simp; done) | (simp; omega)) _) | refine Below.drew ?_ | (refine below_thru ?_ (by assumption) (by first | omega | (simp; done) | (simp; omega))) | refine below_drewN ?_ _))⟩

set_option maxRecDepth 100000 in
set_option maxHeartbeats 8000000 in
theorem Run_ok (g : Ga) (s : Gs) (ts : List Gt) (A : Option Addr) (n c : Nat) (w : World) (hg : g.At w w.heap.size) (ht : Tab w w.heap.size A n 4 (ts.map Gt.cells)) (hn : n ≤ maxLen) (h0 : (runFt g s n ts).e = 0) :
    Calls Tryz.prog 25 #[g.v, s.v, .slice A n c] w fun e w' => ∃ RA rc, e = .returned (.tuple #[.slice RA n rc, .int .i64 0]) ∧ Tab w' w'.heap.size RA n 3 ((runL g s ts).map Gs.cells) ∧ n ≤ rc ∧ Below w.heap.size w w' := by
  have hl : ts.length = n := by have := ht.1; simpa using this
  obtain ⟨hgo, hso, hn2, hto⟩ := run_ok hg hl h0
  have Hg := Lib.hid hg
  have Ht := Lib.hid ht
  have Hl := Lib.hid hl
  have HGood := Lib.hid (fun W gb sb lb h1 h2 h3 h4 => runC_good gb sb lb g s A n c ts W h1 h2 h3 h4 hn)
  have Hgo := Lib.hid hgo
  have Hso := Lib.hid hso
  have Hto := Lib.hid (fun t h => order_ok (hto t h))
  obtain ⟨i0, hi, hz0, hz1, hz2⟩ := info_parts infoState
  have HI := Lib.hid (And.intro hi (And.intro hz0 (And.intro hz1 hz2)))
  obtain ⟨fp, fa, fe, hfl⟩ : ∃ fp fa fe, runFt g s n ts = ⟨fp, fa, fe⟩ := ⟨_, _, _, rfl⟩
  rw [hfl] at h0
  simp only at h0
  subst h0
  have Hfl := Lib.hid hfl
  clear hfl hg ht hn hl hgo hso hto hi hz0 hz1 hz2
  go_enter Tryz.func25, Tryz.ntmps25
  go_wp2_with fail
  refine (first_any _ (w.heap.size + 1 + 1 + 1) 0 4 (runC w.heap.size (w.heap.size + 1) (w.heap.size + 1 + 1) g s n ts) rfl (by omega) (by simp) ?_ (HGood.out _ _ _ _ ⟨?_, ?_⟩ ?_ ?_ ?_) (runC_plain _ _ _ g s n ts)).mono ?_
  · intro k c hk
    match k, hk with
    | 0, hk => cases hk; exact (Blk.new' _ _ _ (by simp)).cell 0
    | 1, hk => cases hk; exact (Blk.new' _ _ _ (by simp)).cell 1
    | 2, hk => cases hk; exact (Blk.new' _ _ _ (by simp)).cell 2
    | 3, hk => cases hk; exact (Blk.new' _ _ _ (by simp)).cell 3
    | k + 4, hk => simp [runC] at hk
  · exact (((Blk.new w _ _).alloc _).alloc _).alloc _
  · exact Hg.out.grow (by repeat (first | exact Below.refl _ _ | assumption | (refine Below.setCell ?_ (by first | omega | (simp; done) | (simp; omega)) _) | (refine Below.alloc ?_ (by first | omega | (simp; done) | (simp; omega)) _) | refine Below.drew ?_ | (refine below_thru ?_ (by assumption) (by first | omega | (simp; done) | (simp; omega))) | refine below_drewN ?_ _))
  · exact ((Blk.new' (w.alloc _) _ _ (by simp)).alloc _).alloc _
  · exact (Blk.new' ((w.alloc _).alloc _) _ _ (by simp)).alloc _
  · exact Ht.out.grow (by repeat (first | exact Below.refl _ _ | assumption | (refine Below.setCell ?_ (by first | omega | (simp; done) | (simp; omega)) _) | (refine Below.alloc ?_ (by first | omega | (simp; done) | (simp; omega)) _) | refine Below.drew ?_ | (refine below_thru ?_ (by assumption) (by first | omega | (simp; done) | (simp; omega))) | refine below_drewN ?_ _))
  rintro e w1 ⟨he, hb1⟩
  replace he : e = .returned (runFt g s n ts).v := he
  rw [Hfl.out] at he
  subst he
  obtain ⟨hc1, hf1⟩ := bcell hb1; have hz1 := hb1.size; (try simp at hz1)
  have hl1 : w.heap.size < w1.heap.size := by omega
  have hG1 : Blk w1 w.heap.size 25 (grow g) := Blk.thru (by (repeat (first | assumption | exact Blk.new _ _ _ | (refine Blk.new' _ _ _ ?_; (simp; done)) | refine Blk.drew ?_ | refine Blk.alloc ?_ _ | (refine Blk.fars ?_ ?_ _ _; rotate_left; (dsimp only; omega)) | (refine Blk.far ?_ ?_ _; rotate_left; (first | (dsimp only; omega) | (simp; done) | (simp; omega) | omega))))) hb1 (by simp <;> omega)
  have hS1 : Blk w1 (w.heap.size + 1) 27 #[.int .i64 s.pos, .int .i64 s.charge, .bool s.bolted] := Blk.thru (by (repeat (first | assumption | exact Blk.new _ _ _ | (refine Blk.new' _ _ _ ?_; (simp; done)) | refine Blk.drew ?_ | refine Blk.alloc ?_ _ | (refine Blk.fars ?_ ?_ _ _; rotate_left; (dsimp only; omega)) | (refine Blk.far ?_ ?_ _; rotate_left; (first | (dsimp only; omega) | (simp; done) | (simp; omega) | omega))))) hb1 (by simp <;> omega)
  have hL1 : Blk w1 (w.heap.size + 1 + 1) 63 #[.slice A n c] := Blk.thru (by (repeat (first | assumption | exact Blk.new _ _ _ | (refine Blk.new' _ _ _ ?_; (simp; done)) | refine Blk.drew ?_ | refine Blk.alloc ?_ _ | (refine Blk.fars ?_ ?_ _ _; rotate_left; (dsimp only; omega)) | (refine Blk.far ?_ ?_ _; rotate_left; (first | (dsimp only; omega) | (simp; done) | (simp; omega) | omega))))) hb1 (by simp <;> omega)
  obtain ⟨s0, s1, s2, _⟩ := hS1.three
  have l0 := hL1.cell 0
  simp only [List.getElem?_toArray, List.getElem?_cons_zero, List.getElem?_cons_succ] at l0
  have hw1 : Below w.heap.size w w1 := (by repeat (first | exact Below.refl _ _ | assumption | (refine Below.setCell ?_ (by first | omega | (simp; done) | (simp; omega)) _) | (refine Below.alloc ?_ (by first | omega | (simp; done) | (simp; omega)) _) | refine Below.drew ?_ | (refine below_thru ?_ (by assumption) (by first | omega | (simp; done) | (simp; omega))) | refine below_drewN ?_ _))
  have hl11 : w.heap.size + 1 < w1.heap.size := by omega
  have hl12 : w.heap.size + 1 + 1 < w1.heap.size := by omega
  clear hb1 hc1 hf1
  go_wp2_with (with_reducible refine wpl_g (g := g) (b := w.heap.size) (t := 25) (hG1.alloc _) rfl rfl rfl ?_)
  refine (alone_any g s _).mono ?_
  rintro e w2 ⟨b, rfl, hbl, hbm, hb2⟩
  obtain ⟨hc2, hf2⟩ := bcell hb2; have hz2 := hb2.size; (try simp at hz2)
  have hL2 : Blk w2 (w.heap.size + 1 + 1) 63 #[.slice A n c] := Blk.thru (hL1.alloc _) hb2 (by simp <;> omega)
  have l2 := hL2.cell 0
  simp only [List.getElem?_toArray, List.getElem?_cons_zero, List.getElem?_cons_succ] at l2
  have hw2 : Below w.heap.size w w2 := (by repeat (first | exact Below.refl _ _ | assumption | (refine Below.setCell ?_ (by first | omega | (simp; done) | (simp; omega)) _) | (refine Below.alloc ?_ (by first | omega | (simp; done) | (simp; omega)) _) | refine Below.drew ?_ | (refine below_thru ?_ (by assumption) (by first | omega | (simp; done) | (simp; omega))) | refine below_drewN ?_ _))
  have hbz := hbm.lt
  have Hbm := Lib.hid (Ms.one hbm)
  have hl2 : w.heap.size + 1 + 1 < w2.heap.size := by omega
  clear hG1 hS1 hL1 hL2 s0 s1 s2 l0 hb2 hbm hc2 hf2
  go_wp2_with fail
  have hset0 : Blk (w2.alloc (.cells #[.slice (some ⟨b, 0, none⟩) 1 1, .slice none 0 0] 103)) w2.heap.size 103 #[.slice (some ⟨b, 0, none⟩) 1 1, .slice none 0 0] := Blk.new _ _ _
  have Hset0 := Lib.hid hset0
  clear hset0
  go_loopw [10, 29] (fun v i wr => ∃ (k : Nat) (OA : Option Addr) (on oc : Nat), k ≤ n ∧ i = .int .i64 k ∧ v = .slice OA on oc ∧ Hid (wr.ownsRow (w2.heap.size + 1) 27 3 (.slice OA on oc) k (gsCells (runL g s (ts.take k)))) ∧ Hid (Ms wr b [(g, endF g s (ts.take k))]) ∧ Hid (Blk wr w2.heap.size 103 #[.slice (some ⟨b, 0, none⟩) 1 1, .slice none 0 0]) ∧ Below w.heap.size w wr ∧ w2.heap.size + 1 ≤ wr.heap.size)
    (fun _ i _ => n - (intOf i).toNat)
  case atStart => exact ⟨0, none, 0, 0, Nat.zero_le _, rfl, rfl, ⟨rfl, .inl ⟨rfl, rfl⟩⟩, Hbm.out.grow (by repeat (first | exact Below.refl _ _ | assumption | (refine Below.setCell ?_ (by first | omega | (simp; done) | (simp; omega)) _) | (refine Below.alloc ?_ (by first | omega | (simp; done) | (simp; omega)) _) | refine Below.drew ?_ | (refine below_thru ?_ (by assumption) (by first | omega | (simp; done) | (simp; omega))) | refine below_drewN ?_ _)), Hset0.out, (by repeat (first | exact Below.refl _ _ | assumption | (refine Below.setCell ?_ (by first | omega | (simp; done) | (simp; omega)) _) | (refine Below.alloc ?_ (by first | omega | (simp; done) | (simp; omega)) _) | refine Below.drew ?_ | (refine below_thru ?_ (by assumption) (by first | omega | (simp; done) | (simp; omega))) | refine below_drewN ?_ _)), by simp⟩
  case round =>
    obtain ⟨k, OA, on, oc, hk, rfl, rfl, hown, hms, hset, hbr, hzr⟩ := hrel
    have hbz3 : b < w2.heap.size + 1 := by omega
    by_cases hlt : k < n
    · obtain ⟨t, htk⟩ := get_lt Hl.out hlt
      obtain ⟨tb, off, hA, htb, c0, c1, c2, c3⟩ := Ht.out.four (k := k) (x := .int .i64 t.order) (y := .bool t.power) (z := .int .i64 t.outer) (u := .int .i64 t.inner) (by simp [htk])
      subst hA
      have c0 := (hbr.cell (p := ⟨tb, off + k * 4, none⟩) htb).trans c0
      have c1 := (hbr.cell (p := ⟨tb, off + k * 4 + 1, none⟩) htb).trans c1
      have c2 := (hbr.cell (p := ⟨tb, off + k * 4 + 2, none⟩) htb).trans c2
      have c3 := (hbr.cell (p := ⟨tb, off + k * 4 + 3, none⟩) htb).trans c3
      have j0 : (0 : Int) ≤ (k : Int) := Int.natCast_nonneg _
      have j1 : (k : Int) < (n : Int) := by omega
      have He := Lib.hid (endF_next g s htk)
      have Hr := Lib.hid (runL_next g s htk)
      have HsO := Lib.hid (endF_ok Hgo.out s (ts.take k) Hso.out)
      have HtO := Lib.hid (Hto.out t (List.mem_of_getElem? htk))
      have HL := Lib.hid (fun b tb pb tc pc W => lone_any g (endF g s (ts.take k)) t b tb pb tc pc W Hgo.out HsO.out HtO.out)
      have He : Hid (endF g s (ts.take (k + 1)) = afterF g (endF g s (ts.take k)) t (lockF (endF g s (ts.take k)) t)) := He.out
      have Hr : Hid (runL g s (ts.take (k + 1)) = runL g s (ts.take k) ++ [afterF g (endF g s (ts.take k)) t (lockF (endF g s (ts.take k)) t)]) := Hr.out
      generalize endF g s (ts.take k) = sk at *
      generalize runL g s (ts.take k) = rk at *
      generalize afterF g sk t (lockF sk t) = sn at *
      have hsetl := hset.out.lt
      obtain ⟨a0, a1, _, _⟩ := hset.out.two
      clear htk
      go_wp2_with fail
      have hms1 : Ms (((wr.alloc (.cells #[.int .i64 t.order, .bool t.power, .int .i64 t.outer, .int .i64 t.inner] 51)).alloc (.cells #[.int .i64 t.order, .bool t.power, .int .i64 t.outer, .int .i64 t.inner] 51)).alloc (.cells #[.bool false] 4)) b [(g, sk)] := hms.out.grow (by repeat (first | exact Below.refl _ _ | assumption | (refine Below.setCell ?_ (by first | omega | (simp; done) | (simp; omega)) _) | (refine Below.alloc ?_ (by first | omega | (simp; done) | (simp; omega)) _) | refine Below.drew ?_ | (refine below_thru ?_ (by assumption) (by first | omega | (simp; done) | (simp; omega))) | refine below_drewN ?_ _))
      refine (HL.out b (wr.heap.size + 1) (wr.heap.size + 1 + 1) 1 1 _ (Hg.out.grow (by repeat (first | exact Below.refl _ _ | assumption | (refine Below.setCell ?_ (by first | omega | (simp; done) | (simp; omega)) _) | (refine Below.alloc ?_ (by first | omega | (simp; done) | (simp; omega)) _) | refine Below.drew ?_ | (refine below_thru ?_ (by assumption) (by first | omega | (simp; done) | (simp; omega))) | refine below_drewN ?_ _))) hms1 ((Blk.new' (wr.alloc _) _ _ (by simp)).alloc _) (Blk.new' ((wr.alloc _).alloc _) _ _ (by simp))).mono ?_
      rintro e w3 ⟨gd, rfl, hgd0, hgd1, hrc, hms3, hgr⟩
      have hz3 := hgr.size
      (try simp at hz3)
      have hw3 : Below w.heap.size w w3 := by
        have h1 : Below w.heap.size w (((wr.alloc (.cells #[.int .i64 t.order, .bool t.power, .int .i64 t.outer, .int .i64 t.inner] 51)).alloc (.cells #[.int .i64 t.order, .bool t.power, .int .i64 t.outer, .int .i64 t.inner] 51)).alloc (.cells #[.bool false] 4)) := (by repeat (first | exact Below.refl _ _ | assumption | (refine Below.setCell ?_ (by first | omega | (simp; done) | (simp; omega)) _) | (refine Below.alloc ?_ (by first | omega | (simp; done) | (simp; omega)) _) | refine Below.drew ?_ | (refine below_thru ?_ (by assumption) (by first | omega | (simp; done) | (simp; omega))) | refine below_drewN ?_ _))
        exact h1.trans (grown_below hgr (fun k hk => by cases hk; (try simp at hbl); omega) (by simp; omega))
      have hset3 : Blk w3 w2.heap.size 103 #[.slice (some ⟨b, 0, none⟩) 1 1, .slice none 0 0] := Blk.kept (((hset.out.alloc _).alloc _).alloc _) hgr (by omega)
      have hown3 : w3.ownsRow (w2.heap.size + 1) 27 3 (.slice OA on oc) k (gsCells rk) := owns_kept (((hown.out.alloc _).alloc _).alloc _) hgr (by omega)
      have Hown3 := Lib.hid hown3
      have Hms3 := Lib.hid hms3
      have Hset3 := Lib.hid hset3
      have hsl3 := hset3.lt
      obtain ⟨a0, a1, _, _⟩ := hset3.two
      clear hgr hms hms1 hset hown hrc hown3 hms3 hset3 HL c0 c1 c2 c3
      go_wp2_with fail
      refine (states_any [(g, sn)] b 1 1 none 0 0 _ Hms3.out rfl (by omega)).mono ?_
      rintro e w4 ⟨sv, rfl, hsv, hb4⟩
      obtain ⟨SA, svn, svc, rfl⟩ := owns_slice hsv
      obtain ⟨gd2, rfl, rfl, _, hgd2, hrng⟩ := owns_cells hsv (by omega)
      have hown4 := owns_below Hown3.out hb4
      have hset4 := Lib.hid (Hset3.out.thru hb4 hsl3)
      have hms4 := Lib.hid (Hms3.out.grow hb4)
      have hw4 : Below w.heap.size w w4 := hw3.trans (hb4.mono (by omega))
      have hz4 := hb4.size
      have Hown4 := Lib.hid hown4
      have n1 : Hid (∀ u ∈ [Value.int .i64 sn.pos, .int .i64 sn.charge, .bool sn.bolted], u.oneCell' = true) := fun u hu => by
        simp only [List.mem_cons, List.not_mem_nil, or_false] at hu
        rcases hu with rfl | rfl | rfl <;> rfl
      have Hrng := Lib.hid (show ∀ (j : Nat) (u : Value), [Value.int .i64 sn.pos, .int .i64 sn.charge, .bool sn.bolted][j]? = some u → w4.cell? ((⟨gd2, 0, none⟩ : Addr).add j) = some u from fun j u h => by
        have := hrng j u h
        rw [Nat.zero_add] at this
        show w4.cell? (if j = 0 then ⟨gd2, 0, none⟩ else ⟨gd2, 0 + j, none⟩) = some u
        split
        · rename_i h0; rw [h0] at this; exact this
        · rw [Nat.zero_add]; exact this)
      have b63 : k + 1 ≤ maxLen := by unfold maxLen; omega
      have b47 : (k + 1) * 24 ≤ 140737488355328 := by omega
      have hbs : w2.heap.size + 1 ≤ w4.heap.size := by omega
      have hlo : Hid (∀ k', (Value.slice OA on oc).ownBlock = some k' → w2.heap.size + 1 ≤ k') := fun k' hk' => (Hown4.out.lt k' hk').1
      clear hown4 hrng hsv hb4 hgd2 a0 a1 c0 c1 c2 c3 Hown3 Hms3 Hset3
      go_wp2_with (at_builtin; refine wpList_append_own _ rfl _ _ 54 rfl (w2.heap.size + 1) 27 i0 (.agg #[.int .i64 0, .int .i64 0, .bool false]) 3 24 undStates HI.out.1 HI.out.2.1 HI.out.2.2.1 HI.out.2.2.2 rfl (by decide) _ _ _ rfl Hown4.out ⟨gd2, 0, none⟩ 1 svc [.int .i64 sn.pos, .int .i64 sn.charge, .bool sn.bolted] rfl rfl Hrng.out n1.out b63 b47 hbs ?_; intro v' w5 hown5 hgrow _; have hb5 : Below (w2.heap.size + 1) w4 w5 := grown_below hgrow hlo.out hbs; have hz5 := hgrow.size; have Hown5 := Lib.hid hown5; clear hgrow hown5)
      all_goals
        have hown6 : w5.ownsRow (w2.heap.size + 1) 27 3 v' (k + 1) (gsCells (runL g s (ts.take (k + 1)))) := by rw [Hr.out, gsCells_next]; exact Hown5.out
        obtain ⟨A2, vn2, vc2, rfl⟩ := owns_slice hown6
        have Hown6 := Lib.hid hown6
        have Hrel := Lib.hid (show Hid (Ms w5 b [(g, endF g s (ts.take (k + 1)))]) ∧ Hid (Blk w5 w2.heap.size 103 #[.slice (some ⟨b, 0, none⟩) 1 1, .slice none 0 0]) ∧ Below w.heap.size w w5 from
          ⟨by rw [He.out]; exact hms4.out.below hb5 (by omega), hb5.block _ (by omega) |>.trans hset4.out, hw4.trans (hb5.mono (by omega))⟩)
        clear hown6 Hown5 hb5 hms4 hset4
        go_wp2
        go_roundw
        case rel => exact ⟨k + 1, A2, vn2, vc2, by omega, by go_num, rfl, Hown6.out, Hrel.out.1, Hrel.out.2.1, Hrel.out.2.2, by omega⟩
        case measure => simp [intOf]; omega
    · obtain rfl : k = n := by omega
      have hfin : ts.take k = ts := List.take_of_length_le (by have := Hl.out; omega)
      rw [hfin] at hown
      have hrl := runL_len g s ts
      obtain ⟨A', c', hv, htab, hle, _, _⟩ := owns_tabN (rows := (runL g s ts).map Gs.cells) hown.out (fun r hr => by obtain ⟨q, _, rfl⟩ := List.mem_map.1 hr; rfl) (by omega)
      have Hfin := Lib.hid (show ∃ RA rc, Value.tuple #[Value.slice OA on oc, .int .i64 0] = .tuple #[.slice RA k rc, .int .i64 0] ∧ Tab wr wr.heap.size RA k 3 ((runL g s ts).map Gs.cells) ∧ k ≤ rc ∧ Below w.heap.size w wr from ⟨A', c', by rw [hv], htab, hle, hbr⟩)
      clear hown hv htab hle hfin hrl
      go_wp2
      go_ret2
      obtain ⟨RA, rc, h1, h2, h3, h4⟩ := Hfin.out
      exact ⟨RA, rc, by rw [← h1]; rfl, h2, h3, h4⟩
end Go.Proofs.YtmhfnnpbnocafaaGreat
