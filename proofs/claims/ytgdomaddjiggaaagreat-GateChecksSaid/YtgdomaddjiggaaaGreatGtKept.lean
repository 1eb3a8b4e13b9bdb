/- The rules of a set. -/
import Derived.Test.YtgdomaddjiggaaaGreatGtSet
namespace Go.Proofs.YtgdomaddjiggaaaGreat
open Go.RowKit
set_option linter.unusedSimpArgs false
set_option linter.unusedVariables false

abbrev Gr.v (r : Gr) : Value := .agg #[.int .i64 r.gate, .int .i64 r.other, .int .i64 r.lo, .int .i64 r.hi]
def posAt (ms : List (Ga × Gs)) (j : Int) : Int := ((ms[j.toNat]?).map fun m => m.2.pos).getD 0
/-- A rule that is broken for a gate. -/
def brokenB (ms : List (Ga × Gs)) (i : Int) (r : Gr) : Bool := decide (r.gate = i) && !betw (posAt ms r.other) r.lo r.hi
theorem Ms.pos {w : World} {b : Nat} {ms : List (Ga × Gs)} (h : Ms w b ms) {j : Nat} (hj : j < ms.length) : w.cell? ⟨b, j * 24 + 21, none⟩ = some (.int .i64 (posAt ms j)) := by
  obtain ⟨m, hm⟩ : ∃ m, ms[j]? = some m := ⟨_, List.getElem?_eq_getElem hj⟩
  have := h.rng j m hm 21 (.int .i64 m.2.pos) rfl
  unfold posAt
  rw [Int.toNat_natCast, hm]
  exact this

set_option maxRecDepth 100000 in
set_option maxHeartbeats 2000000 in
theorem kept1_any (ms : List (Ga × Gs)) (r : Gr) (i : Int) (b n c bg bs : Nat) (rA : Option Addr) (rn rc : Nat) (w : World) (hm : Ms w b ms) (hl : ms.length = n) (hn : n ≤ 1000) (ho : 0 ≤ r.other) (ho1 : r.other < n)
    (hg : Blk w bg 3 #[.int .i64 i]) (hs : Blk w bs 114 #[.slice (some ⟨b, 0, none⟩) n c, .slice rA rn rc]) :
    Calls Tryz.prog 180 #[r.v, .pointer (some ⟨bg, 0, none⟩), .pointer (some ⟨bs, 0, none⟩)] w fun e w' => e = .returned (.bool (brokenB ms i r)) ∧ Below w.heap.size w w' := by
  obtain ⟨rg, ro, rl, rh⟩ := r
  simp only at ho ho1
  obtain ⟨j, rfl⟩ := Int.eq_ofNat_of_zero_le ho
  have hp := hm.pos (j := j) (by omega)
  have g0 := hg.cell 0
  have s0 := hs.cell 0
  simp only [List.getElem?_toArray, List.getElem?_cons_zero] at g0 s0
  have hbl := hm.lt
  have hgl := hg.lt
  have hsl := hs.lt
  have hf : brokenB ms i ⟨rg, j, rl, rh⟩ = (decide (rg = i) && !betw (posAt ms j) rl rh) := rfl
  have j0 : (0 : Int) ≤ (j : Int) := Int.natCast_nonneg _
  have j1 : (j : Int) < (n : Int) := by omega
  clear hm hg hs hl
  rw [hf]
  clear hf
  generalize posAt ms j = ps at *
  by_cases he : rg = i
  · subst he
    have HB := Lib.hid (fun W => between_any ps rl rh W)
    generalize betw ps rl rh = bb at *
    go_enter Tryz.func180, Tryz.ntmps180
    go_wp2_with fail
    go_quiet ((go_at_call 65; exact quiet_is (fun W => HB.out W)))
    go_wp2
    go_ret
    exact ⟨by simp, (by repeat (first | exact Below.refl _ _ | assumption | (refine Below.setCell ?_ (by first | omega | (simp; done) | (simp; omega)) _) | (refine Below.alloc ?_ (by first | omega | (simp; done) | (simp; omega)) _) | refine Below.drew ?_ | (refine below_thru ?_ (by assumption) (by first | omega | (simp; done) | (simp; omega))) | refine below_drewN ?_ _))⟩
  · have he' : (rg == i) = false := by rw [beq_eq_false_iff_ne]; exact he
    have hd : decide (rg = i) = false := by simpa using he
    have Hd := Lib.hid hd
    clear he hd
    go_enter Tryz.func180, Tryz.ntmps180
    go_wp2_with fail
    go_quiet (fail)
    go_wp2
    go_ret
    exact ⟨by rw [Hd.out]; simp, (by repeat (first | exact Below.refl _ _ | assumption | (refine Below.setCell ?_ (by first | omega | (simp; done) | (simp; omega)) _) | (refine Below.alloc ?_ (by first | omega | (simp; done) | (simp; omega)) _) | refine Below.drew ?_ | (refine below_thru ?_ (by assumption) (by first | omega | (simp; done) | (simp; omega))) | refine below_drewN ?_ _))⟩

/-- The first number from k on, of n, with p. -/
def idxF (p : Nat → Bool) : Nat → Nat → Int
  | _, 0 => -1
  | k, n + 1 => if p k = true then (k : Int) else idxF p (k + 1) n
theorem idx_skip (p : Nat → Bool) : ∀ (k i n : Nat), k ≤ n → (∀ j, j < k → p (i + j) = false) → idxF p i n = idxF p (i + k) (n - k)
  | 0, i, n, _, _ => rfl
  | k + 1, i, n, h, hz => by
    obtain ⟨m, rfl⟩ : ∃ m, n = m + 1 := ⟨n - 1, by omega⟩
    have h0 := hz 0 (by omega)
    simp only [Nat.add_zero] at h0
    rw [idxF, if_neg (by simp [h0]), idx_skip p k (i + 1) m (by omega) (fun j hj => by have := hz (j + 1) (by omega); rwa [show i + 1 + j = i + (j + 1) by omega]), show i + (k + 1) = i + 1 + k by omega, show m + 1 - (k + 1) = m - k by omega]
theorem idx_any (p : Nat → Bool) (k n : Nat) : (decide (0 ≤ idxF p k n)) = (List.range n).any fun j => p (k + j) := by
  induction n generalizing k with
  | zero => rfl
  | succ n ih =>
    rw [List.range_succ_eq_map, List.any_cons, List.any_map, idxF]
    split
    · rename_i h
      simp [h]
    · rename_i h
      rw [ih]
      have h' : p k = false := by simpa using h
      simp only [Nat.add_zero, h', Bool.false_or]
      congr 1
      funext j
      simp only [Function.comp]
      rw [show k + 1 + j = k + (j + 1) by omega]

set_option maxRecDepth 100000 in
set_option maxHeartbeats 2000000 in
theorem indexR_any (rs : List Gr) (p : Nat → Bool) (rA : Option Addr) (rn rc : Nat) (f : FuncId) (c1 c2 : Value) (w : World) (ht : Tab w w.heap.size rA rn 4 (rs.map Gr.cells)) (hn : rn ≤ 1000)
    (hp : ∀ (r : Value) (W : World), Sem.run Tryz.prog (callFunc f #[r, c1, c2]) W = .ok (.enter f #[r, c1, c2]) W)
    (hc : ∀ (k : Nat) (r : Gr) (W : World), rs[k]? = some r → Below w.heap.size w W → Calls Tryz.prog f #[r.v, c1, c2] W fun e w' => e = .returned (.bool (p k)) ∧ Below W.heap.size W w') :
    Calls Tryz.prog 187 #[.slice rA rn rc, .func (.func f) #[] #[c1, c2]] w fun e w' => e = .returned (.int .i64 (idxF p 0 rn)) ∧ Below w.heap.size w w' := by
  have hl : rs.length = rn := by have := ht.1; simpa using this
  have Ht := Lib.hid ht
  have Hl := Lib.hid hl
  have Hc := Lib.hid hc
  have Hp := Lib.hid hp
  clear ht hl hc hp
  go_enter Tryz.func187, Tryz.ntmps187
  go_wp2
  go_loopw [8] (fun i wr => ∃ k : Nat, k ≤ rn ∧ i = .int .i64 k ∧ Hid (∀ j, j < k → p j = false) ∧ Below w.heap.size w wr)
    (fun i _ => rn - (intOf i).toNat)
  case atStart => exact ⟨0, Nat.zero_le _, rfl, fun j hj => by omega, (by repeat (first | exact Below.refl _ _ | assumption | (refine Below.setCell ?_ (by first | omega | (simp; done) | (simp; omega)) _) | (refine Below.alloc ?_ (by first | omega | (simp; done) | (simp; omega)) _) | refine Below.drew ?_ | (refine below_thru ?_ (by assumption) (by first | omega | (simp; done) | (simp; omega))) | refine below_drewN ?_ _))⟩
  case round =>
    obtain ⟨k, hk, rfl, hprev, hbr⟩ := hrel
    obtain ⟨hcr, hfr⟩ := bcell hbr
    have hzr := hbr.size
    by_cases hlt : k < rn
    · obtain ⟨r, hr⟩ := get_lt Hl.out hlt
      obtain ⟨b, off, hA, hb, d0, d1, d2, d3⟩ := Ht.out.four (k := k) (x := .int .i64 r.gate) (y := .int .i64 r.other) (z := .int .i64 r.lo) (u := .int .i64 r.hi) (by simp [hr])
      have hpl := Hp.out r.v
      have HC := Lib.hid (Hc.out k r wr hr hbr)
      subst hA
      clear hr
      cases hpk : p k
      · have Hn : Hid (∀ j, j < k + 1 → p j = false) := fun j hj => by
          rcases Nat.lt_or_ge j k with h | h
          · exact hprev.out j h
          · obtain rfl : j = k := by omega
            exact hpk
        rw [hpk] at HC
        clear hpk
        go_wp2_with fail
        refine (HC.out).mono ?_
        rintro e w1 ⟨rfl, hb1⟩
        have hz1 := hb1.size
        go_wp2
        go_roundw
        case rel => exact ⟨k + 1, by omega, by go_num, Hn, (by repeat (first | exact Below.refl _ _ | assumption | (refine Below.setCell ?_ (by first | omega | (simp; done) | (simp; omega)) _) | (refine Below.alloc ?_ (by first | omega | (simp; done) | (simp; omega)) _) | refine Below.drew ?_ | (refine below_thru ?_ (by assumption) (by first | omega | (simp; done) | (simp; omega))) | refine below_drewN ?_ _))⟩
        case measure => simp [intOf]; omega
      · have hv : idxF p 0 rn = k := by
          rw [idx_skip p k 0 rn (by omega) (fun j hj => by rw [Nat.zero_add]; exact hprev.out j hj), Nat.zero_add]
          obtain ⟨m, hm⟩ : ∃ m, rn - k = m + 1 := ⟨rn - k - 1, by omega⟩
          rw [hm, idxF, if_pos hpk]
        have Hv := Lib.hid hv
        rw [hpk] at HC
        clear hpk hv
        go_wp2_with fail
        refine (HC.out).mono ?_
        rintro e w1 ⟨rfl, hb1⟩
        have hz1 := hb1.size
        go_wp2
        go_ret
        exact ⟨by rw [Hv.out]; rfl, (by repeat (first | exact Below.refl _ _ | assumption | (refine Below.setCell ?_ (by first | omega | (simp; done) | (simp; omega)) _) | (refine Below.alloc ?_ (by first | omega | (simp; done) | (simp; omega)) _) | refine Below.drew ?_ | (refine below_thru ?_ (by assumption) (by first | omega | (simp; done) | (simp; omega))) | refine below_drewN ?_ _))⟩
    · obtain rfl : k = rn := by omega
      have hv : idxF p 0 k = -1 := by
        rw [idx_skip p k 0 k (Nat.le_refl _) (fun j hj => by rw [Nat.zero_add]; exact hprev.out j hj), Nat.sub_self]; rfl
      have Hv := Lib.hid hv
      clear hv
      go_wp2
      go_ret
      exact ⟨by rw [Hv.out]; rfl, (by repeat (first | exact Below.refl _ _ | assumption | (refine Below.setCell ?_ (by first | omega | (simp; done) | (simp; omega)) _) | (refine Below.alloc ?_ (by first | omega | (simp; done) | (simp; omega)) _) | refine Below.drew ?_ | (refine below_thru ?_ (by assumption) (by first | omega | (simp; done) | (simp; omega))) | refine below_drewN ?_ _))⟩
end Go.Proofs.YtgdomaddjiggaaaGreat
