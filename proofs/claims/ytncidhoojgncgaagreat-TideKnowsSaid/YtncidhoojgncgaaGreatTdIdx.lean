/- Whether some element of a list is as a function says. -/
import Derived.Test.YtncidhoojgncgaaGreatTdPlace
import Derived.Test.YtncidhoojgncgaaGreatTdName
namespace Go.Proofs.YtncidhoojgncgaaGreat
open Go.RowKit
set_option linter.unusedSimpArgs false
set_option linter.unusedVariables false

def idxF {α : Type} (q : α → Bool) : List α → Nat → Int
  | [], _ => -1
  | x :: l, i => if q x = true then i else idxF q l (i + 1)
theorem idxF_ge {α : Type} (q : α → Bool) : ∀ (l : List α) (i : Nat), decide (0 ≤ idxF q l i) = l.any q
  | [], i => by simp [idxF]
  | x :: l, i => by
    unfold idxF
    by_cases h : q x = true
    · simp [h]
    · have := idxF_ge q l (i + 1)
      simp only [if_neg h, List.any_cons]
      rw [this]; simp [h]
theorem idxF_range {α : Type} (q : α → Bool) : ∀ (l : List α) (i : Nat), -1 ≤ idxF q l i ∧ idxF q l i < i + l.length + 1
  | [], i => by simp [idxF]; omega
  | x :: l, i => by
    unfold idxF
    have := idxF_range q l (i + 1)
    simp only [List.length_cons]
    split <;> omega

set_option maxRecDepth 100000 in
set_option maxHeartbeats 1000000 in
theorem index_int_any (A : Option Addr) (n c : Nat) (l : List Int) (f : FuncId) (q : Int → Bool) (w : World) (hT : Tab w w.heap.size A n 1 (ints l)) (hn : n ≤ maxLen)
    (hp : ∀ (x : Int) (W : World), Sem.run Tryz.prog (callFunc f #[.int .i64 x]) W = .ok (.enter f #[.int .i64 x]) W)
    (hf : ∀ (x : Int) (W : World), Calls Tryz.prog f #[.int .i64 x] W fun e w' => e = .returned (.bool (q x)) ∧ W = w') :
    Calls Tryz.prog 184 #[.slice A n c, .func (.func f) #[] #[]] w fun e w' => e = .returned (.int .i64 (idxF q l 0)) ∧ w = w' := by
  have hl : l.length = n := by have := hT.1; simpa using this
  unfold maxLen at hn
  have Hl := Lib.hid hl; clear hl
  have HT := Lib.hid hT; clear hT
  have Hp := Lib.hid hp; clear hp
  have Hf := Lib.hid hf; clear hf
  go_enter Tryz.func184, Tryz.ntmps184
  go_wp2
  go_loop [8] (fun i => ∃ k : Nat, k ≤ n ∧ i = .int .i64 k ∧ Hid (idxF q l 0 = idxF q (l.drop k) k)) (fun i => n - (intOf i).toNat)
  case atStart => exact ⟨0, Nat.zero_le _, rfl, rfl⟩
  case round =>
    obtain ⟨k, hk, rfl, heq⟩ := hrel
    by_cases hlt : k < n
    · obtain ⟨x, hx⟩ := get_lt Hl.out hlt
      obtain ⟨b, off, rfl, hb, c0⟩ := HT.out.one (k := k) (x := .int .i64 x) (by simp [hx])
      have Hx := Lib.hid hx; clear hx
      have hpl : ∀ W : World, Sem.run Tryz.prog (callFunc f #[.int .i64 x]) W = .ok (.enter f #[.int .i64 x]) W := Hp.out x
      obtain ⟨t, ht⟩ : ∃ t, q x = t := ⟨_, rfl⟩
      have hF : ∀ W, Calls Tryz.prog f #[.int .i64 x] W fun e w' => e = .returned (.bool t) ∧ W = w' := fun W => by have := Hf.out x W; rwa [ht] at this
      have HF := Lib.hid hF; clear hF
      have Ht := Lib.hid ht; clear ht
      cases t
      · go_wp2_with fail
        refine (HF.out _).mono ?_
        rintro e w1 ⟨rfl, rfl⟩
        go_wp2
        go_round
        case rel => exact ⟨k + 1, by omega, by go_num, by rw [heq.out, drop_cons Hx.out, idxF, Ht.out]; rfl⟩
        case measure => simp [intOf]; omega
      · go_wp2_with fail
        refine (HF.out _).mono ?_
        rintro e w1 ⟨rfl, rfl⟩
        go_wp2
        go_ret
        exact ⟨by rw [heq.out, drop_cons Hx.out, idxF, Ht.out]; rfl, rfl⟩
    · obtain rfl : k = n := by omega
      go_wp2
      go_ret
      exact ⟨by rw [heq.out, ← Hl.out, List.drop_length]; rfl, rfl⟩

set_option maxHeartbeats 1000000 in
theorem contains_int_any (A : Option Addr) (n c : Nat) (l : List Int) (f : FuncId) (q : Int → Bool) (w : World) (hT : Tab w w.heap.size A n 1 (ints l)) (hn : n ≤ maxLen)
    (hp : ∀ (x : Int) (W : World), Sem.run Tryz.prog (callFunc f #[.int .i64 x]) W = .ok (.enter f #[.int .i64 x]) W)
    (hf : ∀ (x : Int) (W : World), Calls Tryz.prog f #[.int .i64 x] W fun e w' => e = .returned (.bool (q x)) ∧ W = w') :
    Calls Tryz.prog 170 #[.slice A n c, .func (.func f) #[] #[]] w fun e w' => e = .returned (.bool (l.any q)) ∧ w = w' := by
  have hI := index_int_any A n c l f q w hT hn hp hf
  have hfin := idxF_ge q l 0
  generalize idxF q l 0 = r at *
  have HI := Lib.hid hI; clear hI
  have Hfin := Lib.hid hfin
  clear hfin hp hf hT
  go_enter Tryz.func170, Tryz.ntmps170
  go_wp2_with fail
  refine HI.out.mono ?_
  rintro e w1 ⟨rfl, rfl⟩
  go_wp2
  go_ret
  exact ⟨by rw [← Hfin.out]; rfl, rfl⟩

set_option maxRecDepth 100000 in
set_option maxHeartbeats 1000000 in
theorem index_const_any (A : Option Addr) (n c : Nat) (l : List Cn) (f : FuncId) (c0 : Value) (q : Cn → Bool) (w : World) (hT : Tab w w.heap.size A n 6 (l.map Cn.cells)) (hn : n ≤ maxLen)
    (hp : ∀ (x : Cn) (W : World), Sem.run Tryz.prog (callFunc f #[x.v, c0]) W = .ok (.enter f #[x.v, c0]) W)
    (hf : ∀ (x : Cn) (W : World), Below w.heap.size w W → Calls Tryz.prog f #[x.v, c0] W fun e w' => e = .returned (.bool (q x)) ∧ Below W.heap.size W w') :
    Calls Tryz.prog 168 #[.slice A n c, .func (.func f) #[] #[c0]] w fun e w' => e = .returned (.int .i64 (idxF q l 0)) ∧ Below w.heap.size w w' := by
  have hl : l.length = n := by have := hT.1; simpa using this
  unfold maxLen at hn
  have Hl := Lib.hid hl; clear hl
  have HT := Lib.hid hT; clear hT
  have Hp := Lib.hid hp; clear hp
  have Hf := Lib.hid hf; clear hf
  go_enter Tryz.func168, Tryz.ntmps168
  go_wp2
  go_loopw [8] (fun i wr => ∃ k : Nat, k ≤ n ∧ i = .int .i64 k ∧ Hid (idxF q l 0 = idxF q (l.drop k) k) ∧ Below w.heap.size w wr) (fun i _ => n - (intOf i).toNat)
  case atStart => exact ⟨0, Nat.zero_le _, rfl, rfl, Below.refl _ _⟩
  case round =>
    obtain ⟨k, hk, rfl, heq, hbr⟩ := hrel
    by_cases hlt : k < n
    · obtain ⟨x, hx⟩ := get_lt Hl.out hlt
      obtain ⟨b, off, rfl, hb, c0', c1, c2, c3, c4, c5⟩ := HT.out.six (k := k) (x0 := .string x.name) (x1 := .slice x.hA x.hn x.hc) (x2 := .int .i64 x.offset) (x3 := .int .i64 x.step) (x4 := .int .i64 x.den) (x5 := .int .i64 x.slack) (by simp [hx])
      have Hx := Lib.hid hx; clear hx
      have c0' := (hbr.cell (p := ⟨b, off + k * 6, none⟩) hb).trans c0'
      have c1 := (hbr.cell (p := ⟨b, off + k * 6 + 1, none⟩) hb).trans c1
      have c2 := (hbr.cell (p := ⟨b, off + k * 6 + 2, none⟩) hb).trans c2
      have c3 := (hbr.cell (p := ⟨b, off + k * 6 + 3, none⟩) hb).trans c3
      have c4 := (hbr.cell (p := ⟨b, off + k * 6 + 4, none⟩) hb).trans c4
      have c5 := (hbr.cell (p := ⟨b, off + k * 6 + 5, none⟩) hb).trans c5
      have hpl : ∀ W : World, Sem.run Tryz.prog (callFunc f #[.agg x.cells.toArray, c0]) W = .ok (.enter f #[x.v, c0]) W := Hp.out x
      simp only [Cn.cells] at hpl
      obtain ⟨t, ht⟩ : ∃ t, q x = t := ⟨_, rfl⟩
      have hF : ∀ W, Below w.heap.size w W → Calls Tryz.prog f #[x.v, c0] W fun e w' => e = .returned (.bool t) ∧ Below W.heap.size W w' := fun W h => by have := Hf.out x W h; rwa [ht] at this
      have HF := Lib.hid hF; clear hF
      have Ht := Lib.hid ht; clear ht
      cases t
      · go_wp2_with fail
        refine (HF.out _ hbr).mono ?_
        rintro e w1 ⟨rfl, hb1⟩
        go_wp2
        go_roundw
        case rel => exact ⟨k + 1, by omega, by go_num, by rw [heq.out, drop_cons Hx.out, idxF, Ht.out]; rfl, thru hbr (hb1.mono (Nat.le_refl _))⟩
        case measure => simp [intOf]; omega
      · go_wp2_with fail
        refine (HF.out _ hbr).mono ?_
        rintro e w1 ⟨rfl, hb1⟩
        go_wp2
        go_ret
        exact ⟨by rw [heq.out, drop_cons Hx.out, idxF, Ht.out]; rfl, thru hbr hb1⟩
    · obtain rfl : k = n := by omega
      go_wp2
      go_ret
      exact ⟨by rw [heq.out, ← Hl.out, List.drop_length]; rfl, hbr⟩

set_option maxHeartbeats 1000000 in
theorem contains_const_any (A : Option Addr) (n c : Nat) (l : List Cn) (f : FuncId) (c0 : Value) (q : Cn → Bool) (w : World) (hT : Tab w w.heap.size A n 6 (l.map Cn.cells)) (hn : n ≤ maxLen)
    (hp : ∀ (x : Cn) (W : World), Sem.run Tryz.prog (callFunc f #[x.v, c0]) W = .ok (.enter f #[x.v, c0]) W)
    (hf : ∀ (x : Cn) (W : World), Below w.heap.size w W → Calls Tryz.prog f #[x.v, c0] W fun e w' => e = .returned (.bool (q x)) ∧ Below W.heap.size W w') :
    Calls Tryz.prog 153 #[.slice A n c, .func (.func f) #[] #[c0]] w fun e w' => e = .returned (.bool (l.any q)) ∧ Below w.heap.size w w' := by
  have hI := index_const_any A n c l f c0 q w hT hn hp hf
  have hfin := idxF_ge q l 0
  generalize idxF q l 0 = r at *
  have HI := Lib.hid hI; clear hI
  have Hfin := Lib.hid hfin
  clear hfin hp hf hT
  go_enter Tryz.func153, Tryz.ntmps153
  go_wp2_with fail
  refine HI.out.mono ?_
  rintro e w1 ⟨rfl, hb1⟩
  go_wp2
  go_ret
  exact ⟨by rw [← Hfin.out]; rfl, hb1⟩
end Go.Proofs.YtncidhoojgncgaaGreat
