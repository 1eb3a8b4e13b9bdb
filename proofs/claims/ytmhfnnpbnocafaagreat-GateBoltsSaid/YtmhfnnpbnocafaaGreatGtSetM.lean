/- The states of a set. The rules of a set. Why an order is refused; whether all gates are shut. A step of a set: what a round reads, what each machine does. The states of a set are written back, one after the other. -/
import Derived.Test.YtmhfnnpbnocafaaGreatGtSet
import Derived.Test.YtmhfnnpbnocafaaGreatGtStep
namespace Go.Proofs.YtmhfnnpbnocafaaGreat
open Go.RowKit
set_option linter.unusedSimpArgs false
set_option linter.unusedVariables false

theorem wpl_mm {ops : Array Oper} {rest : List Oper} {o : Oper} {a : Act} {w : World} {Q : Exit → Act → World → Prop} {x : Operand} {b off : Nat} {g : Ga} {s : Gs} (h : w.rangeAt b off (mrow g s).toList) (hgd : o.guard = none) (ho : o.op = .load 97 x) (hx : a.eval x = .pointer (some ⟨b, off, none⟩))
    (hk : wpList Tryz.prog ops Q rest (a.put o.dst (mv g s)) w) : wpList Tryz.prog ops Q (o :: rest) a w :=
  wpList_load_mid hgd _ x ho b off hx (mrow g s).toList _ h uMachine rfl iMachine hk
theorem infoState : (Tryz.prog.info? 27).map (fun i => (i.zero, i.size, i.bytes)) = some (some (.agg #[.int .i64 0, .int .i64 0, .bool false]), 3, 24) := by kernel_rfl
theorem undStates : Tryz.prog.underlying 54 = some (.slice 27) := by kernel_rfl
theorem grown_below {w w' : World} {row : Option Nat} {B : Nat} (h : w.grownBy w' row) (hb : ∀ k, row = some k → B ≤ k) (hB : B ≤ w.heap.size) : Below B w w' :=
  ⟨h.os, h.tape, h.output, h.size, fun i hi => h.block i (by omega) (fun e => by have := hb i e.symm; omega)⟩
theorem Wrote.owns {w W : World} {b base : Nat} {t e : TypeId} {cs : Array Value} {size n : Nat} {v : Value} {xs : List Value} (h : Wrote w W b t cs) (ho : w.ownsRow base e size v n xs) (hb : ∀ g, v.ownBlock = some g → g ≠ b) : W.ownsRow base e size v n xs := by
  refine ⟨ho.1, ?_⟩
  rcases ho.2 with h1 | ⟨g, cap, cur, h1, h2, h3, h4⟩
  · exact .inl h1
  · exact .inr ⟨g, cap, cur, h1, h2, h.far g _ _ (hb g (by rw [h1]; rfl)) h3, h4⟩
theorem owns_slice {w : World} {base : Nat} {e : TypeId} {size n : Nat} {v : Value} {xs : List Value} (h : w.ownsRow base e size v n xs) : ∃ A vn vc, v = .slice A vn vc := by
  rcases h.2 with h1 | ⟨g, cap, cur, h1, _⟩
  · exact ⟨_, _, _, h1.1⟩
  · exact ⟨_, _, _, h1⟩
theorem st_facts {wr W : World} {t e : TypeId} {cs : Array Value} {o : Obj} {B size k : Nat} {v : Value} {xs : List Value} (hW : Wrote (wr.alloc o) W wr.heap.size t cs) (hown : wr.ownsRow (B + 1) e size v k xs) (hz : B + 1 ≤ wr.heap.size) :
    Hid (W.ownsRow (B + 1) e size v k xs) ∧ Hid (Below B wr W) ∧ Hid (∀ o', B + 1 ≤ (W.alloc o').heap.size) := by
  have hs := hW.size
  simp at hs
  refine ⟨hW.owns (hown.alloc _) (fun g' hg' => ?_), hW.below _ _ (by omega) ((Below.refl _ _).alloc (by omega) _), fun o' => by simp; omega⟩
  have := (hown.lt g' hg').2
  omega
def stCells (ms : List (Ga × Gs)) : List Value := ms.flatMap fun m => m.2.cells
theorem news3 (w : World) (t : TypeId) (a b c : Value) : ∀ (j : Nat) (u : Value), [a, b, c][j]? = some u → (w.alloc (.cells #[a, b, c] t)).cell? ((⟨w.heap.size, 0, none⟩ : Addr).add j) = some u := by
  intro j u h
  match j, h with
  | 0, h => cases h; exact (Blk.new w t #[a, b, c]).cell 0
  | 1, h => cases h; exact (Blk.new w t #[a, b, c]).cell 1
  | 2, h => cases h; exact (Blk.new w t #[a, b, c]).cell 2

set_option maxRecDepth 100000 in
set_option maxHeartbeats 4000000 in
theorem states_any (ms : List (Ga × Gs)) (b n c : Nat) (rA : Option Addr) (rn rc : Nat) (w : World) (hm : Ms w b ms) (hl : ms.length = n) (hn : n ≤ 6) :
    Calls Tryz.prog 49 #[setV (some ⟨b, 0, none⟩) n c rA rn rc] w fun e w' => ∃ v, e = .returned v ∧ w'.ownsRow (w.heap.size + 1) 27 3 v n (stCells ms) ∧ Below w.heap.size w w' := by
  obtain ⟨i0, hi, hz0, hz1, hz2⟩ := info_parts infoState
  have HI := Lib.hid (And.intro hi (And.intro hz0 (And.intro hz1 hz2)))
  clear hi hz0 hz1 hz2
  have Hm := Lib.hid hm
  have hlt := hm.lt
  have Hl := Lib.hid hl
  clear hm hl
  have hal := fun W => run_alloc_m W
  go_enter Tryz.func49, Tryz.ntmps49
  go_wp2
  go_loopw [3, 9] (fun v i wr => ∃ (k : Nat) (A : Option Addr) (vn vc : Nat), k ≤ n ∧ i = .int .i64 k ∧ v = .slice A vn vc ∧ wr.ownsRow (w.heap.size + 1) 27 3 (.slice A vn vc) k (stCells (ms.take k)) ∧ Hid (Ms wr b ms) ∧ Below w.heap.size w wr ∧ w.heap.size + 1 ≤ wr.heap.size)
    (fun _ i _ => n - (intOf i).toNat)
  case atStart => exact ⟨0, none, 0, 0, Nat.zero_le _, rfl, rfl, ⟨rfl, .inl ⟨rfl, rfl⟩⟩, Hm.out.grow (by repeat (first | exact Below.refl _ _ | assumption | (refine Below.setCell ?_ (by first | omega | (simp; done) | (simp; omega)) _) | (refine Below.alloc ?_ (by first | omega | (simp; done) | (simp; omega)) _) | refine Below.drew ?_ | (refine below_thru ?_ (by assumption) (by first | omega | (simp; done) | (simp; omega))) | refine below_drewN ?_ _)), (by repeat (first | exact Below.refl _ _ | assumption | (refine Below.setCell ?_ (by first | omega | (simp; done) | (simp; omega)) _) | (refine Below.alloc ?_ (by first | omega | (simp; done) | (simp; omega)) _) | refine Below.drew ?_ | (refine below_thru ?_ (by assumption) (by first | omega | (simp; done) | (simp; omega))) | refine below_drewN ?_ _)), by simp⟩
  case round =>
    obtain ⟨k, A, vn, vc, hk, rfl, rfl, hown, hms, hbr, hzr⟩ := hrel
    have hblt := hms.out.lt
    by_cases hkn : k < n
    · obtain ⟨⟨g, s⟩, hgs⟩ := get_lt Hl.out hkn
      have hrg := hms.out.rng k _ hgs
      have Hrg := Lib.hid hrg; clear hrg
      have hsz0 := Hl.out
      have htk : stCells (ms.take (k + 1)) = stCells (ms.take k) ++ s.cells := by
        have h1 : ms.take (k + 1) = ms.take k ++ [(g, s)] := by
          rw [List.take_add_one, hgs]; rfl
        unfold stCells
        rw [h1, List.flatMap_append]
        simp
      have Htk := Lib.hid htk
      have Hown := Lib.hid hown
      clear hown htk hgs hsz0
      have hlo : Hid (∀ k', (Value.slice A vn vc).ownBlock = some k' → w.heap.size + 1 ≤ k') := fun k' hk' => (Hown.out.lt k' hk').1
      have b63 : k + 1 ≤ maxLen := by unfold maxLen; omega
      have b47 : (k + 1) * 24 ≤ 140737488355328 := by omega
      have n1 : Hid (∀ u ∈ [Value.int .i64 s.pos, .int .i64 s.charge, .bool s.bolted], u.oneCell' = true) := fun u hu => by
        simp only [List.mem_cons, List.not_mem_nil, or_false] at hu
        rcases hu with rfl | rfl | rfl <;> rfl
      go_wp2_with (first | (with_reducible refine wpl_mm (g := g) (s := s) Hrg.out rfl rfl rfl ?_) | (with_reducible refine wpl_sm (cs := zrow) (g := g) (s := s) (Blk.new wr _ _) rfl rfl rfl rfl rfl (put_m _ _) ?_; intro W hW; have hM := Lib.hid hW.blk; have k21 := (mcells_of hW.blk).c21; have k22 := (mcells_of hW.blk).c22; have k23 := (mcells_of hW.blk).c23; have hsz := hW.size; obtain ⟨HoW, HbW, Hbs⟩ := st_facts hW Hown.out hzr; clear hW hsz) | (at_builtin; refine wpList_append_own _ rfl _ _ 54 rfl (w.heap.size + 1) 27 i0 (.agg #[.int .i64 0, .int .i64 0, .bool false]) 3 24 undStates HI.out.1 HI.out.2.1 HI.out.2.2.1 HI.out.2.2.2 rfl (by decide) _ _ _ rfl (World.ownsRow.alloc (w := W) HoW.out _) ⟨W.heap.size, 0, none⟩ 1 1 [.int .i64 s.pos, .int .i64 s.charge, .bool s.bolted] rfl rfl (news3 W _ _ _ _) n1.out b63 b47 (Hbs.out _) ?_; intro v' w1 hown1 hgrow _; have hb1 : Below (w.heap.size + 1) (W.alloc (.cells #[.int .i64 s.pos, .int .i64 s.charge, .bool s.bolted] 27)) w1 := grown_below hgrow hlo.out (Hbs.out _); have hgz := hgrow.size; clear hgrow))
      all_goals
        have hown2 : w1.ownsRow (w.heap.size + 1) 27 3 v' (k + 1) (stCells (ms.take (k + 1))) := by rw [Htk.out]; exact hown1
        obtain ⟨A2, vn2, vc2, rfl⟩ := owns_slice hown2
        have Hown2 := Lib.hid hown2
        clear hown1 hown2
        have hB : Below w.heap.size wr w1 := (HbW.out.alloc (by have := HbW.out.size; omega) _).trans (hb1.mono (by omega))
        have HB := Lib.hid hB; clear hB hb1
        go_wp2
        go_roundw
        case rel => exact ⟨k + 1, A2, vn2, vc2, by omega, by go_num, rfl, Hown2.out, hms.out.below HB.out Hm.out.lt, hbr.trans HB.out, by have := HB.out.size; omega⟩
        case measure => simp [intOf]; omega
    · obtain rfl : k = n := by omega
      have hfin : ms.take k = ms := List.take_of_length_le (by have := Hl.out; omega)
      have Hown := Lib.hid hown
      clear hown
      go_wp2
      go_ret
      exact ⟨_, rfl, by have := Hown.out; rw [hfin] at this; exact this, hbr⟩
end Go.Proofs.YtmhfnnpbnocafaaGreat

namespace Go.Proofs.YtmhfnnpbnocafaaGreat
open Go.RowKit
set_option linter.unusedSimpArgs false
set_option linter.unusedVariables false

abbrev Gr.v (r : Gr) : Value := .agg #[.int .i64 r.gate, .int .i64 r.other, .int .i64 r.lo, .int .i64 r.hi]
def posAt (ms : List (Ga × Gs)) (j : Int) : Int := ((ms[j.toNat]?).map fun m => m.2.pos).getD 0
/-- A rule that is broken for a gate. -/
def brokenB (ms : List (Ga × Gs)) (i : Int) (r : Gr) : Bool := decide (r.gate = i) && !betw (posAt ms r.other) r.lo r.hi
theorem Ms.pos {w : World} {b : Nat} {ms : List (Ga × Gs)} (h : Ms w b ms) {j : Nat} (hj : j < ms.length) : w.cell? ⟨b, j * 24 + 21, none⟩ = some (.int .i64 (posAt ms j)) := by
  obtain ⟨m, hm⟩ : ∃ m, ms[j]? = some m := ⟨_, List.getElem?_eq_getElem hj⟩
  have := h.rng j m hm 21 (.int .i64 m.2.pos) rfl
  unfold posAt
  rw [Int.toNat_natCast, hm]
  exact this

set_option maxRecDepth 100000 in
set_option maxHeartbeats 2000000 in
theorem kept1_any (ms : List (Ga × Gs)) (r : Gr) (i : Int) (b n c bg bs : Nat) (rA : Option Addr) (rn rc : Nat) (w : World) (hm : Ms w b ms) (hl : ms.length = n) (hn : n ≤ 1000) (ho : 0 ≤ r.other) (ho1 : r.other < n)
    (hg : Blk w bg 3 #[.int .i64 i]) (hs : Blk w bs 103 #[.slice (some ⟨b, 0, none⟩) n c, .slice rA rn rc]) :
    Calls Tryz.prog 150 #[r.v, .pointer (some ⟨bg, 0, none⟩), .pointer (some ⟨bs, 0, none⟩)] w fun e w' => e = .returned (.bool (brokenB ms i r)) ∧ Below w.heap.size w w' := by
  obtain ⟨rg, ro, rl, rh⟩ := r
  simp only at ho ho1
  obtain ⟨j, rfl⟩ := Int.eq_ofNat_of_zero_le ho
  have hp := hm.pos (j := j) (by omega)
  have g0 := hg.cell 0
  have s0 := hs.cell 0
  simp only [List.getElem?_toArray, List.getElem?_cons_zero] at g0 s0
  have hbl := hm.lt
  have hgl := hg.lt
  have hsl := hs.lt
  have hf : brokenB ms i ⟨rg, j, rl, rh⟩ = (decide (rg = i) && !betw (posAt ms j) rl rh) := rfl
  have j0 : (0 : Int) ≤ (j : Int) := Int.natCast_nonneg _
  have j1 : (j : Int) < (n : Int) := by omega
  clear hm hg hs hl
  rw [hf]
  clear hf
  generalize posAt ms j = ps at *
  by_cases he : rg = i
  · subst he
    have HB := Lib.hid (fun W => between_any ps rl rh W)
    generalize betw ps rl rh = bb at *
    go_enter Tryz.func150, Tryz.ntmps150
    go_wp2_with fail
    go_quiet ((go_at_call 42; exact quiet_is (fun W => HB.out W)))
    go_wp2
    go_ret
    exact ⟨by simp, (by repeat (first | exact Below.refl _ _ | assumption | (refine Below.setCell ?_ (by first | omega | (simp; done) | (simp; omega)) _) | (refine Below.alloc ?_ (by first | omega | (simp; done) | (simp; omega)) _) | refine Below.drew ?_ | (refine below_thru ?_ (by assumption) (by first | omega | (simp; done) | (simp; omega))) | refine below_drewN ?_ _))⟩
  · have he' : (rg == i) = false := by rw [beq_eq_false_iff_ne]; exact he
    have hd : decide (rg = i) = false := by simpa using he
    have Hd := Lib.hid hd
    clear he hd
    go_enter Tryz.func150, Tryz.ntmps150
    go_wp2_with fail
    go_quiet (fail)
    go_wp2
    go_ret
    exact ⟨by rw [Hd.out]; simp, (by repeat (first | exact Below.refl _ _ | assumption | (refine Below.setCell ?_ (by first | omega | (simp; done) | (simp; omega)) _) | (refine Below.alloc ?_ (by first | omega | (simp; done) | (simp; omega)) _) | refine Below.drew ?_ | (refine below_thru ?_ (by assumption) (by first | omega | (simp; done) | (simp; omega))) | refine below_drewN ?_ _))⟩

/-- The first number from k on, of n, with p. -/
def idxF (p : Nat → Bool) : Nat → Nat → Int
  | _, 0 => -1
  | k, n + 1 => if p k = true then (k : Int) else idxF p (k + 1) n
theorem idx_skip (p : Nat → Bool) : ∀ (k i n : Nat), k ≤ n → (∀ j, j < k → p (i + j) = false) → idxF p i n = idxF p (i + k) (n - k)
  | 0, i, n, _, _ => rfl
  | k + 1, i, n, h, hz => by
    obtain ⟨m, rfl⟩ : ∃ m, n = m + 1 := ⟨n - 1, by omega⟩
    have h0 := hz 0 (by omega)
    simp only [Nat.add_zero] at h0
    rw [idxF, if_neg (by simp [h0]), idx_skip p k (i + 1) m (by omega) (fun j hj => by have := hz (j + 1) (by omega); rwa [show i + 1 + j = i + (j + 1) by omega]), show i + (k + 1) = i + 1 + k by omega, show m + 1 - (k + 1) = m - k by omega]
theorem idx_any (p : Nat → Bool) (k n : Nat) : (decide (0 ≤ idxF p k n)) = (List.range n).any fun j => p (k + j) := by
  induction n generalizing k with
  | zero => rfl
  | succ n ih =>
    rw [List.range_succ_eq_map, List.any_cons, List.any_map, idxF]
    split
    · rename_i h
      simp [h]
    · rename_i h
      rw [ih]
      have h' : p k = false := by simpa using h
      simp only [Nat.add_zero, h', Bool.false_or]
      congr 1
      funext j
      simp only [Function.comp]
      rw [show k + 1 + j = k + (j + 1) by omega]

set_option maxRecDepth 100000 in
set_option maxHeartbeats 2000000 in
theorem indexR_any (rs : List Gr) (p : Nat → Bool) (rA : Option Addr) (rn rc : Nat) (f : FuncId) (c1 c2 : Value) (w : World) (ht : Tab w w.heap.size rA rn 4 (rs.map Gr.cells)) (hn : rn ≤ 1000)
    (hp : ∀ (r : Value) (W : World), Sem.run Tryz.prog (callFunc f #[r, c1, c2]) W = .ok (.enter f #[r, c1, c2]) W)
    (hc : ∀ (k : Nat) (r : Gr) (W : World), rs[k]? = some r → Below w.heap.size w W → Calls Tryz.prog f #[r.v, c1, c2] W fun e w' => e = .returned (.bool (p k)) ∧ Below W.heap.size W w') :
    Calls Tryz.prog 154 #[.slice rA rn rc, .func (.func f) #[] #[c1, c2]] w fun e w' => e = .returned (.int .i64 (idxF p 0 rn)) ∧ Below w.heap.size w w' := by
  have hl : rs.length = rn := by have := ht.1; simpa using this
  have Ht := Lib.hid ht
  have Hl := Lib.hid hl
  have Hc := Lib.hid hc
  have Hp := Lib.hid hp
  clear ht hl hc hp
  go_enter Tryz.func154, Tryz.ntmps154
  go_wp2
  go_loopw [8] (fun i wr => ∃ k : Nat, k ≤ rn ∧ i = .int .i64 k ∧ Hid (∀ j, j < k → p j = false) ∧ Below w.heap.size w wr)
    (fun i _ => rn - (intOf i).toNat)
  case atStart => exact ⟨0, Nat.zero_le _, rfl, fun j hj => by omega, (by repeat (first | exact Below.refl _ _ | assumption | (refine Below.setCell ?_ (by first | omega | (simp; done) | (simp; omega)) _) | (refine Below.alloc ?_ (by first | omega | (simp; done) | (simp; omega)) _) | refine Below.drew ?_ | (refine below_thru ?_ (by assumption) (by first | omega | (simp; done) | (simp; omega))) | refine below_drewN ?_ _))⟩
  case round =>
    obtain ⟨k, hk, rfl, hprev, hbr⟩ := hrel
    obtain ⟨hcr, hfr⟩ := bcell hbr
    have hzr := hbr.size
    by_cases hlt : k < rn
    · obtain ⟨r, hr⟩ := get_lt Hl.out hlt
      obtain ⟨b, off, hA, hb, d0, d1, d2, d3⟩ := Ht.out.four (k := k) (x := .int .i64 r.gate) (y := .int .i64 r.other) (z := .int .i64 r.lo) (u := .int .i64 r.hi) (by simp [hr])
      have hpl := Hp.out r.v
      have HC := Lib.hid (Hc.out k r wr hr hbr)
      subst hA
      clear hr
      cases hpk : p k
      · have Hn : Hid (∀ j, j < k + 1 → p j = false) := fun j hj => by
          rcases Nat.lt_or_ge j k with h | h
          · exact hprev.out j h
          · obtain rfl : j = k := by omega
            exact hpk
        rw [hpk] at HC
        clear hpk
        go_wp2_with fail
        refine (HC.out).mono ?_
        rintro e w1 ⟨rfl, hb1⟩
        have hz1 := hb1.size
        go_wp2
        go_roundw
        case rel => exact ⟨k + 1, by omega, by go_num, Hn, (by repeat (first | exact Below.refl _ _ | assumption | (refine Below.setCell ?_ (by first | omega | (simp; done) | (simp; omega)) _) | (refine Below.alloc ?_ (by first | omega | (simp; done) | (simp; omega)) _) | refine Below.drew ?_ | (refine below_thru ?_ (by assumption) (by first | omega | (simp; done) | (simp; omega))) | refine below_drewN ?_ _))⟩
        case measure => simp [intOf]; omega
      · have hv : idxF p 0 rn = k := by
          rw [idx_skip p k 0 rn (by omega) (fun j hj => by rw [Nat.zero_add]; exact hprev.out j hj), Nat.zero_add]
          obtain ⟨m, hm⟩ : ∃ m, rn - k = m + 1 := ⟨rn - k - 1, by omega⟩
          rw [hm, idxF, if_pos hpk]
        have Hv := Lib.hid hv
        rw [hpk] at HC
        clear hpk hv
        go_wp2_with fail
        refine (HC.out).mono ?_
        rintro e w1 ⟨rfl, hb1⟩
        have hz1 := hb1.size
        go_wp2
        go_ret
        exact ⟨by rw [Hv.out]; rfl, (by repeat (first | exact Below.refl _ _ | assumption | (refine Below.setCell ?_ (by first | omega | (simp; done) | (simp; omega)) _) | (refine Below.alloc ?_ (by first | omega | (simp; done) | (simp; omega)) _) | refine Below.drew ?_ | (refine below_thru ?_ (by assumption) (by first | omega | (simp; done) | (simp; omega))) | refine below_drewN ?_ _))⟩
    · obtain rfl : k = rn := by omega
      have hv : idxF p 0 k = -1 := by
        rw [idx_skip p k 0 k (Nat.le_refl _) (fun j hj => by rw [Nat.zero_add]; exact hprev.out j hj), Nat.sub_self]; rfl
      have Hv := Lib.hid hv
      clear hv
      go_wp2
      go_ret
      exact ⟨by rw [Hv.out]; rfl, (by repeat (first | exact Below.refl _ _ | assumption | (refine Below.setCell ?_ (by first | omega | (simp; done) | (simp; omega)) _) | (refine Below.alloc ?_ (by first | omega | (simp; done) | (simp; omega)) _) | refine Below.drew ?_ | (refine below_thru ?_ (by assumption) (by first | omega | (simp; done) | (simp; omega))) | refine below_drewN ?_ _))⟩
end Go.Proofs.YtmhfnnpbnocafaaGreat

namespace Go.Proofs.YtmhfnnpbnocafaaGreat
open Go.RowKit
set_option linter.unusedSimpArgs false
set_option linter.unusedVariables false

set_option maxHeartbeats 1000000 in
theorem containsR_any (rs : List Gr) (p : Nat → Bool) (rA : Option Addr) (rn rc : Nat) (f : FuncId) (c1 c2 : Value) (w : World) (ht : Tab w w.heap.size rA rn 4 (rs.map Gr.cells)) (hn : rn ≤ 1000)
    (hp : ∀ (r : Value) (W : World), Sem.run Tryz.prog (callFunc f #[r, c1, c2]) W = .ok (.enter f #[r, c1, c2]) W)
    (hc : ∀ (k : Nat) (r : Gr) (W : World), rs[k]? = some r → Below w.heap.size w W → Calls Tryz.prog f #[r.v, c1, c2] W fun e w' => e = .returned (.bool (p k)) ∧ Below W.heap.size W w') :
    Calls Tryz.prog 151 #[.slice rA rn rc, .func (.func f) #[] #[c1, c2]] w fun e w' => e = .returned (.bool ((List.range rn).any p)) ∧ Below w.heap.size w w' := by
  have HI := Lib.hid (indexR_any rs p rA rn rc f c1 c2 w ht hn hp hc)
  have hx := idx_any p 0 rn
  simp only [Nat.zero_add] at hx
  have hx' : (List.range rn).any p = decide (0 ≤ idxF p 0 rn) := hx.symm
  rw [hx']
  generalize idxF p 0 rn = ix at *
  clear ht hp hc hx hx'
  go_enter Tryz.func151, Tryz.ntmps151
  go_wp2_with fail
  refine HI.out.mono ?_
  rintro e w1 ⟨rfl, hb1⟩
  go_wp2
  go_ret
  exact ⟨rfl, (by repeat (first | exact Below.refl _ _ | assumption | (refine Below.setCell ?_ (by first | omega | (simp; done) | (simp; omega)) _) | (refine Below.alloc ?_ (by first | omega | (simp; done) | (simp; omega)) _) | refine Below.drew ?_ | (refine below_thru ?_ (by assumption) (by first | omega | (simp; done) | (simp; omega))) | refine below_drewN ?_ _))⟩

/-- The rules for a gate are kept. -/
def keptB (ms : List (Ga × Gs)) (rs : List Gr) (rn : Nat) (i : Int) : Bool := !(List.range rn).any fun k => brokenB ms i (rs.getD k ⟨0, 0, 0, 0⟩)

set_option maxRecDepth 100000 in
set_option maxHeartbeats 1000000 in
theorem kept_any (ms : List (Ga × Gs)) (rs : List Gr) (i : Int) (b n c : Nat) (rA : Option Addr) (rn rc : Nat) (w : World) (hm : Ms w b ms) (hl : ms.length = n) (hn : n ≤ 1000) (ht : Tab w w.heap.size rA rn 4 (rs.map Gr.cells)) (hrn : rn ≤ 1000) (hr : ∀ r ∈ rs, 0 ≤ r.other ∧ r.other < n) :
    Calls Tryz.prog 135 #[setV (some ⟨b, 0, none⟩) n c rA rn rc, .int .i64 i] w fun e w' => e = .returned (.bool (keptB ms rs rn i)) ∧ Below w.heap.size w w' := by
  have HC := Lib.hid (fun (W : World) (bs bg : Nat) (hW : Below w.heap.size w W) (h1 : Blk W bg 3 #[.int .i64 i]) (h2 : Blk W bs 103 #[.slice (some ⟨b, 0, none⟩) n c, .slice rA rn rc]) =>
    containsR_any rs (fun k => brokenB ms i (rs.getD k ⟨0, 0, 0, 0⟩)) rA rn rc 150 (.pointer (some ⟨bg, 0, none⟩)) (.pointer (some ⟨bs, 0, none⟩)) W ((ht.below hW).more hW.size) hrn
      (fun r W' => by show Sem.run Tryz.prog (callFunc _ _) W' = _; kernel_rfl)
      (fun k r W' hk hb => by
        have hmem := List.mem_of_getElem? hk
        have e : rs.getD k ⟨0, 0, 0, 0⟩ = r := by rw [List.getD_eq_getElem?_getD, hk]; rfl
        simp only [e]
        exact kept1_any ms r i b n c bg bs rA rn rc W' ((hm.below hW hm.lt).grow hb) hl hn (hr r hmem).1 (hr r hmem).2 (h1.thru hb h1.lt) (h2.thru hb h2.lt)))
  have hf : keptB ms rs rn i = !(List.range rn).any fun k => brokenB ms i (rs.getD k ⟨0, 0, 0, 0⟩) := rfl
  rw [hf]
  clear hf
  generalize (List.range rn).any (fun k => brokenB ms i (rs.getD k ⟨0, 0, 0, 0⟩)) = bb at *
  clear hm hl ht hr
  go_enter Tryz.func135, Tryz.ntmps135
  go_wp2_with fail
  refine (HC.out _ w.heap.size (w.heap.size + 1) (by repeat (first | exact Below.refl _ _ | assumption | (refine Below.setCell ?_ (by first | omega | (simp; done) | (simp; omega)) _) | (refine Below.alloc ?_ (by first | omega | (simp; done) | (simp; omega)) _) | refine Below.drew ?_ | (refine below_thru ?_ (by assumption) (by first | omega | (simp; done) | (simp; omega))) | refine below_drewN ?_ _)) (Blk.new' (w.alloc _) _ _ (by simp)) ((Blk.new w _ _).alloc _)).mono ?_
  rintro e w1 ⟨rfl, hb1⟩
  go_wp2
  go_ret
  exact ⟨rfl, (by repeat (first | exact Below.refl _ _ | assumption | (refine Below.setCell ?_ (by first | omega | (simp; done) | (simp; omega)) _) | (refine Below.alloc ?_ (by first | omega | (simp; done) | (simp; omega)) _) | refine Below.drew ?_ | (refine below_thru ?_ (by assumption) (by first | omega | (simp; done) | (simp; omega))) | refine below_drewN ?_ _))⟩

def boltAt (ms : List (Ga × Gs)) (i : Nat) : Bool := ((ms[i]?).map fun m => m.2.bolted).getD false
def refusalF (ms : List (Ga × Gs)) (rs : List Gr) (rn i : Nat) (order : Int) (ship : Bool) : Int :=
  if order = 0 then 0 else if boltAt ms i = true then 130 else if ship = true then 131 else if keptB ms rs rn i = true then 0 else 132

set_option maxRecDepth 100000 in
set_option maxHeartbeats 2000000 in
theorem refusal_any (ms : List (Ga × Gs)) (rs : List Gr) (i : Nat) (order : Int) (ship : Bool) (b n c : Nat) (rA : Option Addr) (rn rc : Nat) (w : World) (hm : Ms w b ms) (hl : ms.length = n) (hn : n ≤ 1000) (hi : i < n) (ht : Tab w w.heap.size rA rn 4 (rs.map Gr.cells)) (hrn : rn ≤ 1000) (hr : ∀ r ∈ rs, 0 ≤ r.other ∧ r.other < n) :
    Calls Tryz.prog 108 #[setV (some ⟨b, 0, none⟩) n c rA rn rc, .int .i64 (i : Int), .int .i64 order, .bool ship] w fun e w' => e = .returned (.int .i64 (refusalF ms rs rn i order ship)) ∧ Below w.heap.size w w' := by
  have HK := Lib.hid (fun (W : World) (hW : Below w.heap.size w W) => kept_any ms rs i b n c rA rn rc W (hm.below hW hm.lt) hl hn ((ht.below hW).more hW.size) hrn hr)
  obtain ⟨m, hmi⟩ : ∃ m, ms[i]? = some m := ⟨_, List.getElem?_eq_getElem (by omega)⟩
  have hc : w.cell? ⟨b, i * 24 + 23, none⟩ = some (.bool (boltAt ms i)) := by
    have := hm.rng i m hmi 23 (.bool m.2.bolted) rfl
    unfold boltAt
    rw [hmi]
    exact this
  have hbl := hm.lt
  have hf : refusalF ms rs rn i order ship = if order = 0 then 0 else if boltAt ms i = true then 130 else if ship = true then 131 else if keptB ms rs rn i = true then 0 else 132 := rfl
  rw [hf]
  clear hf
  have j0 : (0 : Int) ≤ (i : Int) := Int.natCast_nonneg _
  have j1 : (i : Int) < (n : Int) := by omega
  generalize keptB ms rs rn i = kb at *
  generalize boltAt ms i = bo at *
  clear hm hl ht hr hmi
  by_cases h0 : order = 0
  · subst h0
    go_enter Tryz.func108, Tryz.ntmps108
    go_wp2
    go_ret
    exact ⟨by simp, (by repeat (first | exact Below.refl _ _ | assumption | (refine Below.setCell ?_ (by first | omega | (simp; done) | (simp; omega)) _) | (refine Below.alloc ?_ (by first | omega | (simp; done) | (simp; omega)) _) | refine Below.drew ?_ | (refine below_thru ?_ (by assumption) (by first | omega | (simp; done) | (simp; omega))) | refine below_drewN ?_ _))⟩
  · have h0' : (order == 0) = false := by rw [beq_eq_false_iff_ne]; exact h0
    rw [if_neg h0]
    clear h0
    cases bo
    · cases ship
      · cases kb
        all_goals
          go_enter Tryz.func108, Tryz.ntmps108
          go_wp2_with fail
          refine (HK.out _ (by repeat (first | exact Below.refl _ _ | assumption | (refine Below.setCell ?_ (by first | omega | (simp; done) | (simp; omega)) _) | (refine Below.alloc ?_ (by first | omega | (simp; done) | (simp; omega)) _) | refine Below.drew ?_ | (refine below_thru ?_ (by assumption) (by first | omega | (simp; done) | (simp; omega))) | refine below_drewN ?_ _))).mono ?_
          rintro e w1 ⟨rfl, hb1⟩
          go_wp2
          go_ret
          exact ⟨by simp, (by repeat (first | exact Below.refl _ _ | assumption | (refine Below.setCell ?_ (by first | omega | (simp; done) | (simp; omega)) _) | (refine Below.alloc ?_ (by first | omega | (simp; done) | (simp; omega)) _) | refine Below.drew ?_ | (refine below_thru ?_ (by assumption) (by first | omega | (simp; done) | (simp; omega))) | refine below_drewN ?_ _))⟩
      · go_enter Tryz.func108, Tryz.ntmps108
        go_wp2
        go_ret
        exact ⟨by simp, (by repeat (first | exact Below.refl _ _ | assumption | (refine Below.setCell ?_ (by first | omega | (simp; done) | (simp; omega)) _) | (refine Below.alloc ?_ (by first | omega | (simp; done) | (simp; omega)) _) | refine Below.drew ?_ | (refine below_thru ?_ (by assumption) (by first | omega | (simp; done) | (simp; omega))) | refine below_drewN ?_ _))⟩
    · go_enter Tryz.func108, Tryz.ntmps108
      go_wp2
      go_ret
      exact ⟨by simp, (by repeat (first | exact Below.refl _ _ | assumption | (refine Below.setCell ?_ (by first | omega | (simp; done) | (simp; omega)) _) | (refine Below.alloc ?_ (by first | omega | (simp; done) | (simp; omega)) _) | refine Below.drew ?_ | (refine below_thru ?_ (by assumption) (by first | omega | (simp; done) | (simp; omega))) | refine below_drewN ?_ _))⟩
end Go.Proofs.YtmhfnnpbnocafaaGreat

namespace Go.Proofs.YtmhfnnpbnocafaaGreat
open Go.RowKit
set_option linter.unusedSimpArgs false
set_option linter.unusedVariables false

theorem range_below {w w' : World} {b o B : Nat} {l : List Value} (h : w.rangeAt b o l) (hb : Below B w w') (hB : b < B) : w'.rangeAt b o l := fun j v hv => (hb.cell (p := ⟨b, o + j, none⟩) hB).trans (h j v hv)
theorem there_below {w w' : World} {b o n B : Nat} (h : w.there b o n) (hb : Below B w w') (hB : b < B) : w'.there b o n := fun j hj => by
  obtain ⟨h1, h2⟩ := h j hj
  exact ⟨by rw [hb.cell (p := ⟨b, o + j, none⟩) hB]; exact h1, by rw [hb.frozen (p := ⟨b, o + j, none⟩) hB]; exact h2⟩
/-- What a round of the step reads. -/
structure RS (W : World) (mb sb tb pb : Nat) (g : Ga) (s : Gs) (sv rv : Value) (to : Nat) (t : Gt) (po : Nat) (p : Bool) : Prop where
  m : Blk W mb 97 (mrow g s)
  st : Blk W sb 103 #[sv, rv]
  t0 : W.cell? ⟨tb, to, none⟩ = some (.int .i64 t.order)
  t1 : W.cell? ⟨tb, to + 1, none⟩ = some (.bool t.power)
  t2 : W.cell? ⟨tb, to + 2, none⟩ = some (.int .i64 t.outer)
  t3 : W.cell? ⟨tb, to + 3, none⟩ = some (.int .i64 t.inner)
  p0 : W.cell? ⟨pb, po, none⟩ = some (.bool p)
section
variable {W W' : World} {mb sb tb pb : Nat} {g : Ga} {s : Gs} {sv rv : Value} {to : Nat} {t : Gt} {po : Nat} {p : Bool}
theorem RS.below (h : RS W mb sb tb pb g s sv rv to t po p) (hb : Below W.heap.size W W') : RS W' mb sb tb pb g s sv rv to t po p := by
  have k : ∀ (q : Addr) (v : Value), W.cell? q = some v → W'.cell? q = some v := fun q v hq => (hb.cell (World.block_lt_of_cell? W q hq)).trans hq
  exact ⟨h.m.thru hb h.m.lt, h.st.thru hb h.st.lt, k _ _ h.t0, k _ _ h.t1, k _ _ h.t2, k _ _ h.t3, k _ _ h.p0⟩
theorem RS.drew (h : RS W mb sb tb pb g s sv rv to t po p) : RS W.drew mb sb tb pb g s sv rv to t po p := ⟨h.m, h.st, h.t0, h.t1, h.t2, h.t3, h.p0⟩
theorem RS.sets (h : RS W mb sb tb pb g s sv rv to t po p) {c : Nat} (h1 : mb ≠ c) (h2 : sb ≠ c) (h3 : tb ≠ c) (h4 : pb ≠ c) (vs : List Value) (o : Nat) : RS (W.setCells c o vs) mb sb tb pb g s sv rv to t po p := by
  have k : ∀ (q : Addr) (v : Value), q.block ≠ c → W.cell? q = some v → (W.setCells c o vs).cell? q = some v := fun q v hq h => (World.cell?_setCells_out c vs o W q (fun hb _ => absurd hb hq)).trans h
  exact ⟨h.m.fars h1 _ _, h.st.fars h2 _ _, k _ _ h3 h.t0, k _ _ h3 h.t1, k _ _ h3 h.t2, k _ _ h3 h.t3, k _ _ h4 h.p0⟩
end
theorem uStep : ∃ fs, Tryz.prog.underlying 51 = some (.struct fs) := isStruct (by kernel_rfl)
theorem ms_sets {w : World} {b c : Nat} {ms : List (Ga × Gs)} (h : Ms w b ms) (hne : b ≠ c) (vs : List Value) (o : Nat) : Ms (w.setCells c o vs) b ms :=
  ⟨fun i m hm => World.rangeAt_setCells_apart (h.rng i m hm) _ _ _ (.inl hne), fun o' => by rw [World.frozen?_setCells]; exact h.fro o', by rw [size_sets]; exact h.lt⟩

/-- What a machine of a set does in a step. -/
def aftF (ms : List (Ga × Gs)) (rs : List Gr) (rn : Nat) (ts : List Gt) (ps : List Bool) (k : Nat) : Gs :=
  match ms[k]?, ts[k]?, ps[k]? with
  | some m, some t, some p => afterF m.1 m.2 t (refusalF ms rs rn k t.order p)
  | _, _, _ => ⟨0, 0, false⟩
def camF (ms : List (Ga × Gs)) (rs : List Gr) (rn : Nat) (ts : List Gt) (ps : List Bool) (k : Nat) : Gm :=
  match ms[k]?, ts[k]?, ps[k]? with
  | some m, some t, some p => cameF m.1 m.2 t (refusalF ms rs rn k t.order p)
  | _, _, _ => ⟨0, 0, 0⟩
theorem infoMoved : (Tryz.prog.info? 47).map (fun i => (i.zero, i.size, i.bytes)) = some (some (.agg #[.int .i64 0, .int .i64 0, .int .i64 0]), 3, 24) := by kernel_rfl
theorem undMoveds : Tryz.prog.underlying 55 = some (.slice 47) := by kernel_rfl
theorem owns_there {w : World} {base : Nat} {e : TypeId} {n g cap vn : Nat} {xs : List Value} (h : w.ownsRow base e 3 (.slice (some ⟨g, 0, none⟩) vn cap) n xs) : vn = n ∧ base ≤ g ∧ g < w.heap.size ∧ ∀ j, j < n → w.there g (j * 3) 3 := by
  rcases h.2 with ⟨h1, _⟩ | ⟨g', cap', cur, h1, h2, h3, h4, h5, h6, h7⟩
  · cases h1
  · cases h1
    have hb : Blk w g e cur := h3
    exact ⟨rfl, h2, hb.lt, fun j hj => hb.there (by omega)⟩

end Go.Proofs.YtmhfnnpbnocafaaGreat

namespace Go.Proofs.YtmhfnnpbnocafaaGreat
open Go.RowKit
set_option linter.unusedSimpArgs false
set_option linter.unusedVariables false

/-- The machines, the first k of them in their next states. -/
def newMs (ms : List (Ga × Gs)) (f : Nat → Gs) : Nat → List (Ga × Gs)
  | 0 => ms
  | k + 1 => match ms[k]? with
    | some m => (newMs ms f k).set k (m.1, f k)
    | none => newMs ms f k
theorem newMs_get (ms : List (Ga × Gs)) (f : Nat → Gs) : ∀ (k j : Nat), k ≤ j → (newMs ms f k)[j]? = ms[j]?
  | 0, _, _ => rfl
  | k + 1, j, h => by
    have ih := newMs_get ms f k j (by omega)
    unfold newMs
    split
    · rw [List.getElem?_set_ne (by omega)]; exact ih
    · exact ih
theorem newMs_len (ms : List (Ga × Gs)) (f : Nat → Gs) : ∀ k, (newMs ms f k).length = ms.length
  | 0 => rfl
  | k + 1 => by
    have ih := newMs_len ms f k
    unfold newMs
    split
    · rw [List.length_set]; exact ih
    · exact ih
theorem row_out (g : Ga) (s s' : Gs) : ∀ (j : Nat) (v : Value), j < 21 → (mrow g s').toList[j]? = some v → (mrow g s).toList[j]? = some v := by
  intro j v hj h
  have e : (mrow g s').toList.take 21 = (mrow g s).toList.take 21 := rfl
  have h1 : ((mrow g s').toList.take 21)[j]? = some v := by rw [List.getElem?_take, if_pos hj]; exact h
  rw [e, List.getElem?_take, if_pos hj] at h1
  exact h1
theorem row_in (g : Ga) (s' : Gs) : ∀ (j : Nat) (v : Value), 21 ≤ j → (mrow g s').toList[j]? = some v → s'.cells[j - 21]? = some v := by
  intro j v hj h
  have e : (mrow g s').toList.drop 21 = s'.cells := rfl
  rw [← e, List.getElem?_drop, show 21 + (j - 21) = j by omega]
  exact h
theorem Ms.there {w : World} {b : Nat} {ms : List (Ga × Gs)} (h : Ms w b ms) {k : Nat} (hk : k < ms.length) : w.there b (k * 24 + 21) 3 := fun j hj => by
  obtain ⟨m, hm⟩ : ∃ m, ms[k]? = some m := ⟨_, List.getElem?_eq_getElem hk⟩
  refine ⟨?_, h.fro _⟩
  have := (h.rng k m hm).isSome (21 + j) (by show 21 + j < 24; omega)
  rwa [show k * 24 + (21 + j) = k * 24 + 21 + j by omega] at this
theorem Ms.put {w : World} {b : Nat} {ms : List (Ga × Gs)} (h : Ms w b ms) {k : Nat} {m : Ga × Gs} (hk : ms[k]? = some m) (s' : Gs) : Ms (w.setCells b (k * 24 + 21) s'.cells) b (ms.set k (m.1, s')) := by
  have hlt := (List.getElem?_eq_some_iff.1 hk).1
  refine ⟨fun i q hq => ?_, fun o => by rw [World.frozen?_setCells]; exact h.fro o, by rw [size_sets]; exact h.lt⟩
  by_cases hik : i = k
  · subst hik
    rw [List.getElem?_set_self hlt] at hq
    cases hq
    intro j v hv
    by_cases hj : j < 21
    · rw [World.cell?_setCells_out b s'.cells (i * 24 + 21) w ⟨b, i * 24 + j, none⟩ (fun _ _ => .inl (by show i * 24 + j < i * 24 + 21; omega))]
      exact h.rng i m hk j v (row_out m.1 m.2 s' j v hj hv)
    · have hv' := row_in m.1 s' j v (by omega) hv
      have := World.rangeAt_setCells_same w b (i * 24 + 21) s'.cells (h.there hlt) (j - 21) v hv'
      rwa [show i * 24 + 21 + (j - 21) = i * 24 + j by omega] at this
  · rw [List.getElem?_set_ne (by omega)] at hq
    refine World.rangeAt_setCells_apart (h.rng i q hq) _ _ _ (.inr ?_)
    rcases Nat.lt_or_ge i k with hl | hl
    · left; show i * 24 + 24 ≤ k * 24 + 21; omega
    · right; show k * 24 + 21 + 3 ≤ i * 24; omega
theorem range_kept {w w' : World} {b o c : Nat} {l : List Value} (h : w.rangeAt b o l) (hb : w.grownBy w' (some c)) (hne : b ≠ c) : w'.rangeAt b o l := fun j v hv => hb.cell (a := ⟨b, o + j, none⟩) (h j v hv) (by simpa using hne)
theorem grownBy_sets {a w : World} {b : Nat} (h : a.grownBy w (some b)) (vs : List Value) (o : Nat) : a.grownBy (w.setCells b o vs) (some b) := by
  have hB := below_sets (b := b) (B := b) (Below.refl b w) (Nat.le_refl _) vs o
  refine ⟨hB.os.trans h.os, hB.tape.trans h.tape, hB.output.trans h.output, by rw [size_sets]; exact h.size, fun k hk hne => ?_⟩
  rw [← h.block k hk hne]
  have hkb : k ≠ b := by simpa using hne
  have : ∀ (vs : List Value) (o : Nat) (w : World), (w.setCells b o vs).heap[k]? = w.heap[k]? := by
    intro vs
    induction vs with
    | nil => intro o w; rfl
    | cons v r ih => intro o w; rw [World.setCells, ih]; exact Below.heap_setCell _ _ _ _ hkb
  exact this vs o w
theorem grownBy_drew {a w : World} {row : Option Nat} (h : a.grownBy w row) : a.grownBy w.drew row := ⟨h.os, h.tape, h.output, h.size, h.block⟩
theorem grownBy_refl (w : World) (row : Option Nat) : w.grownBy w row := ⟨rfl, rfl, rfl, Nat.le_refl _, fun _ _ _ => rfl⟩
end Go.Proofs.YtmhfnnpbnocafaaGreat
