/- The states of a set. -/
import Derived.Test.YtgdomaddjiggaaaGreatGtSet
namespace Go.Proofs.YtgdomaddjiggaaaGreat
open Go.RowKit
set_option linter.unusedSimpArgs false
set_option linter.unusedVariables false

theorem wpl_mm {ops : Array Oper} {rest : List Oper} {o : Oper} {a : Act} {w : World} {Q : Exit → Act → World → Prop} {x : Operand} {b off : Nat} {g : Ga} {s : Gs} (h : w.rangeAt b off (mrow g s).toList) (hgd : o.guard = none) (ho : o.op = .load 107 x) (hx : a.eval x = .pointer (some ⟨b, off, none⟩))
    (hk : wpList Tryz.prog ops Q rest (a.put o.dst (mv g s)) w) : wpList Tryz.prog ops Q (o :: rest) a w :=
  wpList_load_mid hgd _ x ho b off hx (mrow g s).toList _ h uMachine rfl iMachine hk
theorem infoState : (Tryz.prog.info? 42).map (fun i => (i.zero, i.size, i.bytes)) = some (some (.agg #[.int .i64 0, .int .i64 0, .bool false]), 3, 24) := by kernel_rfl
theorem undStates : Tryz.prog.underlying 50 = some (.slice 42) := by kernel_rfl
theorem grown_below {w w' : World} {row : Option Nat} {B : Nat} (h : w.grownBy w' row) (hb : ∀ k, row = some k → B ≤ k) (hB : B ≤ w.heap.size) : Below B w w' :=
  ⟨h.os, h.tape, h.output, h.size, fun i hi => h.block i (by omega) (fun e => by have := hb i e.symm; omega)⟩
theorem Wrote.owns {w W : World} {b base : Nat} {t e : TypeId} {cs : Array Value} {size n : Nat} {v : Value} {xs : List Value} (h : Wrote w W b t cs) (ho : w.ownsRow base e size v n xs) (hb : ∀ g, v.ownBlock = some g → g ≠ b) : W.ownsRow base e size v n xs := by
  refine ⟨ho.1, ?_⟩
  rcases ho.2 with h1 | ⟨g, cap, cur, h1, h2, h3, h4⟩
  · exact .inl h1
  · exact .inr ⟨g, cap, cur, h1, h2, h.far g _ _ (hb g (by rw [h1]; rfl)) h3, h4⟩
theorem owns_slice {w : World} {base : Nat} {e : TypeId} {size n : Nat} {v : Value} {xs : List Value} (h : w.ownsRow base e size v n xs) : ∃ A vn vc, v = .slice A vn vc := by
  rcases h.2 with h1 | ⟨g, cap, cur, h1, _⟩
  · exact ⟨_, _, _, h1.1⟩
  · exact ⟨_, _, _, h1⟩
theorem st_facts {wr W : World} {t e : TypeId} {cs : Array Value} {o : Obj} {B size k : Nat} {v : Value} {xs : List Value} (hW : Wrote (wr.alloc o) W wr.heap.size t cs) (hown : wr.ownsRow (B + 1) e size v k xs) (hz : B + 1 ≤ wr.heap.size) :
    Hid (W.ownsRow (B + 1) e size v k xs) ∧ Hid (Below B wr W) ∧ Hid (∀ o', B + 1 ≤ (W.alloc o').heap.size) := by
  have hs := hW.size
  simp at hs
  refine ⟨hW.owns (hown.alloc _) (fun g' hg' => ?_), hW.below _ _ (by omega) ((Below.refl _ _).alloc (by omega) _), fun o' => by simp; omega⟩
  have := (hown.lt g' hg').2
  omega
def stCells (ms : List (Ga × Gs)) : List Value := ms.flatMap fun m => m.2.cells
theorem news3 (w : World) (t : TypeId) (a b c : Value) : ∀ (j : Nat) (u : Value), [a, b, c][j]? = some u → (w.alloc (.cells #[a, b, c] t)).cell? ((⟨w.heap.size, 0, none⟩ : Addr).add j) = some u := by
  intro j u h
  match j, h with
  | 0, h => cases h; exact (Blk.new w t #[a, b, c]).cell 0
  | 1, h => cases h; exact (Blk.new w t #[a, b, c]).cell 1
  | 2, h => cases h; exact (Blk.new w t #[a, b, c]).cell 2

set_option maxRecDepth 100000 in
set_option maxHeartbeats 4000000 in
theorem states_any (ms : List (Ga × Gs)) (b n c : Nat) (rA : Option Addr) (rn rc : Nat) (w : World) (hm : Ms w b ms) (hl : ms.length = n) (hn : n ≤ 6) :
    Calls Tryz.prog 72 #[setV (some ⟨b, 0, none⟩) n c rA rn rc] w fun e w' => ∃ v, e = .returned v ∧ w'.ownsRow (w.heap.size + 1) 42 3 v n (stCells ms) ∧ Below w.heap.size w w' := by
  obtain ⟨i0, hi, hz0, hz1, hz2⟩ := info_parts infoState
  have HI := Lib.hid (And.intro hi (And.intro hz0 (And.intro hz1 hz2)))
  clear hi hz0 hz1 hz2
  have Hm := Lib.hid hm
  have hlt := hm.lt
  have Hl := Lib.hid hl
  clear hm hl
  have hal := fun W => run_alloc_m W
  go_enter Tryz.func72, Tryz.ntmps72
  go_wp2
  go_loopw [3, 9] (fun v i wr => ∃ (k : Nat) (A : Option Addr) (vn vc : Nat), k ≤ n ∧ i = .int .i64 k ∧ v = .slice A vn vc ∧ wr.ownsRow (w.heap.size + 1) 42 3 (.slice A vn vc) k (stCells (ms.take k)) ∧ Hid (Ms wr b ms) ∧ Below w.heap.size w wr ∧ w.heap.size + 1 ≤ wr.heap.size)
    (fun _ i _ => n - (intOf i).toNat)
  case atStart => exact ⟨0, none, 0, 0, Nat.zero_le _, rfl, rfl, ⟨rfl, .inl ⟨rfl, rfl⟩⟩, Hm.out.grow (by repeat (first | exact Below.refl _ _ | assumption | (refine Below.setCell ?_ (by first | omega | (simp; done) | (simp; omega)) _) | (refine Below.alloc ?_ (by first | omega | (simp; done) | (simp; omega)) _) | refine Below.drew ?_ | (refine below_thru ?_ (by assumption) (by first | omega | (simp; done) | (simp; omega))) | refine below_drewN ?_ _)), (by repeat (first | exact Below.refl _ _ | assumption | (refine Below.setCell ?_ (by first | omega | (simp; done) | (simp; omega)) _) | (refine Below.alloc ?_ (by first | omega | (simp; done) | (simp; omega)) _) | refine Below.drew ?_ | (refine below_thru ?_ (by assumption) (by first | omega | (simp; done) | (simp; omega))) | refine below_drewN ?_ _)), by simp⟩
  case round =>
    obtain ⟨k, A, vn, vc, hk, rfl, rfl, hown, hms, hbr, hzr⟩ := hrel
    have hblt := hms.out.lt
    by_cases hkn : k < n
    · obtain ⟨⟨g, s⟩, hgs⟩ := get_lt Hl.out hkn
      have hrg := hms.out.rng k _ hgs
      have Hrg := Lib.hid hrg; clear hrg
      have hsz0 := Hl.out
      have htk : stCells (ms.take (k + 1)) = stCells (ms.take k) ++ s.cells := by
        have h1 : ms.take (k + 1) = ms.take k ++ [(g, s)] := by
          rw [List.take_add_one, hgs]; rfl
        unfold stCells
        rw [h1, List.flatMap_append]
        simp
      have Htk := Lib.hid htk
      have Hown := Lib.hid hown
      clear hown htk hgs hsz0
      have hlo : Hid (∀ k', (Value.slice A vn vc).ownBlock = some k' → w.heap.size + 1 ≤ k') := fun k' hk' => (Hown.out.lt k' hk').1
      have b63 : k + 1 ≤ maxLen := by unfold maxLen; omega
      have b47 : (k + 1) * 24 ≤ 140737488355328 := by omega
      have n1 : Hid (∀ u ∈ [Value.int .i64 s.pos, .int .i64 s.charge, .bool s.bolted], u.oneCell' = true) := fun u hu => by
        simp only [List.mem_cons, List.not_mem_nil, or_false] at hu
        rcases hu with rfl | rfl | rfl <;> rfl
      go_wp2_with (first | (with_reducible refine wpl_mm (g := g) (s := s) Hrg.out rfl rfl rfl ?_) | (with_reducible refine wpl_sm (cs := zrow) (g := g) (s := s) (Blk.new wr _ _) rfl rfl rfl rfl rfl (put_m _ _) ?_; intro W hW; have hM := Lib.hid hW.blk; have k21 := (mcells_of hW.blk).c21; have k22 := (mcells_of hW.blk).c22; have k23 := (mcells_of hW.blk).c23; have hsz := hW.size; obtain ⟨HoW, HbW, Hbs⟩ := st_facts hW Hown.out hzr; clear hW hsz) | (at_builtin; refine wpList_append_own _ rfl _ _ 50 rfl (w.heap.size + 1) 42 i0 (.agg #[.int .i64 0, .int .i64 0, .bool false]) 3 24 undStates HI.out.1 HI.out.2.1 HI.out.2.2.1 HI.out.2.2.2 rfl (by decide) _ _ _ rfl (World.ownsRow.alloc (w := W) HoW.out _) ⟨W.heap.size, 0, none⟩ 1 1 [.int .i64 s.pos, .int .i64 s.charge, .bool s.bolted] rfl rfl (news3 W _ _ _ _) n1.out b63 b47 (Hbs.out _) ?_; intro v' w1 hown1 hgrow _; have hb1 : Below (w.heap.size + 1) (W.alloc (.cells #[.int .i64 s.pos, .int .i64 s.charge, .bool s.bolted] 42)) w1 := grown_below hgrow hlo.out (Hbs.out _); have hgz := hgrow.size; clear hgrow))
      all_goals
        have hown2 : w1.ownsRow (w.heap.size + 1) 42 3 v' (k + 1) (stCells (ms.take (k + 1))) := by rw [Htk.out]; exact hown1
        obtain ⟨A2, vn2, vc2, rfl⟩ := owns_slice hown2
        have Hown2 := Lib.hid hown2
        clear hown1 hown2
        have hB : Below w.heap.size wr w1 := (HbW.out.alloc (by have := HbW.out.size; omega) _).trans (hb1.mono (by omega))
        have HB := Lib.hid hB; clear hB hb1
        go_wp2
        go_roundw
        case rel => exact ⟨k + 1, A2, vn2, vc2, by omega, by go_num, rfl, Hown2.out, hms.out.below HB.out Hm.out.lt, hbr.trans HB.out, by have := HB.out.size; omega⟩
        case measure => simp [intOf]; omega
    · obtain rfl : k = n := by omega
      have hfin : ms.take k = ms := List.take_of_length_le (by have := Hl.out; omega)
      have Hown := Lib.hid hown
      clear hown
      go_wp2
      go_ret
      exact ⟨_, rfl, by have := Hown.out; rw [hfin] at this; exact this, hbr⟩
end Go.Proofs.YtgdomaddjiggaaaGreat
