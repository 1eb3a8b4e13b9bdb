/- What a set does in step after step: models, and what is kept. stepsToShut: after how many steps all gates of a set are shut. -/
import Derived.Test.YtgdomaddjiggaaaGreatGtStepT
import Derived.Test.YtgdomaddjiggaaaGreatGtRepeat
import Derived.Test.YtgdomaddjiggaaaGreatGtShut
import Derived.WalkMore
namespace Go.Proofs.YtgdomaddjiggaaaGreat
open Go.RowKit
set_option linter.unusedSimpArgs false
set_option linter.unusedVariables false

theorem grown_trans {a b c : World} {row : Option Nat} (h : a.grownBy b row) (k : b.grownBy c row) : a.grownBy c row :=
  ⟨k.os.trans h.os, k.tape.trans h.tape, k.output.trans h.output, Nat.le_trans h.size k.size, fun i hi hne => (k.block i (by have := h.size; omega) hne).trans (h.block i hi hne)⟩
theorem grown_of {a b : World} {row : Option Nat} (h : Below a.heap.size a b) : a.grownBy b row := ⟨h.os, h.tape, h.output, h.size, fun i hi _ => h.block i hi⟩
theorem Blk.kept {w w' : World} {g c : Nat} {t : TypeId} {cs : Array Value} (h : Blk w g t cs) (hg : w.grownBy w' (some c)) (hne : g ≠ c) : Blk w' g t cs := (hg.block g h.lt (by simp; omega)).trans h
theorem below_of_grown {w w' : World} {c B : Nat} (hg : w.grownBy w' (some c)) (hB : B ≤ c) (hz : B ≤ w.heap.size) : Below B w w' := ⟨hg.os, hg.tape, hg.output, hg.size, fun i hi => hg.block i (by omega) (by simp; omega)⟩
theorem Tab.of_range {w : World} {g B n size : Nat} {rows : List (List Value)} (h : w.rangeAt g 0 rows.flatten) (hg : g < B) (hn : rows.length = n) (hs : ∀ r ∈ rows, r.length = size) : Tab w B (some ⟨g, 0, none⟩) n size rows :=
  ⟨hn, fun _ => ⟨g, 0, rfl, hg, fun k r hr j v hv => by
    have := h (k * size + j) v (flat_get size rows hs k r j v hr hv)
    rwa [show 0 + k * size + j = 0 + (k * size + j) by omega]⟩⟩

/-- One step of a set, all of whose gates have the same step, with no ship there. -/
def sameB (n : Nat) : List Bool := List.replicate n false
def sameT (t : Gt) (n : Nat) : List Gt := List.replicate n t
def stepMs (ms : List (Ga × Gs)) (rs : List Gr) (rn : Nat) (t : Gt) (n : Nat) : List (Ga × Gs) := newMs ms (aftF ms rs rn (sameT t n) (sameB n)) n
def toShutF (rs : List Gr) (rn : Nat) (t : Gt) (n : Nat) : Nat → Nat → List (Ga × Gs) → Int × Int
  | 0, k, ms => if shutB ms n = true then ((k : Int), 0) else (0, 9)
  | f + 1, k, ms => if shutB ms n = true then ((k : Int), 0) else toShutF rs rn t n f (k + 1) (stepMs ms rs rn t n)
theorem newMs_all {p : Ga × Gs → Prop} {ms : List (Ga × Gs)} {f : Nat → Gs} (h : ∀ m ∈ ms, p m) : ∀ k, (∀ i m, i < k → ms[i]? = some m → p (m.1, f i)) → ∀ m ∈ newMs ms f k, p m
  | 0, _ => h
  | k + 1, h2 => by
    intro m hm
    unfold newMs at hm
    split at hm
    · rename_i q hq
      rcases List.mem_or_eq_of_mem_set hm with h3 | h3
      · exact newMs_all h k (fun i m hi hm => h2 i m (by omega) hm) m h3
      · rw [h3]; exact h2 k q (by omega) hq
    · exact newMs_all h k (fun i m hi hm => h2 i m (by omega) hm) m hm
/-- What is said of the machines of a set. -/
structure Right (w : World) (b : Nat) (ms : List (Ga × Gs)) (n : Nat) : Prop where
  len : ms.length = n
  at_ : ∀ m ∈ ms, m.1.At w b
  ok : ∀ m ∈ ms, m.1.Ok ∧ m.2.Ok m.1
theorem Right.step {w : World} {b : Nat} {ms : List (Ga × Gs)} {n : Nat} (h : Right w b ms n) (rs : List Gr) (rn : Nat) (t : Gt) : Right w b (stepMs ms rs rn t n) n := by
  refine ⟨by unfold stepMs; rw [newMs_len]; exact h.len, ?_, ?_⟩
  · exact newMs_all h.at_ n (fun i m _ hm => h.at_ m (List.mem_of_getElem? hm))
  · refine newMs_all h.ok n (fun i m hi hm => ?_)
    have ho := h.ok m (List.mem_of_getElem? hm)
    refine ⟨ho.1, ?_⟩
    unfold aftF
    rw [hm]
    have ht : (sameT t n)[i]? = some t := by unfold sameT; rw [List.getElem?_replicate, if_pos hi]
    have hb : (sameB n)[i]? = some false := by unfold sameB; rw [List.getElem?_replicate, if_pos hi]
    rw [ht, hb]
    exact after_ok ho.1 ho.2 t _
theorem Right.kept {w w' : World} {b : Nat} {ms : List (Ga × Gs)} {n : Nat} (h : Right w b ms n) (hb : Below b w w') : Right w' b ms n := ⟨h.len, fun m hm => (h.at_ m hm).below hb, h.ok⟩
end Go.Proofs.YtgdomaddjiggaaaGreat

namespace Go.Proofs.YtgdomaddjiggaaaGreat
open Go.RowKit
set_option linter.unusedSimpArgs false
set_option linter.unusedVariables false

theorem infoBool : (Tryz.prog.info? 4).map (fun i => (i.zero, i.size, i.bytes)) = some (some (.bool false), 1, 1) := by kernel_rfl
theorem undBools : Tryz.prog.underlying 69 = some (.slice 4) := by kernel_rfl
theorem bools_is (n : Nat) (h : n ≤ 6) : (madeCells #[Value.bool false] n).toList = (List.replicate n [Value.bool false]).flatten := by
  rcases (show n = 0 ∨ n = 1 ∨ n = 2 ∨ n = 3 ∨ n = 4 ∨ n = 5 ∨ n = 6 by omega) with rfl | rfl | rfl | rfl | rfl | rfl | rfl <;> kernel_rfl

set_option maxRecDepth 100000 in
set_option maxHeartbeats 8000000 in
theorem toShut_any (ms : List (Ga × Gs)) (rs : List Gr) (t : Gt) (b n c : Nat) (rA : Option Addr) (rn rc : Nat) (w : World) (hm : Ms w b ms) (hR : Right w b ms n) (h0 : 0 < n) (hn : n ≤ 6) (hr : Tab w b rA rn 4 (rs.map Gr.cells)) (hrn : rn ≤ 1000) (hro : ∀ r ∈ rs, 0 ≤ r.other ∧ r.other < n) (ht : t.Ok) :
    Calls Tryz.prog 85 #[setV (some ⟨b, 0, none⟩) n c rA rn rc, t.v] w fun e w' => e = .returned (pairV (toShutF rs rn t n 2000 0 ms)) ∧ w.grownBy w' (some b) := by
  obtain ⟨i0, hi, hz0, hz1, hz2⟩ := info_parts infoBool
  have hmk : ∀ W : World, (Instr.makeSlice 69 (.int .i64 (n : Int)) (.int .i64 (n : Int))).run Tryz.prog W = .ok (.slice (some ⟨W.heap.size, 0, none⟩) n n) (W.alloc (.cells (madeCells #[Value.bool false] n) 4)) := by
    intro W
    have := run_make (P := Tryz.prog) W 69 4 i0 _ undBools hi hz0 .i64 .i64 n n (by omega) (by omega) (by rw [hz2]; omega) (by omega)
    rw [hz1, Nat.mul_one, show (Value.bool false).cells = #[Value.bool false] from rfl] at this
    simpa using this
  clear hi hz0 hz1 hz2
  have hbl := hm.lt
  have Hm := Lib.hid hm
  have HR := Lib.hid hR
  have Hr := Lib.hid hr
  have Hro := Lib.hid hro
  have Hto := Lib.hid ht
  have j0 : (0 : Int) ≤ (n : Int) := Int.natCast_nonneg _
  clear hm hR hr hro ht
  go_enter Tryz.func85, Tryz.ntmps85
  go_wp2_with fail
  go_step3
  go_wp2_with fail
  refine (repeat_any t n (w.heap.size + 1 + 1) 1 h0 hn _ (Blk.new' ((w.alloc _).alloc _) _ _ (by simp))).mono ?_
  rintro e w1 ⟨gs, rfl, hgs0, hgs1, hrs, hb1⟩
  have hz1 := hb1.size
  (try simp at hz1 hgs0)
  have hB1 : Blk w1 w.heap.size 114 #[.slice (some ⟨b, 0, none⟩) n c, .slice rA rn rc] := (((Blk.new w _ _).alloc _).alloc _).thru hb1 (by simp; omega)
  have hBw : Below w.heap.size w w1 := (by repeat (first | exact Below.refl _ _ | assumption | (refine Below.setCell ?_ (by first | omega | (simp; done) | (simp; omega)) _) | (refine Below.alloc ?_ (by first | omega | (simp; done) | (simp; omega)) _) | refine Below.drew ?_ | (refine below_thru ?_ (by assumption) (by first | omega | (simp; done) | (simp; omega))) | refine below_drewN ?_ _))
  obtain ⟨s0, s1, _, _⟩ := hB1.two
  have hl0 : w.heap.size < w1.heap.size := by omega
  have Hrs := Lib.hid hrs
  clear hrs hb1
  go_wp2_with fail
  have hB2 : Blk (w1.alloc (.cells (madeCells #[Value.bool false] n) 4)) w.heap.size 114 #[.slice (some ⟨b, 0, none⟩) n c, .slice rA rn rc] := hB1.alloc _
  have hS2 : (w1.alloc (.cells (madeCells #[Value.bool false] n) 4)).rangeAt gs 0 (List.replicate n t.cells).flatten := range_below Hrs.out ((Below.refl w1.heap.size w1).alloc (Nat.le_refl _) _) hgs1
  have hP2 : (w1.alloc (.cells (madeCells #[Value.bool false] n) 4)).rangeAt w1.heap.size 0 (List.replicate n [Value.bool false]).flatten := Blk.range (Blk.new w1 _ _) (by rw [← bools_is n hn]; exact List.take_length)
  have hW2 : Below w.heap.size w (w1.alloc (.cells (madeCells #[Value.bool false] n) 4)) := hBw.alloc (by omega) _
  have hz2 : (w1.alloc (.cells (madeCells #[Value.bool false] n) 4)).heap.size = w1.heap.size + 1 := by simp
  generalize hw2 : w1.alloc (.cells (madeCells #[Value.bool false] n) 4) = w2 at *
  clear hw2
  have hg2 := grown_of (row := some b) hW2
  have hM2 := Hm.out.grow hW2
  have HB2 := Lib.hid hB2
  have HS2 := Lib.hid hS2
  have HP2 := Lib.hid hP2
  have Hg2 := Lib.hid hg2
  have HM2 := Lib.hid hM2
  clear hB1 hBw s0 s1 Hrs hmk hB2 hS2 hP2 hW2 hg2 hM2
  go_step3
  go_wp2
  go_loopw [4] (fun i wr => ∃ (k : Nat) (mk : List (Ga × Gs)), k ≤ 2000 ∧ i = .int .i64 k ∧ Hid (toShutF rs rn t n 2000 0 ms = toShutF rs rn t n (2000 - k) k mk) ∧ Hid (Right w b mk n) ∧ Hid (Ms wr b mk) ∧ Hid (w.grownBy wr (some b)) ∧ Hid (Blk wr w.heap.size 114 #[.slice (some ⟨b, 0, none⟩) n c, .slice rA rn rc])
      ∧ Hid (wr.rangeAt gs 0 (List.replicate n t.cells).flatten) ∧ Hid (wr.rangeAt w1.heap.size 0 (List.replicate n [Value.bool false]).flatten) ∧ w1.heap.size + 1 ≤ wr.heap.size)
    (fun i _ => 2001 - (intOf i).toNat)
  case atStart => exact ⟨0, ms, by omega, rfl, rfl, HR.out, HM2.out, Hg2.out, HB2.out, HS2.out, HP2.out, by omega⟩
  case round =>
    obtain ⟨k, mk, hk, rfl, hto, hRt, hms, hgr, hbs, hsr, hpr, hzr⟩ := hrel
    obtain ⟨s0, s1, _, _⟩ := hbs.out.two
    have hlr := hbs.out.lt
    have HSh := Lib.hid (fun W hW => shut_any mk b n c rA rn rc W hW hRt.out.len (by omega))
    cases hsh : shutB mk n
    · rw [hsh] at HSh
      have Hsh := Lib.hid hsh
      clear hsh
      by_cases hk2 : k = 2000
      · subst hk2
        have hfin : toShutF rs rn t n 2000 0 ms = (0, 9) := by
          rw [hto.out]
          show toShutF rs rn t n 0 2000 mk = _
          rw [toShutF, Hsh.out]; rfl
        have Hfin := Lib.hid hfin
        clear hfin
        go_wp2_with fail
        refine (HSh.out _ hms.out).mono ?_
        rintro e w3 ⟨rfl, hb3⟩
        have hg3 : w.grownBy w3 (some b) := grown_trans hgr.out (grown_of hb3)
        have Hg3 := Lib.hid hg3
        clear hg3 hb3
        go_wp2
        (try rw [Exit.noGoto_ret])
        go_ret2
        exact ⟨by rw [Hfin.out]; rfl, Hg3.out⟩
      · have hke : ((k : Int) == 2000) = false := by rw [beq_eq_false_iff_ne]; omega
        have hnx : toShutF rs rn t n 2000 0 ms = toShutF rs rn t n (2000 - (k + 1)) (k + 1) (stepMs mk rs rn t n) := by
          rw [hto.out]
          obtain ⟨f, hf⟩ : ∃ f, 2000 - k = f + 1 := ⟨2000 - k - 1, by omega⟩
          rw [hf, show 2000 - (k + 1) = f by omega, toShutF, Hsh.out]
          rfl
        have Hnx := Lib.hid hnx
        have hk3 : k < 2000 := by omega
        clear hnx hk2
        go_wp2_with fail
        refine (HSh.out _ hms.out).mono ?_
        rintro e w3 ⟨rfl, hb3⟩
        have hz3 := hb3.size
        have hg3 : w.grownBy w3 (some b) := grown_trans hgr.out (grown_of hb3)
        have hms3 := hms.out.grow hb3
        have hbs3 := hbs.out.thru hb3 hlr
        have hsr3 := range_below hsr.out hb3 (by omega)
        have hpr3 := range_below hpr.out hb3 (by omega)
        obtain ⟨v0, v1, _, _⟩ := hbs3.two
        have hBb : Below b w w3 := below_of_grown hg3 (Nat.le_refl _) (by omega)
        have hRt3 := hRt.out.kept hBb
        have hT3 : Tab w3 w3.heap.size rA rn 4 (rs.map Gr.cells) := (Hr.out.below hBb).more (by omega)
        have hS3 : Tab w3 w3.heap.size (some ⟨gs, 0, none⟩) n 4 ((sameT t n).map Gt.cells) := by
          rw [show (sameT t n).map Gt.cells = List.replicate n t.cells by unfold sameT; rw [List.map_replicate]]
          exact Tab.of_range hsr3 (by omega) List.length_replicate (fun r hr => by rw [(List.mem_replicate.1 hr).2]; rfl)
        have hP3 : Tab w3 w3.heap.size (some ⟨w1.heap.size, 0, none⟩) n 1 ((sameB n).map fun p => [Value.bool p]) := by
          rw [show (sameB n).map (fun p => [Value.bool p]) = List.replicate n [Value.bool false] by unfold sameB; rw [List.map_replicate]]
          exact Tab.of_range hpr3 (by omega) List.length_replicate (fun r hr => by rw [(List.mem_replicate.1 hr).2]; rfl)
        have HStep := Lib.hid (sstep_any mk rs (sameT t n) (sameB n) b n c rA rn rc (some ⟨gs, 0, none⟩) n (some ⟨w1.heap.size, 0, none⟩) n w3 hms3 (fun m hm => (hRt3.at_ m hm).more (by omega)) hRt3.ok hRt3.len h0 hn hT3 hrn Hro.out hS3 (fun t' ht' => by rw [(List.mem_replicate.1 ht').2]; exact Hto.out) hP3)
        have Hg3 := Lib.hid hg3
        have Hbs3 := Lib.hid hbs3
        have Hsr3 := Lib.hid hsr3
        have Hpr3 := Lib.hid hpr3
        have hl3 : w.heap.size < w3.heap.size := by omega
        clear hg3 hms3 hbs3 hsr3 hpr3 hBb hRt3 hT3 hS3 hP3 s0 s1 hb3
        go_wp2_with fail
        refine HStep.out.mono ?_
        rintro e w4 ⟨gd, rfl, hgd0, hgd1, _, hms4, hgr4⟩
        have hz4 := hgr4.size
        have hg4 : Hid (w.grownBy w4 (some b)) := grown_trans Hg3.out hgr4
        have hm4 : Hid (Ms w4 b (stepMs mk rs rn t n)) := hms4
        have hbs4 : Hid (Blk w4 w.heap.size 114 #[.slice (some ⟨b, 0, none⟩) n c, .slice rA rn rc]) := Hbs3.out.kept hgr4 (by omega)
        have hsr4 : Hid (w4.rangeAt gs 0 (List.replicate n t.cells).flatten) := range_kept Hsr3.out hgr4 (by omega)
        have hpr4 : Hid (w4.rangeAt w1.heap.size 0 (List.replicate n [Value.bool false]).flatten) := range_kept Hpr3.out hgr4 (by omega)
        have hRt4 : Hid (Right w b (stepMs mk rs rn t n) n) := hRt.out.step rs rn t
        have hk1 : k + 1 ≤ 2000 := by omega
        clear hms4 hgr4 HStep v0 v1
        go_wp2
        go_roundw
        case rel => exact ⟨k + 1, stepMs mk rs rn t n, hk1, by go_num, Hnx, hRt4, hm4, hg4, hbs4, hsr4, hpr4, by omega⟩
        case measure => simp [intOf]; omega
    · rw [hsh] at HSh
      have Hsh := Lib.hid hsh
      clear hsh
      have hfin : toShutF rs rn t n 2000 0 ms = ((k : Int), 0) := by
        rw [hto.out]
        generalize 2000 - k = f
        cases f
        · rw [toShutF, Hsh.out]; rfl
        · rw [toShutF, Hsh.out]; rfl
      have Hfin := Lib.hid hfin
      clear hfin
      go_wp2_with fail
      refine (HSh.out _ hms.out).mono ?_
      rintro e w3 ⟨rfl, hb3⟩
      have hg3 : w.grownBy w3 (some b) := grown_trans hgr.out (grown_of hb3)
      have Hg3 := Lib.hid hg3
      clear hg3 hb3
      go_wp2
      (try rw [Exit.noGoto_ret])
      go_ret2
      exact ⟨by rw [Hfin.out]; rfl, Hg3.out⟩
end Go.Proofs.YtgdomaddjiggaaaGreat
