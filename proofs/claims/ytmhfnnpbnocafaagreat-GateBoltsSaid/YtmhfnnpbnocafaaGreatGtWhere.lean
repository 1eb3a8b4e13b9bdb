/- where: the positions on which the sensors agree come out of an iterator. -/
import Derived.RangeFuncNested
import Derived.RangeFuncBound
import Derived.RangeFuncCalls
import Derived.RangeFuncLeaves
import Derived.WalkKit
import Derived.OwnWalkIn
import Derived.TacticsInMore
import Derived.LoopNIn
import Derived.LoopIn
import Derived.Shelf.Abstract
import Derived.Shelf.RegionOpen
import Derived.Test.YtmhfnnpbnocafaaGreatGtSens
namespace Go.Proofs.YtmhfnnpbnocafaaGreat
open Go.RowKit
set_option linter.unusedSimpArgs false
set_option linter.unusedVariables false
attribute [local go_sem] Oper.semAt_some

/-- At most Wrong of the sensors do not agree with a position. -/
def okP (ss : List Sn) (rs : List Int) (n : Nat) (wr p : Int) : Bool := decide (disF ss rs p n ≤ wr)
/-- The first k positions, less those with which too many do not agree. -/
def okL (ss : List Sn) (rs : List Int) (n : Nat) (wr : Int) (k : Nat) : List Nat := (List.range k).filter (fun p => okP ss rs n wr (p : Int))
theorem okL_yes {ss : List Sn} {rs : List Int} {n : Nat} {wr : Int} {k : Nat} (h : okP ss rs n wr (k : Int) = true) : okL ss rs n wr (k + 1) = okL ss rs n wr k ++ [k] := by
  unfold okL; rw [List.range_succ, List.filter_append]; simp [h]
theorem okL_no {ss : List Sn} {rs : List Int} {n : Nat} {wr : Int} {k : Nat} (h : okP ss rs n wr (k : Int) = false) : okL ss rs n wr (k + 1) = okL ss rs n wr k := by
  unfold okL; rw [List.range_succ, List.filter_append]; simp [h]
theorem okL_len (ss : List Sn) (rs : List Int) (n : Nat) (wr : Int) (k : Nat) : (okL ss rs n wr k).length ≤ k := by
  unfold okL; exact Nat.le_trans (List.length_filter_le _ _) (by simp)
theorem mem_okL {ss : List Sn} {rs : List Int} {n : Nat} {wr : Int} {k p : Nat} : p ∈ okL ss rs n wr k ↔ p < k ∧ okP ss rs n wr (p : Int) = true := by
  unfold okL; rw [List.mem_filter, List.mem_range]

theorem below_grown {W W' : World} (h : Below W.heap.size W W') : W.grownBy W' none := ⟨h.os, h.tape, h.output, h.size, fun k hk _ => h.block k hk⟩
/-- What a round that goes on keeps: what lay below B, and two blocks. -/
def KpG (B a b : Nat) (W W' : World) : Prop := Below B W W' ∧ W'.heap[a]? = W.heap[a]? ∧ W'.heap[b]? = W.heap[b]?
theorem kpG_t {B a b : Nat} {X Y Z : World} (h : KpG B a b X Y) (k : KpG B a b Y Z) : KpG B a b X Z := ⟨h.1.trans k.1, k.2.1.trans h.2.1, k.2.2.trans h.2.2⟩
theorem kpG_b {B a b : Nat} {w : World} (hn : B ≤ w.heap.size) (ha : a < w.heap.size) (hb : b < w.heap.size) (W : World) (l : Nat) (o o' : Obj) (hl : w.heap.size ≤ l) (h : W.heap[l]? = some o) (hc : o.isCells = false) (hw : o.isWalk = false) : KpG B a b W (W.putObj l o') :=
  ⟨belowK_b hn W l o o' hl h hc hw, World.putObj_heap_other (by omega), World.putObj_heap_other (by omega)⟩

theorem yield_one {F : Fence} {m : Nat} {P : Program} {l : Nat} {args : Array Value} {W : World} {A B : World → Prop}
    (h : YieldAt F m P l args W fun e W' => (e = .returned (.bool true) ∧ A W') ∨ (e = .returned (.bool false) ∧ B W')) :
    YieldAt F m P l args W fun e W' => ∃ b : Bool, e = .returned (.bool b) ∧ ((b = true ∧ A W') ∨ (b = false ∧ B W')) :=
  h.mono (by rintro e w (⟨rfl, h⟩ | ⟨rfl, h⟩); exact ⟨true, rfl, .inl ⟨rfl, h⟩⟩; exact ⟨false, rfl, .inr ⟨rfl, h⟩⟩)
/-- What a round of the iterator reads. -/
structure AgR (W : World) (Bg : Nat) (g : Ga) (Br : Nat) (v : Value) : Prop where
  g19 : W.cell? ⟨Bg, 19, none⟩ = some (.slice g.sA g.sn g.sc)
  g20 : W.cell? ⟨Bg, 20, none⟩ = some (.int .i64 g.wrong)
  r0 : W.cell? ⟨Br, 0, none⟩ = some v
theorem AgR.drew {W : World} {Bg Br : Nat} {g : Ga} {v : Value} (h : AgR W Bg g Br v) : AgR W.drew Bg g Br v := ⟨h.g19, h.g20, h.r0⟩
theorem AgR.below {W W' : World} {Bg Br : Nat} {g : Ga} {v : Value} (h : AgR W Bg g Br v) (hb : Below W.heap.size W W') (h1 : Bg < W.heap.size) (h2 : Br < W.heap.size) : AgR W' Bg g Br v :=
  ⟨(hb.cell (p := ⟨Bg, 19, none⟩) h1).trans h.g19, (hb.cell (p := ⟨Bg, 20, none⟩) h1).trans h.g20, (hb.cell (p := ⟨Br, 0, none⟩) h2).trans h.r0⟩

set_option maxRecDepth 100000 in
set_option maxHeartbeats 4000000 in
theorem agreed1_in (g : Ga) (rs : List Int) (rA : Option Addr) (rn rc : Nat) (w0 : World) (hg : g.At w0 w0.heap.size) (hr : Tab w0 w0.heap.size rA rn 1 (rs.map fun i => [Value.int .i64 i])) (hrn : rn = g.sn) (ok : g.Ok) (n l Bg Br : Nat) (J Jx : List Nat → World → Prop)
    (W : World) (hB : Below w0.heap.size w0 W) (hGb : Blk W Bg 25 (grow g)) (hRb : Blk W Br 22 #[.slice rA rn rc]) (hJ : AbidesFrom W.heap.size J)
    (hY : ∀ pre x W, J pre W → pre.length < g.travel.toNat + 1 → YieldAt Fence.wide (n - 1) Tryz.prog l #[.int .i64 (x : Nat)] W fun e W' =>
      (e = .returned (.bool true) ∧ J (pre ++ [x]) W' ∧ KpG w0.heap.size Bg Br W W') ∨ (e = .returned (.bool false) ∧ Jx (pre ++ [x]) W'))
    (h0 : J [] W) :
    CallsIn Fence.wide n Tryz.prog 127 #[.func (.yield l) #[] #[], .pointer (some ⟨Bg, 0, none⟩), .pointer (some ⟨Br, 0, none⟩)] W fun e W' => (∃ v, e = .returned v) ∧
      ((∃ ys, ys = okL g.ss rs g.sn g.wrong (g.travel.toNat + 1) ∧ J ys W') ∨ (∃ pre, True ∧ Jx pre W')) := by
  have t0 := ok.t0
  have t1 := ok.t1
  obtain ⟨T, hT⟩ : ∃ T : Nat, g.travel = (T : Int) := ⟨g.travel.toNat, by omega⟩
  have hT2 : g.travel.toNat = T := by omega
  rw [hT2] at hY ⊢
  refine callsIn_of_wp Tryz.func127 rfl trivial ?_ rfl
  simp only [Tryz.ntmps127, List.size_toArray, List.length_cons, List.length_nil, Nat.reduceAdd, Nat.reduceSub, Array.replicate_succ, Array.replicate_zero, List.push_toArray, List.append_toArray, List.nil_append, List.cons_append]
  have c2 := hGb.cell 2
  simp only [grow, List.getElem?_toArray, List.getElem?_cons_zero, List.getElem?_cons_succ] at c2
  rw [hT] at c2
  gi_wp2
  gi_loopw [8] (fun i wr => ∃ k : Nat, k ≤ T + 1 ∧ i = .int .i64 k ∧ J (okL g.ss rs g.sn g.wrong k) wr ∧ Hid (KpG w0.heap.size Bg Br W wr))
    (fun i _ => T + 1 - (intOf i).toNat)
  case atStart => exact ⟨0, Nat.zero_le _, rfl, h0, Below.refl _ _, rfl, rfl⟩
  case round =>
    obtain ⟨k, hk, rfl, hJs, hK⟩ := hrel
    by_cases hlt : k < T + 1
    · obtain ⟨hKb, hKg, hKr⟩ := hK.out
      have hBw : Below w0.heap.size w0 wr := hB.trans hKb
      have hGr : Blk wr Bg 25 (grow g) := hKg.trans hGb
      have hRr : Blk wr Br 22 #[.slice rA rn rc] := hKr.trans hRb
      have g19 := hGr.cell 19
      have g20 := hGr.cell 20
      have r0 := hRr.cell 0
      simp only [grow, List.getElem?_toArray, List.getElem?_cons_zero, List.getElem?_cons_succ] at g19 g20 r0
      have hgl := hGr.lt
      have hrl := hRr.lt
      have HD := Lib.hid (fun (W' : World) (hW' : Below w0.heap.size w0 W') => disagreeing_any g.ss rs (k : Int) g.sA rA g.sn g.sc rc W' (hg.grow hW').s (hrn ▸ hr.grow hW') ok.sn ok.sens (Int.natCast_nonneg _) (by omega))
      have HGr := Lib.hid hGr
      have HRr := Lib.hid hRr
      have HBw := Lib.hid hBw
      have HJs := Lib.hid hJs
      have HJ := Lib.hid hJ
      have HY := Lib.hid hY
      have Hlen := Lib.hid (okL_len g.ss rs g.sn g.wrong k)
      have hk0 : (0 : Int) ≤ (k : Int) := Int.natCast_nonneg _
      have hk1 : (k : Int) < ((T + 1 : Nat) : Int) := by omega
      have hA : AgR wr Bg g Br (.slice rA g.sn rc) := ⟨g19, g20, by rw [← hrn]; exact r0⟩
      have HK := Lib.hid hK.out
      clear hK hKb hKg hKr hBw hGr hRr hJs hY hJ c2
      subst hrn
      cases hd : okP g.ss rs g.sn g.wrong (k : Int)
      · have hnx := okL_no hd
        have hdn : ¬ disF g.ss rs (k : Int) g.sn ≤ g.wrong := by unfold okP at hd; exact of_decide_eq_false hd
        have hdq : decide (disF g.ss rs (k : Int) g.sn ≤ g.wrong) = false := decide_eq_false hdn
        gi_wp2
        refine wpIn_wide.2 ?_
        refine wp_region_held (S := fun W' => AgR W' Bg g Br (.slice rA g.sn rc)) (by kernel_rfl) (by exact hA.drew) (fun hHeld => ?_)
        refine wpAnyH_take (i := 0) (v := ?_) rfl (by kernel_rfl) (by kernel_rfl) (by kernel_rfl) (fun _ _ _ h => h) (Or.inl ⟨by kernel_rfl, ?_⟩) hHeld ?_
        rotate_left
        · intro w hSw; (try dsimp only at hSw); obtain ⟨g19, g20, r0⟩ := hSw; go_simp; (try with_reducible rfl)
        (try simp only [Act.put, List.setIfInBounds_toArray, List.set_cons_zero, List.set_cons_succ])
        refine wpAnyH_take (i := 1) (v := ?_) rfl (by kernel_rfl) (by kernel_rfl) (by kernel_rfl) (fun _ _ _ h => h) (Or.inl ⟨by kernel_rfl, ?_⟩) hHeld ?_
        rotate_left
        · intro w hSw; (try dsimp only at hSw); obtain ⟨g19, g20, r0⟩ := hSw; go_simp; (try with_reducible rfl)
        (try simp only [Act.put, List.setIfInBounds_toArray, List.set_cons_zero, List.set_cons_succ])
        refine wpAnyH_take (i := 2) (v := ?_) rfl (by kernel_rfl) (by kernel_rfl) (by kernel_rfl) (fun _ _ _ h => h) (Or.inl ⟨by kernel_rfl, ?_⟩) hHeld ?_
        rotate_left
        · intro w hSw; (try dsimp only at hSw); obtain ⟨g19, g20, r0⟩ := hSw; go_simp; (try with_reducible rfl)
        (try simp only [Act.put, List.setIfInBounds_toArray, List.set_cons_zero, List.set_cons_succ])
        refine wpAnyH_take (i := 3) (v := ?_) rfl (by kernel_rfl) (by kernel_rfl) (by kernel_rfl) (fun _ _ _ h => h) (Or.inl ⟨by kernel_rfl, ?_⟩) hHeld ?_
        rotate_left
        · intro w hSw; (try dsimp only at hSw); obtain ⟨g19, g20, r0⟩ := hSw; go_simp; (try with_reducible rfl)
        (try simp only [Act.put, List.setIfInBounds_toArray, List.set_cons_zero, List.set_cons_succ])
        refine wpAnyH_take (i := 5) (v := ?_) rfl (by kernel_rfl) (by kernel_rfl) (by kernel_rfl) (fun _ _ _ h => h) (Or.inl ⟨by kernel_rfl, ?_⟩) hHeld ?_
        rotate_left
        · intro w hSw; (try dsimp only at hSw); obtain ⟨g19, g20, r0⟩ := hSw; go_simp; (try with_reducible rfl)
        (try simp only [Act.put, List.setIfInBounds_toArray, List.set_cons_zero, List.set_cons_succ])
        refine wpAnyH_take (i := 6) (v := ?_) rfl (by kernel_rfl) (by kernel_rfl) (by kernel_rfl) (fun _ _ _ h => h) (Or.inl ⟨by kernel_rfl, ?_⟩) hHeld ?_
        rotate_left
        · intro w hSw; (try dsimp only at hSw); obtain ⟨g19, g20, r0⟩ := hSw; go_simp; (try with_reducible rfl)
        (try simp only [Act.put, List.setIfInBounds_toArray, List.set_cons_zero, List.set_cons_succ])
        (try simp only [List.getElem_toArray, List.getElem_cons_zero, List.getElem_cons_succ, Act.put, List.setIfInBounds_toArray, List.set_cons_zero, List.set_cons_succ])
        refine wpAnyH_ready (rs := [4]) (by kernel_rfl) (by simp) ?_
        refine AllReadyH.cons rfl (fun K hK => ?_) AllReadyH.nil
        go_simp
        refine (HD.out _ HBw.out.drew).mono ?_
        rintro e w2 ⟨rfl, hb2⟩; have hz2 := hb2.size; (try simp at hz2)
        (try dsimp only)
        refine hK.out _ _ (by exact hHeld.below hb2 (by simpa using hgl) (by simpa using hrl)) (fun hHeld => ?_)
        clear hK K
        (try simp only [Act.put, List.setIfInBounds_toArray, List.set_cons_zero, List.set_cons_succ])
        refine wpAnyH_take (i := 7) (v := ?_) rfl (by kernel_rfl) (by kernel_rfl) (by kernel_rfl) (fun _ _ _ h => h) (Or.inl ⟨by kernel_rfl, ?_⟩) hHeld ?_
        rotate_left
        · intro w hSw; (try dsimp only at hSw); skip; go_simp; (try with_reducible rfl)
        (try simp only [Act.put, List.setIfInBounds_toArray, List.set_cons_zero, List.set_cons_succ])
        refine wpAnyH_take (i := 8) (v := ?_) rfl (by kernel_rfl) (by kernel_rfl) (by kernel_rfl) (fun _ _ _ h => h) (Or.inl ⟨by kernel_rfl, ?_⟩) hHeld ?_
        rotate_left
        · intro w hSw; (try dsimp only at hSw); skip; go_simp; (try with_reducible rfl)
        (try simp only [Act.put, List.setIfInBounds_toArray, List.set_cons_zero, List.set_cons_succ])
        refine wpAnyH_take (i := 9) (v := undef) rfl (by kernel_rfl) (by kernel_rfl) (by kernel_rfl) (fun _ _ _ h => h) (Or.inr ⟨by rfl, rfl⟩) hHeld ?_
        (try simp only [Act.put, List.setIfInBounds_toArray, List.set_cons_zero, List.set_cons_succ])
        refine wpAnyH_take (i := 10) (v := undef) rfl (by kernel_rfl) (by kernel_rfl) (by kernel_rfl) (fun _ _ _ h => h) (Or.inr ⟨by rfl, rfl⟩) hHeld ?_
        (try simp only [Act.put, List.setIfInBounds_toArray, List.set_cons_zero, List.set_cons_succ])
        refine wpAnyH_take (i := 11) (v := undef) rfl (by kernel_rfl) (by kernel_rfl) (by kernel_rfl) (fun _ _ _ h => h) (Or.inr ⟨by rfl, rfl⟩) hHeld ?_
        (try simp only [Act.put, List.setIfInBounds_toArray, List.set_cons_zero, List.set_cons_succ])
        refine wpAnyH_take (i := 12) (v := undef) rfl (by kernel_rfl) (by kernel_rfl) (by kernel_rfl) (fun _ _ _ h => h) (Or.inr ⟨by rfl, rfl⟩) hHeld ?_
        (try simp only [Act.put, List.setIfInBounds_toArray, List.set_cons_zero, List.set_cons_succ])
        refine wpAnyH_take (i := 13) (v := ?_) rfl (by kernel_rfl) (by kernel_rfl) (by kernel_rfl) (fun _ _ _ h => h) (Or.inl ⟨by kernel_rfl, ?_⟩) hHeld ?_
        rotate_left
        · intro w hSw; (try dsimp only at hSw); skip; go_simp; (try with_reducible rfl)
        (try simp only [Act.put, List.setIfInBounds_toArray, List.set_cons_zero, List.set_cons_succ])
        refine wpAnyH_done (by kernel_rfl) ?_ _
        (try simp only [List.getElem_toArray, List.getElem_cons_zero, List.getElem_cons_succ, Act.put, List.setIfInBounds_toArray, List.set_cons_zero, List.set_cons_succ])
        gi_wp2
        have hb3 : Below wr.heap.size wr w2 := (Below.refl _ wr).drew.trans hb2
        refine ⟨⟨k + 1, by omega, by go_num, ?_, ?_⟩, by simp [intOf]; omega⟩
        · rw [hnx]
          exact HJ.out _ wr w2 none HJs.out (below_grown hb3) (fun r e => by cases e)
        · exact kpG_t HK.out ⟨hb3.mono HBw.out.size, hb3.block _ hgl, hb3.block _ hrl⟩
      · have hnx := okL_yes hd
        have hdp : disF g.ss rs (k : Int) g.sn ≤ g.wrong := by unfold okP at hd; exact of_decide_eq_true hd
        have hdq : decide (disF g.ss rs (k : Int) g.sn ≤ g.wrong) = true := decide_eq_true hdp
        gi_wp2
        have hmix : Tryz.prog.follows .mixedOrders = true := by kernel_rfl
        gi_region_with_o (first
          | (refine ⟨trivial, fun h => (by cases h), ?_⟩; refine (callsIn_wide.2 (HD.out _ HBw.out.drew)).mono ?_; rintro e w2 ⟨rfl, hb2⟩; (try dsimp only); have r0 := (hb2.cell (p := ⟨Br, 0, none⟩) (by simpa using hrl)).trans r0; have g20 := (hb2.cell (p := ⟨Bg, 20, none⟩) (by simpa using hgl)).trans g20; have hb3 : Below wr.heap.size wr w2 := (Below.refl _ wr).drew.trans hb2; obtain ⟨fn, tmps, assign, body, hy, hR⟩ := yield_one (HY.out _ k w2 (HJ.out _ wr w2 none HJs.out (below_grown hb3) (fun r e => by cases e)) (by have := Hlen.out; omega)))
          | (refine ⟨fun h => (by cases h), ?_⟩; refine hR.mono ?_; rintro e w3 ⟨b, rfl, hb⟩; (try dsimp only)))
        all_goals
          rcases hb with ⟨rfl, hJ3, hk3⟩ | ⟨rfl, hJx3⟩
          · gi_wp2
            refine ⟨⟨k + 1, by omega, by go_num, by rw [hnx]; exact hJ3, kpG_t HK.out (kpG_t ⟨hb3.mono HBw.out.size, hb3.block _ hgl, hb3.block _ hrl⟩ hk3)⟩, by simp [intOf]; omega⟩
          · gi_wp2
            refine bodyPost_ret (results_none rfl _ _ _) rfl ?_
            exact ⟨⟨_, rfl⟩, .inr ⟨_, trivial, hJx3⟩⟩
    · obtain rfl : k = T + 1 := by omega
      gi_wp2
      go_end0
      exact ⟨⟨_, rfl⟩, .inl ⟨_, rfl, hJs⟩⟩
end Go.Proofs.YtmhfnnpbnocafaaGreat
