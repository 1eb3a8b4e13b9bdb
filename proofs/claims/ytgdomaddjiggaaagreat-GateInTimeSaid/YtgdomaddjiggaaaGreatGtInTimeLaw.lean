/- GateInTime: Time is the first step after which the gate is shut, and it stays shut. -/
import Derived.Test.YtgdomaddjiggaaaGreatGtAwake
import Derived.Test.YtgdomaddjiggaaaGreatGtRunT
namespace Go.Proofs.YtgdomaddjiggaaaGreat
open Go.RowKit
set_option linter.unusedSimpArgs false
set_option linter.unusedVariables false

theorem news4 (w : World) (t : TypeId) (a b c d : Value) : ∀ (j : Nat) (u : Value), [a, b, c, d][j]? = some u → (w.alloc (.cells #[a, b, c, d] t)).cell? ((⟨w.heap.size, 0, none⟩ : Addr).add j) = some u := by
  intro j u h
  match j, h with
  | 0, h => cases h; exact (Blk.new w t #[a, b, c, d]).cell 0
  | 1, h => cases h; exact (Blk.new w t #[a, b, c, d]).cell 1
  | 2, h => cases h; exact (Blk.new w t #[a, b, c, d]).cell 2
  | 3, h => cases h; exact (Blk.new w t #[a, b, c, d]).cell 3
def manyT (t : Gt) (k : Nat) : List Value := ((List.replicate k t).map Gt.cells).flatten
theorem manyT_next (t : Gt) (k : Nat) : manyT t (k + 1) = manyT t k ++ t.cells := by unfold manyT; rw [List.replicate_succ', List.map_append, List.flatten_append]; rfl
theorem in_time_law {g : Ga} {s : Gs} {t : Gt} {w : World} {B : Nat} {N : Int} (hg : g.At w B) (ht : t.order = 1) (h0 : (stepFt g s t).e = 0) (hN : timeR g s t = (N, 0)) :
    g.Ok ∧ s.Ok g ∧ ∃ d : Nat, N = (d : Int) ∧ (∀ m : Nat, m ≤ 2000 → (runFt g s m (List.replicate m t)).e = 0) ∧ ∀ k : Nat, (endF g s (List.replicate (k + 1) t)).pos ≤ g.travel ∧ ((endF g s (List.replicate (k + 1) t)).pos < g.travel ↔ k + 1 < d) := by
  obtain ⟨hgo, hso, hto⟩ := step_ok hg h0
  have h1 : oneT t 2000 0 (g, s) = (N, 0) := by rw [← hN]; unfold timeR; rw [if_pos h0]; rfl
  obtain ⟨d, hd, hj⟩ := in_time ht hgo 2000 0 s N hso h1
  have hst := first0 _ h0 (stateFt g s) (by simp)
  have hor := first0 _ h0 (orderFt t) (by simp)
  have hgf := first0 _ hst (gateF g) (by simp)
  refine ⟨hgo, hso, d, by omega, fun m hm => run_fine hgf hso hm (by simp) (fun t' ht' => ?_), fun k => ⟨(endF_ok hgo s _ hso).p1, hj (k + 1)⟩⟩
  rw [List.eq_of_mem_replicate ht']
  exact hor

set_option maxRecDepth 100000 in
set_option maxHeartbeats 8000000 in
theorem GateInTime_any (g : Ga) (s : Gs) (a b : Int) (p : Bool) (w : World) (hg : g.At w w.heap.size) :
    Calls Tryz.prog 17 #[g.v, s.v, .agg #[.int .i64 a, .int .i64 b, .bool p]] w fun e w' => e = .returned (.bool true) ∧ Below w.heap.size w w' := by
  obtain ⟨t, ht⟩ : ∃ t : Gt, t = ⟨1, p, a, b⟩ := ⟨_, rfl⟩
  have hT : ∀ W, g.At W W.heap.size → Calls Tryz.prog 34 #[g.v, .agg #[.int .i64 s.pos, .int .i64 s.charge, .bool s.bolted], .int .i64 a, .int .i64 b, .bool p] W fun e w' => e = .returned (pairV (timeR g s t)) ∧ Below W.heap.size W w' := fun W h => by
    rw [ht]; exact Time_any g s a b p W h
  obtain ⟨N, er, hNe⟩ : ∃ N er, timeR g s t = (N, er) := ⟨_, _, rfl⟩
  rw [hNe] at hT
  have HT := Lib.hid (show ∀ W, g.At W W.heap.size → Calls Tryz.prog 34 #[g.v, .agg #[.int .i64 s.pos, .int .i64 s.charge, .bool s.bolted], .int .i64 a, .int .i64 b, .bool p] W fun e w' => e = .returned (.tuple #[.int .i64 N, .int .i64 er]) ∧ Below W.heap.size W w' from hT)
  have Hg := Lib.hid hg
  by_cases hq : er = 0 ∧ N ≤ 300 ∧ 0 ≤ N
  · obtain ⟨rfl, hN3, hN0⟩ := hq
    have h0 : (stepFt g s t).e = 0 := by
      apply Classical.byContradiction
      intro hc
      unfold timeR at hNe
      rw [if_neg hc] at hNe
      exact hc (congrArg Prod.snd hNe)
    obtain ⟨hgo, hso, d, hd, hrf, hpos⟩ := in_time_law hg (by rw [ht]) h0 hNe
    subst hd
    have hd3 : d ≤ 300 := by omega
    have hR : ∀ (W : World) (A : Option Addr) (c : Nat), g.At W W.heap.size → Tab W W.heap.size A (d + 3) 4 ((List.replicate (d + 3) t).map Gt.cells) → Calls Tryz.prog 31 #[g.v, .agg #[.int .i64 s.pos, .int .i64 s.charge, .bool s.bolted], .slice A (d + 3) c] W fun e w' => ∃ RA rc, e = .returned (.tuple #[.slice RA (d + 3) rc, .int .i64 0]) ∧ Tab w' w'.heap.size RA (d + 3) 3 ((runL g s (List.replicate (d + 3) t)).map Gs.cells) ∧ d + 3 ≤ rc ∧ Below W.heap.size W w' := fun W A c h1 h2 =>
      Run_ok g s (List.replicate (d + 3) t) A (d + 3) c W h1 h2 (by unfold maxLen; omega) (hrf (d + 3) (by omega))
    have hat : ∀ k, k < d + 3 → ∃ q : Gs, ((runL g s (List.replicate (d + 3) t)).map Gs.cells)[k]? = some q.cells ∧ q.pos ≤ g.travel ∧ (q.pos < g.travel ↔ k + 1 < d) := fun k hk => by
      refine ⟨endF g s (List.replicate (k + 1) t), ?_, hpos k⟩
      rw [List.getElem?_map, run_same_at g s t hk]
      rfl
    obtain ⟨i0, hi, hz0, hz1, hz2⟩ := info_parts infoStep
    have HI := Lib.hid (And.intro hi (And.intro hz0 (And.intro hz1 hz2)))
    have HR := Lib.hid hR
    have Hat := Lib.hid hat
    have Ht := Lib.hid ht
    clear hT hNe hN3 hN0 h0 hgo hso hrf hpos hR hat hi hz0 hz1 hz2 hg ht
    generalize (runL g s (List.replicate (d + 3) t)).map Gs.cells = rows at *
    go_enter Tryz.func17, Tryz.ntmps17
    go_wp2_with (with_reducible refine wpl_g (g := g) (((Blk.new w _ _).alloc _).alloc _) rfl rfl rfl ?_)
    refine (HT.out _ (Hg.out.grow (by repeat (first | exact Below.refl _ _ | assumption | (refine Below.setCell ?_ (by first | omega | (simp; done) | (simp; omega)) _) | (refine Below.alloc ?_ (by first | omega | (simp; done) | (simp; omega)) _) | refine Below.drew ?_ | (refine below_thru ?_ (by assumption) (by first | omega | (simp; done) | (simp; omega))) | refine below_drewN ?_ _)))).mono ?_
    rintro e w1 ⟨rfl, hb1⟩
    obtain ⟨hc1, hf1⟩ := bcell hb1; have hz1 := hb1.size; (try simp at hz1)
    have hG1 : Blk w1 w.heap.size 33 (grow g) := Blk.thru (by (repeat (first | assumption | exact Blk.new _ _ _ | (refine Blk.new' _ _ _ ?_; (simp; done)) | refine Blk.drew ?_ | refine Blk.alloc ?_ _ | (refine Blk.fars ?_ ?_ _ _; rotate_left; (dsimp only; omega)) | (refine Blk.far ?_ ?_ _; rotate_left; (first | (dsimp only; omega) | (simp; done) | (simp; omega) | omega))))) hb1 (by simp <;> omega)
    have hS1 : Blk w1 (w.heap.size + 1) 42 #[.int .i64 s.pos, .int .i64 s.charge, .bool s.bolted] := Blk.thru (by (repeat (first | assumption | exact Blk.new _ _ _ | (refine Blk.new' _ _ _ ?_; (simp; done)) | refine Blk.drew ?_ | refine Blk.alloc ?_ _ | (refine Blk.fars ?_ ?_ _ _; rotate_left; (dsimp only; omega)) | (refine Blk.far ?_ ?_ _; rotate_left; (first | (dsimp only; omega) | (simp; done) | (simp; omega) | omega))))) hb1 (by simp <;> omega)
    have hX1 : Blk w1 (w.heap.size + 1 + 1) 56 #[.int .i64 a, .int .i64 b, .bool p] := Blk.thru (by (repeat (first | assumption | exact Blk.new _ _ _ | (refine Blk.new' _ _ _ ?_; (simp; done)) | refine Blk.drew ?_ | refine Blk.alloc ?_ _ | (refine Blk.fars ?_ ?_ _ _; rotate_left; (dsimp only; omega)) | (refine Blk.far ?_ ?_ _; rotate_left; (first | (dsimp only; omega) | (simp; done) | (simp; omega) | omega))))) hb1 (by simp <;> omega)
    have hw1 : Below w.heap.size w w1 := (by repeat (first | exact Below.refl _ _ | assumption | (refine Below.setCell ?_ (by first | omega | (simp; done) | (simp; omega)) _) | (refine Below.alloc ?_ (by first | omega | (simp; done) | (simp; omega)) _) | refine Below.drew ?_ | (refine below_thru ?_ (by assumption) (by first | omega | (simp; done) | (simp; omega))) | refine below_drewN ?_ _))
    have HB1 := Lib.hid (And.intro hG1 (And.intro hS1 hX1))
    clear hb1 hc1 hf1 hG1 hS1 hX1
    go_wp2_with fail
    go_loopw [9, 10] (fun v i wr => ∃ (k : Nat) (LA : Option Addr) (ln lc : Nat), k ≤ d + 3 ∧ i = .int .i64 k ∧ v = .slice LA ln lc ∧ Hid (wr.ownsRow w1.heap.size 49 4 (.slice LA ln lc) k (manyT t k)) ∧ Hid (Below w1.heap.size w1 wr))
      (fun _ i _ => d + 3 - (intOf i).toNat)
    case atStart => exact ⟨0, none, 0, 0, Nat.zero_le _, rfl, rfl, ⟨rfl, .inl ⟨rfl, rfl⟩⟩, Below.refl _ _⟩
    case round =>
      obtain ⟨k, LA, ln, lc, hk, rfl, rfl, hown, hbr⟩ := hrel
      have hzr := hbr.out.size
      by_cases hlt : k < d + 3
      · have hxr : Blk wr (w.heap.size + 1 + 1) 56 #[.int .i64 a, .int .i64 b, .bool p] := Blk.thru HB1.out.2.2 hbr.out (by omega)
        have hxl := hxr.lt
        obtain ⟨x0, x1, x2, _⟩ := hxr.three
        have j0 : (0 : Int) ≤ (k : Int) := Int.natCast_nonneg _
        have j1 : (k : Int) < (d : Int) + 3 := by omega
        have n1 : Hid (∀ u ∈ [Value.int .i64 1, .bool p, .int .i64 a, .int .i64 b], u.oneCell' = true) := fun u hu => by
          simp only [List.mem_cons, List.not_mem_nil, or_false] at hu
          rcases hu with rfl | rfl | rfl | rfl <;> rfl
        have b63 : k + 1 ≤ maxLen := by unfold maxLen; omega
        have b47 : (k + 1) * 32 ≤ 140737488355328 := by omega
        have hlo : Hid (∀ k', (Value.slice LA ln lc).ownBlock = some k' → w1.heap.size ≤ k') := fun k' hk' => (hown.out.lt k' hk').1
        have hbs : Hid (∀ o', w1.heap.size ≤ (wr.alloc o').heap.size) := fun o' => by simp; omega
        clear hxr
        go_wp2_with (at_builtin; refine wpList_append_own _ rfl _ _ 43 rfl w1.heap.size 49 i0 (.agg #[.int .i64 0, .bool false, .int .i64 0, .int .i64 0]) 4 32 undSteps HI.out.1 HI.out.2.1 HI.out.2.2.1 HI.out.2.2.2 rfl (by decide) _ _ _ rfl (World.ownsRow.alloc (w := wr) hown.out _) ⟨wr.heap.size, 0, none⟩ 1 1 [.int .i64 1, .bool p, .int .i64 a, .int .i64 b] rfl rfl (news4 wr _ _ _ _ _) n1.out b63 b47 (hbs.out _) ?_; intro v' w2 hown2 hgrow _; have hb2 : Below w1.heap.size (wr.alloc (.cells #[.int .i64 1, .bool p, .int .i64 a, .int .i64 b] 49)) w2 := grown_below hgrow hlo.out (hbs.out _); have Hown2 := Lib.hid hown2; clear hgrow hown2)
        all_goals
          have hown3 : w2.ownsRow w1.heap.size 49 4 v' (k + 1) (manyT t (k + 1)) := by rw [manyT_next, Ht.out]; have := Hown2.out; rw [Ht.out] at this; exact this
          obtain ⟨A2, n2, c2, rfl⟩ := owns_slice hown3
          have Hown3 := Lib.hid hown3
          have Hb2 := Lib.hid ((hbr.out.alloc (by omega) _).trans hb2)
          clear hown3 Hown2 hb2
          go_wp2
          go_roundw
          case rel => exact ⟨k + 1, A2, n2, c2, by omega, by go_num, rfl, Hown3.out, Hb2.out⟩
          case measure => simp [intOf]; omega
      · obtain rfl : k = d + 3 := by omega
        obtain ⟨TA, tc, hv, htab, hle, _, _⟩ := owns_tabN (rows := (List.replicate (d + 3) t).map Gt.cells) hown.out (fun r hr => by obtain ⟨q, _, rfl⟩ := List.mem_map.1 hr; rfl) (by omega)
        cases hv
        have Htab := Lib.hid htab
        have hGr : Blk wr w.heap.size 33 (grow g) := Blk.thru HB1.out.1 hbr.out (by omega)
        have hSr : Blk wr (w.heap.size + 1) 42 #[.int .i64 s.pos, .int .i64 s.charge, .bool s.bolted] := Blk.thru HB1.out.2.1 hbr.out (by omega)
        obtain ⟨s0, s1, s2, _⟩ := hSr.three
        have hSl := hSr.lt
        have hwr : Below w.heap.size w wr := hw1.trans (hbr.out.mono (by omega))
        have HwR := Lib.hid hwr
        have HGr := Lib.hid hGr
        clear hown hbr hSr htab hlt hk
        go_wp2_with (with_reducible refine wpl_g (g := g) (b := w.heap.size) (t := 33) HGr.out rfl rfl rfl ?_)
        refine (HR.out _ _ _ (Hg.out.grow HwR.out) Htab.out).mono ?_
        rintro e w2 ⟨RA, rc, rfl, hrows, hrle, hb2⟩
        have hG2 := Lib.hid (Blk.thru HGr.out hb2 HGr.out.lt)
        have Hrows := Lib.hid hrows
        have Hw2 := Lib.hid (hwr.trans (hb2.mono (by have := hwr.size; omega)))
        have hzw := Hw2.out.size
        clear hrows hb2 s0 s1 s2
        go_wp2_with fail
        go_loopw [12] (fun i wx => ∃ k : Nat, k ≤ d + 3 ∧ i = .int .i64 k ∧ Hid (Below w2.heap.size w2 wx))
          (fun i _ => d + 3 - (intOf i).toNat)
        case atStart => exact ⟨0, Nat.zero_le _, rfl, Below.refl _ _⟩
        case round =>
          obtain ⟨k, hk, rfl, hbx⟩ := hrel
          rename World => wx
          by_cases hlt : k < d + 3
          · obtain ⟨q, hqr, hq0, hq1⟩ := Hat.out k hlt
            obtain ⟨rb, off, hA, hrb, c0, c1, c2⟩ := Hrows.out.three (k := k) (x := .int .i64 q.pos) (y := .int .i64 q.charge) (z := .bool q.bolted) hqr
            subst hA
            have c0 := (hbx.out.cell (p := ⟨rb, off + k * 3, none⟩) hrb).trans c0
            have k2 : wx.cell? ⟨w.heap.size, 2, none⟩ = some (.int .i64 g.travel) := (hbx.out.cell (p := ⟨w.heap.size, 2, none⟩) hG2.out.lt).trans (hG2.out.cell 2)
            have hq3 : q.pos = g.travel ↔ ¬ k + 1 < d := by omega
            have j0 : (0 : Int) ≤ (k : Int) := Int.natCast_nonneg _
            have j1 : (k : Int) < (d : Int) + 3 := by omega
            have hlx : w.heap.size < wx.heap.size := by have := hbx.out.size; have := hG2.out.lt; omega
            have Hbx := hbx
            have hj : ((d + 3 : Nat) : Int) = (d : Int) + 3 := by omega
            clear hqr hq0 hq1 c1 c2 hbx
            by_cases hlate : k + 1 < d
            · have q1 : (q.pos == g.travel) = false := by rw [beq_eq_false_iff_ne]; omega
              have q2 : decide ((d : Int) ≤ (k : Int) + 1) = false := by rw [decide_eq_false_iff_not]; omega
              clear hq3 hlate
              go_wp2_with fail
              go_quiet (fail)
              go_wp2
              go_roundw
              case rel => exact ⟨k + 1, by omega, by go_num, below_drewN Hbx.out _⟩
              case measure => simp [intOf]; omega
            · have q1 : (q.pos == g.travel) = true := by rw [beq_iff_eq]; omega
              have q2 : decide ((d : Int) ≤ (k : Int) + 1) = true := by rw [decide_eq_true_eq]; omega
              clear hq3 hlate
              go_wp2_with fail
              go_quiet (fail)
              go_wp2
              go_roundw
              case rel => exact ⟨k + 1, by omega, by go_num, below_drewN Hbx.out _⟩
              case measure => simp [intOf]; omega
          · obtain rfl : k = d + 3 := by omega
            have hwx : Below w.heap.size w wx := Hw2.out.trans (hbx.out.mono hzw)
            clear hbx
            go_wp2_with fail
            refine (Awake_any _).mono ?_
            rintro e w4 ⟨rfl, hb4⟩
            go_wp2
            go_ret
            exact ⟨rfl, hwx.trans (hb4.mono hwx.size)⟩
  · have hqq : (er ≠ 0) ∨ (er = 0 ∧ 300 < N) ∨ (er = 0 ∧ N < 0) := by omega
    clear hT hNe hq hg
    have common : ∀ q : Prop, q → q := fun _ h => h
    rcases hqq with h1 | ⟨h1, h2⟩ | ⟨h1, h2⟩
    · have q1 : (er != 0) = true := by rw [bne_iff_ne]; exact h1
      clear h1 common
      go_enter Tryz.func17, Tryz.ntmps17
      go_wp2_with (with_reducible refine wpl_g (g := g) (((Blk.new w _ _).alloc _).alloc _) rfl rfl rfl ?_)
      refine (HT.out _ (Hg.out.grow (by repeat (first | exact Below.refl _ _ | assumption | (refine Below.setCell ?_ (by first | omega | (simp; done) | (simp; omega)) _) | (refine Below.alloc ?_ (by first | omega | (simp; done) | (simp; omega)) _) | refine Below.drew ?_ | (refine below_thru ?_ (by assumption) (by first | omega | (simp; done) | (simp; omega))) | refine below_drewN ?_ _)))).mono ?_
      rintro e w1 ⟨rfl, hb1⟩
      obtain ⟨hc1, hf1⟩ := bcell hb1; have hz1 := hb1.size; (try simp at hz1)
      go_wp2_with fail
      refine (Awake_any _).mono ?_
      rintro e w4 ⟨rfl, hb4⟩
      go_wp2
      go_ret
      exact ⟨rfl, (by repeat (first | exact Below.refl _ _ | assumption | (refine Below.setCell ?_ (by first | omega | (simp; done) | (simp; omega)) _) | (refine Below.alloc ?_ (by first | omega | (simp; done) | (simp; omega)) _) | refine Below.drew ?_ | (refine below_thru ?_ (by assumption) (by first | omega | (simp; done) | (simp; omega))) | refine below_drewN ?_ _))⟩
    all_goals
      subst h1
      clear common
      go_enter Tryz.func17, Tryz.ntmps17
      go_wp2_with (with_reducible refine wpl_g (g := g) (((Blk.new w _ _).alloc _).alloc _) rfl rfl rfl ?_)
      refine (HT.out _ (Hg.out.grow (by repeat (first | exact Below.refl _ _ | assumption | (refine Below.setCell ?_ (by first | omega | (simp; done) | (simp; omega)) _) | (refine Below.alloc ?_ (by first | omega | (simp; done) | (simp; omega)) _) | refine Below.drew ?_ | (refine below_thru ?_ (by assumption) (by first | omega | (simp; done) | (simp; omega))) | refine below_drewN ?_ _)))).mono ?_
      rintro e w1 ⟨rfl, hb1⟩
      obtain ⟨hc1, hf1⟩ := bcell hb1; have hz1 := hb1.size; (try simp at hz1)
      go_wp2_with fail
      refine (Awake_any _).mono ?_
      rintro e w4 ⟨rfl, hb4⟩
      go_wp2
      go_ret
      exact ⟨rfl, (by repeat (first | exact Below.refl _ _ | assumption | (refine Below.setCell ?_ (by first | omega | (simp; done) | (simp; omega)) _) | (refine Below.alloc ?_ (by first | omega | (simp; done) | (simp; omega)) _) | refine Below.drew ?_ | (refine below_thru ?_ (by assumption) (by first | omega | (simp; done) | (simp; omega))) | refine below_drewN ?_ _))⟩
end Go.Proofs.YtgdomaddjiggaaaGreat
