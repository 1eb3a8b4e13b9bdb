/- The reference's where, Where, Sure, Bolt. -/
import Derived.Test.YtmhfnnpbnocafaaGreatGtWhereC
import Derived.Test.YtmhfnnpbnocafaaGreatGtSensR
import Derived.Test.YtmhfnnpbnocafaaGreatGtRefC
namespace Go.Proofs.YtmhfnnpbnocafaaGreat
open Go.RowKit
set_option linter.unusedSimpArgs false
set_option linter.unusedVariables false

/-- How many of the first k sensors agree. -/
def agrF (ss : List Sn) (rs : List Int) (p : Int) (k : Nat) : Int := k - disF ss rs p k
theorem agr_next (ss : List Sn) (rs : List Int) (p : Int) (k : Nat) : agrF ss rs p (k + 1) = agrF ss rs p k + if agreesB (snAt ss k) (rdAt rs k) p = true then 1 else 0 := by
  unfold agrF
  rw [disF]
  split <;> simp <;> omega
theorem agr_in (ss : List Sn) (rs : List Int) (p : Int) (k : Nat) : 0 ≤ agrF ss rs p k ∧ agrF ss rs p k ≤ k := by
  have := dis_in ss rs p k
  unfold agrF
  omega
theorem agr_ok (ss : List Sn) (rs : List Int) (p wr : Int) (n : Nat) : agrF ss rs p n < (n : Int) - wr ↔ okP ss rs n wr p = false := by
  unfold agrF okP
  rw [decide_eq_false_iff_not]
  omega

/-- What the reference's where holds when k positions are over: the span, and whether there is one. -/
def loR (xs : List Nat) : Int := if loW xs < 0 then 0 else loW xs
def hiR (xs : List Nat) : Int := if loW xs < 0 then 0 else hiW xs
def someR (xs : List Nat) : Bool := decide (0 ≤ loW xs)
theorem loR_snoc (pre : List Nat) (x : Nat) : loR (pre ++ [x]) = if someR pre = true then loR pre else x := by
  unfold loR someR
  rw [loW_snoc]
  by_cases h : loW pre < 0
  · rw [if_pos h, if_neg (by omega), if_neg (by simp; omega)]
  · rw [if_neg h, if_neg (by omega), if_pos (by simp; omega)]
    try rw [if_neg h]
theorem hiR_snoc (pre : List Nat) (x : Nat) : hiR (pre ++ [x]) = x := by
  unfold hiR
  rw [hiW_snoc, loW_snoc]
  split
  · split at * <;> omega
  · rfl
theorem someR_snoc (pre : List Nat) (x : Nat) : someR (pre ++ [x]) = true := by
  unfold someR
  rw [loW_snoc]
  simp only [decide_eq_true_eq]
  split <;> omega
theorem spanF_R (xs : List Nat) : spanF xs = if someR xs = true then ⟨loR xs, hiR xs, 0⟩ else ⟨0, 0, 9⟩ := by
  unfold spanF someR loR hiR
  by_cases h : loW xs < 0
  · rw [if_pos h, if_neg (by simp; omega)]
  · rw [if_neg h, if_pos (by simp; omega), if_neg h, if_neg h]

theorem okL_zero (ss : List Sn) (rs : List Int) (n : Nat) (wr : Int) : okL ss rs n wr 0 = [] := rfl
theorem someR_nil : someR [] = false := by decide
theorem loR_nil : loR [] = 0 := by decide
theorem hiR_nil : hiR [] = 0 := by decide
/-- What a round of the reference's inner loop reads. -/
structure WrR (W : World) (Bg : Nat) (v : Value) (sb so : Nat) (s : Sn) (rb ro : Nat) (r : Int) : Prop where
  g : W.cell? ⟨Bg, 19, none⟩ = some v
  c0 : W.cell? ⟨sb, so, none⟩ = some (.int .i64 s.kind)
  c1 : W.cell? ⟨sb, so + 1, none⟩ = some (.int .i64 s.at_)
  c2 : W.cell? ⟨sb, so + 2, none⟩ = some (.int .i64 s.tol)
  r : W.cell? ⟨rb, ro, none⟩ = some (.int .i64 r)
theorem WrR.drew {W : World} {Bg : Nat} {v : Value} {sb so : Nat} {s : Sn} {rb ro : Nat} {r : Int} (h : WrR W Bg v sb so s rb ro r) : WrR W.drew Bg v sb so s rb ro r := ⟨h.g, h.c0, h.c1, h.c2, h.r⟩
theorem WrR.below {W W' : World} {Bg : Nat} {v : Value} {sb so : Nat} {s : Sn} {rb ro : Nat} {r : Int} (h : WrR W Bg v sb so s rb ro r) (hb : Below W.heap.size W W') : WrR W' Bg v sb so s rb ro r :=
  ⟨(hb.cell (World.block_lt_of_cell? W _ h.g)).trans h.g, (hb.cell (World.block_lt_of_cell? W _ h.c0)).trans h.c0, (hb.cell (World.block_lt_of_cell? W _ h.c1)).trans h.c1, (hb.cell (World.block_lt_of_cell? W _ h.c2)).trans h.c2, (hb.cell (World.block_lt_of_cell? W _ h.r)).trans h.r⟩
def rspV (xs : List Nat) : Value := .tuple #[.agg #[.int .i64 (loR xs), .int .i64 (hiR xs)], .bool (someR xs)]

set_option maxRecDepth 100000 in
set_option maxHeartbeats 8000000 in
theorem rwhere_any (g : Ga) (rs : List Int) (rA : Option Addr) (rn rc : Nat) (w : World) (hg : g.At w w.heap.size) (hr : Tab w w.heap.size rA rn 1 (rs.map fun i => [Value.int .i64 i])) (hrn : rn = g.sn) (ok : g.Ok) :
    Calls Tryz.prog 29 #[g.v, .slice rA rn rc] w fun e w' => e = .returned (rspV (posL g rs)) ∧ Below w.heap.size w w' := by
  subst hrn
  have Hg := Lib.hid hg
  have Hr := Lib.hid hr
  have Hok := Lib.hid ok
  have Hsl := Lib.hid (show g.ss.length = g.sn by have := hg.s.1; simpa using this)
  have Hrl := Lib.hid (show rs.length = g.sn by have := hr.1; simpa using this)
  have t0 := ok.t0
  have t1 := ok.t1
  have n6 := ok.sn
  have w0' := ok.wrong0
  have w1' := ok.wrong1
  obtain ⟨T, hT⟩ : ∃ T : Nat, g.travel = (T : Int) := ⟨g.travel.toNat, by omega⟩
  have hT2 : g.travel.toNat = T := by omega
  show Calls _ _ _ _ fun e w' => e = .returned (rspV (okL g.ss rs g.sn g.wrong (g.travel.toNat + 1))) ∧ _
  rw [hT2]
  have HT := Lib.hid hT
  clear hg hr ok hT2 hT
  go_enter Tryz.func29, Tryz.ntmps29
  go_wp2
  skip
  go_loopw [7, 8] (fun sm pv wr => ∃ k : Nat, k ≤ T + 1 ∧ pv = .int .i64 k ∧ sm = .bool (someR (okL g.ss rs g.sn g.wrong k)) ∧ Hid (Blk wr w.heap.size 25 (grow g)) ∧ Hid (Blk wr (w.heap.size + 1) 31 #[.int .i64 0, .int .i64 0]) ∧ Hid (Blk wr (w.heap.size + 1 + 1) 31 #[.int .i64 (loR (okL g.ss rs g.sn g.wrong k)), .int .i64 (hiR (okL g.ss rs g.sn g.wrong k))]) ∧ Hid (Below w.heap.size w wr))
    (fun _ pv _ => T + 1 - (intOf pv).toNat)
  case atStart =>
    refine ⟨0, Nat.zero_le _, rfl, by rw [okL_zero, someR_nil], (by (repeat (first | assumption | exact Blk.new _ _ _ | (refine Blk.new' _ _ _ ?_; (simp; done)) | refine Blk.drew ?_ | refine Blk.alloc ?_ _ | (refine Blk.fars ?_ ?_ _ _; rotate_left; (dsimp only; omega)) | (refine Blk.far ?_ ?_ _; rotate_left; (first | (dsimp only; omega) | (simp; done) | (simp; omega) | omega))))), (by (repeat (first | assumption | exact Blk.new _ _ _ | (refine Blk.new' _ _ _ ?_; (simp; done)) | refine Blk.drew ?_ | refine Blk.alloc ?_ _ | (refine Blk.fars ?_ ?_ _ _; rotate_left; (dsimp only; omega)) | (refine Blk.far ?_ ?_ _; rotate_left; (first | (dsimp only; omega) | (simp; done) | (simp; omega) | omega))))), ?_, (by repeat (first | exact Below.refl _ _ | assumption | (refine Below.setCell ?_ (by first | omega | (simp; done) | (simp; omega)) _) | (refine Below.alloc ?_ (by first | omega | (simp; done) | (simp; omega)) _) | refine Below.drew ?_ | (refine below_thru ?_ (by assumption) (by first | omega | (simp; done) | (simp; omega))) | refine below_drewN ?_ _))⟩
    rw [okL_zero, loR_nil, hiR_nil]
    exact (by (repeat (first | assumption | exact Blk.new _ _ _ | (refine Blk.new' _ _ _ ?_; (simp; done)) | refine Blk.drew ?_ | refine Blk.alloc ?_ _ | (refine Blk.fars ?_ ?_ _ _; rotate_left; (dsimp only; omega)) | (refine Blk.far ?_ ?_ _; rotate_left; (first | (dsimp only; omega) | (simp; done) | (simp; omega) | omega)))))
  case round =>
    obtain ⟨k, hk, rfl, rfl, hG, hR, hO, hbr⟩ := hrel
    obtain ⟨wo, rfl⟩ : ∃ wo : World, wo = wr := ⟨_, rfl⟩
    have hzo := hbr.out.size
    have hO1 := hO.out.lt
    have g2 := hG.out.cell 2
    have g19 := hG.out.cell 19
    have g20 := hG.out.cell 20
    simp only [grow, List.getElem?_toArray, List.getElem?_cons_zero, List.getElem?_cons_succ] at g2 g19 g20
    have hk0 : (0 : Int) ≤ (k : Int) := Int.natCast_nonneg _
    by_cases hlt : k < T + 1
    · have hkT : (k : Int) ≤ g.travel := by rw [HT.out]; omega
      go_wp2_with fail
      clear g2
      go_loopw [9, 10] (fun nv iv wy => ∃ i : Nat, i ≤ g.sn ∧ iv = .int .i64 i ∧ nv = .int .i64 (agrF g.ss rs (k : Int) i) ∧ Hid (Below wo.heap.size wo wy))
        (fun _ iv _ => g.sn - (intOf iv).toNat)
      case atStart => exact ⟨0, Nat.zero_le _, rfl, rfl, Below.refl _ _⟩
      case round =>
        obtain ⟨i, hi, rfl, rfl, hby⟩ := hrel
        obtain ⟨wy, rfl⟩ : ∃ wy : World, wy = wr := ⟨_, rfl⟩
        obtain ⟨ai0, ai1⟩ := agr_in g.ss rs (k : Int) i
        have hzy := hby.out.size
        have HG := Lib.hid (hG.out.thru hby.out (by omega))
        have g20 := HG.out.cell 20
        have g19 := HG.out.cell 19
        simp only [grow, List.getElem?_toArray, List.getElem?_cons_zero, List.getElem?_cons_succ] at g19 g20
        have hwy : Below w.heap.size w wy := hbr.out.trans (hby.out.mono hzo)
        have i0 : (0 : Int) ≤ (i : Int) := Int.natCast_nonneg _
        by_cases hlti : i < g.sn
        · obtain ⟨s, hsk⟩ := get_lt Hsl.out hlti
          obtain ⟨r, hrk⟩ := get_lt Hrl.out hlti
          obtain ⟨sb, so, hA, hsb, c0, c1, c2⟩ := Hg.out.s.three (k := i) (x := .int .i64 s.kind) (y := .int .i64 s.at_) (z := .int .i64 s.tol) (by simp [hsk])
          obtain ⟨rb, ro, hB, hrb, d0⟩ := Hr.out.one (k := i) (x := .int .i64 r) (by simp [hrk])
          have c0 := (hwy.cell (p := ⟨sb, so + i * 3, none⟩) hsb).trans c0
          have c1 := (hwy.cell (p := ⟨sb, so + i * 3 + 1, none⟩) hsb).trans c1
          have c2 := (hwy.cell (p := ⟨sb, so + i * 3 + 2, none⟩) hsb).trans c2
          have d0 := (hwy.cell (p := ⟨rb, ro + i, none⟩) hrb).trans d0
          have i1 : (i : Int) < (g.sn : Int) := by omega
          obtain ⟨o0, o1, o2, o3⟩ := Hok.out.sens s (List.mem_of_getElem? hsk)
          have hkp : (k : Int) ≤ 5000 := by omega
          have HA := Lib.hid (fun W => ragrees_any s r (k : Int) W o0 o1 o2 o3 hk0 hkp)
          have Hnx := Lib.hid (show agrF g.ss rs (k : Int) (i + 1) = agrF g.ss rs (k : Int) i + if agreesB s r (k : Int) = true then 1 else 0 by rw [agr_next, snAt_of hsk, rdAt_of hrk])
          have g19b := g19
          rw [hA] at g19b
          have hW : WrR wy w.heap.size (.slice (some ⟨sb, so, none⟩) g.sn g.sc) sb (so + i * 3) s rb (ro + i) r := ⟨g19b, c0, c1, c2, d0⟩
          have Hby := hby
          generalize agreesB s r (k : Int) = b at *
          generalize agrF g.ss rs (k : Int) i = ag at *
          clear hsk hrk o0 o1 o2 o3 hkp c0 c1 c2 d0 g19b hA hby hwy g20
          subst hB
          go_wp2_with fail
          refine wp_region_held (S := fun W' => WrR W' w.heap.size (.slice (some ⟨sb, so, none⟩) g.sn g.sc) sb (so + i * 3) s rb (ro + i) r) (by kernel_rfl) (by exact hW.drew) (fun hHeld => ?_)
          refine wpAnyH_take (i := 0) (v := ?_) rfl (by kernel_rfl) (by kernel_rfl) (by kernel_rfl) (fun _ _ _ h => h) (Or.inl ⟨by kernel_rfl, ?_⟩) hHeld ?_
          rotate_left
          · intro w hSw; (try dsimp only at hSw); obtain ⟨g19, c0, c1, c2, d0⟩ := hSw; go_simp; (try with_reducible rfl)
          (try simp only [Act.put, List.setIfInBounds_toArray, List.set_cons_zero, List.set_cons_succ])
          refine wpAnyH_take (i := 1) (v := ?_) rfl (by kernel_rfl) (by kernel_rfl) (by kernel_rfl) (fun _ _ _ h => h) (Or.inl ⟨by kernel_rfl, ?_⟩) hHeld ?_
          rotate_left
          · intro w hSw; (try dsimp only at hSw); obtain ⟨g19, c0, c1, c2, d0⟩ := hSw; go_simp; (try with_reducible rfl)
          (try simp only [Act.put, List.setIfInBounds_toArray, List.set_cons_zero, List.set_cons_succ])
          refine wpAnyH_take (i := 2) (v := ?_) rfl (by kernel_rfl) (by kernel_rfl) (by kernel_rfl) (fun _ _ _ h => h) (Or.inl ⟨by kernel_rfl, ?_⟩) hHeld ?_
          rotate_left
          · intro w hSw; (try dsimp only at hSw); obtain ⟨g19, c0, c1, c2, d0⟩ := hSw; go_simp; (try with_reducible rfl)
          (try simp only [Act.put, List.setIfInBounds_toArray, List.set_cons_zero, List.set_cons_succ])
          refine wpAnyH_take (i := 3) (v := ?_) rfl (by kernel_rfl) (by kernel_rfl) (by kernel_rfl) (fun _ _ _ h => h) (Or.inl ⟨by kernel_rfl, ?_⟩) hHeld ?_
          rotate_left
          · intro w hSw; (try dsimp only at hSw); obtain ⟨g19, c0, c1, c2, d0⟩ := hSw; go_simp; (try with_reducible rfl)
          (try simp only [Act.put, List.setIfInBounds_toArray, List.set_cons_zero, List.set_cons_succ])
          refine wpAnyH_take (i := 4) (v := ?_) rfl (by kernel_rfl) (by kernel_rfl) (by kernel_rfl) (fun _ _ _ h => h) (Or.inl ⟨by kernel_rfl, ?_⟩) hHeld ?_
          rotate_left
          · intro w hSw; (try dsimp only at hSw); obtain ⟨g19, c0, c1, c2, d0⟩ := hSw; go_simp; (try with_reducible rfl)
          (try simp only [Act.put, List.setIfInBounds_toArray, List.set_cons_zero, List.set_cons_succ])
          refine wpAnyH_take (i := 5) (v := ?_) rfl (by kernel_rfl) (by kernel_rfl) (by kernel_rfl) (fun _ _ _ h => h) (Or.inl ⟨by kernel_rfl, ?_⟩) hHeld ?_
          rotate_left
          · intro w hSw; (try dsimp only at hSw); obtain ⟨g19, c0, c1, c2, d0⟩ := hSw; go_simp; (try with_reducible rfl)
          (try simp only [Act.put, List.setIfInBounds_toArray, List.set_cons_zero, List.set_cons_succ])
          refine wpAnyH_take (i := 6) (v := ?_) rfl (by kernel_rfl) (by kernel_rfl) (by kernel_rfl) (fun _ _ _ h => h) (Or.inl ⟨by kernel_rfl, ?_⟩) hHeld ?_
          rotate_left
          · intro w hSw; (try dsimp only at hSw); obtain ⟨g19, c0, c1, c2, d0⟩ := hSw; go_simp; (try with_reducible rfl)
          (try simp only [Act.put, List.setIfInBounds_toArray, List.set_cons_zero, List.set_cons_succ])
          refine wpAnyH_take (i := 7) (v := ?_) rfl (by kernel_rfl) (by kernel_rfl) (by kernel_rfl) (fun _ _ _ h => h) (Or.inl ⟨by kernel_rfl, ?_⟩) hHeld ?_
          rotate_left
          · intro w hSw; (try dsimp only at hSw); obtain ⟨g19, c0, c1, c2, d0⟩ := hSw; go_simp; (try with_reducible rfl)
          (try simp only [Act.put, List.setIfInBounds_toArray, List.set_cons_zero, List.set_cons_succ])
          refine wpAnyH_take (i := 8) (v := ?_) rfl (by kernel_rfl) (by kernel_rfl) (by kernel_rfl) (fun _ _ _ h => h) (Or.inl ⟨by kernel_rfl, ?_⟩) hHeld ?_
          rotate_left
          · intro w hSw; (try dsimp only at hSw); obtain ⟨g19, c0, c1, c2, d0⟩ := hSw; go_simp; (try with_reducible rfl)
          (try simp only [Act.put, List.setIfInBounds_toArray, List.set_cons_zero, List.set_cons_succ])
          refine wpAnyH_take (i := 9) (v := ?_) rfl (by kernel_rfl) (by kernel_rfl) (by kernel_rfl) (fun _ _ _ h => h) (Or.inl ⟨by kernel_rfl, ?_⟩) hHeld ?_
          rotate_left
          · intro w hSw; (try dsimp only at hSw); obtain ⟨g19, c0, c1, c2, d0⟩ := hSw; go_simp; (try with_reducible rfl)
          (try simp only [Act.put, List.setIfInBounds_toArray, List.set_cons_zero, List.set_cons_succ])
          (try simp only [List.getElem_toArray, List.getElem_cons_zero, List.getElem_cons_succ, Act.put, List.setIfInBounds_toArray, List.set_cons_zero, List.set_cons_succ])
          refine wpAnyH_ready (rs := [10]) (by kernel_rfl) (by simp) ?_
          refine AllReadyH.cons rfl (fun K hK => ?_) AllReadyH.nil
          go_simp
          refine (HA.out _).mono ?_
          rintro e w2 ⟨rfl, hb2⟩; have hz2 := hb2.size; (try simp at hz2)
          (try dsimp only)
          refine hK.out _ _ (by exact hHeld.below hb2) (fun hHeld => ?_)
          clear hK K
          (try simp only [Act.put, List.setIfInBounds_toArray, List.set_cons_zero, List.set_cons_succ])
          refine wpAnyH_done (by kernel_rfl) ?_ _
          (try simp only [List.getElem_toArray, List.getElem_cons_zero, List.getElem_cons_succ, Act.put, List.setIfInBounds_toArray, List.set_cons_zero, List.set_cons_succ])
          have hw2 := Lib.hid (show Below wo.heap.size wo w2 from (Hby.out.drew).trans (hb2.mono (by simp; omega)))
          clear hb2 hHeld
          cases b
          · have hdn := Lib.hid (show agrF g.ss rs (k : Int) (i + 1) = ag by rw [Hnx.out]; simp)
            clear Hnx hW
            go_wp2
            go_roundw
            case rel => exact ⟨i + 1, by omega, by go_num, by rw [hdn.out], hw2.out⟩
            case measure => simp [intOf]; omega
          · have hdn := Lib.hid (show agrF g.ss rs (k : Int) (i + 1) = ag + 1 by rw [Hnx.out]; simp)
            clear Hnx hW
            go_wp2
            go_roundw
            case rel => exact ⟨i + 1, by omega, by go_num, by rw [hdn.out], hw2.out⟩
            case measure => simp [intOf]; omega
        · have hie : i = g.sn := by omega
          subst hie
          have hag := agr_ok g.ss rs (k : Int) g.wrong g.sn
          have HR := Lib.hid (hR.out.thru hby.out (by omega))
          have HO := Lib.hid (hO.out.thru hby.out (by omega))
          have Hwy := Lib.hid hwy
          have hls := HO.out.lt
          generalize agrF g.ss rs (k : Int) g.sn = ag at *
          clear hby hwy hG hR hO hbr
          cases hd : okP g.ss rs g.sn g.wrong (k : Int)
          · have hlt2 : ag < (g.sn : Int) - g.wrong := hag.2 hd
            have hnx := Lib.hid (okL_no hd)
            clear hag hd
            generalize hsm : someR (okL g.ss rs g.sn g.wrong k) = sm at *
            have Hsm := Lib.hid hsm
            clear hsm
            go_wp2
            go_roundw
            case rel => exact ⟨k + 1, by omega, by go_num, by rw [hnx.out, Hsm.out], HG.out, HR.out, by rw [hnx.out]; exact HO.out, Hwy.out⟩
            case measure => simp [intOf]; omega
          · have hlt2 : ¬ ag < (g.sn : Int) - g.wrong := fun h => by rw [hag.1 h] at hd; cases hd
            have hnx := Lib.hid (okL_yes hd)
            have hs1 := Lib.hid (loR_snoc (okL g.ss rs g.sn g.wrong k) k)
            have hs2 := Lib.hid (hiR_snoc (okL g.ss rs g.sn g.wrong k) k)
            have hs3 := Lib.hid (someR_snoc (okL g.ss rs g.sn g.wrong k) k)
            generalize someR (okL g.ss rs g.sn g.wrong k) = sm at *
            generalize loR (okL g.ss rs g.sn g.wrong k) = lo at *
            generalize hiR (okL g.ss rs g.sn g.wrong k) = hi' at *
            obtain ⟨o0, o1, f0, f1⟩ := HO.out.two
            clear hag hd
            cases sm
            · go_wp2
              go_roundw
              case rel =>
                refine ⟨k + 1, by omega, by go_num, by rw [hnx.out, hs3.out], (HG.out.far (by first | (simp; done) | (simp; omega) | omega) _).far (by first | (simp; done) | (simp; omega) | omega) _, (HR.out.far (by first | (simp; done) | (simp; omega) | omega) _).far (by first | (simp; done) | (simp; omega) | omega) _, ?_, (Hwy.out.setCell (by first | (simp; done) | (simp; omega) | omega) _).setCell (by first | (simp; done) | (simp; omega) | omega) _⟩
                rw [hnx.out, hs1.out, hs2.out]
                exact (HO.out.set_ 0 (.int .i64 k)).set_ 1 (.int .i64 k)
              case measure => simp [intOf]; omega
            · go_wp2
              go_roundw
              case rel =>
                refine ⟨k + 1, by omega, by go_num, by rw [hnx.out, hs3.out], HG.out.far (by first | (simp; done) | (simp; omega) | omega) _, HR.out.far (by first | (simp; done) | (simp; omega) | omega) _, ?_, Hwy.out.setCell (by first | (simp; done) | (simp; omega) | omega) _⟩
                rw [hnx.out, hs1.out, hs2.out]
                exact HO.out.set_ 1 (.int .i64 k)
              case measure => simp [intOf]; omega
    · have hke : k = T + 1 := by omega
      subst hke
      have hkT : ¬ ((T + 1 : Nat) : Int) ≤ g.travel := by rw [HT.out]; omega
      have Hv := Lib.hid (show rspV (okL g.ss rs g.sn g.wrong (T + 1)) = .tuple #[.agg #[.int .i64 (loR (okL g.ss rs g.sn g.wrong (T + 1))), .int .i64 (hiR (okL g.ss rs g.sn g.wrong (T + 1)))], .bool (someR (okL g.ss rs g.sn g.wrong (T + 1)))] from rfl)
      generalize someR (okL g.ss rs g.sn g.wrong (T + 1)) = sm at *
      generalize loR (okL g.ss rs g.sn g.wrong (T + 1)) = lo at *
      generalize hiR (okL g.ss rs g.sn g.wrong (T + 1)) = hi' at *
      obtain ⟨o0, o1, f0, f1⟩ := hO.out.two
      obtain ⟨r0, r1, e0, e1⟩ := hR.out.two
      have Hb := hbr
      clear hbr
      go_wp2
      rw [Hv.out]
      exact bodyPost_ret (v := .tuple #[.agg #[.int .i64 lo, .int .i64 hi'], .bool sm]) (by simp [results, Tryz.results29, go_sem, r0, r1] <;> omega) rfl ⟨rfl, (Hb.out.setCell (by simp) _).setCell (by simp) _⟩
end Go.Proofs.YtmhfnnpbnocafaaGreat
