/- Whether enough sensors agree with a position, by the statements' own words; where the first and the last such position lie. -/
import Derived.Test.YtmhfnnpbnocafaaGreatGtWhereR
namespace Go.Proofs.YtmhfnnpbnocafaaGreat
open Go.RowKit
set_option linter.unusedSimpArgs false
set_option linter.unusedVariables false

theorem span_facts (ss : List Sn) (rs : List Int) (n : Nat) (wr : Int) : ∀ k : Nat, (∀ p ∈ okL ss rs n wr k, loW (okL ss rs n wr k) ≤ (p : Int) ∧ (p : Int) ≤ hiW (okL ss rs n wr k)) ∧ (¬ loW (okL ss rs n wr k) < 0 → (∃ a ∈ okL ss rs n wr k, loW (okL ss rs n wr k) = (a : Int)) ∧ ∃ b ∈ okL ss rs n wr k, hiW (okL ss rs n wr k) = (b : Int))
  | 0 => ⟨fun p hp => by simp [okL] at hp, fun h => absurd (show loW (okL ss rs n wr 0) < 0 by rw [okL_zero]; decide) h⟩
  | k + 1 => by
    obtain ⟨h1, h2⟩ := span_facts ss rs n wr k
    cases hd : okP ss rs n wr (k : Int)
    · rw [okL_no hd]; exact ⟨h1, h2⟩
    · rw [okL_yes hd, loW_snoc, hiW_snoc]
      by_cases hn : loW (okL ss rs n wr k) < 0
      · have he := (loW_neg _).1 hn
        rw [if_pos hn, he]
        exact ⟨fun p hp => by simp at hp; omega, fun _ => ⟨⟨k, by simp, rfl⟩, ⟨k, by simp, rfl⟩⟩⟩
      · rw [if_neg hn]
        obtain ⟨⟨a, ha, hae⟩, _⟩ := h2 hn
        refine ⟨fun p hp => ?_, fun _ => ⟨⟨a, List.mem_append.2 (.inl ha), hae⟩, ⟨k, by simp, rfl⟩⟩⟩
        rcases List.mem_append.1 hp with hp | hp
        · have := (mem_okL.1 hp).1
          exact ⟨(h1 p hp).1, by omega⟩
        · simp at hp
          have := (mem_okL.1 ha).1
          omega

set_option maxRecDepth 100000 in
set_option maxHeartbeats 8000000 in
theorem enough_any (g : Ga) (rs : List Int) (rA : Option Addr) (rn rc : Nat) (p : Int) (w : World) (hg : g.At w w.heap.size) (hr : Tab w w.heap.size rA rn 1 (rs.map fun i => [Value.int .i64 i])) (hrn : rn = g.sn) (ok : g.Ok) (p0 : 0 ≤ p) (p1 : p ≤ 5000) :
    Calls Tryz.prog 24 #[g.v, .slice rA rn rc, .int .i64 p] w fun e w' => e = .returned (.bool (okP g.ss rs g.sn g.wrong p)) ∧ Below w.heap.size w w' := by
  subst hrn
  have Hg := Lib.hid hg
  have Hr := Lib.hid hr
  have Hok := Lib.hid ok
  have Hsl := Lib.hid (show g.ss.length = g.sn by have := hg.s.1; simpa using this)
  have Hrl := Lib.hid (show rs.length = g.sn by have := hr.1; simpa using this)
  have n6 := ok.sn
  clear hg hr ok
  go_enter Tryz.func24, Tryz.ntmps24
  go_wp2
  go_loopw [7, 8] (fun nv iv wy => ∃ i : Nat, i ≤ g.sn ∧ iv = .int .i64 i ∧ nv = .int .i64 (disF g.ss rs p i) ∧ Hid (Blk wy w.heap.size 25 (grow g)) ∧ Hid (Below w.heap.size w wy))
    (fun _ iv _ => g.sn - (intOf iv).toNat)
  case atStart => exact ⟨0, Nat.zero_le _, rfl, rfl, (by (repeat (first | assumption | exact Blk.new _ _ _ | (refine Blk.new' _ _ _ ?_; (simp; done)) | refine Blk.drew ?_ | refine Blk.alloc ?_ _ | (refine Blk.fars ?_ ?_ _ _; rotate_left; (dsimp only; omega)) | (refine Blk.far ?_ ?_ _; rotate_left; (first | (dsimp only; omega) | (simp; done) | (simp; omega) | omega))))), (by repeat (first | exact Below.refl _ _ | assumption | (refine Below.setCell ?_ (by first | omega | (simp; done) | (simp; omega)) _) | (refine Below.alloc ?_ (by first | omega | (simp; done) | (simp; omega)) _) | refine Below.drew ?_ | (refine below_thru ?_ (by assumption) (by first | omega | (simp; done) | (simp; omega))) | refine below_drewN ?_ _))⟩
  case round =>
    obtain ⟨i, hi, rfl, rfl, HG, hby⟩ := hrel
    obtain ⟨wy, rfl⟩ : ∃ wy : World, wy = wr := ⟨_, rfl⟩
    obtain ⟨ai0, ai1⟩ := dis_in g.ss rs p i
    have hzy := hby.out.size
    have hgl := HG.out.lt
    have g20 := HG.out.cell 20
    have g19 := HG.out.cell 19
    simp only [grow, List.getElem?_toArray, List.getElem?_cons_zero, List.getElem?_cons_succ] at g19 g20
    have hwy : Below w.heap.size w wy := hby.out
    have i0 : (0 : Int) ≤ (i : Int) := Int.natCast_nonneg _
    by_cases hlti : i < g.sn
    · obtain ⟨s, hsk⟩ := get_lt Hsl.out hlti
      obtain ⟨r, hrk⟩ := get_lt Hrl.out hlti
      obtain ⟨sb, so, hA, hsb, c0, c1, c2⟩ := Hg.out.s.three (k := i) (x := .int .i64 s.kind) (y := .int .i64 s.at_) (z := .int .i64 s.tol) (by simp [hsk])
      obtain ⟨rb, ro, hB, hrb, d0⟩ := Hr.out.one (k := i) (x := .int .i64 r) (by simp [hrk])
      have c0 := (hwy.cell (p := ⟨sb, so + i * 3, none⟩) hsb).trans c0
      have c1 := (hwy.cell (p := ⟨sb, so + i * 3 + 1, none⟩) hsb).trans c1
      have c2 := (hwy.cell (p := ⟨sb, so + i * 3 + 2, none⟩) hsb).trans c2
      have d0 := (hwy.cell (p := ⟨rb, ro + i, none⟩) hrb).trans d0
      have i1 : (i : Int) < (g.sn : Int) := by omega
      obtain ⟨o0, o1, o2, o3⟩ := Hok.out.sens s (List.mem_of_getElem? hsk)
      have HA := Lib.hid (fun W => lagrees_any s r p W o0 o1 o2 o3 p0 p1)
      have Hnx := Lib.hid (show disF g.ss rs p (i + 1) = disF g.ss rs p i + if agreesB s r p = true then 0 else 1 by rw [disF, snAt_of hsk, rdAt_of hrk])
      have g19b := g19
      rw [hA] at g19b
      have hW : WrR wy w.heap.size (.slice (some ⟨sb, so, none⟩) g.sn g.sc) sb (so + i * 3) s rb (ro + i) r := ⟨g19b, c0, c1, c2, d0⟩
      have Hby := hby
      generalize agreesB s r p = b at *
      generalize disF g.ss rs p i = ag at *
      clear hsk hrk o0 o1 o2 o3 c0 c1 c2 d0 g19b hA hby hwy g20
      subst hB
      go_wp2_with fail
      refine wp_region_held (S := fun W' => WrR W' w.heap.size (.slice (some ⟨sb, so, none⟩) g.sn g.sc) sb (so + i * 3) s rb (ro + i) r) (by kernel_rfl) (by exact hW.drew) (fun hHeld => ?_)
      refine wpAnyH_take (i := 0) (v := ?_) rfl (by kernel_rfl) (by kernel_rfl) (by kernel_rfl) (fun _ _ _ h => h) (Or.inl ⟨by kernel_rfl, ?_⟩) hHeld ?_
      rotate_left
      · intro w hSw; (try dsimp only at hSw); obtain ⟨g19, c0, c1, c2, d0⟩ := hSw; go_simp; (try with_reducible rfl)
      (try simp only [Act.put, List.setIfInBounds_toArray, List.set_cons_zero, List.set_cons_succ])
      refine wpAnyH_take (i := 1) (v := ?_) rfl (by kernel_rfl) (by kernel_rfl) (by kernel_rfl) (fun _ _ _ h => h) (Or.inl ⟨by kernel_rfl, ?_⟩) hHeld ?_
      rotate_left
      · intro w hSw; (try dsimp only at hSw); obtain ⟨g19, c0, c1, c2, d0⟩ := hSw; go_simp; (try with_reducible rfl)
      (try simp only [Act.put, List.setIfInBounds_toArray, List.set_cons_zero, List.set_cons_succ])
      refine wpAnyH_take (i := 2) (v := ?_) rfl (by kernel_rfl) (by kernel_rfl) (by kernel_rfl) (fun _ _ _ h => h) (Or.inl ⟨by kernel_rfl, ?_⟩) hHeld ?_
      rotate_left
      · intro w hSw; (try dsimp only at hSw); obtain ⟨g19, c0, c1, c2, d0⟩ := hSw; go_simp; (try with_reducible rfl)
      (try simp only [Act.put, List.setIfInBounds_toArray, List.set_cons_zero, List.set_cons_succ])
      refine wpAnyH_take (i := 3) (v := ?_) rfl (by kernel_rfl) (by kernel_rfl) (by kernel_rfl) (fun _ _ _ h => h) (Or.inl ⟨by kernel_rfl, ?_⟩) hHeld ?_
      rotate_left
      · intro w hSw; (try dsimp only at hSw); obtain ⟨g19, c0, c1, c2, d0⟩ := hSw; go_simp; (try with_reducible rfl)
      (try simp only [Act.put, List.setIfInBounds_toArray, List.set_cons_zero, List.set_cons_succ])
      refine wpAnyH_take (i := 4) (v := ?_) rfl (by kernel_rfl) (by kernel_rfl) (by kernel_rfl) (fun _ _ _ h => h) (Or.inl ⟨by kernel_rfl, ?_⟩) hHeld ?_
      rotate_left
      · intro w hSw; (try dsimp only at hSw); obtain ⟨g19, c0, c1, c2, d0⟩ := hSw; go_simp; (try with_reducible rfl)
      (try simp only [Act.put, List.setIfInBounds_toArray, List.set_cons_zero, List.set_cons_succ])
      refine wpAnyH_take (i := 5) (v := ?_) rfl (by kernel_rfl) (by kernel_rfl) (by kernel_rfl) (fun _ _ _ h => h) (Or.inl ⟨by kernel_rfl, ?_⟩) hHeld ?_
      rotate_left
      · intro w hSw; (try dsimp only at hSw); obtain ⟨g19, c0, c1, c2, d0⟩ := hSw; go_simp; (try with_reducible rfl)
      (try simp only [Act.put, List.setIfInBounds_toArray, List.set_cons_zero, List.set_cons_succ])
      refine wpAnyH_take (i := 6) (v := ?_) rfl (by kernel_rfl) (by kernel_rfl) (by kernel_rfl) (fun _ _ _ h => h) (Or.inl ⟨by kernel_rfl, ?_⟩) hHeld ?_
      rotate_left
      · intro w hSw; (try dsimp only at hSw); obtain ⟨g19, c0, c1, c2, d0⟩ := hSw; go_simp; (try with_reducible rfl)
      (try simp only [Act.put, List.setIfInBounds_toArray, List.set_cons_zero, List.set_cons_succ])
      refine wpAnyH_take (i := 7) (v := ?_) rfl (by kernel_rfl) (by kernel_rfl) (by kernel_rfl) (fun _ _ _ h => h) (Or.inl ⟨by kernel_rfl, ?_⟩) hHeld ?_
      rotate_left
      · intro w hSw; (try dsimp only at hSw); obtain ⟨g19, c0, c1, c2, d0⟩ := hSw; go_simp; (try with_reducible rfl)
      (try simp only [Act.put, List.setIfInBounds_toArray, List.set_cons_zero, List.set_cons_succ])
      refine wpAnyH_take (i := 8) (v := ?_) rfl (by kernel_rfl) (by kernel_rfl) (by kernel_rfl) (fun _ _ _ h => h) (Or.inl ⟨by kernel_rfl, ?_⟩) hHeld ?_
      rotate_left
      · intro w hSw; (try dsimp only at hSw); obtain ⟨g19, c0, c1, c2, d0⟩ := hSw; go_simp; (try with_reducible rfl)
      (try simp only [Act.put, List.setIfInBounds_toArray, List.set_cons_zero, List.set_cons_succ])
      refine wpAnyH_take (i := 9) (v := ?_) rfl (by kernel_rfl) (by kernel_rfl) (by kernel_rfl) (fun _ _ _ h => h) (Or.inl ⟨by kernel_rfl, ?_⟩) hHeld ?_
      rotate_left
      · intro w hSw; (try dsimp only at hSw); obtain ⟨g19, c0, c1, c2, d0⟩ := hSw; go_simp; (try with_reducible rfl)
      (try simp only [Act.put, List.setIfInBounds_toArray, List.set_cons_zero, List.set_cons_succ])
      (try simp only [List.getElem_toArray, List.getElem_cons_zero, List.getElem_cons_succ, Act.put, List.setIfInBounds_toArray, List.set_cons_zero, List.set_cons_succ])
      refine wpAnyH_ready (rs := [10]) (by kernel_rfl) (by simp) ?_
      refine AllReadyH.cons rfl (fun K hK => ?_) AllReadyH.nil
      go_simp
      refine (HA.out _).mono ?_
      rintro e w2 ⟨rfl, hb2⟩; have hz2 := hb2.size; (try simp at hz2)
      (try dsimp only)
      refine hK.out _ _ (by exact hHeld.below hb2) (fun hHeld => ?_)
      clear hK K
      (try simp only [Act.put, List.setIfInBounds_toArray, List.set_cons_zero, List.set_cons_succ])
      refine wpAnyH_take (i := 11) (v := ?_) rfl (by kernel_rfl) (by kernel_rfl) (by kernel_rfl) (fun _ _ _ h => h) (Or.inl ⟨by kernel_rfl, ?_⟩) hHeld ?_
      rotate_left
      · intro w hSw; (try dsimp only at hSw); skip; go_simp; (try with_reducible rfl)
      (try simp only [Act.put, List.setIfInBounds_toArray, List.set_cons_zero, List.set_cons_succ])
      refine wpAnyH_done (by kernel_rfl) ?_ _
      (try simp only [List.getElem_toArray, List.getElem_cons_zero, List.getElem_cons_succ, Act.put, List.setIfInBounds_toArray, List.set_cons_zero, List.set_cons_succ])
      have hw2 := Lib.hid (show Below w.heap.size w w2 from (Hby.out.drew).trans (hb2.mono (by simp; omega)))
      have HG2 := Lib.hid (show Blk w2 w.heap.size 25 (grow g) from Blk.thru (HG.out.drew) hb2 (by simp; omega))
      clear hb2 hHeld
      cases b
      · have hdn := Lib.hid (show disF g.ss rs p (i + 1) = ag + 1 by rw [Hnx.out]; simp)
        clear Hnx hW
        go_wp2
        go_roundw
        case rel => exact ⟨i + 1, by omega, by go_num, by rw [hdn.out], HG2.out, hw2.out⟩
        case measure => simp [intOf]; omega
      · have hdn := Lib.hid (show disF g.ss rs p (i + 1) = ag by rw [Hnx.out]; simp)
        clear Hnx hW
        go_wp2
        go_roundw
        case rel => exact ⟨i + 1, by omega, by go_num, by rw [hdn.out], HG2.out, hw2.out⟩
        case measure => simp [intOf]; omega
    · have hie : i = g.sn := by omega
      subst hie
      have Hwy := Lib.hid hwy
      have Hv := Lib.hid (show okP g.ss rs g.sn g.wrong p = decide (disF g.ss rs p g.sn ≤ g.wrong) from rfl)
      generalize disF g.ss rs p g.sn = ag at *
      clear hby hwy
      go_wp2
      go_ret
      exact ⟨by rw [Hv.out]; rfl, Hwy.out⟩
end Go.Proofs.YtmhfnnpbnocafaaGreat
