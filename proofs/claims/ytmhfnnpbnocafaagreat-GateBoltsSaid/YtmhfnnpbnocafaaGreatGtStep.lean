/- A step of one machine. -/
import Derived.Test.YtmhfnnpbnocafaaGreatGtRow2
namespace Go.Proofs.YtmhfnnpbnocafaaGreat
open Go.RowKit
set_option linter.unusedSimpArgs false
set_option linter.unusedVariables false

theorem order_in {g : Ga} {s : Gs} (hg : g.Ok) (hs : s.Ok g) (t : Gt) :
    0 ≤ s.pos + (orderF g s t).1 ∧ s.pos + (orderF g s t).1 ≤ g.travel ∧ -(max g.speed g.gravity) ≤ (orderF g s t).1 ∧ (orderF g s t).1 ≤ max g.speed g.gravity ∧ 0 ≤ (orderF g s t).2 ∧ (orderF g s t).2 ≤ s.charge := by
  have p0 := hs.p0
  have p1 := hs.p1
  have c0 := hs.c0
  have v0 := hg.gravity0
  have v1 := hg.speed0
  have x := adv_in hg hs (netF g s.pos t.outer t.inner) (rubF g s.pos t.outer t.inner) (show 0 ≤ g.travel - s.pos by omega) t.power
  have y := adv_in hg hs (-netF g s.pos t.outer t.inner) (rubF g s.pos t.outer t.inner) p0 t.power
  unfold orderF
  split
  · unfold closeF; omega
  · split
    · unfold openF; simp only; omega
    · unfold holdF
      split
      · simp only; omega
      · split
        · simp only; omega
        · simp only; omega
theorem done_in {g : Ga} {s : Gs} (hg : g.Ok) (hs : s.Ok g) (t : Gt) (r : Int) :
    0 ≤ s.pos + (doneF g s t r).1 ∧ s.pos + (doneF g s t r).1 ≤ g.travel ∧ -(max g.speed g.gravity) ≤ (doneF g s t r).1 ∧ (doneF g s t r).1 ≤ max g.speed g.gravity ∧ 0 ≤ (doneF g s t r).2 ∧ (doneF g s t r).2 ≤ s.charge := by
  have p0 := hs.p0
  have p1 := hs.p1
  have c0 := hs.c0
  have v0 := hg.gravity0
  unfold doneF
  split
  · simp only; omega
  · exact order_in hg hs _
theorem after_ok {g : Ga} {s : Gs} (hg : g.Ok) (hs : s.Ok g) (t : Gt) (r : Int) : (afterF g s t r).Ok g := by
  obtain ⟨a, b, _, _, c, d⟩ := done_in hg hs t r
  have e := hs.c1
  have p := hg.pump0
  have q := hg.cap0
  unfold afterF
  refine ⟨a, b, ?_, ?_⟩ <;> simp only <;> split <;> omega

theorem order_is (o : Int) : ∃ f : FuncId, (∀ W : World, Calls Tryz.prog 134 #[.int .i64 o] W fun e w' => e = .returned (.func (.func f) #[] #[]) ∧ W = w') ∧ (∀ (a b : Value) (W : World), Sem.run Tryz.prog (callFunc f #[a, b]) W = .ok (.enter f #[a, b]) W) ∧
    (∀ (g : Ga) (s : Gs) (t : Gt) (W : World), t.order = o → g.At W W.heap.size → g.Ok → s.Ok g → t.Ok → Calls Tryz.prog f #[mv g s, t.v] W fun e w' => e = .returned (pairV (orderF g s t)) ∧ Below W.heap.size W w') := by
  by_cases h1 : o = 1
  · subst h1
    refine ⟨147, fun W => ?_, fun a b W => by kernel_rfl, fun g s t W ho ha hg hs ht => ?_⟩
    · go_enter Tryz.func134, Tryz.ntmps134
      go_wp2
      go_ret
      exact ⟨rfl, rfl⟩
    · have : orderF g s t = closeF g s t := by unfold orderF; rw [if_pos ho]
      rw [this]; exact close_any g s t W ha hg hs ht
  · have h1' : (o == 1) = false := by rw [beq_eq_false_iff_ne]; exact h1
    by_cases h2 : o = 2
    · subst h2
      refine ⟨148, fun W => ?_, fun a b W => by kernel_rfl, fun g s t W ho ha hg hs ht => ?_⟩
      · go_enter Tryz.func134, Tryz.ntmps134
        go_wp2
        go_ret
        exact ⟨rfl, rfl⟩
      · have : orderF g s t = openF g s t := by unfold orderF; rw [if_neg (by omega), if_pos ho]
        rw [this]; exact open_any g s t W ha hg hs ht
    · have h2' : (o == 2) = false := by rw [beq_eq_false_iff_ne]; exact h2
      refine ⟨149, fun W => ?_, fun a b W => by kernel_rfl, fun g s t W ho ha hg hs ht => ?_⟩
      · clear h1 h2
        go_enter Tryz.func134, Tryz.ntmps134
        go_wp2
        go_ret
        exact ⟨rfl, rfl⟩
      · have : orderF g s t = holdF g s t := by unfold orderF; rw [if_neg (by omega), if_neg (by omega)]
        rw [this]; exact hold_any g s t W ha hg hs ht

theorem uState : Tryz.prog.underlying 27 = some (.struct #[Field.mk "Pos" 3 0 false "" "" 0, Field.mk "Charge" 3 1 false "" "" 8, Field.mk "Bolted" 4 2 false "" "" 16]) := by kernel_rfl
theorem uMoved : Tryz.prog.underlying 47 = some (.struct #[Field.mk "Refused" 32 0 false "" "" 0, Field.mk "Moved" 3 1 false "" "" 8, Field.mk "Oil" 3 2 false "" "" 16]) := by kernel_rfl
theorem iState : (Tryz.prog.info? 27).map (·.size) = some 3 := by kernel_rfl
theorem iMoved : (Tryz.prog.info? 47).map (·.size) = some 3 := by kernel_rfl
/-- What a machine's step returns. -/
def stepV (g : Ga) (s : Gs) (t : Gt) (r : Int) : Value := .tuple #[(afterF g s t r).v, (cameF g s t r).v]

set_option maxRecDepth 100000 in
set_option maxHeartbeats 8000000 in
theorem mstep_any (g : Ga) (s : Gs) (t : Gt) (r : Int) (w : World) (ha : g.At w w.heap.size) (hg : g.Ok) (hs : s.Ok g) (ht : t.Ok) :
    Calls Tryz.prog 107 #[mv g s, t.v, .int .i64 r] w fun e w' => e = .returned (stepV g s t r) ∧ Below w.heap.size w w' := by
  have Ha := Lib.hid ha; clear ha
  obtain ⟨d0, d1, _, _, d2, d3⟩ := done_in hg hs t r
  have hc1 := hs.c1
  have hp0 := hs.p0
  have hp1 := hs.p1
  have ht1 := hg.t1
  have pm0 := hg.pump0
  have pm1 := hg.pump1
  have cp1 := hg.cap1
  obtain ⟨tt, htt⟩ : ∃ tt, (if r = 0 then t else { t with order := 0 }) = tt := ⟨_, rfl⟩
  have htto : tt.Ok := by
    rw [← htt]
    split
    · exact ht
    · exact ⟨by simp, by simp, ht.a0, ht.a1, ht.b0, ht.b1⟩
  obtain ⟨f, hf1, hf2, hf3⟩ := order_is tt.order
  have hdone : doneF g s t r = if s.bolted = true then (0, 0) else orderF g s tt := by unfold doneF; rw [htt]
  have haft : afterF g s t r = ⟨s.pos + (doneF g s t r).1, if t.power = true then min (s.charge - (doneF g s t r).2 + g.pump) g.capacity else s.charge - (doneF g s t r).2, s.bolted⟩ := rfl
  have hcam : cameF g s t r = ⟨r, (doneF g s t r).1, (doneF g s t r).2⟩ := rfl
  have Hf1 := Lib.hid hf1
  have Hf3 := Lib.hid (fun W h => hf3 g s tt W rfl h hg hs htto)
  clear hf1 hf3 hg hs ht htto
  have hfin : stepV g s t r = .tuple #[Gs.v ⟨s.pos + (doneF g s t r).1, if t.power = true then min (s.charge - (doneF g s t r).2 + g.pump) g.capacity else s.charge - (doneF g s t r).2, s.bolted⟩, Gm.v ⟨r, (doneF g s t r).1, (doneF g s t r).2⟩] := by unfold stepV; rw [haft, hcam]
  rw [hfin]
  clear hfin haft hcam
  generalize doneF g s t r = dn at *
  obtain ⟨mo, oi⟩ := dn
  simp only at d0 d1 d2 d3
  obtain ⟨ch, hch⟩ : ∃ ch, min (s.charge - oi + g.pump) g.capacity = ch := ⟨_, rfl⟩
  have n1 : (if g.capacity < s.charge - oi + g.pump then g.capacity else s.charge - oi + g.pump) = ch := by rw [← hch]; split <;> omega
  simp only [hch]
  clear hch
  obtain ⟨sp, sc, sb⟩ := s
  obtain ⟨to, tp, ta, tb⟩ := t
  simp only at hp0 hp1 hc1 d0 d1 d2 d3 n1 hdone
  have hc0 : -200000 ≤ sc - oi := by omega
  cases sb
  · rw [if_neg (by simp)] at hdone
    have Hf3 : Hid (∀ W : World, g.At W W.heap.size → Calls Tryz.prog f #[mv g ⟨sp, sc, false⟩, tt.v] W fun e w' => e = .returned (.tuple #[.int .i64 mo, .int .i64 oi]) ∧ Below W.heap.size W w') := fun W h => by
      have := Hf3.out W h
      rw [← hdone] at this
      exact this
    clear hdone
    by_cases hr : r = 0
    · rw [if_pos hr] at htt
      subst htt
      subst hr
      have w1 : IntKind.i64.wrap (sp + mo) = sp + mo := IntWalk.i64_in _ (by omega)
      have w2 : IntKind.i64.wrap (sc - oi) = sc - oi := IntWalk.i64_in _ (by omega)
      go_enter Tryz.func107, Tryz.ntmps107
      go_wp2_with fail
      refine wp_region_held (S := fun w' => Blk w' w.heap.size 97 (mrow g ⟨sp, sc, false⟩) ∧ Blk w' (w.heap.size + 1) 51 #[.int .i64 to, .bool tp, .int .i64 ta, .int .i64 tb]) (by kernel_rfl) (by exact ⟨by (repeat (first | assumption | exact Blk.new _ _ _ | (refine Blk.new' _ _ _ ?_; (simp; done)) | refine Blk.drew ?_ | refine Blk.alloc ?_ _ | (refine Blk.fars ?_ ?_ _ _; rotate_left; (dsimp only; omega)) | (refine Blk.far ?_ ?_ _; rotate_left; (first | (dsimp only; omega) | (simp; done) | (simp; omega) | omega)))), by (repeat (first | assumption | exact Blk.new _ _ _ | (refine Blk.new' _ _ _ ?_; (simp; done)) | refine Blk.drew ?_ | refine Blk.alloc ?_ _ | (refine Blk.fars ?_ ?_ _ _; rotate_left; (dsimp only; omega)) | (refine Blk.far ?_ ?_ _; rotate_left; (first | (dsimp only; omega) | (simp; done) | (simp; omega) | omega))))⟩) (fun hHeld => ?_)
      refine wpAnyH_take (i := 3) (v := mv g ⟨sp, sc, false⟩) rfl (by kernel_rfl) (by kernel_rfl) (by kernel_rfl) (fun _ _ _ h => h) (Or.inl ⟨by rfl, fun w hSw => ld_m rfl rfl hSw.1⟩) hHeld ?_
      (try simp only [Act.put, List.setIfInBounds_toArray, List.set_cons_zero, List.set_cons_succ])
      refine wpAnyH_take (i := 0) (v := ?_) rfl (by kernel_rfl) (by kernel_rfl) (by kernel_rfl) (fun _ _ _ h => h) (Or.inl ⟨by kernel_rfl, ?_⟩) hHeld ?_
      rotate_left
      · intro w hSw; (try dsimp only at hSw); obtain ⟨k0, k1, k2, k3⟩ := tcells_of (t := ⟨to, tp, ta, tb⟩) hSw.2; go_simp; (try with_reducible rfl)
      (try simp only [Act.put, List.setIfInBounds_toArray, List.set_cons_zero, List.set_cons_succ])
      refine wpAnyH_take (i := 1) (v := ?_) rfl (by kernel_rfl) (by kernel_rfl) (by kernel_rfl) (fun _ _ _ h => h) (Or.inl ⟨by kernel_rfl, ?_⟩) hHeld ?_
      rotate_left
      · intro w hSw; (try dsimp only at hSw); obtain ⟨k0, k1, k2, k3⟩ := tcells_of (t := ⟨to, tp, ta, tb⟩) hSw.2; go_simp; (try with_reducible rfl)
      (try simp only [Act.put, List.setIfInBounds_toArray, List.set_cons_zero, List.set_cons_succ])
      refine wpAnyH_take (i := 4) (v := ?_) rfl (by kernel_rfl) (by kernel_rfl) (by kernel_rfl) (fun _ _ _ h => h) (Or.inl ⟨by kernel_rfl, ?_⟩) hHeld ?_
      rotate_left
      · intro w hSw; (try dsimp only at hSw); obtain ⟨k0, k1, k2, k3⟩ := tcells_of (t := ⟨to, tp, ta, tb⟩) hSw.2; go_simp; (try with_reducible rfl)
      (try simp only [Act.put, List.setIfInBounds_toArray, List.set_cons_zero, List.set_cons_succ])
      refine wpAnyH_ready (rs := [2]) (by kernel_rfl) (by simp) ?_
      refine AllReadyH.cons rfl (fun K hK => ?_) AllReadyH.nil
      go_simp
      refine (Hf1.out _).mono ?_
      rintro e w' ⟨rfl, rfl⟩
      (try dsimp only)
      refine hK.out _ _ (by exact hHeld) (fun hHeld => ?_)
      clear hK K
      (try simp only [Act.put, List.setIfInBounds_toArray, List.set_cons_zero, List.set_cons_succ])
      refine wpAnyH_ready (rs := [5]) (by kernel_rfl) (by simp) ?_
      refine AllReadyH.cons rfl (fun K hK => ?_) AllReadyH.nil
      go_simp
      refine (Hf3.out _ (Ha.out.grow (by repeat (first | exact Below.refl _ _ | assumption | (refine Below.setCell ?_ (by first | omega | (simp; done) | (simp; omega)) _) | (refine Below.alloc ?_ (by first | omega | (simp; done) | (simp; omega)) _) | refine Below.drew ?_ | (refine below_thru ?_ (by assumption) (by first | omega | (simp; done) | (simp; omega))) | refine below_drewN ?_ _)))).mono ?_
      rintro e w2 ⟨rfl, hb2⟩; have hz2 := hb2.size; (try simp at hz2)
      (try dsimp only)
      refine hK.out _ _ (by exact ⟨hHeld.1.thru hb2 hHeld.1.lt, hHeld.2.thru hb2 hHeld.2.lt⟩) (fun hHeld => ?_)
      clear hK K
      (try simp only [Act.put, List.setIfInBounds_toArray, List.set_cons_zero, List.set_cons_succ])
      have hR : Blk w2 (w.heap.size + 1 + 1) 27 #[.int .i64 0, .int .i64 0, .bool false] := Blk.thru (by (repeat (first | assumption | exact Blk.new _ _ _ | (refine Blk.new' _ _ _ ?_; (simp; done)) | refine Blk.drew ?_ | refine Blk.alloc ?_ _ | (refine Blk.fars ?_ ?_ _ _; rotate_left; (dsimp only; omega)) | (refine Blk.far ?_ ?_ _; rotate_left; (first | (dsimp only; omega) | (simp; done) | (simp; omega) | omega))))) hb2 (by simp <;> omega)
      have hQ : Blk w2 (w.heap.size + 1 + 1 + 1) 47 #[.int .i64 0, .int .i64 0, .int .i64 0] := Blk.thru (by (repeat (first | assumption | exact Blk.new _ _ _ | (refine Blk.new' _ _ _ ?_; (simp; done)) | refine Blk.drew ?_ | refine Blk.alloc ?_ _ | (refine Blk.fars ?_ ?_ _ _; rotate_left; (dsimp only; omega)) | (refine Blk.far ?_ ?_ _; rotate_left; (first | (dsimp only; omega) | (simp; done) | (simp; omega) | omega))))) hb2 (by simp <;> omega)
      have hD : Blk w2 (w.heap.size + 1 + 1 + 1 + 1) 47 #[.int .i64 0, .int .i64 0, .int .i64 0] := Blk.thru (by (repeat (first | assumption | exact Blk.new _ _ _ | (refine Blk.new' _ _ _ ?_; (simp; done)) | refine Blk.drew ?_ | refine Blk.alloc ?_ _ | (refine Blk.fars ?_ ?_ _ _; rotate_left; (dsimp only; omega)) | (refine Blk.far ?_ ?_ _; rotate_left; (first | (dsimp only; omega) | (simp; done) | (simp; omega) | omega))))) hb2 (by simp <;> omega)
      refine wpAnyH_take (i := 6) (v := ?_) rfl (by kernel_rfl) (by kernel_rfl) (by kernel_rfl) (fun _ _ _ h => h) (Or.inl ⟨by kernel_rfl, ?_⟩) hHeld ?_
      rotate_left
      · intro w hSw; (try dsimp only at hSw); skip; go_simp; (try with_reducible rfl)
      (try simp only [Act.put, List.setIfInBounds_toArray, List.set_cons_zero, List.set_cons_succ])
      refine wpAnyH_take (i := 7) (v := ?_) rfl (by kernel_rfl) (by kernel_rfl) (by kernel_rfl) (fun _ _ _ h => h) (Or.inl ⟨by kernel_rfl, ?_⟩) hHeld ?_
      rotate_left
      · intro w hSw; (try dsimp only at hSw); skip; go_simp; (try with_reducible rfl)
      (try simp only [Act.put, List.setIfInBounds_toArray, List.set_cons_zero, List.set_cons_succ])
      refine wpAnyH_take (i := 8) (v := ?_) rfl (by kernel_rfl) (by kernel_rfl) (by kernel_rfl) (fun _ _ _ h => h) (Or.inl ⟨by kernel_rfl, ?_⟩) hHeld ?_
      rotate_left
      · intro w hSw; (try dsimp only at hSw); skip; go_simp; (try with_reducible rfl)
      (try simp only [Act.put, List.setIfInBounds_toArray, List.set_cons_zero, List.set_cons_succ])
      refine wpAnyH_take (i := 9) (v := ?_) rfl (by kernel_rfl) (by kernel_rfl) (by kernel_rfl) (fun _ _ _ h => h) (Or.inl ⟨by kernel_rfl, ?_⟩) hHeld ?_
      rotate_left
      · intro w hSw; (try dsimp only at hSw); skip; go_simp; (try with_reducible rfl)
      (try simp only [Act.put, List.setIfInBounds_toArray, List.set_cons_zero, List.set_cons_succ])
      obtain ⟨e0, e1, e2, z0, z1, z2⟩ := hD.three
      have hS2 := hHeld
      refine wpAnyH_ready (rs := [10]) (by kernel_rfl) (by simp) ?_
      refine AllReadyH.cons rfl (fun K hK => ?_) AllReadyH.nil
      go_simp
      (try dsimp only)
      refine hK.out _ _ (by exact ⟨by have := hS2.1; (repeat (first | assumption | exact Blk.new _ _ _ | (refine Blk.new' _ _ _ ?_; (simp; done)) | refine Blk.drew ?_ | refine Blk.alloc ?_ _ | (refine Blk.fars ?_ ?_ _ _; rotate_left; (dsimp only; omega)) | (refine Blk.far ?_ ?_ _; rotate_left; (first | (dsimp only; omega) | (simp; done) | (simp; omega) | omega)))), by have := hS2.2; (repeat (first | assumption | exact Blk.new _ _ _ | (refine Blk.new' _ _ _ ?_; (simp; done)) | refine Blk.drew ?_ | refine Blk.alloc ?_ _ | (refine Blk.fars ?_ ?_ _ _; rotate_left; (dsimp only; omega)) | (refine Blk.far ?_ ?_ _; rotate_left; (first | (dsimp only; omega) | (simp; done) | (simp; omega) | omega))))⟩) (fun hHeld => ?_)
      clear hK K
      (try simp only [Act.put, List.setIfInBounds_toArray, List.set_cons_zero, List.set_cons_succ])
      refine wpAnyH_take (i := 11) (v := ?_) rfl (by kernel_rfl) (by kernel_rfl) (by kernel_rfl) (fun _ _ _ h => h) (Or.inl ⟨by kernel_rfl, ?_⟩) hHeld ?_
      rotate_left
      · intro w hSw; (try dsimp only at hSw); skip; go_simp; (try with_reducible rfl)
      (try simp only [Act.put, List.setIfInBounds_toArray, List.set_cons_zero, List.set_cons_succ])
      refine wpAnyH_ready (rs := [12]) (by kernel_rfl) (by simp) ?_
      refine AllReadyH.cons rfl (fun K hK => ?_) AllReadyH.nil
      go_simp
      (try dsimp only)
      refine hK.out _ _ (by exact ⟨by have := hS2.1; (repeat (first | assumption | exact Blk.new _ _ _ | (refine Blk.new' _ _ _ ?_; (simp; done)) | refine Blk.drew ?_ | refine Blk.alloc ?_ _ | (refine Blk.fars ?_ ?_ _ _; rotate_left; (dsimp only; omega)) | (refine Blk.far ?_ ?_ _; rotate_left; (first | (dsimp only; omega) | (simp; done) | (simp; omega) | omega)))), by have := hS2.2; (repeat (first | assumption | exact Blk.new _ _ _ | (refine Blk.new' _ _ _ ?_; (simp; done)) | refine Blk.drew ?_ | refine Blk.alloc ?_ _ | (refine Blk.fars ?_ ?_ _ _; rotate_left; (dsimp only; omega)) | (refine Blk.far ?_ ?_ _; rotate_left; (first | (dsimp only; omega) | (simp; done) | (simp; omega) | omega))))⟩) (fun hHeld => ?_)
      clear hK K
      (try simp only [Act.put, List.setIfInBounds_toArray, List.set_cons_zero, List.set_cons_succ])
      refine wpAnyH_done (by kernel_rfl) ?_ _
      (try simp only [List.getElem_toArray, List.getElem_cons_zero, List.getElem_cons_succ, Act.put, List.setIfInBounds_toArray, List.set_cons_zero, List.set_cons_succ])
      have hD3 := (hD.set_ 1 (.int .i64 mo)).set_ 2 (.int .i64 oi)
      have hR3 := (hR.far (p := ⟨w.heap.size + 1 + 1 + 1 + 1, 1, none⟩) (by simp <;> omega) (.int .i64 mo)).far (p := ⟨w.heap.size + 1 + 1 + 1 + 1, 2, none⟩) (by simp <;> omega) (.int .i64 oi)
      have hQ3 := (hQ.far (p := ⟨w.heap.size + 1 + 1 + 1 + 1, 1, none⟩) (by simp <;> omega) (.int .i64 mo)).far (p := ⟨w.heap.size + 1 + 1 + 1 + 1, 2, none⟩) (by simp <;> omega) (.int .i64 oi)
      have hb3 : Below w.heap.size w ((w2.setCell ⟨w.heap.size + 1 + 1 + 1 + 1, 1, none⟩ (.int .i64 mo)).setCell ⟨w.heap.size + 1 + 1 + 1 + 1, 2, none⟩ (.int .i64 oi)) := (by repeat (first | exact Below.refl _ _ | assumption | (refine Below.setCell ?_ (by first | omega | (simp; done) | (simp; omega)) _) | (refine Below.alloc ?_ (by first | omega | (simp; done) | (simp; omega)) _) | refine Below.drew ?_ | (refine below_thru ?_ (by assumption) (by first | omega | (simp; done) | (simp; omega))) | refine below_drewN ?_ _))
      clear e0 e1 e2 z0 z1 z2 hS2 hD hR hQ
      generalize hw : (w2.setCell ⟨w.heap.size + 1 + 1 + 1 + 1, 1, none⟩ (.int .i64 mo)).setCell ⟨w.heap.size + 1 + 1 + 1 + 1, 2, none⟩ (.int .i64 oi) = w3 at *
      clear hw hb2 hz2
      have hl4 := hD3.lt
      have hl3 : w.heap.size + 1 + 1 + 1 < w3.heap.size := by omega
      have hl2 : w.heap.size + 1 + 1 < w3.heap.size := by omega
      have hl1 : w.heap.size + 1 < w3.heap.size := by omega
      have hl0 : w.heap.size < w3.heap.size := by omega
      obtain ⟨e0, e1, e2, z0, z1, z2⟩ := hD3.three
      obtain ⟨r0, r1, r2, y0, y1, y2⟩ := hR3.three
      obtain ⟨q0, q1, q2, x0, x1, x2⟩ := hQ3.three
      have k21 := (mcells_of hHeld.1).c21
      have k22 := (mcells_of hHeld.1).c22
      have k23 := (mcells_of hHeld.1).c23
      have k16 := (mcells_of hHeld.1).c16
      have k17 := (mcells_of hHeld.1).c17
      have p1 := (tcells_of (t := ⟨to, tp, ta, tb⟩) hHeld.2).c1
      have hD4 : Blk w3 (w.heap.size + 1 + 1 + 1 + 1) 47 #[.int .i64 0, .int .i64 mo, .int .i64 oi] := hD3
      clear hHeld hD3
      cases tp
      · go_wp2_with fail
        refine wp_region_held (S := fun w' => Blk w' w3.heap.size 27 #[.int .i64 (sp + mo), .int .i64 (sc - oi), .bool false] ∧ Blk w' (w.heap.size + 1 + 1 + 1 + 1) 47 #[.int .i64 0, .int .i64 mo, .int .i64 oi]) (by kernel_rfl) (by exact ⟨by (repeat (first | assumption | exact Blk.new _ _ _ | (refine Blk.new' _ _ _ ?_; (simp; done)) | refine Blk.drew ?_ | refine Blk.alloc ?_ _ | (refine Blk.fars ?_ ?_ _ _; rotate_left; (dsimp only; omega)) | (refine Blk.far ?_ ?_ _; rotate_left; (first | (dsimp only; omega) | (simp; done) | (simp; omega) | omega)))), by (repeat (first | assumption | exact Blk.new _ _ _ | (refine Blk.new' _ _ _ ?_; (simp; done)) | refine Blk.drew ?_ | refine Blk.alloc ?_ _ | (refine Blk.fars ?_ ?_ _ _; rotate_left; (dsimp only; omega)) | (refine Blk.far ?_ ?_ _; rotate_left; (first | (dsimp only; omega) | (simp; done) | (simp; omega) | omega))))⟩) (fun hHeld => ?_)
        refine wpAnyH_take (i := 0) (v := ?_) rfl (by kernel_rfl) (by kernel_rfl) (by kernel_rfl) (fun _ _ _ h => h) (Or.inl ⟨by kernel_rfl, ?_⟩) hHeld ?_
        rotate_left
        · intro w hSw; (try dsimp only at hSw); obtain ⟨i0, i1, i2, _⟩ := hSw.1.three; go_simp; (try with_reducible rfl)
        (try simp only [Act.put, List.setIfInBounds_toArray, List.set_cons_zero, List.set_cons_succ])
        refine wpAnyH_ready (rs := [1, 2]) (by kernel_rfl) (by simp) ?_
        refine (AllReadyH.cons rfl (fun K hK => ?_) (AllReadyH.cons rfl (fun K hK => ?_) AllReadyH.nil))
        · have hS3 := hHeld
          obtain ⟨i0, i1, i2, _⟩ := hHeld.2.three
          go_simp
          (try dsimp only)
          refine hK.out _ _ (by ((go_split_ands; (try dsimp only); (repeat' apply And.intro) <;> first | assumption | (simp; done) | ((repeat (first | (with_reducible refine keep_set ?_ (by first | omega | (simp; done) | (simp; omega))) | (with_reducible refine keep_new ?_ _) | (with_reducible refine keep_drew ?_))); assumption) | (refine (hc9 _ _ (by first | omega | (simp; omega))).trans ?_; assumption) | (refine (hc8 _ _ (by first | omega | (simp; omega))).trans ?_; assumption) | (refine (hc7 _ _ (by first | omega | (simp; omega))).trans ?_; assumption) | (refine (hc6 _ _ (by first | omega | (simp; omega))).trans ?_; assumption) | (refine (hc5 _ _ (by first | omega | (simp; omega))).trans ?_; assumption) | (refine (hc4 _ _ (by first | omega | (simp; omega))).trans ?_; assumption) | (refine (hc3 _ _ (by first | omega | (simp; omega))).trans ?_; assumption) | (refine (hc2 _ _ (by first | omega | (simp; omega))).trans ?_; assumption) | (refine (hc1 _ _ (by first | omega | (simp; omega))).trans ?_; assumption) | (refine (hcr _ _ (by first | omega | (simp; omega))).trans ?_; assumption) | (simp; done) | (simp [go_sem]; done) | go_keep))) (fun hHeld => ?_)
          clear hK K
          (try simp only [Act.put, List.setIfInBounds_toArray, List.set_cons_zero, List.set_cons_succ])
          (try simp only [List.getElem_toArray, List.getElem_cons_zero, List.getElem_cons_succ, Act.put, List.setIfInBounds_toArray, List.set_cons_zero, List.set_cons_succ])
          refine wpAnyH_ready (rs := [2]) (by kernel_rfl) (by simp) ?_
          refine AllReadyH.cons rfl (fun K hK => ?_) AllReadyH.nil
          refine wanted_of (by rfl) (wp_store_mid (P := Tryz.prog) 27 _ _ rfl (w.heap.size + 1 + 1) 0 #[.int .i64 (sp + mo), .int .i64 (sc - oi), .bool false] rfl rfl (Blk.there ((hR3.alloc _).drew) (by show 0 + 3 ≤ 3; omega)) (by kernel_rfl) (by simp [Value.oneCell']) ?_)
          refine hK.out _ _ (by exact ⟨hHeld.1.fars (by omega) _ _, hHeld.2.fars (by omega) _ _⟩) (fun hHeld => ?_)
          clear hK K
          (try simp only [Act.put, List.setIfInBounds_toArray, List.set_cons_zero, List.set_cons_succ])
          (try simp only [List.getElem_toArray, List.getElem_cons_zero, List.getElem_cons_succ, Act.put, List.setIfInBounds_toArray, List.set_cons_zero, List.set_cons_succ])
          refine wpAnyH_ready (rs := [3]) (by kernel_rfl) (by simp) ?_
          refine AllReadyH.cons rfl (fun K hK => ?_) AllReadyH.nil
          refine wanted_of (by rfl) (wp_store_mid (P := Tryz.prog) 47 _ _ rfl (w.heap.size + 1 + 1 + 1) 0 #[.int .i64 0, .int .i64 mo, .int .i64 oi] rfl rfl (Blk.there (Blk.fars ((hQ3.alloc _).drew) (by omega) _ _) (by show 0 + 3 ≤ 3; omega)) (by kernel_rfl) (by simp [Value.oneCell']) ?_)
          refine hK.out _ _ (by exact ⟨hHeld.1.fars (by omega) _ _, hHeld.2.fars (by omega) _ _⟩) (fun hHeld => ?_)
          clear hK K
          (try simp only [Act.put, List.setIfInBounds_toArray, List.set_cons_zero, List.set_cons_succ])
          refine wpAnyH_done (by kernel_rfl) ?_ _
          (try simp only [List.getElem_toArray, List.getElem_cons_zero, List.getElem_cons_succ, Act.put, List.setIfInBounds_toArray, List.set_cons_zero, List.set_cons_succ])
          have hRe : Blk ((((w3.alloc (.cells #[.int .i64 (sp + mo), .int .i64 (sc - oi), .bool false] 27)).drew).setCells (w.heap.size + 1 + 1) 0 (#[.int .i64 (sp + mo), .int .i64 (sc - oi), .bool false] : Array Value).toList).setCells (w.heap.size + 1 + 1 + 1) 0 (#[.int .i64 0, .int .i64 mo, .int .i64 oi] : Array Value).toList) (w.heap.size + 1 + 1) 27 #[.int .i64 (sp + mo), .int .i64 (sc - oi), .bool false] := Blk.fars (Blk.sets ((hR3.alloc _).drew) _ _) (by omega) _ _
          have hQe : Blk ((((w3.alloc (.cells #[.int .i64 (sp + mo), .int .i64 (sc - oi), .bool false] 27)).drew).setCells (w.heap.size + 1 + 1) 0 (#[.int .i64 (sp + mo), .int .i64 (sc - oi), .bool false] : Array Value).toList).setCells (w.heap.size + 1 + 1 + 1) 0 (#[.int .i64 0, .int .i64 mo, .int .i64 oi] : Array Value).toList) (w.heap.size + 1 + 1 + 1) 47 #[.int .i64 0, .int .i64 mo, .int .i64 oi] := Blk.sets (Blk.fars ((hQ3.alloc _).drew) (by omega) _ _) _ _
          have hBe : Below w.heap.size w ((((w3.alloc (.cells #[.int .i64 (sp + mo), .int .i64 (sc - oi), .bool false] 27)).drew).setCells (w.heap.size + 1 + 1) 0 (#[.int .i64 (sp + mo), .int .i64 (sc - oi), .bool false] : Array Value).toList).setCells (w.heap.size + 1 + 1 + 1) 0 (#[.int .i64 0, .int .i64 mo, .int .i64 oi] : Array Value).toList) := below_sets (below_sets ((hb3.alloc (by omega) _).drew) (by omega) _ _) (by omega) _ _
          go_wp2
          exact bodyPost_ret (results_rows2 rfl _ rfl rfl hRe hQe uState iState uMoved iMoved) rfl ⟨rfl, hBe⟩
        ·
          refine wanted_of (by rfl) (wp_store_mid (P := Tryz.prog) 27 _ _ rfl (w.heap.size + 1 + 1) 0 #[.int .i64 (sp + mo), .int .i64 (sc - oi), .bool false] rfl rfl (Blk.there ((hR3.alloc _).drew) (by show 0 + 3 ≤ 3; omega)) (by kernel_rfl) (by simp [Value.oneCell']) ?_)
          refine hK.out _ _ (by exact ⟨hHeld.1.fars (by omega) _ _, hHeld.2.fars (by omega) _ _⟩) (fun hHeld => ?_)
          clear hK K
          (try simp only [Act.put, List.setIfInBounds_toArray, List.set_cons_zero, List.set_cons_succ])
          refine wpAnyH_take (i := 1) (v := ?_) rfl (by kernel_rfl) (by kernel_rfl) (by kernel_rfl) (fun _ _ _ h => h) (Or.inl ⟨by kernel_rfl, ?_⟩) hHeld ?_
          rotate_left
          · intro w hSw; (try dsimp only at hSw); obtain ⟨i0, i1, i2, _⟩ := hSw.2.three; go_simp; (try with_reducible rfl)
          (try simp only [Act.put, List.setIfInBounds_toArray, List.set_cons_zero, List.set_cons_succ])
          (try simp only [List.getElem_toArray, List.getElem_cons_zero, List.getElem_cons_succ, Act.put, List.setIfInBounds_toArray, List.set_cons_zero, List.set_cons_succ])
          refine wpAnyH_ready (rs := [3]) (by kernel_rfl) (by simp) ?_
          refine AllReadyH.cons rfl (fun K hK => ?_) AllReadyH.nil
          refine wanted_of (by rfl) (wp_store_mid (P := Tryz.prog) 47 _ _ rfl (w.heap.size + 1 + 1 + 1) 0 #[.int .i64 0, .int .i64 mo, .int .i64 oi] rfl rfl (Blk.there (Blk.fars ((hQ3.alloc _).drew) (by omega) _ _) (by show 0 + 3 ≤ 3; omega)) (by kernel_rfl) (by simp [Value.oneCell']) ?_)
          refine hK.out _ _ (by exact ⟨hHeld.1.fars (by omega) _ _, hHeld.2.fars (by omega) _ _⟩) (fun hHeld => ?_)
          clear hK K
          (try simp only [Act.put, List.setIfInBounds_toArray, List.set_cons_zero, List.set_cons_succ])
          refine wpAnyH_done (by kernel_rfl) ?_ _
          (try simp only [List.getElem_toArray, List.getElem_cons_zero, List.getElem_cons_succ, Act.put, List.setIfInBounds_toArray, List.set_cons_zero, List.set_cons_succ])
          have hRe : Blk ((((w3.alloc (.cells #[.int .i64 (sp + mo), .int .i64 (sc - oi), .bool false] 27)).drew).setCells (w.heap.size + 1 + 1) 0 (#[.int .i64 (sp + mo), .int .i64 (sc - oi), .bool false] : Array Value).toList).setCells (w.heap.size + 1 + 1 + 1) 0 (#[.int .i64 0, .int .i64 mo, .int .i64 oi] : Array Value).toList) (w.heap.size + 1 + 1) 27 #[.int .i64 (sp + mo), .int .i64 (sc - oi), .bool false] := Blk.fars (Blk.sets ((hR3.alloc _).drew) _ _) (by omega) _ _
          have hQe : Blk ((((w3.alloc (.cells #[.int .i64 (sp + mo), .int .i64 (sc - oi), .bool false] 27)).drew).setCells (w.heap.size + 1 + 1) 0 (#[.int .i64 (sp + mo), .int .i64 (sc - oi), .bool false] : Array Value).toList).setCells (w.heap.size + 1 + 1 + 1) 0 (#[.int .i64 0, .int .i64 mo, .int .i64 oi] : Array Value).toList) (w.heap.size + 1 + 1 + 1) 47 #[.int .i64 0, .int .i64 mo, .int .i64 oi] := Blk.sets (Blk.fars ((hQ3.alloc _).drew) (by omega) _ _) _ _
          have hBe : Below w.heap.size w ((((w3.alloc (.cells #[.int .i64 (sp + mo), .int .i64 (sc - oi), .bool false] 27)).drew).setCells (w.heap.size + 1 + 1) 0 (#[.int .i64 (sp + mo), .int .i64 (sc - oi), .bool false] : Array Value).toList).setCells (w.heap.size + 1 + 1 + 1) 0 (#[.int .i64 0, .int .i64 mo, .int .i64 oi] : Array Value).toList) := below_sets (below_sets ((hb3.alloc (by omega) _).drew) (by omega) _ _) (by omega) _ _
          go_wp2
          exact bodyPost_ret (results_rows2 rfl _ rfl rfl hRe hQe uState iState uMoved iMoved) rfl ⟨rfl, hBe⟩
      · go_wp2_with fail
        refine wp_region_held (S := fun w' => Blk w' w3.heap.size 27 #[.int .i64 (sp + mo), .int .i64 (ch), .bool false] ∧ Blk w' (w.heap.size + 1 + 1 + 1 + 1) 47 #[.int .i64 0, .int .i64 mo, .int .i64 oi]) (by kernel_rfl) (by exact ⟨by (repeat (first | assumption | exact Blk.new _ _ _ | (refine Blk.new' _ _ _ ?_; (simp; done)) | refine Blk.drew ?_ | refine Blk.alloc ?_ _ | (refine Blk.fars ?_ ?_ _ _; rotate_left; (dsimp only; omega)) | (refine Blk.far ?_ ?_ _; rotate_left; (first | (dsimp only; omega) | (simp; done) | (simp; omega) | omega)))), by (repeat (first | assumption | exact Blk.new _ _ _ | (refine Blk.new' _ _ _ ?_; (simp; done)) | refine Blk.drew ?_ | refine Blk.alloc ?_ _ | (refine Blk.fars ?_ ?_ _ _; rotate_left; (dsimp only; omega)) | (refine Blk.far ?_ ?_ _; rotate_left; (first | (dsimp only; omega) | (simp; done) | (simp; omega) | omega))))⟩) (fun hHeld => ?_)
        refine wpAnyH_take (i := 0) (v := ?_) rfl (by kernel_rfl) (by kernel_rfl) (by kernel_rfl) (fun _ _ _ h => h) (Or.inl ⟨by kernel_rfl, ?_⟩) hHeld ?_
        rotate_left
        · intro w hSw; (try dsimp only at hSw); obtain ⟨i0, i1, i2, _⟩ := hSw.1.three; go_simp; (try with_reducible rfl)
        (try simp only [Act.put, List.setIfInBounds_toArray, List.set_cons_zero, List.set_cons_succ])
        refine wpAnyH_ready (rs := [1, 2]) (by kernel_rfl) (by simp) ?_
        refine (AllReadyH.cons rfl (fun K hK => ?_) (AllReadyH.cons rfl (fun K hK => ?_) AllReadyH.nil))
        · have hS3 := hHeld
          obtain ⟨i0, i1, i2, _⟩ := hHeld.2.three
          go_simp
          (try dsimp only)
          refine hK.out _ _ (by ((go_split_ands; (try dsimp only); (repeat' apply And.intro) <;> first | assumption | (simp; done) | ((repeat (first | (with_reducible refine keep_set ?_ (by first | omega | (simp; done) | (simp; omega))) | (with_reducible refine keep_new ?_ _) | (with_reducible refine keep_drew ?_))); assumption) | (refine (hc9 _ _ (by first | omega | (simp; omega))).trans ?_; assumption) | (refine (hc8 _ _ (by first | omega | (simp; omega))).trans ?_; assumption) | (refine (hc7 _ _ (by first | omega | (simp; omega))).trans ?_; assumption) | (refine (hc6 _ _ (by first | omega | (simp; omega))).trans ?_; assumption) | (refine (hc5 _ _ (by first | omega | (simp; omega))).trans ?_; assumption) | (refine (hc4 _ _ (by first | omega | (simp; omega))).trans ?_; assumption) | (refine (hc3 _ _ (by first | omega | (simp; omega))).trans ?_; assumption) | (refine (hc2 _ _ (by first | omega | (simp; omega))).trans ?_; assumption) | (refine (hc1 _ _ (by first | omega | (simp; omega))).trans ?_; assumption) | (refine (hcr _ _ (by first | omega | (simp; omega))).trans ?_; assumption) | (simp; done) | (simp [go_sem]; done) | go_keep))) (fun hHeld => ?_)
          clear hK K
          (try simp only [Act.put, List.setIfInBounds_toArray, List.set_cons_zero, List.set_cons_succ])
          (try simp only [List.getElem_toArray, List.getElem_cons_zero, List.getElem_cons_succ, Act.put, List.setIfInBounds_toArray, List.set_cons_zero, List.set_cons_succ])
          refine wpAnyH_ready (rs := [2]) (by kernel_rfl) (by simp) ?_
          refine AllReadyH.cons rfl (fun K hK => ?_) AllReadyH.nil
          refine wanted_of (by rfl) (wp_store_mid (P := Tryz.prog) 27 _ _ rfl (w.heap.size + 1 + 1) 0 #[.int .i64 (sp + mo), .int .i64 (ch), .bool false] rfl rfl (Blk.there ((hR3.alloc _).drew) (by show 0 + 3 ≤ 3; omega)) (by kernel_rfl) (by simp [Value.oneCell']) ?_)
          refine hK.out _ _ (by exact ⟨hHeld.1.fars (by omega) _ _, hHeld.2.fars (by omega) _ _⟩) (fun hHeld => ?_)
          clear hK K
          (try simp only [Act.put, List.setIfInBounds_toArray, List.set_cons_zero, List.set_cons_succ])
          (try simp only [List.getElem_toArray, List.getElem_cons_zero, List.getElem_cons_succ, Act.put, List.setIfInBounds_toArray, List.set_cons_zero, List.set_cons_succ])
          refine wpAnyH_ready (rs := [3]) (by kernel_rfl) (by simp) ?_
          refine AllReadyH.cons rfl (fun K hK => ?_) AllReadyH.nil
          refine wanted_of (by rfl) (wp_store_mid (P := Tryz.prog) 47 _ _ rfl (w.heap.size + 1 + 1 + 1) 0 #[.int .i64 0, .int .i64 mo, .int .i64 oi] rfl rfl (Blk.there (Blk.fars ((hQ3.alloc _).drew) (by omega) _ _) (by show 0 + 3 ≤ 3; omega)) (by kernel_rfl) (by simp [Value.oneCell']) ?_)
          refine hK.out _ _ (by exact ⟨hHeld.1.fars (by omega) _ _, hHeld.2.fars (by omega) _ _⟩) (fun hHeld => ?_)
          clear hK K
          (try simp only [Act.put, List.setIfInBounds_toArray, List.set_cons_zero, List.set_cons_succ])
          refine wpAnyH_done (by kernel_rfl) ?_ _
          (try simp only [List.getElem_toArray, List.getElem_cons_zero, List.getElem_cons_succ, Act.put, List.setIfInBounds_toArray, List.set_cons_zero, List.set_cons_succ])
          have hRe : Blk ((((w3.alloc (.cells #[.int .i64 (sp + mo), .int .i64 (ch), .bool false] 27)).drew).setCells (w.heap.size + 1 + 1) 0 (#[.int .i64 (sp + mo), .int .i64 (ch), .bool false] : Array Value).toList).setCells (w.heap.size + 1 + 1 + 1) 0 (#[.int .i64 0, .int .i64 mo, .int .i64 oi] : Array Value).toList) (w.heap.size + 1 + 1) 27 #[.int .i64 (sp + mo), .int .i64 (ch), .bool false] := Blk.fars (Blk.sets ((hR3.alloc _).drew) _ _) (by omega) _ _
          have hQe : Blk ((((w3.alloc (.cells #[.int .i64 (sp + mo), .int .i64 (ch), .bool false] 27)).drew).setCells (w.heap.size + 1 + 1) 0 (#[.int .i64 (sp + mo), .int .i64 (ch), .bool false] : Array Value).toList).setCells (w.heap.size + 1 + 1 + 1) 0 (#[.int .i64 0, .int .i64 mo, .int .i64 oi] : Array Value).toList) (w.heap.size + 1 + 1 + 1) 47 #[.int .i64 0, .int .i64 mo, .int .i64 oi] := Blk.sets (Blk.fars ((hQ3.alloc _).drew) (by omega) _ _) _ _
          have hBe : Below w.heap.size w ((((w3.alloc (.cells #[.int .i64 (sp + mo), .int .i64 (ch), .bool false] 27)).drew).setCells (w.heap.size + 1 + 1) 0 (#[.int .i64 (sp + mo), .int .i64 (ch), .bool false] : Array Value).toList).setCells (w.heap.size + 1 + 1 + 1) 0 (#[.int .i64 0, .int .i64 mo, .int .i64 oi] : Array Value).toList) := below_sets (below_sets ((hb3.alloc (by omega) _).drew) (by omega) _ _) (by omega) _ _
          go_wp2
          exact bodyPost_ret (results_rows2 rfl _ rfl rfl hRe hQe uState iState uMoved iMoved) rfl ⟨rfl, hBe⟩
        ·
          refine wanted_of (by rfl) (wp_store_mid (P := Tryz.prog) 27 _ _ rfl (w.heap.size + 1 + 1) 0 #[.int .i64 (sp + mo), .int .i64 (ch), .bool false] rfl rfl (Blk.there ((hR3.alloc _).drew) (by show 0 + 3 ≤ 3; omega)) (by kernel_rfl) (by simp [Value.oneCell']) ?_)
          refine hK.out _ _ (by exact ⟨hHeld.1.fars (by omega) _ _, hHeld.2.fars (by omega) _ _⟩) (fun hHeld => ?_)
          clear hK K
          (try simp only [Act.put, List.setIfInBounds_toArray, List.set_cons_zero, List.set_cons_succ])
          refine wpAnyH_take (i := 1) (v := ?_) rfl (by kernel_rfl) (by kernel_rfl) (by kernel_rfl) (fun _ _ _ h => h) (Or.inl ⟨by kernel_rfl, ?_⟩) hHeld ?_
          rotate_left
          · intro w hSw; (try dsimp only at hSw); obtain ⟨i0, i1, i2, _⟩ := hSw.2.three; go_simp; (try with_reducible rfl)
          (try simp only [Act.put, List.setIfInBounds_toArray, List.set_cons_zero, List.set_cons_succ])
          (try simp only [List.getElem_toArray, List.getElem_cons_zero, List.getElem_cons_succ, Act.put, List.setIfInBounds_toArray, List.set_cons_zero, List.set_cons_succ])
          refine wpAnyH_ready (rs := [3]) (by kernel_rfl) (by simp) ?_
          refine AllReadyH.cons rfl (fun K hK => ?_) AllReadyH.nil
          refine wanted_of (by rfl) (wp_store_mid (P := Tryz.prog) 47 _ _ rfl (w.heap.size + 1 + 1 + 1) 0 #[.int .i64 0, .int .i64 mo, .int .i64 oi] rfl rfl (Blk.there (Blk.fars ((hQ3.alloc _).drew) (by omega) _ _) (by show 0 + 3 ≤ 3; omega)) (by kernel_rfl) (by simp [Value.oneCell']) ?_)
          refine hK.out _ _ (by exact ⟨hHeld.1.fars (by omega) _ _, hHeld.2.fars (by omega) _ _⟩) (fun hHeld => ?_)
          clear hK K
          (try simp only [Act.put, List.setIfInBounds_toArray, List.set_cons_zero, List.set_cons_succ])
          refine wpAnyH_done (by kernel_rfl) ?_ _
          (try simp only [List.getElem_toArray, List.getElem_cons_zero, List.getElem_cons_succ, Act.put, List.setIfInBounds_toArray, List.set_cons_zero, List.set_cons_succ])
          have hRe : Blk ((((w3.alloc (.cells #[.int .i64 (sp + mo), .int .i64 (ch), .bool false] 27)).drew).setCells (w.heap.size + 1 + 1) 0 (#[.int .i64 (sp + mo), .int .i64 (ch), .bool false] : Array Value).toList).setCells (w.heap.size + 1 + 1 + 1) 0 (#[.int .i64 0, .int .i64 mo, .int .i64 oi] : Array Value).toList) (w.heap.size + 1 + 1) 27 #[.int .i64 (sp + mo), .int .i64 (ch), .bool false] := Blk.fars (Blk.sets ((hR3.alloc _).drew) _ _) (by omega) _ _
          have hQe : Blk ((((w3.alloc (.cells #[.int .i64 (sp + mo), .int .i64 (ch), .bool false] 27)).drew).setCells (w.heap.size + 1 + 1) 0 (#[.int .i64 (sp + mo), .int .i64 (ch), .bool false] : Array Value).toList).setCells (w.heap.size + 1 + 1 + 1) 0 (#[.int .i64 0, .int .i64 mo, .int .i64 oi] : Array Value).toList) (w.heap.size + 1 + 1 + 1) 47 #[.int .i64 0, .int .i64 mo, .int .i64 oi] := Blk.sets (Blk.fars ((hQ3.alloc _).drew) (by omega) _ _) _ _
          have hBe : Below w.heap.size w ((((w3.alloc (.cells #[.int .i64 (sp + mo), .int .i64 (ch), .bool false] 27)).drew).setCells (w.heap.size + 1 + 1) 0 (#[.int .i64 (sp + mo), .int .i64 (ch), .bool false] : Array Value).toList).setCells (w.heap.size + 1 + 1 + 1) 0 (#[.int .i64 0, .int .i64 mo, .int .i64 oi] : Array Value).toList) := below_sets (below_sets ((hb3.alloc (by omega) _).drew) (by omega) _ _) (by omega) _ _
          go_wp2
          exact bodyPost_ret (results_rows2 rfl _ rfl rfl hRe hQe uState iState uMoved iMoved) rfl ⟨rfl, hBe⟩
    · rw [if_neg hr] at htt
      have hr' : (r != 0) = true := by rw [bne_iff_ne]; exact hr
      subst htt
      have w1 : IntKind.i64.wrap (sp + mo) = sp + mo := IntWalk.i64_in _ (by omega)
      have w2 : IntKind.i64.wrap (sc - oi) = sc - oi := IntWalk.i64_in _ (by omega)
      go_enter Tryz.func107, Tryz.ntmps107
      go_wp2_with fail
      refine wp_region_held (S := fun w' => Blk w' w.heap.size 97 (mrow g ⟨sp, sc, false⟩) ∧ Blk w' (w.heap.size + 1) 51 #[.int .i64 0, .bool tp, .int .i64 ta, .int .i64 tb]) (by kernel_rfl) (by exact ⟨by (repeat (first | assumption | exact Blk.new _ _ _ | (refine Blk.new' _ _ _ ?_; (simp; done)) | refine Blk.drew ?_ | refine Blk.alloc ?_ _ | (refine Blk.fars ?_ ?_ _ _; rotate_left; (dsimp only; omega)) | (refine Blk.far ?_ ?_ _; rotate_left; (first | (dsimp only; omega) | (simp; done) | (simp; omega) | omega)))), by (repeat (first | assumption | exact Blk.new _ _ _ | (refine Blk.new' _ _ _ ?_; (simp; done)) | refine Blk.drew ?_ | refine Blk.alloc ?_ _ | (refine Blk.fars ?_ ?_ _ _; rotate_left; (dsimp only; omega)) | (refine Blk.far ?_ ?_ _; rotate_left; (first | (dsimp only; omega) | (simp; done) | (simp; omega) | omega))))⟩) (fun hHeld => ?_)
      refine wpAnyH_take (i := 3) (v := mv g ⟨sp, sc, false⟩) rfl (by kernel_rfl) (by kernel_rfl) (by kernel_rfl) (fun _ _ _ h => h) (Or.inl ⟨by rfl, fun w hSw => ld_m rfl rfl hSw.1⟩) hHeld ?_
      (try simp only [Act.put, List.setIfInBounds_toArray, List.set_cons_zero, List.set_cons_succ])
      refine wpAnyH_take (i := 0) (v := ?_) rfl (by kernel_rfl) (by kernel_rfl) (by kernel_rfl) (fun _ _ _ h => h) (Or.inl ⟨by kernel_rfl, ?_⟩) hHeld ?_
      rotate_left
      · intro w hSw; (try dsimp only at hSw); obtain ⟨k0, k1, k2, k3⟩ := tcells_of (t := ⟨0, tp, ta, tb⟩) hSw.2; go_simp; (try with_reducible rfl)
      (try simp only [Act.put, List.setIfInBounds_toArray, List.set_cons_zero, List.set_cons_succ])
      refine wpAnyH_take (i := 1) (v := ?_) rfl (by kernel_rfl) (by kernel_rfl) (by kernel_rfl) (fun _ _ _ h => h) (Or.inl ⟨by kernel_rfl, ?_⟩) hHeld ?_
      rotate_left
      · intro w hSw; (try dsimp only at hSw); obtain ⟨k0, k1, k2, k3⟩ := tcells_of (t := ⟨0, tp, ta, tb⟩) hSw.2; go_simp; (try with_reducible rfl)
      (try simp only [Act.put, List.setIfInBounds_toArray, List.set_cons_zero, List.set_cons_succ])
      refine wpAnyH_take (i := 4) (v := ?_) rfl (by kernel_rfl) (by kernel_rfl) (by kernel_rfl) (fun _ _ _ h => h) (Or.inl ⟨by kernel_rfl, ?_⟩) hHeld ?_
      rotate_left
      · intro w hSw; (try dsimp only at hSw); obtain ⟨k0, k1, k2, k3⟩ := tcells_of (t := ⟨0, tp, ta, tb⟩) hSw.2; go_simp; (try with_reducible rfl)
      (try simp only [Act.put, List.setIfInBounds_toArray, List.set_cons_zero, List.set_cons_succ])
      refine wpAnyH_ready (rs := [2]) (by kernel_rfl) (by simp) ?_
      refine AllReadyH.cons rfl (fun K hK => ?_) AllReadyH.nil
      go_simp
      refine (Hf1.out _).mono ?_
      rintro e w' ⟨rfl, rfl⟩
      (try dsimp only)
      refine hK.out _ _ (by exact hHeld) (fun hHeld => ?_)
      clear hK K
      (try simp only [Act.put, List.setIfInBounds_toArray, List.set_cons_zero, List.set_cons_succ])
      refine wpAnyH_ready (rs := [5]) (by kernel_rfl) (by simp) ?_
      refine AllReadyH.cons rfl (fun K hK => ?_) AllReadyH.nil
      go_simp
      refine (Hf3.out _ (Ha.out.grow (by repeat (first | exact Below.refl _ _ | assumption | (refine Below.setCell ?_ (by first | omega | (simp; done) | (simp; omega)) _) | (refine Below.alloc ?_ (by first | omega | (simp; done) | (simp; omega)) _) | refine Below.drew ?_ | (refine below_thru ?_ (by assumption) (by first | omega | (simp; done) | (simp; omega))) | refine below_drewN ?_ _)))).mono ?_
      rintro e w2 ⟨rfl, hb2⟩; have hz2 := hb2.size; (try simp at hz2)
      (try dsimp only)
      refine hK.out _ _ (by exact ⟨hHeld.1.thru hb2 hHeld.1.lt, hHeld.2.thru hb2 hHeld.2.lt⟩) (fun hHeld => ?_)
      clear hK K
      (try simp only [Act.put, List.setIfInBounds_toArray, List.set_cons_zero, List.set_cons_succ])
      have hR : Blk w2 (w.heap.size + 1 + 1) 27 #[.int .i64 0, .int .i64 0, .bool false] := Blk.thru (by (repeat (first | assumption | exact Blk.new _ _ _ | (refine Blk.new' _ _ _ ?_; (simp; done)) | refine Blk.drew ?_ | refine Blk.alloc ?_ _ | (refine Blk.fars ?_ ?_ _ _; rotate_left; (dsimp only; omega)) | (refine Blk.far ?_ ?_ _; rotate_left; (first | (dsimp only; omega) | (simp; done) | (simp; omega) | omega))))) hb2 (by simp <;> omega)
      have hQ : Blk w2 (w.heap.size + 1 + 1 + 1) 47 #[.int .i64 0, .int .i64 0, .int .i64 0] := Blk.thru (by (repeat (first | assumption | exact Blk.new _ _ _ | (refine Blk.new' _ _ _ ?_; (simp; done)) | refine Blk.drew ?_ | refine Blk.alloc ?_ _ | (refine Blk.fars ?_ ?_ _ _; rotate_left; (dsimp only; omega)) | (refine Blk.far ?_ ?_ _; rotate_left; (first | (dsimp only; omega) | (simp; done) | (simp; omega) | omega))))) hb2 (by simp <;> omega)
      have hD : Blk w2 (w.heap.size + 1 + 1 + 1 + 1) 47 #[.int .i64 r, .int .i64 0, .int .i64 0] := Blk.thru (by (repeat (first | assumption | exact Blk.new _ _ _ | (refine Blk.new' _ _ _ ?_; (simp; done)) | refine Blk.drew ?_ | refine Blk.alloc ?_ _ | (refine Blk.fars ?_ ?_ _ _; rotate_left; (dsimp only; omega)) | (refine Blk.far ?_ ?_ _; rotate_left; (first | (dsimp only; omega) | (simp; done) | (simp; omega) | omega))))) hb2 (by simp <;> omega)
      refine wpAnyH_take (i := 6) (v := ?_) rfl (by kernel_rfl) (by kernel_rfl) (by kernel_rfl) (fun _ _ _ h => h) (Or.inl ⟨by kernel_rfl, ?_⟩) hHeld ?_
      rotate_left
      · intro w hSw; (try dsimp only at hSw); skip; go_simp; (try with_reducible rfl)
      (try simp only [Act.put, List.setIfInBounds_toArray, List.set_cons_zero, List.set_cons_succ])
      refine wpAnyH_take (i := 7) (v := ?_) rfl (by kernel_rfl) (by kernel_rfl) (by kernel_rfl) (fun _ _ _ h => h) (Or.inl ⟨by kernel_rfl, ?_⟩) hHeld ?_
      rotate_left
      · intro w hSw; (try dsimp only at hSw); skip; go_simp; (try with_reducible rfl)
      (try simp only [Act.put, List.setIfInBounds_toArray, List.set_cons_zero, List.set_cons_succ])
      refine wpAnyH_take (i := 8) (v := ?_) rfl (by kernel_rfl) (by kernel_rfl) (by kernel_rfl) (fun _ _ _ h => h) (Or.inl ⟨by kernel_rfl, ?_⟩) hHeld ?_
      rotate_left
      · intro w hSw; (try dsimp only at hSw); skip; go_simp; (try with_reducible rfl)
      (try simp only [Act.put, List.setIfInBounds_toArray, List.set_cons_zero, List.set_cons_succ])
      refine wpAnyH_take (i := 9) (v := ?_) rfl (by kernel_rfl) (by kernel_rfl) (by kernel_rfl) (fun _ _ _ h => h) (Or.inl ⟨by kernel_rfl, ?_⟩) hHeld ?_
      rotate_left
      · intro w hSw; (try dsimp only at hSw); skip; go_simp; (try with_reducible rfl)
      (try simp only [Act.put, List.setIfInBounds_toArray, List.set_cons_zero, List.set_cons_succ])
      obtain ⟨e0, e1, e2, z0, z1, z2⟩ := hD.three
      have hS2 := hHeld
      refine wpAnyH_ready (rs := [10]) (by kernel_rfl) (by simp) ?_
      refine AllReadyH.cons rfl (fun K hK => ?_) AllReadyH.nil
      go_simp
      (try dsimp only)
      refine hK.out _ _ (by exact ⟨by have := hS2.1; (repeat (first | assumption | exact Blk.new _ _ _ | (refine Blk.new' _ _ _ ?_; (simp; done)) | refine Blk.drew ?_ | refine Blk.alloc ?_ _ | (refine Blk.fars ?_ ?_ _ _; rotate_left; (dsimp only; omega)) | (refine Blk.far ?_ ?_ _; rotate_left; (first | (dsimp only; omega) | (simp; done) | (simp; omega) | omega)))), by have := hS2.2; (repeat (first | assumption | exact Blk.new _ _ _ | (refine Blk.new' _ _ _ ?_; (simp; done)) | refine Blk.drew ?_ | refine Blk.alloc ?_ _ | (refine Blk.fars ?_ ?_ _ _; rotate_left; (dsimp only; omega)) | (refine Blk.far ?_ ?_ _; rotate_left; (first | (dsimp only; omega) | (simp; done) | (simp; omega) | omega))))⟩) (fun hHeld => ?_)
      clear hK K
      (try simp only [Act.put, List.setIfInBounds_toArray, List.set_cons_zero, List.set_cons_succ])
      refine wpAnyH_take (i := 11) (v := ?_) rfl (by kernel_rfl) (by kernel_rfl) (by kernel_rfl) (fun _ _ _ h => h) (Or.inl ⟨by kernel_rfl, ?_⟩) hHeld ?_
      rotate_left
      · intro w hSw; (try dsimp only at hSw); skip; go_simp; (try with_reducible rfl)
      (try simp only [Act.put, List.setIfInBounds_toArray, List.set_cons_zero, List.set_cons_succ])
      refine wpAnyH_ready (rs := [12]) (by kernel_rfl) (by simp) ?_
      refine AllReadyH.cons rfl (fun K hK => ?_) AllReadyH.nil
      go_simp
      (try dsimp only)
      refine hK.out _ _ (by exact ⟨by have := hS2.1; (repeat (first | assumption | exact Blk.new _ _ _ | (refine Blk.new' _ _ _ ?_; (simp; done)) | refine Blk.drew ?_ | refine Blk.alloc ?_ _ | (refine Blk.fars ?_ ?_ _ _; rotate_left; (dsimp only; omega)) | (refine Blk.far ?_ ?_ _; rotate_left; (first | (dsimp only; omega) | (simp; done) | (simp; omega) | omega)))), by have := hS2.2; (repeat (first | assumption | exact Blk.new _ _ _ | (refine Blk.new' _ _ _ ?_; (simp; done)) | refine Blk.drew ?_ | refine Blk.alloc ?_ _ | (refine Blk.fars ?_ ?_ _ _; rotate_left; (dsimp only; omega)) | (refine Blk.far ?_ ?_ _; rotate_left; (first | (dsimp only; omega) | (simp; done) | (simp; omega) | omega))))⟩) (fun hHeld => ?_)
      clear hK K
      (try simp only [Act.put, List.setIfInBounds_toArray, List.set_cons_zero, List.set_cons_succ])
      refine wpAnyH_done (by kernel_rfl) ?_ _
      (try simp only [List.getElem_toArray, List.getElem_cons_zero, List.getElem_cons_succ, Act.put, List.setIfInBounds_toArray, List.set_cons_zero, List.set_cons_succ])
      have hD3 := (hD.set_ 1 (.int .i64 mo)).set_ 2 (.int .i64 oi)
      have hR3 := (hR.far (p := ⟨w.heap.size + 1 + 1 + 1 + 1, 1, none⟩) (by simp <;> omega) (.int .i64 mo)).far (p := ⟨w.heap.size + 1 + 1 + 1 + 1, 2, none⟩) (by simp <;> omega) (.int .i64 oi)
      have hQ3 := (hQ.far (p := ⟨w.heap.size + 1 + 1 + 1 + 1, 1, none⟩) (by simp <;> omega) (.int .i64 mo)).far (p := ⟨w.heap.size + 1 + 1 + 1 + 1, 2, none⟩) (by simp <;> omega) (.int .i64 oi)
      have hb3 : Below w.heap.size w ((w2.setCell ⟨w.heap.size + 1 + 1 + 1 + 1, 1, none⟩ (.int .i64 mo)).setCell ⟨w.heap.size + 1 + 1 + 1 + 1, 2, none⟩ (.int .i64 oi)) := (by repeat (first | exact Below.refl _ _ | assumption | (refine Below.setCell ?_ (by first | omega | (simp; done) | (simp; omega)) _) | (refine Below.alloc ?_ (by first | omega | (simp; done) | (simp; omega)) _) | refine Below.drew ?_ | (refine below_thru ?_ (by assumption) (by first | omega | (simp; done) | (simp; omega))) | refine below_drewN ?_ _))
      clear e0 e1 e2 z0 z1 z2 hS2 hD hR hQ
      generalize hw : (w2.setCell ⟨w.heap.size + 1 + 1 + 1 + 1, 1, none⟩ (.int .i64 mo)).setCell ⟨w.heap.size + 1 + 1 + 1 + 1, 2, none⟩ (.int .i64 oi) = w3 at *
      clear hw hb2 hz2
      have hl4 := hD3.lt
      have hl3 : w.heap.size + 1 + 1 + 1 < w3.heap.size := by omega
      have hl2 : w.heap.size + 1 + 1 < w3.heap.size := by omega
      have hl1 : w.heap.size + 1 < w3.heap.size := by omega
      have hl0 : w.heap.size < w3.heap.size := by omega
      obtain ⟨e0, e1, e2, z0, z1, z2⟩ := hD3.three
      obtain ⟨r0, r1, r2, y0, y1, y2⟩ := hR3.three
      obtain ⟨q0, q1, q2, x0, x1, x2⟩ := hQ3.three
      have k21 := (mcells_of hHeld.1).c21
      have k22 := (mcells_of hHeld.1).c22
      have k23 := (mcells_of hHeld.1).c23
      have k16 := (mcells_of hHeld.1).c16
      have k17 := (mcells_of hHeld.1).c17
      have p1 := (tcells_of (t := ⟨0, tp, ta, tb⟩) hHeld.2).c1
      have hD4 : Blk w3 (w.heap.size + 1 + 1 + 1 + 1) 47 #[.int .i64 r, .int .i64 mo, .int .i64 oi] := hD3
      clear hHeld hD3
      cases tp
      · go_wp2_with fail
        refine wp_region_held (S := fun w' => Blk w' w3.heap.size 27 #[.int .i64 (sp + mo), .int .i64 (sc - oi), .bool false] ∧ Blk w' (w.heap.size + 1 + 1 + 1 + 1) 47 #[.int .i64 r, .int .i64 mo, .int .i64 oi]) (by kernel_rfl) (by exact ⟨by (repeat (first | assumption | exact Blk.new _ _ _ | (refine Blk.new' _ _ _ ?_; (simp; done)) | refine Blk.drew ?_ | refine Blk.alloc ?_ _ | (refine Blk.fars ?_ ?_ _ _; rotate_left; (dsimp only; omega)) | (refine Blk.far ?_ ?_ _; rotate_left; (first | (dsimp only; omega) | (simp; done) | (simp; omega) | omega)))), by (repeat (first | assumption | exact Blk.new _ _ _ | (refine Blk.new' _ _ _ ?_; (simp; done)) | refine Blk.drew ?_ | refine Blk.alloc ?_ _ | (refine Blk.fars ?_ ?_ _ _; rotate_left; (dsimp only; omega)) | (refine Blk.far ?_ ?_ _; rotate_left; (first | (dsimp only; omega) | (simp; done) | (simp; omega) | omega))))⟩) (fun hHeld => ?_)
        refine wpAnyH_take (i := 0) (v := ?_) rfl (by kernel_rfl) (by kernel_rfl) (by kernel_rfl) (fun _ _ _ h => h) (Or.inl ⟨by kernel_rfl, ?_⟩) hHeld ?_
        rotate_left
        · intro w hSw; (try dsimp only at hSw); obtain ⟨i0, i1, i2, _⟩ := hSw.1.three; go_simp; (try with_reducible rfl)
        (try simp only [Act.put, List.setIfInBounds_toArray, List.set_cons_zero, List.set_cons_succ])
        refine wpAnyH_ready (rs := [1, 2]) (by kernel_rfl) (by simp) ?_
        refine (AllReadyH.cons rfl (fun K hK => ?_) (AllReadyH.cons rfl (fun K hK => ?_) AllReadyH.nil))
        · have hS3 := hHeld
          obtain ⟨i0, i1, i2, _⟩ := hHeld.2.three
          go_simp
          (try dsimp only)
          refine hK.out _ _ (by ((go_split_ands; (try dsimp only); (repeat' apply And.intro) <;> first | assumption | (simp; done) | ((repeat (first | (with_reducible refine keep_set ?_ (by first | omega | (simp; done) | (simp; omega))) | (with_reducible refine keep_new ?_ _) | (with_reducible refine keep_drew ?_))); assumption) | (refine (hc9 _ _ (by first | omega | (simp; omega))).trans ?_; assumption) | (refine (hc8 _ _ (by first | omega | (simp; omega))).trans ?_; assumption) | (refine (hc7 _ _ (by first | omega | (simp; omega))).trans ?_; assumption) | (refine (hc6 _ _ (by first | omega | (simp; omega))).trans ?_; assumption) | (refine (hc5 _ _ (by first | omega | (simp; omega))).trans ?_; assumption) | (refine (hc4 _ _ (by first | omega | (simp; omega))).trans ?_; assumption) | (refine (hc3 _ _ (by first | omega | (simp; omega))).trans ?_; assumption) | (refine (hc2 _ _ (by first | omega | (simp; omega))).trans ?_; assumption) | (refine (hc1 _ _ (by first | omega | (simp; omega))).trans ?_; assumption) | (refine (hcr _ _ (by first | omega | (simp; omega))).trans ?_; assumption) | (simp; done) | (simp [go_sem]; done) | go_keep))) (fun hHeld => ?_)
          clear hK K
          (try simp only [Act.put, List.setIfInBounds_toArray, List.set_cons_zero, List.set_cons_succ])
          (try simp only [List.getElem_toArray, List.getElem_cons_zero, List.getElem_cons_succ, Act.put, List.setIfInBounds_toArray, List.set_cons_zero, List.set_cons_succ])
          refine wpAnyH_ready (rs := [2]) (by kernel_rfl) (by simp) ?_
          refine AllReadyH.cons rfl (fun K hK => ?_) AllReadyH.nil
          refine wanted_of (by rfl) (wp_store_mid (P := Tryz.prog) 27 _ _ rfl (w.heap.size + 1 + 1) 0 #[.int .i64 (sp + mo), .int .i64 (sc - oi), .bool false] rfl rfl (Blk.there ((hR3.alloc _).drew) (by show 0 + 3 ≤ 3; omega)) (by kernel_rfl) (by simp [Value.oneCell']) ?_)
          refine hK.out _ _ (by exact ⟨hHeld.1.fars (by omega) _ _, hHeld.2.fars (by omega) _ _⟩) (fun hHeld => ?_)
          clear hK K
          (try simp only [Act.put, List.setIfInBounds_toArray, List.set_cons_zero, List.set_cons_succ])
          (try simp only [List.getElem_toArray, List.getElem_cons_zero, List.getElem_cons_succ, Act.put, List.setIfInBounds_toArray, List.set_cons_zero, List.set_cons_succ])
          refine wpAnyH_ready (rs := [3]) (by kernel_rfl) (by simp) ?_
          refine AllReadyH.cons rfl (fun K hK => ?_) AllReadyH.nil
          refine wanted_of (by rfl) (wp_store_mid (P := Tryz.prog) 47 _ _ rfl (w.heap.size + 1 + 1 + 1) 0 #[.int .i64 r, .int .i64 mo, .int .i64 oi] rfl rfl (Blk.there (Blk.fars ((hQ3.alloc _).drew) (by omega) _ _) (by show 0 + 3 ≤ 3; omega)) (by kernel_rfl) (by simp [Value.oneCell']) ?_)
          refine hK.out _ _ (by exact ⟨hHeld.1.fars (by omega) _ _, hHeld.2.fars (by omega) _ _⟩) (fun hHeld => ?_)
          clear hK K
          (try simp only [Act.put, List.setIfInBounds_toArray, List.set_cons_zero, List.set_cons_succ])
          refine wpAnyH_done (by kernel_rfl) ?_ _
          (try simp only [List.getElem_toArray, List.getElem_cons_zero, List.getElem_cons_succ, Act.put, List.setIfInBounds_toArray, List.set_cons_zero, List.set_cons_succ])
          have hRe : Blk ((((w3.alloc (.cells #[.int .i64 (sp + mo), .int .i64 (sc - oi), .bool false] 27)).drew).setCells (w.heap.size + 1 + 1) 0 (#[.int .i64 (sp + mo), .int .i64 (sc - oi), .bool false] : Array Value).toList).setCells (w.heap.size + 1 + 1 + 1) 0 (#[.int .i64 r, .int .i64 mo, .int .i64 oi] : Array Value).toList) (w.heap.size + 1 + 1) 27 #[.int .i64 (sp + mo), .int .i64 (sc - oi), .bool false] := Blk.fars (Blk.sets ((hR3.alloc _).drew) _ _) (by omega) _ _
          have hQe : Blk ((((w3.alloc (.cells #[.int .i64 (sp + mo), .int .i64 (sc - oi), .bool false] 27)).drew).setCells (w.heap.size + 1 + 1) 0 (#[.int .i64 (sp + mo), .int .i64 (sc - oi), .bool false] : Array Value).toList).setCells (w.heap.size + 1 + 1 + 1) 0 (#[.int .i64 r, .int .i64 mo, .int .i64 oi] : Array Value).toList) (w.heap.size + 1 + 1 + 1) 47 #[.int .i64 r, .int .i64 mo, .int .i64 oi] := Blk.sets (Blk.fars ((hQ3.alloc _).drew) (by omega) _ _) _ _
          have hBe : Below w.heap.size w ((((w3.alloc (.cells #[.int .i64 (sp + mo), .int .i64 (sc - oi), .bool false] 27)).drew).setCells (w.heap.size + 1 + 1) 0 (#[.int .i64 (sp + mo), .int .i64 (sc - oi), .bool false] : Array Value).toList).setCells (w.heap.size + 1 + 1 + 1) 0 (#[.int .i64 r, .int .i64 mo, .int .i64 oi] : Array Value).toList) := below_sets (below_sets ((hb3.alloc (by omega) _).drew) (by omega) _ _) (by omega) _ _
          go_wp2
          exact bodyPost_ret (results_rows2 rfl _ rfl rfl hRe hQe uState iState uMoved iMoved) rfl ⟨rfl, hBe⟩
        ·
          refine wanted_of (by rfl) (wp_store_mid (P := Tryz.prog) 27 _ _ rfl (w.heap.size + 1 + 1) 0 #[.int .i64 (sp + mo), .int .i64 (sc - oi), .bool false] rfl rfl (Blk.there ((hR3.alloc _).drew) (by show 0 + 3 ≤ 3; omega)) (by kernel_rfl) (by simp [Value.oneCell']) ?_)
          refine hK.out _ _ (by exact ⟨hHeld.1.fars (by omega) _ _, hHeld.2.fars (by omega) _ _⟩) (fun hHeld => ?_)
          clear hK K
          (try simp only [Act.put, List.setIfInBounds_toArray, List.set_cons_zero, List.set_cons_succ])
          refine wpAnyH_take (i := 1) (v := ?_) rfl (by kernel_rfl) (by kernel_rfl) (by kernel_rfl) (fun _ _ _ h => h) (Or.inl ⟨by kernel_rfl, ?_⟩) hHeld ?_
          rotate_left
          · intro w hSw; (try dsimp only at hSw); obtain ⟨i0, i1, i2, _⟩ := hSw.2.three; go_simp; (try with_reducible rfl)
          (try simp only [Act.put, List.setIfInBounds_toArray, List.set_cons_zero, List.set_cons_succ])
          (try simp only [List.getElem_toArray, List.getElem_cons_zero, List.getElem_cons_succ, Act.put, List.setIfInBounds_toArray, List.set_cons_zero, List.set_cons_succ])
          refine wpAnyH_ready (rs := [3]) (by kernel_rfl) (by simp) ?_
          refine AllReadyH.cons rfl (fun K hK => ?_) AllReadyH.nil
          refine wanted_of (by rfl) (wp_store_mid (P := Tryz.prog) 47 _ _ rfl (w.heap.size + 1 + 1 + 1) 0 #[.int .i64 r, .int .i64 mo, .int .i64 oi] rfl rfl (Blk.there (Blk.fars ((hQ3.alloc _).drew) (by omega) _ _) (by show 0 + 3 ≤ 3; omega)) (by kernel_rfl) (by simp [Value.oneCell']) ?_)
          refine hK.out _ _ (by exact ⟨hHeld.1.fars (by omega) _ _, hHeld.2.fars (by omega) _ _⟩) (fun hHeld => ?_)
          clear hK K
          (try simp only [Act.put, List.setIfInBounds_toArray, List.set_cons_zero, List.set_cons_succ])
          refine wpAnyH_done (by kernel_rfl) ?_ _
          (try simp only [List.getElem_toArray, List.getElem_cons_zero, List.getElem_cons_succ, Act.put, List.setIfInBounds_toArray, List.set_cons_zero, List.set_cons_succ])
          have hRe : Blk ((((w3.alloc (.cells #[.int .i64 (sp + mo), .int .i64 (sc - oi), .bool false] 27)).drew).setCells (w.heap.size + 1 + 1) 0 (#[.int .i64 (sp + mo), .int .i64 (sc - oi), .bool false] : Array Value).toList).setCells (w.heap.size + 1 + 1 + 1) 0 (#[.int .i64 r, .int .i64 mo, .int .i64 oi] : Array Value).toList) (w.heap.size + 1 + 1) 27 #[.int .i64 (sp + mo), .int .i64 (sc - oi), .bool false] := Blk.fars (Blk.sets ((hR3.alloc _).drew) _ _) (by omega) _ _
          have hQe : Blk ((((w3.alloc (.cells #[.int .i64 (sp + mo), .int .i64 (sc - oi), .bool false] 27)).drew).setCells (w.heap.size + 1 + 1) 0 (#[.int .i64 (sp + mo), .int .i64 (sc - oi), .bool false] : Array Value).toList).setCells (w.heap.size + 1 + 1 + 1) 0 (#[.int .i64 r, .int .i64 mo, .int .i64 oi] : Array Value).toList) (w.heap.size + 1 + 1 + 1) 47 #[.int .i64 r, .int .i64 mo, .int .i64 oi] := Blk.sets (Blk.fars ((hQ3.alloc _).drew) (by omega) _ _) _ _
          have hBe : Below w.heap.size w ((((w3.alloc (.cells #[.int .i64 (sp + mo), .int .i64 (sc - oi), .bool false] 27)).drew).setCells (w.heap.size + 1 + 1) 0 (#[.int .i64 (sp + mo), .int .i64 (sc - oi), .bool false] : Array Value).toList).setCells (w.heap.size + 1 + 1 + 1) 0 (#[.int .i64 r, .int .i64 mo, .int .i64 oi] : Array Value).toList) := below_sets (below_sets ((hb3.alloc (by omega) _).drew) (by omega) _ _) (by omega) _ _
          go_wp2
          exact bodyPost_ret (results_rows2 rfl _ rfl rfl hRe hQe uState iState uMoved iMoved) rfl ⟨rfl, hBe⟩
      · go_wp2_with fail
        refine wp_region_held (S := fun w' => Blk w' w3.heap.size 27 #[.int .i64 (sp + mo), .int .i64 (ch), .bool false] ∧ Blk w' (w.heap.size + 1 + 1 + 1 + 1) 47 #[.int .i64 r, .int .i64 mo, .int .i64 oi]) (by kernel_rfl) (by exact ⟨by (repeat (first | assumption | exact Blk.new _ _ _ | (refine Blk.new' _ _ _ ?_; (simp; done)) | refine Blk.drew ?_ | refine Blk.alloc ?_ _ | (refine Blk.fars ?_ ?_ _ _; rotate_left; (dsimp only; omega)) | (refine Blk.far ?_ ?_ _; rotate_left; (first | (dsimp only; omega) | (simp; done) | (simp; omega) | omega)))), by (repeat (first | assumption | exact Blk.new _ _ _ | (refine Blk.new' _ _ _ ?_; (simp; done)) | refine Blk.drew ?_ | refine Blk.alloc ?_ _ | (refine Blk.fars ?_ ?_ _ _; rotate_left; (dsimp only; omega)) | (refine Blk.far ?_ ?_ _; rotate_left; (first | (dsimp only; omega) | (simp; done) | (simp; omega) | omega))))⟩) (fun hHeld => ?_)
        refine wpAnyH_take (i := 0) (v := ?_) rfl (by kernel_rfl) (by kernel_rfl) (by kernel_rfl) (fun _ _ _ h => h) (Or.inl ⟨by kernel_rfl, ?_⟩) hHeld ?_
        rotate_left
        · intro w hSw; (try dsimp only at hSw); obtain ⟨i0, i1, i2, _⟩ := hSw.1.three; go_simp; (try with_reducible rfl)
        (try simp only [Act.put, List.setIfInBounds_toArray, List.set_cons_zero, List.set_cons_succ])
        refine wpAnyH_ready (rs := [1, 2]) (by kernel_rfl) (by simp) ?_
        refine (AllReadyH.cons rfl (fun K hK => ?_) (AllReadyH.cons rfl (fun K hK => ?_) AllReadyH.nil))
        · have hS3 := hHeld
          obtain ⟨i0, i1, i2, _⟩ := hHeld.2.three
          go_simp
          (try dsimp only)
          refine hK.out _ _ (by ((go_split_ands; (try dsimp only); (repeat' apply And.intro) <;> first | assumption | (simp; done) | ((repeat (first | (with_reducible refine keep_set ?_ (by first | omega | (simp; done) | (simp; omega))) | (with_reducible refine keep_new ?_ _) | (with_reducible refine keep_drew ?_))); assumption) | (refine (hc9 _ _ (by first | omega | (simp; omega))).trans ?_; assumption) | (refine (hc8 _ _ (by first | omega | (simp; omega))).trans ?_; assumption) | (refine (hc7 _ _ (by first | omega | (simp; omega))).trans ?_; assumption) | (refine (hc6 _ _ (by first | omega | (simp; omega))).trans ?_; assumption) | (refine (hc5 _ _ (by first | omega | (simp; omega))).trans ?_; assumption) | (refine (hc4 _ _ (by first | omega | (simp; omega))).trans ?_; assumption) | (refine (hc3 _ _ (by first | omega | (simp; omega))).trans ?_; assumption) | (refine (hc2 _ _ (by first | omega | (simp; omega))).trans ?_; assumption) | (refine (hc1 _ _ (by first | omega | (simp; omega))).trans ?_; assumption) | (refine (hcr _ _ (by first | omega | (simp; omega))).trans ?_; assumption) | (simp; done) | (simp [go_sem]; done) | go_keep))) (fun hHeld => ?_)
          clear hK K
          (try simp only [Act.put, List.setIfInBounds_toArray, List.set_cons_zero, List.set_cons_succ])
          (try simp only [List.getElem_toArray, List.getElem_cons_zero, List.getElem_cons_succ, Act.put, List.setIfInBounds_toArray, List.set_cons_zero, List.set_cons_succ])
          refine wpAnyH_ready (rs := [2]) (by kernel_rfl) (by simp) ?_
          refine AllReadyH.cons rfl (fun K hK => ?_) AllReadyH.nil
          refine wanted_of (by rfl) (wp_store_mid (P := Tryz.prog) 27 _ _ rfl (w.heap.size + 1 + 1) 0 #[.int .i64 (sp + mo), .int .i64 (ch), .bool false] rfl rfl (Blk.there ((hR3.alloc _).drew) (by show 0 + 3 ≤ 3; omega)) (by kernel_rfl) (by simp [Value.oneCell']) ?_)
          refine hK.out _ _ (by exact ⟨hHeld.1.fars (by omega) _ _, hHeld.2.fars (by omega) _ _⟩) (fun hHeld => ?_)
          clear hK K
          (try simp only [Act.put, List.setIfInBounds_toArray, List.set_cons_zero, List.set_cons_succ])
          (try simp only [List.getElem_toArray, List.getElem_cons_zero, List.getElem_cons_succ, Act.put, List.setIfInBounds_toArray, List.set_cons_zero, List.set_cons_succ])
          refine wpAnyH_ready (rs := [3]) (by kernel_rfl) (by simp) ?_
          refine AllReadyH.cons rfl (fun K hK => ?_) AllReadyH.nil
          refine wanted_of (by rfl) (wp_store_mid (P := Tryz.prog) 47 _ _ rfl (w.heap.size + 1 + 1 + 1) 0 #[.int .i64 r, .int .i64 mo, .int .i64 oi] rfl rfl (Blk.there (Blk.fars ((hQ3.alloc _).drew) (by omega) _ _) (by show 0 + 3 ≤ 3; omega)) (by kernel_rfl) (by simp [Value.oneCell']) ?_)
          refine hK.out _ _ (by exact ⟨hHeld.1.fars (by omega) _ _, hHeld.2.fars (by omega) _ _⟩) (fun hHeld => ?_)
          clear hK K
          (try simp only [Act.put, List.setIfInBounds_toArray, List.set_cons_zero, List.set_cons_succ])
          refine wpAnyH_done (by kernel_rfl) ?_ _
          (try simp only [List.getElem_toArray, List.getElem_cons_zero, List.getElem_cons_succ, Act.put, List.setIfInBounds_toArray, List.set_cons_zero, List.set_cons_succ])
          have hRe : Blk ((((w3.alloc (.cells #[.int .i64 (sp + mo), .int .i64 (ch), .bool false] 27)).drew).setCells (w.heap.size + 1 + 1) 0 (#[.int .i64 (sp + mo), .int .i64 (ch), .bool false] : Array Value).toList).setCells (w.heap.size + 1 + 1 + 1) 0 (#[.int .i64 r, .int .i64 mo, .int .i64 oi] : Array Value).toList) (w.heap.size + 1 + 1) 27 #[.int .i64 (sp + mo), .int .i64 (ch), .bool false] := Blk.fars (Blk.sets ((hR3.alloc _).drew) _ _) (by omega) _ _
          have hQe : Blk ((((w3.alloc (.cells #[.int .i64 (sp + mo), .int .i64 (ch), .bool false] 27)).drew).setCells (w.heap.size + 1 + 1) 0 (#[.int .i64 (sp + mo), .int .i64 (ch), .bool false] : Array Value).toList).setCells (w.heap.size + 1 + 1 + 1) 0 (#[.int .i64 r, .int .i64 mo, .int .i64 oi] : Array Value).toList) (w.heap.size + 1 + 1 + 1) 47 #[.int .i64 r, .int .i64 mo, .int .i64 oi] := Blk.sets (Blk.fars ((hQ3.alloc _).drew) (by omega) _ _) _ _
          have hBe : Below w.heap.size w ((((w3.alloc (.cells #[.int .i64 (sp + mo), .int .i64 (ch), .bool false] 27)).drew).setCells (w.heap.size + 1 + 1) 0 (#[.int .i64 (sp + mo), .int .i64 (ch), .bool false] : Array Value).toList).setCells (w.heap.size + 1 + 1 + 1) 0 (#[.int .i64 r, .int .i64 mo, .int .i64 oi] : Array Value).toList) := below_sets (below_sets ((hb3.alloc (by omega) _).drew) (by omega) _ _) (by omega) _ _
          go_wp2
          exact bodyPost_ret (results_rows2 rfl _ rfl rfl hRe hQe uState iState uMoved iMoved) rfl ⟨rfl, hBe⟩
        ·
          refine wanted_of (by rfl) (wp_store_mid (P := Tryz.prog) 27 _ _ rfl (w.heap.size + 1 + 1) 0 #[.int .i64 (sp + mo), .int .i64 (ch), .bool false] rfl rfl (Blk.there ((hR3.alloc _).drew) (by show 0 + 3 ≤ 3; omega)) (by kernel_rfl) (by simp [Value.oneCell']) ?_)
          refine hK.out _ _ (by exact ⟨hHeld.1.fars (by omega) _ _, hHeld.2.fars (by omega) _ _⟩) (fun hHeld => ?_)
          clear hK K
          (try simp only [Act.put, List.setIfInBounds_toArray, List.set_cons_zero, List.set_cons_succ])
          refine wpAnyH_take (i := 1) (v := ?_) rfl (by kernel_rfl) (by kernel_rfl) (by kernel_rfl) (fun _ _ _ h => h) (Or.inl ⟨by kernel_rfl, ?_⟩) hHeld ?_
          rotate_left
          · intro w hSw; (try dsimp only at hSw); obtain ⟨i0, i1, i2, _⟩ := hSw.2.three; go_simp; (try with_reducible rfl)
          (try simp only [Act.put, List.setIfInBounds_toArray, List.set_cons_zero, List.set_cons_succ])
          (try simp only [List.getElem_toArray, List.getElem_cons_zero, List.getElem_cons_succ, Act.put, List.setIfInBounds_toArray, List.set_cons_zero, List.set_cons_succ])
          refine wpAnyH_ready (rs := [3]) (by kernel_rfl) (by simp) ?_
          refine AllReadyH.cons rfl (fun K hK => ?_) AllReadyH.nil
          refine wanted_of (by rfl) (wp_store_mid (P := Tryz.prog) 47 _ _ rfl (w.heap.size + 1 + 1 + 1) 0 #[.int .i64 r, .int .i64 mo, .int .i64 oi] rfl rfl (Blk.there (Blk.fars ((hQ3.alloc _).drew) (by omega) _ _) (by show 0 + 3 ≤ 3; omega)) (by kernel_rfl) (by simp [Value.oneCell']) ?_)
          refine hK.out _ _ (by exact ⟨hHeld.1.fars (by omega) _ _, hHeld.2.fars (by omega) _ _⟩) (fun hHeld => ?_)
          clear hK K
          (try simp only [Act.put, List.setIfInBounds_toArray, List.set_cons_zero, List.set_cons_succ])
          refine wpAnyH_done (by kernel_rfl) ?_ _
          (try simp only [List.getElem_toArray, List.getElem_cons_zero, List.getElem_cons_succ, Act.put, List.setIfInBounds_toArray, List.set_cons_zero, List.set_cons_succ])
          have hRe : Blk ((((w3.alloc (.cells #[.int .i64 (sp + mo), .int .i64 (ch), .bool false] 27)).drew).setCells (w.heap.size + 1 + 1) 0 (#[.int .i64 (sp + mo), .int .i64 (ch), .bool false] : Array Value).toList).setCells (w.heap.size + 1 + 1 + 1) 0 (#[.int .i64 r, .int .i64 mo, .int .i64 oi] : Array Value).toList) (w.heap.size + 1 + 1) 27 #[.int .i64 (sp + mo), .int .i64 (ch), .bool false] := Blk.fars (Blk.sets ((hR3.alloc _).drew) _ _) (by omega) _ _
          have hQe : Blk ((((w3.alloc (.cells #[.int .i64 (sp + mo), .int .i64 (ch), .bool false] 27)).drew).setCells (w.heap.size + 1 + 1) 0 (#[.int .i64 (sp + mo), .int .i64 (ch), .bool false] : Array Value).toList).setCells (w.heap.size + 1 + 1 + 1) 0 (#[.int .i64 r, .int .i64 mo, .int .i64 oi] : Array Value).toList) (w.heap.size + 1 + 1 + 1) 47 #[.int .i64 r, .int .i64 mo, .int .i64 oi] := Blk.sets (Blk.fars ((hQ3.alloc _).drew) (by omega) _ _) _ _
          have hBe : Below w.heap.size w ((((w3.alloc (.cells #[.int .i64 (sp + mo), .int .i64 (ch), .bool false] 27)).drew).setCells (w.heap.size + 1 + 1) 0 (#[.int .i64 (sp + mo), .int .i64 (ch), .bool false] : Array Value).toList).setCells (w.heap.size + 1 + 1 + 1) 0 (#[.int .i64 r, .int .i64 mo, .int .i64 oi] : Array Value).toList) := below_sets (below_sets ((hb3.alloc (by omega) _).drew) (by omega) _ _) (by omega) _ _
          go_wp2
          exact bodyPost_ret (results_rows2 rfl _ rfl rfl hRe hQe uState iState uMoved iMoved) rfl ⟨rfl, hBe⟩
  · rw [if_pos rfl] at hdone
    cases hdone
    clear Hf1 Hf3 hf2 htt
    simp only [Int.sub_zero, Int.add_zero] at n1 ⊢
    rcases (show r = 0 ∨ r ≠ 0 by omega) with rfl | hr
    · cases tp
      all_goals
        go_enter Tryz.func107, Tryz.ntmps107
        go_wp2_with fail
        go_region
        go_wp2
        exact bodyPost_ret (v := .tuple #[.agg #[.int .i64 sp, .int .i64 _, .bool true], .agg #[.int .i64 0, .int .i64 0, .int .i64 0]]) (by simp [results, Tryz.results107, go_sem] <;> omega) rfl ⟨rfl, (by repeat (first | exact Below.refl _ _ | assumption | (refine Below.setCell ?_ (by first | omega | (simp; done) | (simp; omega)) _) | (refine Below.alloc ?_ (by first | omega | (simp; done) | (simp; omega)) _) | refine Below.drew ?_ | (refine below_thru ?_ (by assumption) (by first | omega | (simp; done) | (simp; omega))) | refine below_drewN ?_ _))⟩
    · have hr' : (r != 0) = true := by rw [bne_iff_ne]; exact hr
      clear hr
      cases tp
      all_goals
        go_enter Tryz.func107, Tryz.ntmps107
        go_wp2_with fail
        go_region
        go_wp2
        exact bodyPost_ret (v := .tuple #[.agg #[.int .i64 sp, .int .i64 _, .bool true], .agg #[.int .i64 r, .int .i64 0, .int .i64 0]]) (by simp [results, Tryz.results107, go_sem] <;> omega) rfl ⟨rfl, (by repeat (first | exact Below.refl _ _ | assumption | (refine Below.setCell ?_ (by first | omega | (simp; done) | (simp; omega)) _) | (refine Below.alloc ?_ (by first | omega | (simp; done) | (simp; omega)) _) | refine Below.drew ?_ | (refine below_thru ?_ (by assumption) (by first | omega | (simp; done) | (simp; omega))) | refine below_drewN ?_ _))⟩
end Go.Proofs.YtmhfnnpbnocafaaGreat
