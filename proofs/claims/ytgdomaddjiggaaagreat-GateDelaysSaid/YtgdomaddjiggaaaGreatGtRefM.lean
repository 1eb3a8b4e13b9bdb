/- The reference: a step that is done. The reference's Time. -/
import Derived.Test.YtgdomaddjiggaaaGreatGtRefJ
import Derived.Test.YtgdomaddjiggaaaGreatGtRow2
import Derived.Deep.DeepCutAuto
import Derived.Test.YtgdomaddjiggaaaGreatGtRefC
import Derived.Test.YtgdomaddjiggaaaGreatGtShutM
namespace Go.Proofs.YtgdomaddjiggaaaGreat
open Go.RowKit
set_option linter.unusedSimpArgs false
set_option linter.unusedVariables false

theorem wpl_s3 {ops : Array Oper} {rest : List Oper} {o : Oper} {a : Act} {w : World} {Q : Exit → Act → World → Prop} {x y : Operand} {b : Nat} {c0 c1 c2 v0 v1 v2 : Value} {t T : TypeId} (h : Blk w b t #[c0, c1, c2]) (hi : (Tryz.prog.info? T).map (·.size) = some 3) (hgd : o.guard = none) (ho : o.op = .store T x y) (hx : a.eval x = .pointer (some ⟨b, 0, none⟩)) (hy : a.eval y = .agg #[v0, v1, v2])
    (h0 : v0.oneCell' = true) (h1 : v1.oneCell' = true) (h2 : v2.oneCell' = true) (hk : ∀ W : World, Wrote w W b t #[v0, v1, v2] → wpList Tryz.prog ops Q rest (a.put o.dst undef) W) : wpList Tryz.prog ops Q (o :: rest) a w :=
  wpList_store_mid hgd _ x y ho b 0 #[v0, v1, v2] hx hy (Blk.there h (by show 0 + 3 ≤ 3; omega)) hi (by simp [h0, h1, h2])
    (hk _ ⟨Blk.sets h _ 0, fun g' t' cs' hne hb => Blk.fars hb hne _ _, fun B a hB hb => below_sets hb hB _ _, size_sets _ _ _⟩)

set_option maxRecDepth 100000 in
set_option maxHeartbeats 8000000 in
theorem rstepped_any (g : Ga) (s : Gs) (t : Gt) (r : Int) (w : World) (ha : g.At w w.heap.size) (hg : g.Ok) (hs : s.Ok g) (ht : t.Ok) :
    Calls Tryz.prog 74 #[g.v, s.v, t.v, .int .i64 r] w fun e w' => e = .returned (stepV g s t r) ∧ Below w.heap.size w w' := by
  have Ha := Lib.hid ha; clear ha
  obtain ⟨d0, d1, d4, d5, d2, d3⟩ := done_in hg hs t r
  have hc1 := hs.c1
  have hc0 := hs.c0
  have hp0 := hs.p0
  have hp1 := hs.p1
  have ht1 := hg.t1
  have pm0 := hg.pump0
  have pm1 := hg.pump1
  have cp1 := hg.cap1
  obtain ⟨tt, htt⟩ : ∃ tt, (if r = 0 then t else { t with order := 0 }) = tt := ⟨_, rfl⟩
  have htto : tt.Ok := by
    rw [← htt]
    split
    · exact ht
    · exact ⟨by simp, by simp, ht.a0, ht.a1, ht.b0, ht.b1⟩
  have hdone : doneF g s t r = movedF g s tt := by rw [done_moved, htt]
  have hfin : stepV g s t r = .tuple #[.agg #[.int .i64 (s.pos + (doneF g s t r).1), .int .i64 (if t.power = true then min (s.charge - (doneF g s t r).2 + g.pump) g.capacity else s.charge - (doneF g s t r).2), .bool s.bolted], .agg #[.int .i64 r, .int .i64 (doneF g s t r).1, .int .i64 (doneF g s t r).2]] := rfl
  rw [hfin]
  clear hfin
  have HM := Lib.hid (fun W h => rmoved_any g s tt W h hg hs htto)
  rw [← hdone] at HM
  clear hdone hg hs ht htto
  generalize doneF g s t r = dn at *
  obtain ⟨mo, oi⟩ := dn
  simp only at d0 d1 d2 d3 d4 d5 HM ⊢
  have htp : tt.power = t.power ∧ tt.outer = t.outer ∧ tt.inner = t.inner := by
    rw [← htt]
    split
    · exact ⟨rfl, rfl, rfl⟩
    · exact ⟨rfl, rfl, rfl⟩
  obtain ⟨ch, hch⟩ : ∃ ch, (if t.power = true then min (s.charge - oi + g.pump) g.capacity else s.charge - oi) = ch := ⟨_, rfl⟩
  rw [hch]
  have HM : Hid (∀ W : World, g.At W W.heap.size → Calls Tryz.prog 141 #[g.v, .agg #[.int .i64 s.pos, .int .i64 s.charge, .bool s.bolted], .agg #[.int .i64 tt.order, .bool t.power, .int .i64 t.outer, .int .i64 t.inner]] W fun e w' => e = .returned (.tuple #[.int .i64 mo, .int .i64 oi]) ∧ Below W.heap.size W w') := fun W h => by
    have := HM.out W h
    rw [show tt.v = .agg #[.int .i64 tt.order, .bool t.power, .int .i64 t.outer, .int .i64 t.inner] by rw [← htp.1, ← htp.2.1, ← htp.2.2]] at this
    exact this
  have w5 : IntKind.i64.wrap (s.pos + mo) = s.pos + mo := IntWalk.i64_in _ (by omega)
  have w6 : IntKind.i64.wrap (s.charge - oi) = s.charge - oi := IntWalk.i64_in _ (by omega)
  clear htp
  -- the order
  rcases (show r = 0 ∨ r ≠ 0 by omega) with hr | hr
  · subst hr
    have hto : tt.order = t.order := by rw [← htt]; rfl
    rw [hto] at HM
    clear htt hto
    go_enter Tryz.func74, Tryz.ntmps74
    go_wp2_with (with_reducible refine wpl_g (g := g) (((((Blk.new w _ _).alloc _).alloc _).alloc _).alloc _) rfl rfl rfl ?_)
    refine (HM.out _ (Ha.out.grow (by repeat (first | exact Below.refl _ _ | assumption | (refine Below.setCell ?_ (by first | omega | (simp; done) | (simp; omega)) _) | (refine Below.alloc ?_ (by first | omega | (simp; done) | (simp; omega)) _) | refine Below.drew ?_ | (refine below_thru ?_ (by assumption) (by first | omega | (simp; done) | (simp; omega))) | refine below_drewN ?_ _)))).mono ?_
    rintro e w1 ⟨rfl, hb1⟩
    obtain ⟨hc1, hf1⟩ := bcell hb1; have hz1 := hb1.size; (try simp at hz1)
    have hG1 : Blk w1 w.heap.size 33 (grow g) := Blk.thru (by (repeat (first | assumption | exact Blk.new _ _ _ | (refine Blk.new' _ _ _ ?_; (simp; done)) | refine Blk.drew ?_ | refine Blk.alloc ?_ _ | (refine Blk.fars ?_ ?_ _ _; rotate_left; (dsimp only; omega)) | (refine Blk.far ?_ ?_ _; rotate_left; (first | (dsimp only; omega) | (simp; done) | (simp; omega) | omega))))) hb1 (by simp <;> omega)
    have hS1 : Blk w1 (w.heap.size + 1) 42 #[.int .i64 s.pos, .int .i64 s.charge, .bool s.bolted] := Blk.thru (by (repeat (first | assumption | exact Blk.new _ _ _ | (refine Blk.new' _ _ _ ?_; (simp; done)) | refine Blk.drew ?_ | refine Blk.alloc ?_ _ | (refine Blk.fars ?_ ?_ _ _; rotate_left; (dsimp only; omega)) | (refine Blk.far ?_ ?_ _; rotate_left; (first | (dsimp only; omega) | (simp; done) | (simp; omega) | omega))))) hb1 (by simp <;> omega)
    have hT1 : Blk w1 (w.heap.size + 1 + 1) 49 #[.int .i64 t.order, .bool t.power, .int .i64 t.outer, .int .i64 t.inner] := Blk.thru (by (repeat (first | assumption | exact Blk.new _ _ _ | (refine Blk.new' _ _ _ ?_; (simp; done)) | refine Blk.drew ?_ | refine Blk.alloc ?_ _ | (refine Blk.fars ?_ ?_ _ _; rotate_left; (dsimp only; omega)) | (refine Blk.far ?_ ?_ _; rotate_left; (first | (dsimp only; omega) | (simp; done) | (simp; omega) | omega))))) hb1 (by simp <;> omega)
    have hR1 : Blk w1 (w.heap.size + 1 + 1 + 1) 42 #[.int .i64 0, .int .i64 0, .bool false] := Blk.thru (by (repeat (first | assumption | exact Blk.new _ _ _ | (refine Blk.new' _ _ _ ?_; (simp; done)) | refine Blk.drew ?_ | refine Blk.alloc ?_ _ | (refine Blk.fars ?_ ?_ _ _; rotate_left; (dsimp only; omega)) | (refine Blk.far ?_ ?_ _; rotate_left; (first | (dsimp only; omega) | (simp; done) | (simp; omega) | omega))))) hb1 (by simp <;> omega)
    have hQ1 : Blk w1 (w.heap.size + 1 + 1 + 1 + 1) 45 #[.int .i64 0, .int .i64 0, .int .i64 0] := Blk.thru (by (repeat (first | assumption | exact Blk.new _ _ _ | (refine Blk.new' _ _ _ ?_; (simp; done)) | refine Blk.drew ?_ | refine Blk.alloc ?_ _ | (refine Blk.fars ?_ ?_ _ _; rotate_left; (dsimp only; omega)) | (refine Blk.far ?_ ?_ _; rotate_left; (first | (dsimp only; omega) | (simp; done) | (simp; omega) | omega))))) hb1 (by simp <;> omega)
    have hw1 : Below w.heap.size w w1 := (by repeat (first | exact Below.refl _ _ | assumption | (refine Below.setCell ?_ (by first | omega | (simp; done) | (simp; omega)) _) | (refine Below.alloc ?_ (by first | omega | (simp; done) | (simp; omega)) _) | refine Below.drew ?_ | (refine below_thru ?_ (by assumption) (by first | omega | (simp; done) | (simp; omega))) | refine below_drewN ?_ _))
    have hl1 := hQ1.lt
    clear hb1 hc1 hf1
    obtain ⟨s0, s1, s2, z0, z1, z2⟩ := hS1.three
    obtain ⟨t0, t1, t2, t3⟩ := tcells_of hT1
    have c16 : w1.cell? ⟨w.heap.size, 16, none⟩ = some (.int .i64 g.pump) := hG1.cell 16
    have c17 : w1.cell? ⟨w.heap.size, 17, none⟩ = some (.int .i64 g.capacity) := hG1.cell 17
    cases hpw : t.power
    · have Hpw := Lib.hid hpw
      rw [hpw] at t1 hch
      simp only [Bool.false_eq_true, if_false] at hch
      subst hch
      clear hpw
      go_upto_region 7 with fail
      have hS7 : Blk ((w1.setCell ⟨w.heap.size + 1, 0, none⟩ (.int .i64 (s.pos + mo))).setCell ⟨w.heap.size + 1, 1, none⟩ (.int .i64 (s.charge - oi))) (w.heap.size + 1) 42 #[.int .i64 (s.pos + mo), .int .i64 (s.charge - oi), .bool s.bolted] := ((hS1.set_ 0 (.int .i64 (s.pos + mo))).set_ 1 (.int .i64 (s.charge - oi)))
      have hR7 : Blk ((w1.setCell ⟨w.heap.size + 1, 0, none⟩ (.int .i64 (s.pos + mo))).setCell ⟨w.heap.size + 1, 1, none⟩ (.int .i64 (s.charge - oi))) (w.heap.size + 1 + 1 + 1) 42 #[.int .i64 0, .int .i64 0, .bool false] := ((hR1.far (p := ⟨w.heap.size + 1, 0, none⟩) (by simp <;> omega) (.int .i64 (s.pos + mo))).far (p := ⟨w.heap.size + 1, 1, none⟩) (by simp <;> omega) (.int .i64 (s.charge - oi)))
      have hQ7 : Blk ((w1.setCell ⟨w.heap.size + 1, 0, none⟩ (.int .i64 (s.pos + mo))).setCell ⟨w.heap.size + 1, 1, none⟩ (.int .i64 (s.charge - oi))) (w.heap.size + 1 + 1 + 1 + 1) 45 #[.int .i64 0, .int .i64 0, .int .i64 0] := ((hQ1.far (p := ⟨w.heap.size + 1, 0, none⟩) (by simp <;> omega) (.int .i64 (s.pos + mo))).far (p := ⟨w.heap.size + 1, 1, none⟩) (by simp <;> omega) (.int .i64 (s.charge - oi)))
      have hw7 : Below w.heap.size w ((w1.setCell ⟨w.heap.size + 1, 0, none⟩ (.int .i64 (s.pos + mo))).setCell ⟨w.heap.size + 1, 1, none⟩ (.int .i64 (s.charge - oi))) := (by repeat (first | exact Below.refl _ _ | assumption | (refine Below.setCell ?_ (by first | omega | (simp; done) | (simp; omega)) _) | (refine Below.alloc ?_ (by first | omega | (simp; done) | (simp; omega)) _) | refine Below.drew ?_ | (refine below_thru ?_ (by assumption) (by first | omega | (simp; done) | (simp; omega))) | refine below_drewN ?_ _))
      generalize hW7 : (w1.setCell ⟨w.heap.size + 1, 0, none⟩ (.int .i64 (s.pos + mo))).setCell ⟨w.heap.size + 1, 1, none⟩ (.int .i64 (s.charge - oi)) = w7 at *
      clear hW7 s0 s1 s2 z0 z1 z2 t0 t1 t2 t3 c16 c17
      have hl7 := hQ7.lt
      obtain ⟨s0, s1, s2, _⟩ := hS7.three
      have hl71 := hS7.lt
      have HR7 := Lib.hid hR7
      have HQ7 := Lib.hid hQ7
      clear hR7 hQ7 hS7
      go_wp2_with (first | (with_reducible refine wpl_s3 (T := 42) HR7.out iState rfl rfl rfl rfl rfl rfl rfl ?_; intro W8 hW8; have HR8 := Lib.hid hW8.blk; have HQ8 := Lib.hid (hW8.far _ _ _ (by omega) HQ7.out); have Hw8 := Lib.hid (hW8.below _ _ (by omega) hw7); clear hW8) | (with_reducible refine wpl_s3 (T := 45) HQ8.out iMoved rfl rfl rfl rfl rfl rfl rfl ?_; intro W9 hW9; have HQ9 := Lib.hid hW9.blk; have HR9 := Lib.hid (hW9.far _ _ _ (by omega) HR8.out); have Hw9 := Lib.hid (hW9.below _ _ (by omega) Hw8.out); clear hW9))
      exact bodyPost_ret (results_rows2 rfl _ rfl rfl HR9.out HQ9.out uState iState uMoved iMoved) rfl ⟨rfl, Hw9.out⟩
    · have Hpw := Lib.hid hpw
      rw [hpw] at t1 hch
      simp only [if_true] at hch
      have y1 : (if g.capacity < s.charge - oi + g.pump then g.capacity else s.charge - oi + g.pump) = ch := by rw [← hch]; split <;> omega
      have w7' : IntKind.i64.wrap (s.charge - oi + g.pump) = s.charge - oi + g.pump := IntWalk.i64_in _ (by omega)
      clear hpw hch
      go_upto_region 7 with fail
      have hS7 : Blk (((w1.setCell ⟨w.heap.size + 1, 0, none⟩ (.int .i64 (s.pos + mo))).setCell ⟨w.heap.size + 1, 1, none⟩ (.int .i64 (s.charge - oi))).setCell ⟨w.heap.size + 1, 1, none⟩ (.int .i64 ch)) (w.heap.size + 1) 42 #[.int .i64 (s.pos + mo), .int .i64 ch, .bool s.bolted] := (((hS1.set_ 0 (.int .i64 (s.pos + mo))).set_ 1 (.int .i64 (s.charge - oi))).set_ 1 (.int .i64 ch))
      have hR7 : Blk (((w1.setCell ⟨w.heap.size + 1, 0, none⟩ (.int .i64 (s.pos + mo))).setCell ⟨w.heap.size + 1, 1, none⟩ (.int .i64 (s.charge - oi))).setCell ⟨w.heap.size + 1, 1, none⟩ (.int .i64 ch)) (w.heap.size + 1 + 1 + 1) 42 #[.int .i64 0, .int .i64 0, .bool false] := (((hR1.far (p := ⟨w.heap.size + 1, 0, none⟩) (by simp <;> omega) (.int .i64 (s.pos + mo))).far (p := ⟨w.heap.size + 1, 1, none⟩) (by simp <;> omega) (.int .i64 (s.charge - oi))).far (p := ⟨w.heap.size + 1, 1, none⟩) (by simp <;> omega) (.int .i64 ch))
      have hQ7 : Blk (((w1.setCell ⟨w.heap.size + 1, 0, none⟩ (.int .i64 (s.pos + mo))).setCell ⟨w.heap.size + 1, 1, none⟩ (.int .i64 (s.charge - oi))).setCell ⟨w.heap.size + 1, 1, none⟩ (.int .i64 ch)) (w.heap.size + 1 + 1 + 1 + 1) 45 #[.int .i64 0, .int .i64 0, .int .i64 0] := (((hQ1.far (p := ⟨w.heap.size + 1, 0, none⟩) (by simp <;> omega) (.int .i64 (s.pos + mo))).far (p := ⟨w.heap.size + 1, 1, none⟩) (by simp <;> omega) (.int .i64 (s.charge - oi))).far (p := ⟨w.heap.size + 1, 1, none⟩) (by simp <;> omega) (.int .i64 ch))
      have hw7 : Below w.heap.size w (((w1.setCell ⟨w.heap.size + 1, 0, none⟩ (.int .i64 (s.pos + mo))).setCell ⟨w.heap.size + 1, 1, none⟩ (.int .i64 (s.charge - oi))).setCell ⟨w.heap.size + 1, 1, none⟩ (.int .i64 ch)) := (by repeat (first | exact Below.refl _ _ | assumption | (refine Below.setCell ?_ (by first | omega | (simp; done) | (simp; omega)) _) | (refine Below.alloc ?_ (by first | omega | (simp; done) | (simp; omega)) _) | refine Below.drew ?_ | (refine below_thru ?_ (by assumption) (by first | omega | (simp; done) | (simp; omega))) | refine below_drewN ?_ _))
      generalize hW7 : ((w1.setCell ⟨w.heap.size + 1, 0, none⟩ (.int .i64 (s.pos + mo))).setCell ⟨w.heap.size + 1, 1, none⟩ (.int .i64 (s.charge - oi))).setCell ⟨w.heap.size + 1, 1, none⟩ (.int .i64 ch) = w7 at *
      clear hW7 s0 s1 s2 z0 z1 z2 t0 t1 t2 t3 c16 c17
      have hl7 := hQ7.lt
      obtain ⟨s0, s1, s2, _⟩ := hS7.three
      have hl71 := hS7.lt
      have HR7 := Lib.hid hR7
      have HQ7 := Lib.hid hQ7
      clear hR7 hQ7 hS7
      go_wp2_with (first | (with_reducible refine wpl_s3 (T := 42) HR7.out iState rfl rfl rfl rfl rfl rfl rfl ?_; intro W8 hW8; have HR8 := Lib.hid hW8.blk; have HQ8 := Lib.hid (hW8.far _ _ _ (by omega) HQ7.out); have Hw8 := Lib.hid (hW8.below _ _ (by omega) hw7); clear hW8) | (with_reducible refine wpl_s3 (T := 45) HQ8.out iMoved rfl rfl rfl rfl rfl rfl rfl ?_; intro W9 hW9; have HQ9 := Lib.hid hW9.blk; have HR9 := Lib.hid (hW9.far _ _ _ (by omega) HR8.out); have Hw9 := Lib.hid (hW9.below _ _ (by omega) Hw8.out); clear hW9))
      exact bodyPost_ret (results_rows2 rfl _ rfl rfl HR9.out HQ9.out uState iState uMoved iMoved) rfl ⟨rfl, Hw9.out⟩
  · have hto : tt.order = 0 := by rw [← htt, if_neg hr]
    rw [hto] at HM
    have hr' : (r != 0) = true := by rw [bne_iff_ne]; exact hr
    clear htt hto hr
    go_enter Tryz.func74, Tryz.ntmps74
    go_wp2_with (with_reducible refine wpl_g (g := g) (((((Blk.new w _ _).alloc _).alloc _).alloc _).alloc _) rfl rfl rfl ?_)
    refine (HM.out _ (Ha.out.grow (by repeat (first | exact Below.refl _ _ | assumption | (refine Below.setCell ?_ (by first | omega | (simp; done) | (simp; omega)) _) | (refine Below.alloc ?_ (by first | omega | (simp; done) | (simp; omega)) _) | refine Below.drew ?_ | (refine below_thru ?_ (by assumption) (by first | omega | (simp; done) | (simp; omega))) | refine below_drewN ?_ _)))).mono ?_
    rintro e w1 ⟨rfl, hb1⟩
    obtain ⟨hc1, hf1⟩ := bcell hb1; have hz1 := hb1.size; (try simp at hz1)
    have hG1 : Blk w1 w.heap.size 33 (grow g) := Blk.thru (by (repeat (first | assumption | exact Blk.new _ _ _ | (refine Blk.new' _ _ _ ?_; (simp; done)) | refine Blk.drew ?_ | refine Blk.alloc ?_ _ | (refine Blk.fars ?_ ?_ _ _; rotate_left; (dsimp only; omega)) | (refine Blk.far ?_ ?_ _; rotate_left; (first | (dsimp only; omega) | (simp; done) | (simp; omega) | omega))))) hb1 (by simp <;> omega)
    have hS1 : Blk w1 (w.heap.size + 1) 42 #[.int .i64 s.pos, .int .i64 s.charge, .bool s.bolted] := Blk.thru (by (repeat (first | assumption | exact Blk.new _ _ _ | (refine Blk.new' _ _ _ ?_; (simp; done)) | refine Blk.drew ?_ | refine Blk.alloc ?_ _ | (refine Blk.fars ?_ ?_ _ _; rotate_left; (dsimp only; omega)) | (refine Blk.far ?_ ?_ _; rotate_left; (first | (dsimp only; omega) | (simp; done) | (simp; omega) | omega))))) hb1 (by simp <;> omega)
    have hT1 : Blk w1 (w.heap.size + 1 + 1) 49 #[.int .i64 0, .bool t.power, .int .i64 t.outer, .int .i64 t.inner] := Blk.thru (by (repeat (first | assumption | exact Blk.new _ _ _ | (refine Blk.new' _ _ _ ?_; (simp; done)) | refine Blk.drew ?_ | refine Blk.alloc ?_ _ | (refine Blk.fars ?_ ?_ _ _; rotate_left; (dsimp only; omega)) | (refine Blk.far ?_ ?_ _; rotate_left; (first | (dsimp only; omega) | (simp; done) | (simp; omega) | omega))))) hb1 (by simp <;> omega)
    have hR1 : Blk w1 (w.heap.size + 1 + 1 + 1) 42 #[.int .i64 0, .int .i64 0, .bool false] := Blk.thru (by (repeat (first | assumption | exact Blk.new _ _ _ | (refine Blk.new' _ _ _ ?_; (simp; done)) | refine Blk.drew ?_ | refine Blk.alloc ?_ _ | (refine Blk.fars ?_ ?_ _ _; rotate_left; (dsimp only; omega)) | (refine Blk.far ?_ ?_ _; rotate_left; (first | (dsimp only; omega) | (simp; done) | (simp; omega) | omega))))) hb1 (by simp <;> omega)
    have hQ1 : Blk w1 (w.heap.size + 1 + 1 + 1 + 1) 45 #[.int .i64 0, .int .i64 0, .int .i64 0] := Blk.thru (by (repeat (first | assumption | exact Blk.new _ _ _ | (refine Blk.new' _ _ _ ?_; (simp; done)) | refine Blk.drew ?_ | refine Blk.alloc ?_ _ | (refine Blk.fars ?_ ?_ _ _; rotate_left; (dsimp only; omega)) | (refine Blk.far ?_ ?_ _; rotate_left; (first | (dsimp only; omega) | (simp; done) | (simp; omega) | omega))))) hb1 (by simp <;> omega)
    have hw1 : Below w.heap.size w w1 := (by repeat (first | exact Below.refl _ _ | assumption | (refine Below.setCell ?_ (by first | omega | (simp; done) | (simp; omega)) _) | (refine Below.alloc ?_ (by first | omega | (simp; done) | (simp; omega)) _) | refine Below.drew ?_ | (refine below_thru ?_ (by assumption) (by first | omega | (simp; done) | (simp; omega))) | refine below_drewN ?_ _))
    have hl1 := hQ1.lt
    clear hb1 hc1 hf1
    obtain ⟨s0, s1, s2, z0, z1, z2⟩ := hS1.three
    obtain ⟨t0, t1, t2, t3⟩ := tcells_of (t := ⟨0, t.power, t.outer, t.inner⟩) hT1
    have c16 : w1.cell? ⟨w.heap.size, 16, none⟩ = some (.int .i64 g.pump) := hG1.cell 16
    have c17 : w1.cell? ⟨w.heap.size, 17, none⟩ = some (.int .i64 g.capacity) := hG1.cell 17
    cases hpw : t.power
    · have Hpw := Lib.hid hpw
      rw [hpw] at t1 hch
      simp only [Bool.false_eq_true, if_false] at hch
      subst hch
      clear hpw
      go_upto_region 7 with fail
      have hS7 : Blk ((w1.setCell ⟨w.heap.size + 1, 0, none⟩ (.int .i64 (s.pos + mo))).setCell ⟨w.heap.size + 1, 1, none⟩ (.int .i64 (s.charge - oi))) (w.heap.size + 1) 42 #[.int .i64 (s.pos + mo), .int .i64 (s.charge - oi), .bool s.bolted] := ((hS1.set_ 0 (.int .i64 (s.pos + mo))).set_ 1 (.int .i64 (s.charge - oi)))
      have hR7 : Blk ((w1.setCell ⟨w.heap.size + 1, 0, none⟩ (.int .i64 (s.pos + mo))).setCell ⟨w.heap.size + 1, 1, none⟩ (.int .i64 (s.charge - oi))) (w.heap.size + 1 + 1 + 1) 42 #[.int .i64 0, .int .i64 0, .bool false] := ((hR1.far (p := ⟨w.heap.size + 1, 0, none⟩) (by simp <;> omega) (.int .i64 (s.pos + mo))).far (p := ⟨w.heap.size + 1, 1, none⟩) (by simp <;> omega) (.int .i64 (s.charge - oi)))
      have hQ7 : Blk ((w1.setCell ⟨w.heap.size + 1, 0, none⟩ (.int .i64 (s.pos + mo))).setCell ⟨w.heap.size + 1, 1, none⟩ (.int .i64 (s.charge - oi))) (w.heap.size + 1 + 1 + 1 + 1) 45 #[.int .i64 0, .int .i64 0, .int .i64 0] := ((hQ1.far (p := ⟨w.heap.size + 1, 0, none⟩) (by simp <;> omega) (.int .i64 (s.pos + mo))).far (p := ⟨w.heap.size + 1, 1, none⟩) (by simp <;> omega) (.int .i64 (s.charge - oi)))
      have hw7 : Below w.heap.size w ((w1.setCell ⟨w.heap.size + 1, 0, none⟩ (.int .i64 (s.pos + mo))).setCell ⟨w.heap.size + 1, 1, none⟩ (.int .i64 (s.charge - oi))) := (by repeat (first | exact Below.refl _ _ | assumption | (refine Below.setCell ?_ (by first | omega | (simp; done) | (simp; omega)) _) | (refine Below.alloc ?_ (by first | omega | (simp; done) | (simp; omega)) _) | refine Below.drew ?_ | (refine below_thru ?_ (by assumption) (by first | omega | (simp; done) | (simp; omega))) | refine below_drewN ?_ _))
      generalize hW7 : (w1.setCell ⟨w.heap.size + 1, 0, none⟩ (.int .i64 (s.pos + mo))).setCell ⟨w.heap.size + 1, 1, none⟩ (.int .i64 (s.charge - oi)) = w7 at *
      clear hW7 s0 s1 s2 z0 z1 z2 t0 t1 t2 t3 c16 c17
      have hl7 := hQ7.lt
      obtain ⟨s0, s1, s2, _⟩ := hS7.three
      have hl71 := hS7.lt
      have HR7 := Lib.hid hR7
      have HQ7 := Lib.hid hQ7
      clear hR7 hQ7 hS7
      go_wp2_with (first | (with_reducible refine wpl_s3 (T := 42) HR7.out iState rfl rfl rfl rfl rfl rfl rfl ?_; intro W8 hW8; have HR8 := Lib.hid hW8.blk; have HQ8 := Lib.hid (hW8.far _ _ _ (by omega) HQ7.out); have Hw8 := Lib.hid (hW8.below _ _ (by omega) hw7); clear hW8) | (with_reducible refine wpl_s3 (T := 45) HQ8.out iMoved rfl rfl rfl rfl rfl rfl rfl ?_; intro W9 hW9; have HQ9 := Lib.hid hW9.blk; have HR9 := Lib.hid (hW9.far _ _ _ (by omega) HR8.out); have Hw9 := Lib.hid (hW9.below _ _ (by omega) Hw8.out); clear hW9))
      exact bodyPost_ret (results_rows2 rfl _ rfl rfl HR9.out HQ9.out uState iState uMoved iMoved) rfl ⟨rfl, Hw9.out⟩
    · have Hpw := Lib.hid hpw
      rw [hpw] at t1 hch
      simp only [if_true] at hch
      have y1 : (if g.capacity < s.charge - oi + g.pump then g.capacity else s.charge - oi + g.pump) = ch := by rw [← hch]; split <;> omega
      have w7' : IntKind.i64.wrap (s.charge - oi + g.pump) = s.charge - oi + g.pump := IntWalk.i64_in _ (by omega)
      clear hpw hch
      go_upto_region 7 with fail
      have hS7 : Blk (((w1.setCell ⟨w.heap.size + 1, 0, none⟩ (.int .i64 (s.pos + mo))).setCell ⟨w.heap.size + 1, 1, none⟩ (.int .i64 (s.charge - oi))).setCell ⟨w.heap.size + 1, 1, none⟩ (.int .i64 ch)) (w.heap.size + 1) 42 #[.int .i64 (s.pos + mo), .int .i64 ch, .bool s.bolted] := (((hS1.set_ 0 (.int .i64 (s.pos + mo))).set_ 1 (.int .i64 (s.charge - oi))).set_ 1 (.int .i64 ch))
      have hR7 : Blk (((w1.setCell ⟨w.heap.size + 1, 0, none⟩ (.int .i64 (s.pos + mo))).setCell ⟨w.heap.size + 1, 1, none⟩ (.int .i64 (s.charge - oi))).setCell ⟨w.heap.size + 1, 1, none⟩ (.int .i64 ch)) (w.heap.size + 1 + 1 + 1) 42 #[.int .i64 0, .int .i64 0, .bool false] := (((hR1.far (p := ⟨w.heap.size + 1, 0, none⟩) (by simp <;> omega) (.int .i64 (s.pos + mo))).far (p := ⟨w.heap.size + 1, 1, none⟩) (by simp <;> omega) (.int .i64 (s.charge - oi))).far (p := ⟨w.heap.size + 1, 1, none⟩) (by simp <;> omega) (.int .i64 ch))
      have hQ7 : Blk (((w1.setCell ⟨w.heap.size + 1, 0, none⟩ (.int .i64 (s.pos + mo))).setCell ⟨w.heap.size + 1, 1, none⟩ (.int .i64 (s.charge - oi))).setCell ⟨w.heap.size + 1, 1, none⟩ (.int .i64 ch)) (w.heap.size + 1 + 1 + 1 + 1) 45 #[.int .i64 0, .int .i64 0, .int .i64 0] := (((hQ1.far (p := ⟨w.heap.size + 1, 0, none⟩) (by simp <;> omega) (.int .i64 (s.pos + mo))).far (p := ⟨w.heap.size + 1, 1, none⟩) (by simp <;> omega) (.int .i64 (s.charge - oi))).far (p := ⟨w.heap.size + 1, 1, none⟩) (by simp <;> omega) (.int .i64 ch))
      have hw7 : Below w.heap.size w (((w1.setCell ⟨w.heap.size + 1, 0, none⟩ (.int .i64 (s.pos + mo))).setCell ⟨w.heap.size + 1, 1, none⟩ (.int .i64 (s.charge - oi))).setCell ⟨w.heap.size + 1, 1, none⟩ (.int .i64 ch)) := (by repeat (first | exact Below.refl _ _ | assumption | (refine Below.setCell ?_ (by first | omega | (simp; done) | (simp; omega)) _) | (refine Below.alloc ?_ (by first | omega | (simp; done) | (simp; omega)) _) | refine Below.drew ?_ | (refine below_thru ?_ (by assumption) (by first | omega | (simp; done) | (simp; omega))) | refine below_drewN ?_ _))
      generalize hW7 : ((w1.setCell ⟨w.heap.size + 1, 0, none⟩ (.int .i64 (s.pos + mo))).setCell ⟨w.heap.size + 1, 1, none⟩ (.int .i64 (s.charge - oi))).setCell ⟨w.heap.size + 1, 1, none⟩ (.int .i64 ch) = w7 at *
      clear hW7 s0 s1 s2 z0 z1 z2 t0 t1 t2 t3 c16 c17
      have hl7 := hQ7.lt
      obtain ⟨s0, s1, s2, _⟩ := hS7.three
      have hl71 := hS7.lt
      have HR7 := Lib.hid hR7
      have HQ7 := Lib.hid hQ7
      clear hR7 hQ7 hS7
      go_wp2_with (first | (with_reducible refine wpl_s3 (T := 42) HR7.out iState rfl rfl rfl rfl rfl rfl rfl ?_; intro W8 hW8; have HR8 := Lib.hid hW8.blk; have HQ8 := Lib.hid (hW8.far _ _ _ (by omega) HQ7.out); have Hw8 := Lib.hid (hW8.below _ _ (by omega) hw7); clear hW8) | (with_reducible refine wpl_s3 (T := 45) HQ8.out iMoved rfl rfl rfl rfl rfl rfl rfl ?_; intro W9 hW9; have HQ9 := Lib.hid hW9.blk; have HR9 := Lib.hid (hW9.far _ _ _ (by omega) HR8.out); have Hw9 := Lib.hid (hW9.below _ _ (by omega) Hw8.out); clear hW9))
      exact bodyPost_ret (results_rows2 rfl _ rfl rfl HR9.out HQ9.out uState iState uMoved iMoved) rfl ⟨rfl, Hw9.out⟩
end Go.Proofs.YtgdomaddjiggaaaGreat

namespace Go.Proofs.YtgdomaddjiggaaaGreat
open Go.RowKit
set_option linter.unusedSimpArgs false
set_option linter.unusedVariables false

theorem one_end {t : Gt} {k : Nat} {m : Ga × Gs} (h : m.2.pos < m.1.travel) : oneT t 0 k m = (0, 9) := by
  have hs : ¬ shutB [m] 1 = true := fun hc => (shutB_is [m] 1 rfl).1 hc m (by simp) h
  unfold oneT
  rw [toShutF, if_neg hs]

set_option maxRecDepth 100000 in
set_option maxHeartbeats 8000000 in
theorem rTime_any (g : Ga) (s : Gs) (outer inner : Int) (power : Bool) (w : World) (hg : g.At w w.heap.size) :
    Calls Tryz.prog 35 #[g.v, s.v, .int .i64 outer, .int .i64 inner, .bool power] w fun e w' => e = .returned (.tuple #[.int .i64 (timeR g s ⟨1, power, outer, inner⟩).1, .int .i64 (timeR g s ⟨1, power, outer, inner⟩).2]) ∧ Below w.heap.size w w' := by
  obtain ⟨t, ht⟩ : ∃ t : Gt, t = ⟨1, power, outer, inner⟩ := ⟨_, rfl⟩
  rw [← ht]
  have hto : t.order = 1 ∧ t.power = power ∧ t.outer = outer ∧ t.inner = inner := by subst ht; exact ⟨rfl, rfl, rfl, rfl⟩
  have Hg := Lib.hid hg
  have HC := Lib.hid (fun W h => rCheck_any g W h)
  have HV := Lib.hid (fun W => rvalid_any g s t W)
  have htv : t.v = .agg #[.int .i64 1, .bool power, .int .i64 outer, .int .i64 inner] := by rw [ht]
  rw [htv] at HV
  have he := step_valid g s t
  have hok : (stepFt g s t).e = 0 → g.Ok ∧ s.Ok g ∧ t.Ok := fun h => step_ok hg h
  have hr : timeR g s t = if (stepFt g s t).e = 0 then oneT t 2000 0 (g, s) else (0, (stepFt g s t).e) := rfl
  generalize timeR g s t = R at *
  generalize (stepFt g s t).e = fe at *
  obtain ⟨fp, fa, ge, hfl⟩ : ∃ fp fa ge, gateF g = ⟨fp, fa, ge⟩ := ⟨_, _, _, rfl⟩
  rw [hfl] at HC he
  have HC := Lib.hid (show ∀ W, g.At W W.heap.size → Calls Tryz.prog 23 #[g.v] W fun e w' => e = .returned (.tuple #[.int .i64 fp, .int .i64 fa, .int .i64 ge]) ∧ Below W.heap.size W w' from HC.out)
  simp only at he
  generalize validR g s t = ve at *
  clear hfl hg
  by_cases h0 : ge = 0
  · subst h0
    rw [if_pos rfl] at he
    subst he
    by_cases h1 : fe = 0
    · subst h1
      rw [if_pos rfl] at hr
      obtain ⟨hgo, hso, hto'⟩ := hok rfl
      have HR := Lib.hid hr
      have HSt := Lib.hid (fun (u : Gs) r W h (hu : u.Ok g) => rstepped_any g u t r W h hgo hu hto')
      have HBo := Lib.hid (fun (u : Gs) W => rbolted_any u t W)
      rw [htv] at HSt HBo
      have Hgo := Lib.hid hgo
      have Hso := Lib.hid hso
      have Ht := Lib.hid ht
      have Hto := Lib.hid hto.1
      clear hr hok hgo hso hto' ht hto htv
      go_enter Tryz.func35, Tryz.ntmps35
      go_wp2_with (with_reducible refine wpl_g (g := g) (((Blk.new w _ _).alloc _).alloc _) rfl rfl rfl ?_)
      refine (HC.out _ (Hg.out.grow (by repeat (first | exact Below.refl _ _ | assumption | (refine Below.setCell ?_ (by first | omega | (simp; done) | (simp; omega)) _) | (refine Below.alloc ?_ (by first | omega | (simp; done) | (simp; omega)) _) | refine Below.drew ?_ | (refine below_thru ?_ (by assumption) (by first | omega | (simp; done) | (simp; omega))) | refine below_drewN ?_ _)))).mono ?_
      rintro e w1 ⟨rfl, hb1⟩
      obtain ⟨hc1, hf1⟩ := bcell hb1; have hz1 := hb1.size; (try simp at hz1)
      have hG1 : Blk w1 w.heap.size 33 (grow g) := Blk.thru (by (repeat (first | assumption | exact Blk.new _ _ _ | (refine Blk.new' _ _ _ ?_; (simp; done)) | refine Blk.drew ?_ | refine Blk.alloc ?_ _ | (refine Blk.fars ?_ ?_ _ _; rotate_left; (dsimp only; omega)) | (refine Blk.far ?_ ?_ _; rotate_left; (first | (dsimp only; omega) | (simp; done) | (simp; omega) | omega))))) hb1 (by simp <;> omega)
      have hS1 : Blk w1 (w.heap.size + 1) 42 #[.int .i64 s.pos, .int .i64 s.charge, .bool s.bolted] := Blk.thru (by (repeat (first | assumption | exact Blk.new _ _ _ | (refine Blk.new' _ _ _ ?_; (simp; done)) | refine Blk.drew ?_ | refine Blk.alloc ?_ _ | (refine Blk.fars ?_ ?_ _ _; rotate_left; (dsimp only; omega)) | (refine Blk.far ?_ ?_ _; rotate_left; (first | (dsimp only; omega) | (simp; done) | (simp; omega) | omega))))) hb1 (by simp <;> omega)
      have hT1 : Blk w1 (w.heap.size + 1 + 1) 49 #[.int .i64 1, .bool power, .int .i64 outer, .int .i64 inner] := Blk.thru (by (repeat (first | assumption | exact Blk.new _ _ _ | (refine Blk.new' _ _ _ ?_; (simp; done)) | refine Blk.drew ?_ | refine Blk.alloc ?_ _ | (refine Blk.fars ?_ ?_ _ _; rotate_left; (dsimp only; omega)) | (refine Blk.far ?_ ?_ _; rotate_left; (first | (dsimp only; omega) | (simp; done) | (simp; omega) | omega))))) hb1 (by simp <;> omega)
      have hw1 : Below w.heap.size w w1 := (by repeat (first | exact Below.refl _ _ | assumption | (refine Below.setCell ?_ (by first | omega | (simp; done) | (simp; omega)) _) | (refine Below.alloc ?_ (by first | omega | (simp; done) | (simp; omega)) _) | refine Below.drew ?_ | (refine below_thru ?_ (by assumption) (by first | omega | (simp; done) | (simp; omega))) | refine below_drewN ?_ _))
      have hl1 := hT1.lt
      have hl11 := hS1.lt
      clear hb1 hc1 hf1
      obtain ⟨s0, s1, s2, _⟩ := hS1.three
      obtain ⟨t0, t1, t2, t3⟩ := tcells_of (t := ⟨1, power, outer, inner⟩) hT1
      have HG1 := Lib.hid hG1
      clear hG1
      go_wp2_with (with_reducible refine wpl_g (g := g) (b := w.heap.size) (t := 33) HG1.out rfl rfl rfl ?_)
      refine (HV.out _).mono ?_
      rintro e w2 ⟨rfl, hb2⟩
      have hG2 := Lib.hid (HG1.out.thru hb2 HG1.out.lt)
      have hS2 := Lib.hid (hS1.thru hb2 hS1.lt)
      have hT2 := Lib.hid (hT1.thru hb2 hT1.lt)
      have hw2 : Below w.heap.size w w2 := hw1.trans (hb2.mono hw1.size)
      clear hb2 s0 s1 s2 t0 t1 t2 t3 hS1 hT1
      go_wp2
      go_loopw [16] (fun i wr => ∃ (k : Nat) (u : Gs), k ≤ 2001 ∧ i = .int .i64 k ∧ Hid (u.Ok g ∧ ((k ≤ 2000 ∧ R = oneT t (2000 - k) k (g, u)) ∨ (k = 2001 ∧ R = (0, 9)))) ∧ Hid (Blk wr w.heap.size 33 (grow g)) ∧ Hid (Blk wr (w.heap.size + 1) 42 #[.int .i64 u.pos, .int .i64 u.charge, .bool u.bolted]) ∧ Hid (Blk wr (w.heap.size + 1 + 1) 49 #[.int .i64 1, .bool power, .int .i64 outer, .int .i64 inner]) ∧ Below w.heap.size w wr)
        (fun i _ => 2001 - (intOf i).toNat)
      case atStart => exact ⟨0, s, by omega, rfl, ⟨Hso.out, .inl ⟨by omega, HR.out⟩⟩, hG2.out, hS2.out, hT2.out, hw2⟩
      case round =>
        obtain ⟨k, u, hk, rfl, hru, hbg, hbs, hbt, hbr⟩ := hrel
        have hzt := hbt.out.lt
        have hzs := hbs.out.lt
        have hzg := hbg.out.lt
        have k2 : wr.cell? ⟨w.heap.size, 2, none⟩ = some (.int .i64 g.travel) := hbg.out.cell 2
        obtain ⟨s0, s1, s2, _⟩ := hbs.out.three
        by_cases hlt : k ≤ 2000
        · have hR : R = oneT t (2000 - k) k (g, u) := by
            rcases hru.out.2 with h | h
            · exact h.2
            · omega
          have HR1 := Lib.hid hR
          by_cases hp : u.pos = g.travel
          · have hv : R = ((k : Int), 0) := by rw [hR, one_shut (m := (g, u)) (show ¬ u.pos < g.travel by omega)]
            have Hv := Lib.hid hv
            have q : (u.pos == g.travel) = true := by rw [beq_iff_eq]; exact hp
            clear hv hR hp
            go_wp2
            go_ret2
            exact ⟨by rw [Hv.out]; rfl, hbr⟩
          · have q : (u.pos == g.travel) = false := by rw [beq_eq_false_iff_ne]; exact hp
            have Hp := Lib.hid hp
            have Hup := Lib.hid hru.out.1.p1
            have HSk := Lib.hid (fun W h => HSt.out u (lockF u t) W h hru.out.1)
            have HBk := Lib.hid (fun W => HBo.out u W)
            have HSk : Hid (∀ W : World, g.At W W.heap.size → Calls Tryz.prog 74 #[g.v, .agg #[.int .i64 u.pos, .int .i64 u.charge, .bool u.bolted], .agg #[.int .i64 1, .bool power, .int .i64 outer, .int .i64 inner], .int .i64 (lockF u t)] W fun e w' => e = .returned (.tuple #[.agg #[.int .i64 (afterF g u t (lockF u t)).pos, .int .i64 (afterF g u t (lockF u t)).charge, .bool (afterF g u t (lockF u t)).bolted], .agg #[.int .i64 (cameF g u t (lockF u t)).refused, .int .i64 (cameF g u t (lockF u t)).moved, .int .i64 (cameF g u t (lockF u t)).oil]]) ∧ Below W.heap.size W w') := HSk.out
            have Hnx := Lib.hid (show (afterF g u t (lockF u t)).Ok g ∧ ((k + 1 ≤ 2000 ∧ R = oneT t (2000 - (k + 1)) (k + 1) (g, afterF g u t (lockF u t))) ∨ (k + 1 = 2001 ∧ R = (0, 9))) from ⟨after_ok Hgo.out hru.out.1 t _, by
              have hlp : u.pos < g.travel := by have := Hup.out; have := Hp.out; omega
              rcases (show k = 2000 ∨ k < 2000 by omega) with h | h
              · subst h
                right
                refine ⟨rfl, ?_⟩
                rw [HR1.out]
                exact one_end (m := (g, u)) hlp
              · left
                refine ⟨by omega, ?_⟩
                rw [HR1.out, show 2000 - k = (2000 - (k + 1)) + 1 by omega, one_step (m := (g, u)) hlp]
                rfl⟩)
            generalize lockF u t = lk at *
            generalize afterF g u t lk = af at *
            generalize cameF g u t lk = cm at *
            clear hR hp hru
            have hbgd : Blk wr.drew w.heap.size 33 (grow g) := hbg.out
            have hbtd : Blk wr.drew (w.heap.size + 1 + 1) 49 #[.int .i64 1, .bool power, .int .i64 outer, .int .i64 inner] := hbt.out
            go_wp2_with fail
            refine wp_region_held (S := fun W' => Blk W' w.heap.size 33 (grow g) ∧ Blk W' (w.heap.size + 1 + 1) 49 #[.int .i64 1, .bool power, .int .i64 outer, .int .i64 inner]) (by kernel_rfl) (by exact ⟨hbgd, hbtd⟩) (fun hHeld => ?_)
            refine wpAnyH_take (i := 0) (v := g.v) rfl (by kernel_rfl) (by kernel_rfl) (by kernel_rfl) (fun _ _ _ h => h) (Or.inl ⟨by rfl, fun w hSw => ld_g rfl rfl hSw.1⟩) hHeld ?_
            (try simp only [Act.put, List.setIfInBounds_toArray, List.set_cons_zero, List.set_cons_succ])
            refine wpAnyH_take (i := 2) (v := ?_) rfl (by kernel_rfl) (by kernel_rfl) (by kernel_rfl) (fun _ _ _ h => h) (Or.inl ⟨by rfl, ?_⟩) hHeld ?_
            rotate_left
            · intro w hSw; (try dsimp only at hSw); obtain ⟨t0, t1, t2, t3⟩ := tcells_of (t := ⟨1, power, outer, inner⟩) hSw.2; go_simp; (try with_reducible rfl)
            (try simp only [Act.put, List.setIfInBounds_toArray, List.set_cons_zero, List.set_cons_succ])
            refine wpAnyH_take (i := 4) (v := ?_) rfl (by kernel_rfl) (by kernel_rfl) (by kernel_rfl) (fun _ _ _ h => h) (Or.inl ⟨by rfl, ?_⟩) hHeld ?_
            rotate_left
            · intro w hSw; (try dsimp only at hSw); obtain ⟨t0, t1, t2, t3⟩ := tcells_of (t := ⟨1, power, outer, inner⟩) hSw.2; go_simp; (try with_reducible rfl)
            (try simp only [Act.put, List.setIfInBounds_toArray, List.set_cons_zero, List.set_cons_succ])
            (try simp only [List.getElem_toArray, List.getElem_cons_zero, List.getElem_cons_succ, Act.put, List.setIfInBounds_toArray, List.set_cons_zero, List.set_cons_succ])
            refine wpAnyH_ready (rs := [1, 3]) (by kernel_rfl) (by simp) ?_
            refine (AllReadyH.cons rfl (fun K hK => ?_) (AllReadyH.cons rfl (fun K hK => ?_) AllReadyH.nil))
            · have hS0 := hHeld
              go_simp
              (try dsimp only)
              refine hK.out _ _ (by ((go_split_ands; (try dsimp only); (repeat' apply And.intro) <;> first | assumption | (simp; done) | ((repeat (first | (with_reducible refine keep_set ?_ (by first | omega | (simp; done) | (simp; omega))) | (with_reducible refine keep_new ?_ _) | (with_reducible refine keep_drew ?_))); assumption) | (refine (hc9 _ _ (by first | omega | (simp; omega))).trans ?_; assumption) | (refine (hc8 _ _ (by first | omega | (simp; omega))).trans ?_; assumption) | (refine (hc7 _ _ (by first | omega | (simp; omega))).trans ?_; assumption) | (refine (hc6 _ _ (by first | omega | (simp; omega))).trans ?_; assumption) | (refine (hc5 _ _ (by first | omega | (simp; omega))).trans ?_; assumption) | (refine (hc4 _ _ (by first | omega | (simp; omega))).trans ?_; assumption) | (refine (hc3 _ _ (by first | omega | (simp; omega))).trans ?_; assumption) | (refine (hc2 _ _ (by first | omega | (simp; omega))).trans ?_; assumption) | (refine (hc1 _ _ (by first | omega | (simp; omega))).trans ?_; assumption) | (refine (hcr _ _ (by first | omega | (simp; omega))).trans ?_; assumption) | (simp; done) | (simp [go_sem]; done) | go_keep))) (fun hHeld => ?_)
              clear hK K
              (try simp only [Act.put, List.setIfInBounds_toArray, List.set_cons_zero, List.set_cons_succ])
              refine wpAnyH_ready (rs := [3]) (by kernel_rfl) (by simp) ?_
              refine AllReadyH.cons rfl (fun K hK => ?_) AllReadyH.nil
              go_simp
              (try dsimp only)
              refine hK.out _ _ (by ((go_split_ands; (try dsimp only); (repeat' apply And.intro) <;> first | assumption | (simp; done) | ((repeat (first | (with_reducible refine keep_set ?_ (by first | omega | (simp; done) | (simp; omega))) | (with_reducible refine keep_new ?_ _) | (with_reducible refine keep_drew ?_))); assumption) | (refine (hc9 _ _ (by first | omega | (simp; omega))).trans ?_; assumption) | (refine (hc8 _ _ (by first | omega | (simp; omega))).trans ?_; assumption) | (refine (hc7 _ _ (by first | omega | (simp; omega))).trans ?_; assumption) | (refine (hc6 _ _ (by first | omega | (simp; omega))).trans ?_; assumption) | (refine (hc5 _ _ (by first | omega | (simp; omega))).trans ?_; assumption) | (refine (hc4 _ _ (by first | omega | (simp; omega))).trans ?_; assumption) | (refine (hc3 _ _ (by first | omega | (simp; omega))).trans ?_; assumption) | (refine (hc2 _ _ (by first | omega | (simp; omega))).trans ?_; assumption) | (refine (hc1 _ _ (by first | omega | (simp; omega))).trans ?_; assumption) | (refine (hcr _ _ (by first | omega | (simp; omega))).trans ?_; assumption) | (simp; done) | (simp [go_sem]; done) | go_keep))) (fun hHeld => ?_)
              clear hK K
              (try simp only [Act.put, List.setIfInBounds_toArray, List.set_cons_zero, List.set_cons_succ])
              clear s0 s1 s2
              (try simp only [List.getElem_toArray, List.getElem_cons_zero, List.getElem_cons_succ, Act.put, List.setIfInBounds_toArray, List.set_cons_zero, List.set_cons_succ])
              refine wpAnyH_ready (rs := [5]) (by kernel_rfl) (by simp) ?_
              refine AllReadyH.cons rfl (fun K hK => ?_) AllReadyH.nil
              go_simp
              refine (HBk.out _).mono ?_
              rintro e w3 ⟨rfl, hb3⟩; have hz3 := hb3.size; (try simp at hz3)
              (try dsimp only)
              refine hK.out _ _ (by exact ⟨hHeld.1.thru hb3 hzg, hHeld.2.thru hb3 hzt⟩) (fun hHeld => ?_)
              clear hK K
              (try simp only [Act.put, List.setIfInBounds_toArray, List.set_cons_zero, List.set_cons_succ])
              (try simp only [List.getElem_toArray, List.getElem_cons_zero, List.getElem_cons_succ, Act.put, List.setIfInBounds_toArray, List.set_cons_zero, List.set_cons_succ])
              have hw3 : Below w.heap.size w w3 := (hbr.drew).trans (hb3.mono (show w.heap.size ≤ wr.heap.size by omega))
              have hs3 : Blk w3 (w.heap.size + 1) 42 #[.int .i64 u.pos, .int .i64 u.charge, .bool u.bolted] := Blk.thru (show Blk wr.drew (w.heap.size + 1) 42 #[.int .i64 u.pos, .int .i64 u.charge, .bool u.bolted] from hbs.out) hb3 hzs
              refine wpAnyH_ready (rs := [6]) (by kernel_rfl) (by simp) ?_
              refine AllReadyH.cons rfl (fun K hK => ?_) AllReadyH.nil
              go_simp
              refine (HSk.out _ (Hg.out.grow hw3)).mono ?_
              rintro e w4 ⟨rfl, hb4⟩; have hz4 := hb4.size; (try simp at hz4)
              (try dsimp only)
              refine hK.out _ _ (by exact ⟨hHeld.1.thru hb4 (by omega), hHeld.2.thru hb4 (by omega)⟩) (fun hHeld => ?_)
              clear hK K
              (try simp only [Act.put, List.setIfInBounds_toArray, List.set_cons_zero, List.set_cons_succ])
              have hw4 : Below w.heap.size w w4 := hw3.trans (hb4.mono hw3.size)
              have hs4 : Blk w4 (w.heap.size + 1) 42 #[.int .i64 u.pos, .int .i64 u.charge, .bool u.bolted] := hs3.thru hb4 (by omega)
              refine wpAnyH_take (i := 7) (v := ?_) rfl (by kernel_rfl) (by kernel_rfl) (by kernel_rfl) (fun _ _ _ h => h) (Or.inl ⟨by rfl, ?_⟩) hHeld ?_
              rotate_left
              · intro w hSw; (try dsimp only at hSw); skip; go_simp; (try with_reducible rfl)
              (try simp only [Act.put, List.setIfInBounds_toArray, List.set_cons_zero, List.set_cons_succ])
              refine wpAnyH_take (i := 8) (v := ?_) rfl (by kernel_rfl) (by kernel_rfl) (by kernel_rfl) (fun _ _ _ h => h) (Or.inl ⟨by rfl, ?_⟩) hHeld ?_
              rotate_left
              · intro w hSw; (try dsimp only at hSw); skip; go_simp; (try with_reducible rfl)
              (try simp only [Act.put, List.setIfInBounds_toArray, List.set_cons_zero, List.set_cons_succ])
              refine wpAnyH_take (i := 9) (v := ?_) rfl (by kernel_rfl) (by kernel_rfl) (by kernel_rfl) (fun _ _ _ h => h) (Or.inl ⟨by rfl, ?_⟩) hHeld ?_
              rotate_left
              · intro w hSw; (try dsimp only at hSw); skip; go_simp; (try with_reducible rfl)
              (try simp only [Act.put, List.setIfInBounds_toArray, List.set_cons_zero, List.set_cons_succ])
              (try simp only [List.getElem_toArray, List.getElem_cons_zero, List.getElem_cons_succ, Act.put, List.setIfInBounds_toArray, List.set_cons_zero, List.set_cons_succ])
              refine wpAnyH_ready (rs := [10]) (by kernel_rfl) (by simp) ?_
              refine AllReadyH.cons rfl (fun K hK => ?_) AllReadyH.nil
              refine wanted_of (by rfl) (wp_store_mid (P := Tryz.prog) 42 _ _ rfl (w.heap.size + 1) 0 #[.int .i64 af.pos, .int .i64 af.charge, .bool af.bolted] rfl rfl (Blk.there hs4 (by show 0 + 3 ≤ 3; omega)) (by kernel_rfl) (by simp [Value.oneCell']) ?_)
              refine hK.out _ _ (by exact ⟨hHeld.1.fars (by omega) _ _, hHeld.2.fars (by omega) _ _⟩) (fun hHeld => ?_)
              clear hK K
              (try simp only [Act.put, List.setIfInBounds_toArray, List.set_cons_zero, List.set_cons_succ])
              refine wpAnyH_done (by kernel_rfl) ?_ _
              (try simp only [List.getElem_toArray, List.getElem_cons_zero, List.getElem_cons_succ, Act.put, List.setIfInBounds_toArray, List.set_cons_zero, List.set_cons_succ])
              have hg5 := Lib.hid hHeld.1
              have ht5 := Lib.hid hHeld.2
              have hs5 := Lib.hid (show Blk (w4.setCells (w.heap.size + 1) 0 (#[.int .i64 af.pos, .int .i64 af.charge, .bool af.bolted] : Array Value).toList) (w.heap.size + 1) 42 #[.int .i64 af.pos, .int .i64 af.charge, .bool af.bolted] from Blk.sets hs4 _ _)
              have hw5 := Lib.hid (show Below w.heap.size w (w4.setCells (w.heap.size + 1) 0 (#[.int .i64 af.pos, .int .i64 af.charge, .bool af.bolted] : Array Value).toList) from below_sets hw4 (by omega) _ _)
              clear hHeld hb3 hb4 hs3 hs4
              go_wp2
              go_roundw
              case rel => exact ⟨k + 1, af, by omega, by go_num, Hnx.out, hg5.out, hs5.out, ht5.out, hw5.out⟩
              case measure => simp [intOf]; omega
            · have hS0 := hHeld
              go_simp
              (try dsimp only)
              refine hK.out _ _ (by ((go_split_ands; (try dsimp only); (repeat' apply And.intro) <;> first | assumption | (simp; done) | ((repeat (first | (with_reducible refine keep_set ?_ (by first | omega | (simp; done) | (simp; omega))) | (with_reducible refine keep_new ?_ _) | (with_reducible refine keep_drew ?_))); assumption) | (refine (hc9 _ _ (by first | omega | (simp; omega))).trans ?_; assumption) | (refine (hc8 _ _ (by first | omega | (simp; omega))).trans ?_; assumption) | (refine (hc7 _ _ (by first | omega | (simp; omega))).trans ?_; assumption) | (refine (hc6 _ _ (by first | omega | (simp; omega))).trans ?_; assumption) | (refine (hc5 _ _ (by first | omega | (simp; omega))).trans ?_; assumption) | (refine (hc4 _ _ (by first | omega | (simp; omega))).trans ?_; assumption) | (refine (hc3 _ _ (by first | omega | (simp; omega))).trans ?_; assumption) | (refine (hc2 _ _ (by first | omega | (simp; omega))).trans ?_; assumption) | (refine (hc1 _ _ (by first | omega | (simp; omega))).trans ?_; assumption) | (refine (hcr _ _ (by first | omega | (simp; omega))).trans ?_; assumption) | (simp; done) | (simp [go_sem]; done) | go_keep))) (fun hHeld => ?_)
              clear hK K
              (try simp only [Act.put, List.setIfInBounds_toArray, List.set_cons_zero, List.set_cons_succ])
              refine wpAnyH_ready (rs := [1, 5]) (by kernel_rfl) (by simp) ?_
              refine (AllReadyH.cons rfl (fun K hK => ?_) (AllReadyH.cons rfl (fun K hK => ?_) AllReadyH.nil))
              · have hS1 := hHeld
                go_simp
                (try dsimp only)
                refine hK.out _ _ (by ((go_split_ands; (try dsimp only); (repeat' apply And.intro) <;> first | assumption | (simp; done) | ((repeat (first | (with_reducible refine keep_set ?_ (by first | omega | (simp; done) | (simp; omega))) | (with_reducible refine keep_new ?_ _) | (with_reducible refine keep_drew ?_))); assumption) | (refine (hc9 _ _ (by first | omega | (simp; omega))).trans ?_; assumption) | (refine (hc8 _ _ (by first | omega | (simp; omega))).trans ?_; assumption) | (refine (hc7 _ _ (by first | omega | (simp; omega))).trans ?_; assumption) | (refine (hc6 _ _ (by first | omega | (simp; omega))).trans ?_; assumption) | (refine (hc5 _ _ (by first | omega | (simp; omega))).trans ?_; assumption) | (refine (hc4 _ _ (by first | omega | (simp; omega))).trans ?_; assumption) | (refine (hc3 _ _ (by first | omega | (simp; omega))).trans ?_; assumption) | (refine (hc2 _ _ (by first | omega | (simp; omega))).trans ?_; assumption) | (refine (hc1 _ _ (by first | omega | (simp; omega))).trans ?_; assumption) | (refine (hcr _ _ (by first | omega | (simp; omega))).trans ?_; assumption) | (simp; done) | (simp [go_sem]; done) | go_keep))) (fun hHeld => ?_)
                clear hK K
                (try simp only [Act.put, List.setIfInBounds_toArray, List.set_cons_zero, List.set_cons_succ])
                clear s0 s1 s2
                (try simp only [List.getElem_toArray, List.getElem_cons_zero, List.getElem_cons_succ, Act.put, List.setIfInBounds_toArray, List.set_cons_zero, List.set_cons_succ])
                refine wpAnyH_ready (rs := [5]) (by kernel_rfl) (by simp) ?_
                refine AllReadyH.cons rfl (fun K hK => ?_) AllReadyH.nil
                go_simp
                refine (HBk.out _).mono ?_
                rintro e w3 ⟨rfl, hb3⟩; have hz3 := hb3.size; (try simp at hz3)
                (try dsimp only)
                refine hK.out _ _ (by exact ⟨hHeld.1.thru hb3 hzg, hHeld.2.thru hb3 hzt⟩) (fun hHeld => ?_)
                clear hK K
                (try simp only [Act.put, List.setIfInBounds_toArray, List.set_cons_zero, List.set_cons_succ])
                (try simp only [List.getElem_toArray, List.getElem_cons_zero, List.getElem_cons_succ, Act.put, List.setIfInBounds_toArray, List.set_cons_zero, List.set_cons_succ])
                have hw3 : Below w.heap.size w w3 := (hbr.drew).trans (hb3.mono (show w.heap.size ≤ wr.heap.size by omega))
                have hs3 : Blk w3 (w.heap.size + 1) 42 #[.int .i64 u.pos, .int .i64 u.charge, .bool u.bolted] := Blk.thru (show Blk wr.drew (w.heap.size + 1) 42 #[.int .i64 u.pos, .int .i64 u.charge, .bool u.bolted] from hbs.out) hb3 hzs
                refine wpAnyH_ready (rs := [6]) (by kernel_rfl) (by simp) ?_
                refine AllReadyH.cons rfl (fun K hK => ?_) AllReadyH.nil
                go_simp
                refine (HSk.out _ (Hg.out.grow hw3)).mono ?_
                rintro e w4 ⟨rfl, hb4⟩; have hz4 := hb4.size; (try simp at hz4)
                (try dsimp only)
                refine hK.out _ _ (by exact ⟨hHeld.1.thru hb4 (by omega), hHeld.2.thru hb4 (by omega)⟩) (fun hHeld => ?_)
                clear hK K
                (try simp only [Act.put, List.setIfInBounds_toArray, List.set_cons_zero, List.set_cons_succ])
                have hw4 : Below w.heap.size w w4 := hw3.trans (hb4.mono hw3.size)
                have hs4 : Blk w4 (w.heap.size + 1) 42 #[.int .i64 u.pos, .int .i64 u.charge, .bool u.bolted] := hs3.thru hb4 (by omega)
                refine wpAnyH_take (i := 7) (v := ?_) rfl (by kernel_rfl) (by kernel_rfl) (by kernel_rfl) (fun _ _ _ h => h) (Or.inl ⟨by rfl, ?_⟩) hHeld ?_
                rotate_left
                · intro w hSw; (try dsimp only at hSw); skip; go_simp; (try with_reducible rfl)
                (try simp only [Act.put, List.setIfInBounds_toArray, List.set_cons_zero, List.set_cons_succ])
                refine wpAnyH_take (i := 8) (v := ?_) rfl (by kernel_rfl) (by kernel_rfl) (by kernel_rfl) (fun _ _ _ h => h) (Or.inl ⟨by rfl, ?_⟩) hHeld ?_
                rotate_left
                · intro w hSw; (try dsimp only at hSw); skip; go_simp; (try with_reducible rfl)
                (try simp only [Act.put, List.setIfInBounds_toArray, List.set_cons_zero, List.set_cons_succ])
                refine wpAnyH_take (i := 9) (v := ?_) rfl (by kernel_rfl) (by kernel_rfl) (by kernel_rfl) (fun _ _ _ h => h) (Or.inl ⟨by rfl, ?_⟩) hHeld ?_
                rotate_left
                · intro w hSw; (try dsimp only at hSw); skip; go_simp; (try with_reducible rfl)
                (try simp only [Act.put, List.setIfInBounds_toArray, List.set_cons_zero, List.set_cons_succ])
                (try simp only [List.getElem_toArray, List.getElem_cons_zero, List.getElem_cons_succ, Act.put, List.setIfInBounds_toArray, List.set_cons_zero, List.set_cons_succ])
                refine wpAnyH_ready (rs := [10]) (by kernel_rfl) (by simp) ?_
                refine AllReadyH.cons rfl (fun K hK => ?_) AllReadyH.nil
                refine wanted_of (by rfl) (wp_store_mid (P := Tryz.prog) 42 _ _ rfl (w.heap.size + 1) 0 #[.int .i64 af.pos, .int .i64 af.charge, .bool af.bolted] rfl rfl (Blk.there hs4 (by show 0 + 3 ≤ 3; omega)) (by kernel_rfl) (by simp [Value.oneCell']) ?_)
                refine hK.out _ _ (by exact ⟨hHeld.1.fars (by omega) _ _, hHeld.2.fars (by omega) _ _⟩) (fun hHeld => ?_)
                clear hK K
                (try simp only [Act.put, List.setIfInBounds_toArray, List.set_cons_zero, List.set_cons_succ])
                refine wpAnyH_done (by kernel_rfl) ?_ _
                (try simp only [List.getElem_toArray, List.getElem_cons_zero, List.getElem_cons_succ, Act.put, List.setIfInBounds_toArray, List.set_cons_zero, List.set_cons_succ])
                have hg5 := Lib.hid hHeld.1
                have ht5 := Lib.hid hHeld.2
                have hs5 := Lib.hid (show Blk (w4.setCells (w.heap.size + 1) 0 (#[.int .i64 af.pos, .int .i64 af.charge, .bool af.bolted] : Array Value).toList) (w.heap.size + 1) 42 #[.int .i64 af.pos, .int .i64 af.charge, .bool af.bolted] from Blk.sets hs4 _ _)
                have hw5 := Lib.hid (show Below w.heap.size w (w4.setCells (w.heap.size + 1) 0 (#[.int .i64 af.pos, .int .i64 af.charge, .bool af.bolted] : Array Value).toList) from below_sets hw4 (by omega) _ _)
                clear hHeld hb3 hb4 hs3 hs4
                go_wp2
                go_roundw
                case rel => exact ⟨k + 1, af, by omega, by go_num, Hnx.out, hg5.out, hs5.out, ht5.out, hw5.out⟩
                case measure => simp [intOf]; omega
              · have hS1 := hHeld
                go_simp
                refine (HBk.out _).mono ?_
                rintro e w3 ⟨rfl, hb3⟩
                have hz3 := hb3.size
                (try simp at hz3)
                (try dsimp only)
                refine hK.out _ _ (by exact ⟨hHeld.1.thru hb3 hzg, hHeld.2.thru hb3 hzt⟩) (fun hHeld => ?_)
                clear hK K
                (try simp only [Act.put, List.setIfInBounds_toArray, List.set_cons_zero, List.set_cons_succ])
                (try simp only [List.getElem_toArray, List.getElem_cons_zero, List.getElem_cons_succ, Act.put, List.setIfInBounds_toArray, List.set_cons_zero, List.set_cons_succ])
                have hw3 : Below w.heap.size w w3 := (hbr.drew).trans (hb3.mono (show w.heap.size ≤ wr.heap.size by omega))
                have hs3 : Blk w3 (w.heap.size + 1) 42 #[.int .i64 u.pos, .int .i64 u.charge, .bool u.bolted] := Blk.thru (show Blk wr.drew (w.heap.size + 1) 42 #[.int .i64 u.pos, .int .i64 u.charge, .bool u.bolted] from hbs.out) hb3 hzs
                clear s0 s1 s2
                obtain ⟨s0, s1, s2, _⟩ := hs3.three
                have hl3 := hs3.lt
                refine wpAnyH_ready (rs := [1]) (by kernel_rfl) (by simp) ?_
                refine AllReadyH.cons rfl (fun K hK => ?_) AllReadyH.nil
                go_simp
                (try dsimp only)
                refine hK.out _ _ (by ((go_split_ands; (try dsimp only); (repeat' apply And.intro) <;> first | assumption | (simp; done) | ((repeat (first | (with_reducible refine keep_set ?_ (by first | omega | (simp; done) | (simp; omega))) | (with_reducible refine keep_new ?_ _) | (with_reducible refine keep_drew ?_))); assumption) | (refine (hc9 _ _ (by first | omega | (simp; omega))).trans ?_; assumption) | (refine (hc8 _ _ (by first | omega | (simp; omega))).trans ?_; assumption) | (refine (hc7 _ _ (by first | omega | (simp; omega))).trans ?_; assumption) | (refine (hc6 _ _ (by first | omega | (simp; omega))).trans ?_; assumption) | (refine (hc5 _ _ (by first | omega | (simp; omega))).trans ?_; assumption) | (refine (hc4 _ _ (by first | omega | (simp; omega))).trans ?_; assumption) | (refine (hc3 _ _ (by first | omega | (simp; omega))).trans ?_; assumption) | (refine (hc2 _ _ (by first | omega | (simp; omega))).trans ?_; assumption) | (refine (hc1 _ _ (by first | omega | (simp; omega))).trans ?_; assumption) | (refine (hcr _ _ (by first | omega | (simp; omega))).trans ?_; assumption) | (simp; done) | (simp [go_sem]; done) | go_keep))) (fun hHeld => ?_)
                clear hK K
                (try simp only [Act.put, List.setIfInBounds_toArray, List.set_cons_zero, List.set_cons_succ])
                clear s0 s1 s2
                (try simp only [List.getElem_toArray, List.getElem_cons_zero, List.getElem_cons_succ, Act.put, List.setIfInBounds_toArray, List.set_cons_zero, List.set_cons_succ])
                refine wpAnyH_ready (rs := [6]) (by kernel_rfl) (by simp) ?_
                refine AllReadyH.cons rfl (fun K hK => ?_) AllReadyH.nil
                go_simp
                refine (HSk.out _ (Hg.out.grow hw3)).mono ?_
                rintro e w4 ⟨rfl, hb4⟩; have hz4 := hb4.size; (try simp at hz4)
                (try dsimp only)
                refine hK.out _ _ (by exact ⟨hHeld.1.thru hb4 (by omega), hHeld.2.thru hb4 (by omega)⟩) (fun hHeld => ?_)
                clear hK K
                (try simp only [Act.put, List.setIfInBounds_toArray, List.set_cons_zero, List.set_cons_succ])
                have hw4 : Below w.heap.size w w4 := hw3.trans (hb4.mono hw3.size)
                have hs4 : Blk w4 (w.heap.size + 1) 42 #[.int .i64 u.pos, .int .i64 u.charge, .bool u.bolted] := hs3.thru hb4 (by omega)
                refine wpAnyH_take (i := 7) (v := ?_) rfl (by kernel_rfl) (by kernel_rfl) (by kernel_rfl) (fun _ _ _ h => h) (Or.inl ⟨by rfl, ?_⟩) hHeld ?_
                rotate_left
                · intro w hSw; (try dsimp only at hSw); skip; go_simp; (try with_reducible rfl)
                (try simp only [Act.put, List.setIfInBounds_toArray, List.set_cons_zero, List.set_cons_succ])
                refine wpAnyH_take (i := 8) (v := ?_) rfl (by kernel_rfl) (by kernel_rfl) (by kernel_rfl) (fun _ _ _ h => h) (Or.inl ⟨by rfl, ?_⟩) hHeld ?_
                rotate_left
                · intro w hSw; (try dsimp only at hSw); skip; go_simp; (try with_reducible rfl)
                (try simp only [Act.put, List.setIfInBounds_toArray, List.set_cons_zero, List.set_cons_succ])
                refine wpAnyH_take (i := 9) (v := ?_) rfl (by kernel_rfl) (by kernel_rfl) (by kernel_rfl) (fun _ _ _ h => h) (Or.inl ⟨by rfl, ?_⟩) hHeld ?_
                rotate_left
                · intro w hSw; (try dsimp only at hSw); skip; go_simp; (try with_reducible rfl)
                (try simp only [Act.put, List.setIfInBounds_toArray, List.set_cons_zero, List.set_cons_succ])
                (try simp only [List.getElem_toArray, List.getElem_cons_zero, List.getElem_cons_succ, Act.put, List.setIfInBounds_toArray, List.set_cons_zero, List.set_cons_succ])
                refine wpAnyH_ready (rs := [10]) (by kernel_rfl) (by simp) ?_
                refine AllReadyH.cons rfl (fun K hK => ?_) AllReadyH.nil
                refine wanted_of (by rfl) (wp_store_mid (P := Tryz.prog) 42 _ _ rfl (w.heap.size + 1) 0 #[.int .i64 af.pos, .int .i64 af.charge, .bool af.bolted] rfl rfl (Blk.there hs4 (by show 0 + 3 ≤ 3; omega)) (by kernel_rfl) (by simp [Value.oneCell']) ?_)
                refine hK.out _ _ (by exact ⟨hHeld.1.fars (by omega) _ _, hHeld.2.fars (by omega) _ _⟩) (fun hHeld => ?_)
                clear hK K
                (try simp only [Act.put, List.setIfInBounds_toArray, List.set_cons_zero, List.set_cons_succ])
                refine wpAnyH_done (by kernel_rfl) ?_ _
                (try simp only [List.getElem_toArray, List.getElem_cons_zero, List.getElem_cons_succ, Act.put, List.setIfInBounds_toArray, List.set_cons_zero, List.set_cons_succ])
                have hg5 := Lib.hid hHeld.1
                have ht5 := Lib.hid hHeld.2
                have hs5 := Lib.hid (show Blk (w4.setCells (w.heap.size + 1) 0 (#[.int .i64 af.pos, .int .i64 af.charge, .bool af.bolted] : Array Value).toList) (w.heap.size + 1) 42 #[.int .i64 af.pos, .int .i64 af.charge, .bool af.bolted] from Blk.sets hs4 _ _)
                have hw5 := Lib.hid (show Below w.heap.size w (w4.setCells (w.heap.size + 1) 0 (#[.int .i64 af.pos, .int .i64 af.charge, .bool af.bolted] : Array Value).toList) from below_sets hw4 (by omega) _ _)
                clear hHeld hb3 hb4 hs3 hs4
                go_wp2
                go_roundw
                case rel => exact ⟨k + 1, af, by omega, by go_num, Hnx.out, hg5.out, hs5.out, ht5.out, hw5.out⟩
                case measure => simp [intOf]; omega
        · obtain rfl : k = 2001 := by omega
          have hR : R = (0, 9) := by
            rcases hru.out.2 with h | h
            · omega
            · exact h.2
          have HR1 := Lib.hid hR
          clear hR
          go_wp2
          go_ret2
          exact ⟨by rw [HR1.out]; rfl, hbr⟩
    · rw [if_neg h1] at hr
      subst hr
      have q1 : (fe != 0) = true := by rw [bne_iff_ne]; exact h1
      clear h1 hok htv hto ht
      go_enter Tryz.func35, Tryz.ntmps35
      go_wp2_with (with_reducible refine wpl_g (g := g) (((Blk.new w _ _).alloc _).alloc _) rfl rfl rfl ?_)
      refine (HC.out _ (Hg.out.grow (by repeat (first | exact Below.refl _ _ | assumption | (refine Below.setCell ?_ (by first | omega | (simp; done) | (simp; omega)) _) | (refine Below.alloc ?_ (by first | omega | (simp; done) | (simp; omega)) _) | refine Below.drew ?_ | (refine below_thru ?_ (by assumption) (by first | omega | (simp; done) | (simp; omega))) | refine below_drewN ?_ _)))).mono ?_
      rintro e w1 ⟨rfl, hb1⟩
      obtain ⟨hc1, hf1⟩ := bcell hb1; have hz1 := hb1.size; (try simp at hz1)
      have hG1 : Blk w1 w.heap.size 33 (grow g) := Blk.thru (by (repeat (first | assumption | exact Blk.new _ _ _ | (refine Blk.new' _ _ _ ?_; (simp; done)) | refine Blk.drew ?_ | refine Blk.alloc ?_ _ | (refine Blk.fars ?_ ?_ _ _; rotate_left; (dsimp only; omega)) | (refine Blk.far ?_ ?_ _; rotate_left; (first | (dsimp only; omega) | (simp; done) | (simp; omega) | omega))))) hb1 (by simp <;> omega)
      have hS1 : Blk w1 (w.heap.size + 1) 42 #[.int .i64 s.pos, .int .i64 s.charge, .bool s.bolted] := Blk.thru (by (repeat (first | assumption | exact Blk.new _ _ _ | (refine Blk.new' _ _ _ ?_; (simp; done)) | refine Blk.drew ?_ | refine Blk.alloc ?_ _ | (refine Blk.fars ?_ ?_ _ _; rotate_left; (dsimp only; omega)) | (refine Blk.far ?_ ?_ _; rotate_left; (first | (dsimp only; omega) | (simp; done) | (simp; omega) | omega))))) hb1 (by simp <;> omega)
      have hT1 : Blk w1 (w.heap.size + 1 + 1) 49 #[.int .i64 1, .bool power, .int .i64 outer, .int .i64 inner] := Blk.thru (by (repeat (first | assumption | exact Blk.new _ _ _ | (refine Blk.new' _ _ _ ?_; (simp; done)) | refine Blk.drew ?_ | refine Blk.alloc ?_ _ | (refine Blk.fars ?_ ?_ _ _; rotate_left; (dsimp only; omega)) | (refine Blk.far ?_ ?_ _; rotate_left; (first | (dsimp only; omega) | (simp; done) | (simp; omega) | omega))))) hb1 (by simp <;> omega)
      have hw1 : Below w.heap.size w w1 := (by repeat (first | exact Below.refl _ _ | assumption | (refine Below.setCell ?_ (by first | omega | (simp; done) | (simp; omega)) _) | (refine Below.alloc ?_ (by first | omega | (simp; done) | (simp; omega)) _) | refine Below.drew ?_ | (refine below_thru ?_ (by assumption) (by first | omega | (simp; done) | (simp; omega))) | refine below_drewN ?_ _))
      have hl1 := hT1.lt
      have hl11 := hS1.lt
      clear hb1 hc1 hf1
      obtain ⟨s0, s1, s2, _⟩ := hS1.three
      obtain ⟨t0, t1, t2, t3⟩ := tcells_of (t := ⟨1, power, outer, inner⟩) hT1
      have HG1 := Lib.hid hG1
      clear hG1
      go_wp2_with (with_reducible refine wpl_g (g := g) (b := w.heap.size) (t := 33) HG1.out rfl rfl rfl ?_)
      refine (HV.out _).mono ?_
      rintro e w2 ⟨rfl, hb2⟩
      have hw2 : Below w.heap.size w w2 := hw1.trans (hb2.mono hw1.size)
      clear hb2
      go_wp2
      go_ret2
      exact ⟨rfl, hw2⟩
  · rw [if_neg h0] at he
    subst he
    rw [if_neg h0] at hr
    subst hr
    have q0 : (fe == 0) = false := by rw [beq_eq_false_iff_ne]; exact h0
    have q1 : (fe != 0) = true := by rw [bne_iff_ne]; exact h0
    clear h0 hok htv hto ht
    go_enter Tryz.func35, Tryz.ntmps35
    go_wp2_with (with_reducible refine wpl_g (g := g) (((Blk.new w _ _).alloc _).alloc _) rfl rfl rfl ?_)
    refine (HC.out _ (Hg.out.grow (by repeat (first | exact Below.refl _ _ | assumption | (refine Below.setCell ?_ (by first | omega | (simp; done) | (simp; omega)) _) | (refine Below.alloc ?_ (by first | omega | (simp; done) | (simp; omega)) _) | refine Below.drew ?_ | (refine below_thru ?_ (by assumption) (by first | omega | (simp; done) | (simp; omega))) | refine below_drewN ?_ _)))).mono ?_
    rintro e w1 ⟨rfl, hb1⟩
    obtain ⟨hc1, hf1⟩ := bcell hb1; have hz1 := hb1.size; (try simp at hz1)
    go_wp2
    go_ret2
    exact ⟨rfl, (by repeat (first | exact Below.refl _ _ | assumption | (refine Below.setCell ?_ (by first | omega | (simp; done) | (simp; omega)) _) | (refine Below.alloc ?_ (by first | omega | (simp; done) | (simp; omega)) _) | refine Below.drew ?_ | (refine below_thru ?_ (by assumption) (by first | omega | (simp; done) | (simp; omega))) | refine below_drewN ?_ _))⟩
end Go.Proofs.YtgdomaddjiggaaaGreat
