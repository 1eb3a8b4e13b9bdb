/- The reference: by how much a gate moves. The reference: by how much a gate moves, closing. The reference: by how much a gate moves, opening. -/
import Derived.Test.YtgdomaddjiggaaaGreatGtRefG
import Derived.Test.YtgdomaddjiggaaaGreatGtRefE
namespace Go.Proofs.YtgdomaddjiggaaaGreat
open Go.RowKit
set_option linter.unusedSimpArgs false
set_option linter.unusedVariables false

def movedF (g : Ga) (s : Gs) (t : Gt) : Int × Int := if s.bolted = true then (0, 0) else orderF g s t
theorem done_moved (g : Ga) (s : Gs) (t : Gt) (r : Int) : doneF g s t r = movedF g s (if r = 0 then t else { t with order := 0 }) := rfl
theorem ret_two {a b c d : Int} (h1 : a = c) (h2 : b = d) : Ending.returned (.tuple #[.int .i64 a, .int .i64 b]) = Ending.returned (.tuple #[.int .i64 c, .int .i64 d]) := by rw [h1, h2]
section
variable {g : Ga} {s : Gs} {t : Gt} {nt rb : Int}
theorem mv_bolt (h : s.bolted = true) : movedF g s t = (0, 0) := by unfold movedF; rw [if_pos h]
theorem mv_go (h : s.bolted = false) : movedF g s t = orderF g s t := by unfold movedF; rw [if_neg (by rw [h]; decide)]
theorem mv_fall1 (hn : netF g s.pos t.outer t.inner = nt) (hr : rubF g s.pos t.outer t.inner = rb) (hb : s.bolted = false) (ho : t.order = 1) (h : rb < nt) : movedF g s t = (min g.gravity (g.travel - s.pos), 0) := by
  rw [mv_go hb]; unfold orderF; rw [if_pos ho]; unfold closeF advF; rw [hn, hr, if_pos h]
theorem mv_drive1 (hn : netF g s.pos t.outer t.inner = nt) (hr : rubF g s.pos t.outer t.inner = rb) (hb : s.bolted = false) (ho : t.order = 1) (h : ¬ rb < nt) (h2 : t.power = true ∧ rb < nt + g.drive) : movedF g s t = (driveF g s (g.travel - s.pos), oilF g (driveF g s (g.travel - s.pos))) := by
  rw [mv_go hb]; unfold orderF; rw [if_pos ho]; unfold closeF advF; rw [hn, hr, if_neg h, if_pos h2, ceil100]; rfl
theorem mv_stop1 (hn : netF g s.pos t.outer t.inner = nt) (hr : rubF g s.pos t.outer t.inner = rb) (hb : s.bolted = false) (ho : t.order = 1) (h : ¬ rb < nt) (h2 : ¬ (t.power = true ∧ rb < nt + g.drive)) : movedF g s t = (0, 0) := by
  rw [mv_go hb]; unfold orderF; rw [if_pos ho]; unfold closeF advF; rw [hn, hr, if_neg h, if_neg h2]
theorem mv_fall2 (hn : netF g s.pos t.outer t.inner = nt) (hr : rubF g s.pos t.outer t.inner = rb) (hb : s.bolted = false) (ho : t.order = 2) (h : rb < -nt) : movedF g s t = (-min g.gravity s.pos, 0) := by
  rw [mv_go hb]; unfold orderF; rw [if_neg (by omega), if_pos ho]; unfold openF advF; rw [hn, hr, if_pos h]
theorem mv_drive2 (hn : netF g s.pos t.outer t.inner = nt) (hr : rubF g s.pos t.outer t.inner = rb) (hb : s.bolted = false) (ho : t.order = 2) (h : ¬ rb < -nt) (h2 : t.power = true ∧ rb < -nt + g.drive) : movedF g s t = (-driveF g s s.pos, oilF g (driveF g s s.pos)) := by
  rw [mv_go hb]; unfold orderF; rw [if_neg (by omega), if_pos ho]; unfold openF advF; rw [hn, hr, if_neg h, if_pos h2, ceil100]; rfl
theorem mv_stop2 (hn : netF g s.pos t.outer t.inner = nt) (hr : rubF g s.pos t.outer t.inner = rb) (hb : s.bolted = false) (ho : t.order = 2) (h : ¬ rb < -nt) (h2 : ¬ (t.power = true ∧ rb < -nt + g.drive)) : movedF g s t = (0, 0) := by
  rw [mv_go hb]; unfold orderF; rw [if_neg (by omega), if_pos ho]; unfold openF advF; rw [hn, hr, if_neg h, if_neg h2]; rfl
theorem mv_slip1 (hn : netF g s.pos t.outer t.inner = nt) (hr : rubF g s.pos t.outer t.inner = rb) (hb : s.bolted = false) (ho : t.order = 0) (h : g.brake + rb < nt) : movedF g s t = (min g.gravity (g.travel - s.pos), 0) := by
  rw [mv_go hb]; unfold orderF; rw [if_neg (by omega), if_neg (by omega)]; unfold holdF; rw [hn, hr, if_pos h]
theorem mv_slip2 (hn : netF g s.pos t.outer t.inner = nt) (hr : rubF g s.pos t.outer t.inner = rb) (hb : s.bolted = false) (ho : t.order = 0) (h0 : ¬ g.brake + rb < nt) (h : g.brake + rb < -nt) : movedF g s t = (-min g.gravity s.pos, 0) := by
  rw [mv_go hb]; unfold orderF; rw [if_neg (by omega), if_neg (by omega)]; unfold holdF; rw [hn, hr, if_neg h0, if_pos h]
theorem mv_held (hn : netF g s.pos t.outer t.inner = nt) (hr : rubF g s.pos t.outer t.inner = rb) (hb : s.bolted = false) (ho : t.order = 0) (h0 : ¬ g.brake + rb < nt) (h : ¬ g.brake + rb < -nt) : movedF g s t = (0, 0) := by
  rw [mv_go hb]; unfold orderF; rw [if_neg (by omega), if_neg (by omega)]; unfold holdF; rw [hn, hr, if_neg h0, if_neg h]
end

set_option maxRecDepth 100000 in
set_option maxHeartbeats 8000000 in
theorem rmoved_bolt (g : Ga) (s : Gs) (t : Gt) (w : World) (ha : g.At w w.heap.size) (hg : g.Ok) (hs : s.Ok g) (ht : t.Ok) (hb : s.bolted = true) :
    Calls Tryz.prog 141 #[g.v, s.v, t.v] w fun e w' => e = .returned (.tuple #[.int .i64 (movedF g s t).1, .int .i64 (movedF g s t).2]) ∧ Below w.heap.size w w' := by
  have Ha := Lib.hid ha
  obtain ⟨nt0, nt1⟩ := net_in hg ha.ol hs.p0 hs.p1 ht.a0 ht.a1 ht.b0 ht.b1
  obtain ⟨rb0, rb1⟩ := rub_in hg s.pos ht.a0 ht.a1 ht.b0 ht.b1
  have HF := Lib.hid (fun W h => rforces_any g s.pos t.outer t.inner W h hg hs.p0 hs.p1 ht.a0 ht.a1 ht.b0 ht.b1)
  have HD := Lib.hid (fun left W h0 h1 => rdriven_any g s left W hg hs h0 h1)
  have HU := Lib.hid (fun d W h0 h1 => rused_any g d W hg h0 h1)
  have HDI := Lib.hid (fun left h0 => drive_in (left := left) hg hs h0)
  have p0 := hs.p0
  have p1 := hs.p1
  have t1 := hg.t1
  have gv0 := hg.gravity0
  have gv1 := hg.gravity1
  have br0 := hg.brake0
  have br1 := hg.brake1
  have dv0 := hg.drive0
  have dv1 := hg.drive1
  have o0 := ht.o0
  have o1 := ht.o1
  obtain ⟨nt, hn⟩ : ∃ nt, netF g s.pos t.outer t.inner = nt := ⟨_, rfl⟩
  obtain ⟨rb, hr⟩ : ∃ rb, rubF g s.pos t.outer t.inner = rb := ⟨_, rfl⟩
  rw [hn] at nt0 nt1
  rw [hr] at rb0 rb1
  rw [hn, hr] at HF
  have hpow : t.power = true ∨ t.power = false := by cases t.power <;> simp
  clear ha hg hs ht
  · rw [mv_bolt (t := t) hb]
    clear hn hr
    have HBo := Lib.hid hb
    (try have HOo := Lib.hid ho)
    (try have HPo := Lib.hid hpw)
    (try clear hpow)
    (try clear hpw)
    (try clear ho)
    clear hb
    go_enter Tryz.func141, Tryz.ntmps141
    go_wp2_with (with_reducible refine wpl_g (g := g) (((Blk.new w _ _).alloc _).alloc _) rfl rfl rfl ?_)
    refine (HF.out _ (Ha.out.grow (by repeat (first | exact Below.refl _ _ | assumption | (refine Below.setCell ?_ (by first | omega | (simp; done) | (simp; omega)) _) | (refine Below.alloc ?_ (by first | omega | (simp; done) | (simp; omega)) _) | refine Below.drew ?_ | (refine below_thru ?_ (by assumption) (by first | omega | (simp; done) | (simp; omega))) | refine below_drewN ?_ _)))).mono ?_
    rintro e w1 ⟨rfl, hb1⟩
    obtain ⟨hc1, hf1⟩ := bcell hb1; have hz1 := hb1.size; (try simp at hz1)
    have hl0 : w.heap.size < w1.heap.size := by omega
    have hl1 : w.heap.size + 1 < w1.heap.size := by omega
    have hl2 : w.heap.size + 1 + 1 < w1.heap.size := by omega
    have hG1 : Blk w1 w.heap.size 33 (grow g) := Blk.thru (by (repeat (first | assumption | exact Blk.new _ _ _ | (refine Blk.new' _ _ _ ?_; (simp; done)) | refine Blk.drew ?_ | refine Blk.alloc ?_ _ | (refine Blk.fars ?_ ?_ _ _; rotate_left; (dsimp only; omega)) | (refine Blk.far ?_ ?_ _; rotate_left; (first | (dsimp only; omega) | (simp; done) | (simp; omega) | omega))))) hb1 (by simp <;> omega)
    have hS1 : Blk w1 (w.heap.size + 1) 42 #[.int .i64 s.pos, .int .i64 s.charge, .bool s.bolted] := Blk.thru (by (repeat (first | assumption | exact Blk.new _ _ _ | (refine Blk.new' _ _ _ ?_; (simp; done)) | refine Blk.drew ?_ | refine Blk.alloc ?_ _ | (refine Blk.fars ?_ ?_ _ _; rotate_left; (dsimp only; omega)) | (refine Blk.far ?_ ?_ _; rotate_left; (first | (dsimp only; omega) | (simp; done) | (simp; omega) | omega))))) hb1 (by simp <;> omega)
    have hT1 : Blk w1 (w.heap.size + 1 + 1) 49 #[.int .i64 t.order, .bool t.power, .int .i64 t.outer, .int .i64 t.inner] := Blk.thru (by (repeat (first | assumption | exact Blk.new _ _ _ | (refine Blk.new' _ _ _ ?_; (simp; done)) | refine Blk.drew ?_ | refine Blk.alloc ?_ _ | (refine Blk.fars ?_ ?_ _ _; rotate_left; (dsimp only; omega)) | (refine Blk.far ?_ ?_ _; rotate_left; (first | (dsimp only; omega) | (simp; done) | (simp; omega) | omega))))) hb1 (by simp <;> omega)
    have hw1 : Below w.heap.size w w1 := (by repeat (first | exact Below.refl _ _ | assumption | (refine Below.setCell ?_ (by first | omega | (simp; done) | (simp; omega)) _) | (refine Below.alloc ?_ (by first | omega | (simp; done) | (simp; omega)) _) | refine Below.drew ?_ | (refine below_thru ?_ (by assumption) (by first | omega | (simp; done) | (simp; omega))) | refine below_drewN ?_ _))
    clear hb1 hc1 hf1
    obtain ⟨s0, s1, s2, _⟩ := hS1.three
    obtain ⟨t0, t1', t2, t3⟩ := tcells_of hT1
    have c2 : w1.cell? ⟨w.heap.size, 2, none⟩ = some (.int .i64 g.travel) := hG1.cell 2
    have c11 : w1.cell? ⟨w.heap.size, 11, none⟩ = some (.int .i64 g.drive) := hG1.cell 11
    have c12 : w1.cell? ⟨w.heap.size, 12, none⟩ = some (.int .i64 g.brake) := hG1.cell 12
    have c14 : w1.cell? ⟨w.heap.size, 14, none⟩ = some (.int .i64 g.gravity) := hG1.cell 14
    rw [HBo.out] at s2
    go_wp2
    go_ret2
    exact ⟨rfl, hw1⟩

set_option maxRecDepth 100000 in
set_option maxHeartbeats 8000000 in
theorem rmoved_hold (g : Ga) (s : Gs) (t : Gt) (w : World) (ha : g.At w w.heap.size) (hg : g.Ok) (hs : s.Ok g) (ht : t.Ok) (hb : s.bolted = false) (ho : t.order = 0) :
    Calls Tryz.prog 141 #[g.v, s.v, t.v] w fun e w' => e = .returned (.tuple #[.int .i64 (movedF g s t).1, .int .i64 (movedF g s t).2]) ∧ Below w.heap.size w w' := by
  have Ha := Lib.hid ha
  obtain ⟨nt0, nt1⟩ := net_in hg ha.ol hs.p0 hs.p1 ht.a0 ht.a1 ht.b0 ht.b1
  obtain ⟨rb0, rb1⟩ := rub_in hg s.pos ht.a0 ht.a1 ht.b0 ht.b1
  have HF := Lib.hid (fun W h => rforces_any g s.pos t.outer t.inner W h hg hs.p0 hs.p1 ht.a0 ht.a1 ht.b0 ht.b1)
  have HD := Lib.hid (fun left W h0 h1 => rdriven_any g s left W hg hs h0 h1)
  have HU := Lib.hid (fun d W h0 h1 => rused_any g d W hg h0 h1)
  have HDI := Lib.hid (fun left h0 => drive_in (left := left) hg hs h0)
  have p0 := hs.p0
  have p1 := hs.p1
  have t1 := hg.t1
  have gv0 := hg.gravity0
  have gv1 := hg.gravity1
  have br0 := hg.brake0
  have br1 := hg.brake1
  have dv0 := hg.drive0
  have dv1 := hg.drive1
  have o0 := ht.o0
  have o1 := ht.o1
  obtain ⟨nt, hn⟩ : ∃ nt, netF g s.pos t.outer t.inner = nt := ⟨_, rfl⟩
  obtain ⟨rb, hr⟩ : ∃ rb, rubF g s.pos t.outer t.inner = rb := ⟨_, rfl⟩
  rw [hn] at nt0 nt1
  rw [hr] at rb0 rb1
  rw [hn, hr] at HF
  have hpow : t.power = true ∨ t.power = false := by cases t.power <;> simp
  clear ha hg hs ht
  · have q2 : (t.order == 2) = false := by rw [beq_eq_false_iff_ne]; omega
    have q0 : (t.order == 0) = true := by rw [beq_iff_eq]; exact ho
    by_cases hneg : nt < 0
    · have h0 : ¬ g.brake + rb < nt := by omega
      have w9 : IntKind.i64.wrap (-nt) = -nt := IntWalk.i64_in _ (by omega)
      by_cases hsl : g.brake + rb < -nt
      · rw [mv_slip2 hn hr hb ho h0 hsl]
        obtain ⟨mn, hmn⟩ : ∃ mn, min g.gravity s.pos = mn := ⟨_, rfl⟩
        have y1 : (if s.pos < g.gravity then s.pos else g.gravity) = mn := by rw [← hmn]; split <;> omega
        have mn0 : 0 ≤ mn := by omega
        have mn1 : mn ≤ 100 := by omega
        rw [hmn]
        clear hmn hn hr
        have HBo := Lib.hid hb
        (try have HOo := Lib.hid ho)
        (try have HPo := Lib.hid hpw)
        (try clear hpow)
        (try clear hpw)
        (try clear ho)
        clear hb
        go_enter Tryz.func141, Tryz.ntmps141
        go_wp2_with (with_reducible refine wpl_g (g := g) (((Blk.new w _ _).alloc _).alloc _) rfl rfl rfl ?_)
        refine (HF.out _ (Ha.out.grow (by repeat (first | exact Below.refl _ _ | assumption | (refine Below.setCell ?_ (by first | omega | (simp; done) | (simp; omega)) _) | (refine Below.alloc ?_ (by first | omega | (simp; done) | (simp; omega)) _) | refine Below.drew ?_ | (refine below_thru ?_ (by assumption) (by first | omega | (simp; done) | (simp; omega))) | refine below_drewN ?_ _)))).mono ?_
        rintro e w1 ⟨rfl, hb1⟩
        obtain ⟨hc1, hf1⟩ := bcell hb1; have hz1 := hb1.size; (try simp at hz1)
        have hl0 : w.heap.size < w1.heap.size := by omega
        have hl1 : w.heap.size + 1 < w1.heap.size := by omega
        have hl2 : w.heap.size + 1 + 1 < w1.heap.size := by omega
        have hG1 : Blk w1 w.heap.size 33 (grow g) := Blk.thru (by (repeat (first | assumption | exact Blk.new _ _ _ | (refine Blk.new' _ _ _ ?_; (simp; done)) | refine Blk.drew ?_ | refine Blk.alloc ?_ _ | (refine Blk.fars ?_ ?_ _ _; rotate_left; (dsimp only; omega)) | (refine Blk.far ?_ ?_ _; rotate_left; (first | (dsimp only; omega) | (simp; done) | (simp; omega) | omega))))) hb1 (by simp <;> omega)
        have hS1 : Blk w1 (w.heap.size + 1) 42 #[.int .i64 s.pos, .int .i64 s.charge, .bool s.bolted] := Blk.thru (by (repeat (first | assumption | exact Blk.new _ _ _ | (refine Blk.new' _ _ _ ?_; (simp; done)) | refine Blk.drew ?_ | refine Blk.alloc ?_ _ | (refine Blk.fars ?_ ?_ _ _; rotate_left; (dsimp only; omega)) | (refine Blk.far ?_ ?_ _; rotate_left; (first | (dsimp only; omega) | (simp; done) | (simp; omega) | omega))))) hb1 (by simp <;> omega)
        have hT1 : Blk w1 (w.heap.size + 1 + 1) 49 #[.int .i64 t.order, .bool t.power, .int .i64 t.outer, .int .i64 t.inner] := Blk.thru (by (repeat (first | assumption | exact Blk.new _ _ _ | (refine Blk.new' _ _ _ ?_; (simp; done)) | refine Blk.drew ?_ | refine Blk.alloc ?_ _ | (refine Blk.fars ?_ ?_ _ _; rotate_left; (dsimp only; omega)) | (refine Blk.far ?_ ?_ _; rotate_left; (first | (dsimp only; omega) | (simp; done) | (simp; omega) | omega))))) hb1 (by simp <;> omega)
        have hw1 : Below w.heap.size w w1 := (by repeat (first | exact Below.refl _ _ | assumption | (refine Below.setCell ?_ (by first | omega | (simp; done) | (simp; omega)) _) | (refine Below.alloc ?_ (by first | omega | (simp; done) | (simp; omega)) _) | refine Below.drew ?_ | (refine below_thru ?_ (by assumption) (by first | omega | (simp; done) | (simp; omega))) | refine below_drewN ?_ _))
        clear hb1 hc1 hf1
        obtain ⟨s0, s1, s2, _⟩ := hS1.three
        obtain ⟨t0, t1', t2, t3⟩ := tcells_of hT1
        have c2 : w1.cell? ⟨w.heap.size, 2, none⟩ = some (.int .i64 g.travel) := hG1.cell 2
        have c11 : w1.cell? ⟨w.heap.size, 11, none⟩ = some (.int .i64 g.drive) := hG1.cell 11
        have c12 : w1.cell? ⟨w.heap.size, 12, none⟩ = some (.int .i64 g.brake) := hG1.cell 12
        have c14 : w1.cell? ⟨w.heap.size, 14, none⟩ = some (.int .i64 g.gravity) := hG1.cell 14
        rw [HBo.out] at s2
        go_wp2_with fail
        go_quiet (fail)
        go_wp2
        go_ret2
        exact ⟨ret_two (by omega) (by omega), (by repeat (first | exact Below.refl _ _ | assumption | (refine Below.setCell ?_ (by first | omega | (simp; done) | (simp; omega)) _) | (refine Below.alloc ?_ (by first | omega | (simp; done) | (simp; omega)) _) | refine Below.drew ?_ | (refine below_thru ?_ (by assumption) (by first | omega | (simp; done) | (simp; omega))) | refine below_drewN ?_ _))⟩
      · rw [mv_held hn hr hb ho h0 hsl]
        clear hn hr
        have HBo := Lib.hid hb
        (try have HOo := Lib.hid ho)
        (try have HPo := Lib.hid hpw)
        (try clear hpow)
        (try clear hpw)
        (try clear ho)
        clear hb
        go_enter Tryz.func141, Tryz.ntmps141
        go_wp2_with (with_reducible refine wpl_g (g := g) (((Blk.new w _ _).alloc _).alloc _) rfl rfl rfl ?_)
        refine (HF.out _ (Ha.out.grow (by repeat (first | exact Below.refl _ _ | assumption | (refine Below.setCell ?_ (by first | omega | (simp; done) | (simp; omega)) _) | (refine Below.alloc ?_ (by first | omega | (simp; done) | (simp; omega)) _) | refine Below.drew ?_ | (refine below_thru ?_ (by assumption) (by first | omega | (simp; done) | (simp; omega))) | refine below_drewN ?_ _)))).mono ?_
        rintro e w1 ⟨rfl, hb1⟩
        obtain ⟨hc1, hf1⟩ := bcell hb1; have hz1 := hb1.size; (try simp at hz1)
        have hl0 : w.heap.size < w1.heap.size := by omega
        have hl1 : w.heap.size + 1 < w1.heap.size := by omega
        have hl2 : w.heap.size + 1 + 1 < w1.heap.size := by omega
        have hG1 : Blk w1 w.heap.size 33 (grow g) := Blk.thru (by (repeat (first | assumption | exact Blk.new _ _ _ | (refine Blk.new' _ _ _ ?_; (simp; done)) | refine Blk.drew ?_ | refine Blk.alloc ?_ _ | (refine Blk.fars ?_ ?_ _ _; rotate_left; (dsimp only; omega)) | (refine Blk.far ?_ ?_ _; rotate_left; (first | (dsimp only; omega) | (simp; done) | (simp; omega) | omega))))) hb1 (by simp <;> omega)
        have hS1 : Blk w1 (w.heap.size + 1) 42 #[.int .i64 s.pos, .int .i64 s.charge, .bool s.bolted] := Blk.thru (by (repeat (first | assumption | exact Blk.new _ _ _ | (refine Blk.new' _ _ _ ?_; (simp; done)) | refine Blk.drew ?_ | refine Blk.alloc ?_ _ | (refine Blk.fars ?_ ?_ _ _; rotate_left; (dsimp only; omega)) | (refine Blk.far ?_ ?_ _; rotate_left; (first | (dsimp only; omega) | (simp; done) | (simp; omega) | omega))))) hb1 (by simp <;> omega)
        have hT1 : Blk w1 (w.heap.size + 1 + 1) 49 #[.int .i64 t.order, .bool t.power, .int .i64 t.outer, .int .i64 t.inner] := Blk.thru (by (repeat (first | assumption | exact Blk.new _ _ _ | (refine Blk.new' _ _ _ ?_; (simp; done)) | refine Blk.drew ?_ | refine Blk.alloc ?_ _ | (refine Blk.fars ?_ ?_ _ _; rotate_left; (dsimp only; omega)) | (refine Blk.far ?_ ?_ _; rotate_left; (first | (dsimp only; omega) | (simp; done) | (simp; omega) | omega))))) hb1 (by simp <;> omega)
        have hw1 : Below w.heap.size w w1 := (by repeat (first | exact Below.refl _ _ | assumption | (refine Below.setCell ?_ (by first | omega | (simp; done) | (simp; omega)) _) | (refine Below.alloc ?_ (by first | omega | (simp; done) | (simp; omega)) _) | refine Below.drew ?_ | (refine below_thru ?_ (by assumption) (by first | omega | (simp; done) | (simp; omega))) | refine below_drewN ?_ _))
        clear hb1 hc1 hf1
        obtain ⟨s0, s1, s2, _⟩ := hS1.three
        obtain ⟨t0, t1', t2, t3⟩ := tcells_of hT1
        have c2 : w1.cell? ⟨w.heap.size, 2, none⟩ = some (.int .i64 g.travel) := hG1.cell 2
        have c11 : w1.cell? ⟨w.heap.size, 11, none⟩ = some (.int .i64 g.drive) := hG1.cell 11
        have c12 : w1.cell? ⟨w.heap.size, 12, none⟩ = some (.int .i64 g.brake) := hG1.cell 12
        have c14 : w1.cell? ⟨w.heap.size, 14, none⟩ = some (.int .i64 g.gravity) := hG1.cell 14
        rw [HBo.out] at s2
        go_wp2_with fail
        go_quiet (fail)
        go_wp2
        go_ret2
        exact ⟨ret_two (by omega) (by omega), (by repeat (first | exact Below.refl _ _ | assumption | (refine Below.setCell ?_ (by first | omega | (simp; done) | (simp; omega)) _) | (refine Below.alloc ?_ (by first | omega | (simp; done) | (simp; omega)) _) | refine Below.drew ?_ | (refine below_thru ?_ (by assumption) (by first | omega | (simp; done) | (simp; omega))) | refine below_drewN ?_ _))⟩
    · have hsl2 : ¬ g.brake + rb < -nt := by omega
      by_cases hsl : g.brake + rb < nt
      · rw [mv_slip1 hn hr hb ho hsl]
        obtain ⟨mn, hmn⟩ : ∃ mn, min g.gravity (g.travel - s.pos) = mn := ⟨_, rfl⟩
        have y1 : (if g.travel - s.pos < g.gravity then g.travel - s.pos else g.gravity) = mn := by rw [← hmn]; split <;> omega
        have mn0 : 0 ≤ mn := by omega
        have mn1 : mn ≤ 100 := by omega
        rw [hmn]
        clear hmn hn hr hsl2
        have HBo := Lib.hid hb
        (try have HOo := Lib.hid ho)
        (try have HPo := Lib.hid hpw)
        (try clear hpow)
        (try clear hpw)
        (try clear ho)
        clear hb
        go_enter Tryz.func141, Tryz.ntmps141
        go_wp2_with (with_reducible refine wpl_g (g := g) (((Blk.new w _ _).alloc _).alloc _) rfl rfl rfl ?_)
        refine (HF.out _ (Ha.out.grow (by repeat (first | exact Below.refl _ _ | assumption | (refine Below.setCell ?_ (by first | omega | (simp; done) | (simp; omega)) _) | (refine Below.alloc ?_ (by first | omega | (simp; done) | (simp; omega)) _) | refine Below.drew ?_ | (refine below_thru ?_ (by assumption) (by first | omega | (simp; done) | (simp; omega))) | refine below_drewN ?_ _)))).mono ?_
        rintro e w1 ⟨rfl, hb1⟩
        obtain ⟨hc1, hf1⟩ := bcell hb1; have hz1 := hb1.size; (try simp at hz1)
        have hl0 : w.heap.size < w1.heap.size := by omega
        have hl1 : w.heap.size + 1 < w1.heap.size := by omega
        have hl2 : w.heap.size + 1 + 1 < w1.heap.size := by omega
        have hG1 : Blk w1 w.heap.size 33 (grow g) := Blk.thru (by (repeat (first | assumption | exact Blk.new _ _ _ | (refine Blk.new' _ _ _ ?_; (simp; done)) | refine Blk.drew ?_ | refine Blk.alloc ?_ _ | (refine Blk.fars ?_ ?_ _ _; rotate_left; (dsimp only; omega)) | (refine Blk.far ?_ ?_ _; rotate_left; (first | (dsimp only; omega) | (simp; done) | (simp; omega) | omega))))) hb1 (by simp <;> omega)
        have hS1 : Blk w1 (w.heap.size + 1) 42 #[.int .i64 s.pos, .int .i64 s.charge, .bool s.bolted] := Blk.thru (by (repeat (first | assumption | exact Blk.new _ _ _ | (refine Blk.new' _ _ _ ?_; (simp; done)) | refine Blk.drew ?_ | refine Blk.alloc ?_ _ | (refine Blk.fars ?_ ?_ _ _; rotate_left; (dsimp only; omega)) | (refine Blk.far ?_ ?_ _; rotate_left; (first | (dsimp only; omega) | (simp; done) | (simp; omega) | omega))))) hb1 (by simp <;> omega)
        have hT1 : Blk w1 (w.heap.size + 1 + 1) 49 #[.int .i64 t.order, .bool t.power, .int .i64 t.outer, .int .i64 t.inner] := Blk.thru (by (repeat (first | assumption | exact Blk.new _ _ _ | (refine Blk.new' _ _ _ ?_; (simp; done)) | refine Blk.drew ?_ | refine Blk.alloc ?_ _ | (refine Blk.fars ?_ ?_ _ _; rotate_left; (dsimp only; omega)) | (refine Blk.far ?_ ?_ _; rotate_left; (first | (dsimp only; omega) | (simp; done) | (simp; omega) | omega))))) hb1 (by simp <;> omega)
        have hw1 : Below w.heap.size w w1 := (by repeat (first | exact Below.refl _ _ | assumption | (refine Below.setCell ?_ (by first | omega | (simp; done) | (simp; omega)) _) | (refine Below.alloc ?_ (by first | omega | (simp; done) | (simp; omega)) _) | refine Below.drew ?_ | (refine below_thru ?_ (by assumption) (by first | omega | (simp; done) | (simp; omega))) | refine below_drewN ?_ _))
        clear hb1 hc1 hf1
        obtain ⟨s0, s1, s2, _⟩ := hS1.three
        obtain ⟨t0, t1', t2, t3⟩ := tcells_of hT1
        have c2 : w1.cell? ⟨w.heap.size, 2, none⟩ = some (.int .i64 g.travel) := hG1.cell 2
        have c11 : w1.cell? ⟨w.heap.size, 11, none⟩ = some (.int .i64 g.drive) := hG1.cell 11
        have c12 : w1.cell? ⟨w.heap.size, 12, none⟩ = some (.int .i64 g.brake) := hG1.cell 12
        have c14 : w1.cell? ⟨w.heap.size, 14, none⟩ = some (.int .i64 g.gravity) := hG1.cell 14
        rw [HBo.out] at s2
        go_wp2
        go_ret2
        exact ⟨ret_two (by omega) (by omega), (by repeat (first | exact Below.refl _ _ | assumption | (refine Below.setCell ?_ (by first | omega | (simp; done) | (simp; omega)) _) | (refine Below.alloc ?_ (by first | omega | (simp; done) | (simp; omega)) _) | refine Below.drew ?_ | (refine below_thru ?_ (by assumption) (by first | omega | (simp; done) | (simp; omega))) | refine below_drewN ?_ _))⟩
      · rw [mv_held hn hr hb ho hsl hsl2]
        clear hn hr hsl2
        have HBo := Lib.hid hb
        (try have HOo := Lib.hid ho)
        (try have HPo := Lib.hid hpw)
        (try clear hpow)
        (try clear hpw)
        (try clear ho)
        clear hb
        go_enter Tryz.func141, Tryz.ntmps141
        go_wp2_with (with_reducible refine wpl_g (g := g) (((Blk.new w _ _).alloc _).alloc _) rfl rfl rfl ?_)
        refine (HF.out _ (Ha.out.grow (by repeat (first | exact Below.refl _ _ | assumption | (refine Below.setCell ?_ (by first | omega | (simp; done) | (simp; omega)) _) | (refine Below.alloc ?_ (by first | omega | (simp; done) | (simp; omega)) _) | refine Below.drew ?_ | (refine below_thru ?_ (by assumption) (by first | omega | (simp; done) | (simp; omega))) | refine below_drewN ?_ _)))).mono ?_
        rintro e w1 ⟨rfl, hb1⟩
        obtain ⟨hc1, hf1⟩ := bcell hb1; have hz1 := hb1.size; (try simp at hz1)
        have hl0 : w.heap.size < w1.heap.size := by omega
        have hl1 : w.heap.size + 1 < w1.heap.size := by omega
        have hl2 : w.heap.size + 1 + 1 < w1.heap.size := by omega
        have hG1 : Blk w1 w.heap.size 33 (grow g) := Blk.thru (by (repeat (first | assumption | exact Blk.new _ _ _ | (refine Blk.new' _ _ _ ?_; (simp; done)) | refine Blk.drew ?_ | refine Blk.alloc ?_ _ | (refine Blk.fars ?_ ?_ _ _; rotate_left; (dsimp only; omega)) | (refine Blk.far ?_ ?_ _; rotate_left; (first | (dsimp only; omega) | (simp; done) | (simp; omega) | omega))))) hb1 (by simp <;> omega)
        have hS1 : Blk w1 (w.heap.size + 1) 42 #[.int .i64 s.pos, .int .i64 s.charge, .bool s.bolted] := Blk.thru (by (repeat (first | assumption | exact Blk.new _ _ _ | (refine Blk.new' _ _ _ ?_; (simp; done)) | refine Blk.drew ?_ | refine Blk.alloc ?_ _ | (refine Blk.fars ?_ ?_ _ _; rotate_left; (dsimp only; omega)) | (refine Blk.far ?_ ?_ _; rotate_left; (first | (dsimp only; omega) | (simp; done) | (simp; omega) | omega))))) hb1 (by simp <;> omega)
        have hT1 : Blk w1 (w.heap.size + 1 + 1) 49 #[.int .i64 t.order, .bool t.power, .int .i64 t.outer, .int .i64 t.inner] := Blk.thru (by (repeat (first | assumption | exact Blk.new _ _ _ | (refine Blk.new' _ _ _ ?_; (simp; done)) | refine Blk.drew ?_ | refine Blk.alloc ?_ _ | (refine Blk.fars ?_ ?_ _ _; rotate_left; (dsimp only; omega)) | (refine Blk.far ?_ ?_ _; rotate_left; (first | (dsimp only; omega) | (simp; done) | (simp; omega) | omega))))) hb1 (by simp <;> omega)
        have hw1 : Below w.heap.size w w1 := (by repeat (first | exact Below.refl _ _ | assumption | (refine Below.setCell ?_ (by first | omega | (simp; done) | (simp; omega)) _) | (refine Below.alloc ?_ (by first | omega | (simp; done) | (simp; omega)) _) | refine Below.drew ?_ | (refine below_thru ?_ (by assumption) (by first | omega | (simp; done) | (simp; omega))) | refine below_drewN ?_ _))
        clear hb1 hc1 hf1
        obtain ⟨s0, s1, s2, _⟩ := hS1.three
        obtain ⟨t0, t1', t2, t3⟩ := tcells_of hT1
        have c2 : w1.cell? ⟨w.heap.size, 2, none⟩ = some (.int .i64 g.travel) := hG1.cell 2
        have c11 : w1.cell? ⟨w.heap.size, 11, none⟩ = some (.int .i64 g.drive) := hG1.cell 11
        have c12 : w1.cell? ⟨w.heap.size, 12, none⟩ = some (.int .i64 g.brake) := hG1.cell 12
        have c14 : w1.cell? ⟨w.heap.size, 14, none⟩ = some (.int .i64 g.gravity) := hG1.cell 14
        rw [HBo.out] at s2
        go_wp2
        go_ret2
        exact ⟨ret_two (by omega) (by omega), (by repeat (first | exact Below.refl _ _ | assumption | (refine Below.setCell ?_ (by first | omega | (simp; done) | (simp; omega)) _) | (refine Below.alloc ?_ (by first | omega | (simp; done) | (simp; omega)) _) | refine Below.drew ?_ | (refine below_thru ?_ (by assumption) (by first | omega | (simp; done) | (simp; omega))) | refine below_drewN ?_ _))⟩

end Go.Proofs.YtgdomaddjiggaaaGreat

namespace Go.Proofs.YtgdomaddjiggaaaGreat
open Go.RowKit
set_option linter.unusedSimpArgs false
set_option linter.unusedVariables false

set_option maxRecDepth 100000 in
set_option maxHeartbeats 8000000 in
theorem rmoved_close (g : Ga) (s : Gs) (t : Gt) (w : World) (ha : g.At w w.heap.size) (hg : g.Ok) (hs : s.Ok g) (ht : t.Ok) (hb : s.bolted = false) (ho : t.order = 1) :
    Calls Tryz.prog 141 #[g.v, s.v, t.v] w fun e w' => e = .returned (.tuple #[.int .i64 (movedF g s t).1, .int .i64 (movedF g s t).2]) ∧ Below w.heap.size w w' := by
  have Ha := Lib.hid ha
  obtain ⟨nt0, nt1⟩ := net_in hg ha.ol hs.p0 hs.p1 ht.a0 ht.a1 ht.b0 ht.b1
  obtain ⟨rb0, rb1⟩ := rub_in hg s.pos ht.a0 ht.a1 ht.b0 ht.b1
  have HF := Lib.hid (fun W h => rforces_any g s.pos t.outer t.inner W h hg hs.p0 hs.p1 ht.a0 ht.a1 ht.b0 ht.b1)
  have HD := Lib.hid (fun left W h0 h1 => rdriven_any g s left W hg hs h0 h1)
  have HU := Lib.hid (fun d W h0 h1 => rused_any g d W hg h0 h1)
  have HDI := Lib.hid (fun left h0 => drive_in (left := left) hg hs h0)
  have p0 := hs.p0
  have p1 := hs.p1
  have t1 := hg.t1
  have gv0 := hg.gravity0
  have gv1 := hg.gravity1
  have br0 := hg.brake0
  have br1 := hg.brake1
  have dv0 := hg.drive0
  have dv1 := hg.drive1
  have o0 := ht.o0
  have o1 := ht.o1
  obtain ⟨nt, hn⟩ : ∃ nt, netF g s.pos t.outer t.inner = nt := ⟨_, rfl⟩
  obtain ⟨rb, hr⟩ : ∃ rb, rubF g s.pos t.outer t.inner = rb := ⟨_, rfl⟩
  rw [hn] at nt0 nt1
  rw [hr] at rb0 rb1
  rw [hn, hr] at HF
  have hpow : t.power = true ∨ t.power = false := by cases t.power <;> simp
  clear ha hg hs ht
  · have q2 : (t.order == 2) = false := by rw [beq_eq_false_iff_ne]; omega
    have q0 : (t.order == 0) = false := by rw [beq_eq_false_iff_ne]; omega
    have w9 : IntKind.i64.wrap (-nt) = -nt := IntWalk.i64_in _ (by omega)
    by_cases hfl : rb < nt
    · rw [mv_fall1 hn hr hb ho hfl]
      obtain ⟨mn, hmn⟩ : ∃ mn, min g.gravity (g.travel - s.pos) = mn := ⟨_, rfl⟩
      have y1 : (if g.travel - s.pos < g.gravity then g.travel - s.pos else g.gravity) = mn := by rw [← hmn]; split <;> omega
      have mn0 : 0 ≤ mn := by omega
      have mn1 : mn ≤ 100 := by omega
      rw [hmn]
      clear hmn hn hr
      have HBo := Lib.hid hb
      (try have HOo := Lib.hid ho)
      (try have HPo := Lib.hid hpw)
      (try clear hpow)
      (try clear hpw)
      (try clear ho)
      clear hb
      go_enter Tryz.func141, Tryz.ntmps141
      go_wp2_with (with_reducible refine wpl_g (g := g) (((Blk.new w _ _).alloc _).alloc _) rfl rfl rfl ?_)
      refine (HF.out _ (Ha.out.grow (by repeat (first | exact Below.refl _ _ | assumption | (refine Below.setCell ?_ (by first | omega | (simp; done) | (simp; omega)) _) | (refine Below.alloc ?_ (by first | omega | (simp; done) | (simp; omega)) _) | refine Below.drew ?_ | (refine below_thru ?_ (by assumption) (by first | omega | (simp; done) | (simp; omega))) | refine below_drewN ?_ _)))).mono ?_
      rintro e w1 ⟨rfl, hb1⟩
      obtain ⟨hc1, hf1⟩ := bcell hb1; have hz1 := hb1.size; (try simp at hz1)
      have hl0 : w.heap.size < w1.heap.size := by omega
      have hl1 : w.heap.size + 1 < w1.heap.size := by omega
      have hl2 : w.heap.size + 1 + 1 < w1.heap.size := by omega
      have hG1 : Blk w1 w.heap.size 33 (grow g) := Blk.thru (by (repeat (first | assumption | exact Blk.new _ _ _ | (refine Blk.new' _ _ _ ?_; (simp; done)) | refine Blk.drew ?_ | refine Blk.alloc ?_ _ | (refine Blk.fars ?_ ?_ _ _; rotate_left; (dsimp only; omega)) | (refine Blk.far ?_ ?_ _; rotate_left; (first | (dsimp only; omega) | (simp; done) | (simp; omega) | omega))))) hb1 (by simp <;> omega)
      have hS1 : Blk w1 (w.heap.size + 1) 42 #[.int .i64 s.pos, .int .i64 s.charge, .bool s.bolted] := Blk.thru (by (repeat (first | assumption | exact Blk.new _ _ _ | (refine Blk.new' _ _ _ ?_; (simp; done)) | refine Blk.drew ?_ | refine Blk.alloc ?_ _ | (refine Blk.fars ?_ ?_ _ _; rotate_left; (dsimp only; omega)) | (refine Blk.far ?_ ?_ _; rotate_left; (first | (dsimp only; omega) | (simp; done) | (simp; omega) | omega))))) hb1 (by simp <;> omega)
      have hT1 : Blk w1 (w.heap.size + 1 + 1) 49 #[.int .i64 t.order, .bool t.power, .int .i64 t.outer, .int .i64 t.inner] := Blk.thru (by (repeat (first | assumption | exact Blk.new _ _ _ | (refine Blk.new' _ _ _ ?_; (simp; done)) | refine Blk.drew ?_ | refine Blk.alloc ?_ _ | (refine Blk.fars ?_ ?_ _ _; rotate_left; (dsimp only; omega)) | (refine Blk.far ?_ ?_ _; rotate_left; (first | (dsimp only; omega) | (simp; done) | (simp; omega) | omega))))) hb1 (by simp <;> omega)
      have hw1 : Below w.heap.size w w1 := (by repeat (first | exact Below.refl _ _ | assumption | (refine Below.setCell ?_ (by first | omega | (simp; done) | (simp; omega)) _) | (refine Below.alloc ?_ (by first | omega | (simp; done) | (simp; omega)) _) | refine Below.drew ?_ | (refine below_thru ?_ (by assumption) (by first | omega | (simp; done) | (simp; omega))) | refine below_drewN ?_ _))
      clear hb1 hc1 hf1
      obtain ⟨s0, s1, s2, _⟩ := hS1.three
      obtain ⟨t0, t1', t2, t3⟩ := tcells_of hT1
      have c2 : w1.cell? ⟨w.heap.size, 2, none⟩ = some (.int .i64 g.travel) := hG1.cell 2
      have c11 : w1.cell? ⟨w.heap.size, 11, none⟩ = some (.int .i64 g.drive) := hG1.cell 11
      have c12 : w1.cell? ⟨w.heap.size, 12, none⟩ = some (.int .i64 g.brake) := hG1.cell 12
      have c14 : w1.cell? ⟨w.heap.size, 14, none⟩ = some (.int .i64 g.gravity) := hG1.cell 14
      rw [HBo.out] at s2
      go_wp2
      go_ret2
      exact ⟨ret_two (by omega) (by omega), (by repeat (first | exact Below.refl _ _ | assumption | (refine Below.setCell ?_ (by first | omega | (simp; done) | (simp; omega)) _) | (refine Below.alloc ?_ (by first | omega | (simp; done) | (simp; omega)) _) | refine Below.drew ?_ | (refine below_thru ?_ (by assumption) (by first | omega | (simp; done) | (simp; omega))) | refine below_drewN ?_ _))⟩
    · by_cases hdr : t.power = true ∧ rb < nt + g.drive
      · rw [mv_drive1 hn hr hb ho hfl hdr]
        obtain ⟨hpw, hdr⟩ := hdr
        obtain ⟨d0, d1, d2, d3, d4, d5, _⟩ := HDI.out (g.travel - s.pos) (by omega)
        have HD := Lib.hid (fun W => by
          have := HD.out (g.travel - s.pos) W (by omega) (by omega)
          rw [show s.v = .agg #[.int .i64 s.pos, .int .i64 s.charge, .bool false] by rw [← hb]] at this
          exact this)
        have HU := Lib.hid (fun W => HU.out (driveF g s (g.travel - s.pos)) W (by omega) (by omega))
        have oi0 : 0 ≤ oilF g (driveF g s (g.travel - s.pos)) ∧ oilF g (driveF g s (g.travel - s.pos)) ≤ 1000000 := by unfold oilF; omega
        obtain ⟨oi0, oi1⟩ := oi0
        generalize driveF g s (g.travel - s.pos) = dd at *
        generalize oilF g dd = oi at *
        clear hn hr d4 d5
        have HBo := Lib.hid hb
        (try have HOo := Lib.hid ho)
        (try have HPo := Lib.hid hpw)
        (try clear hpow)
        (try clear hpw)
        (try clear ho)
        clear hb
        go_enter Tryz.func141, Tryz.ntmps141
        go_wp2_with (with_reducible refine wpl_g (g := g) (((Blk.new w _ _).alloc _).alloc _) rfl rfl rfl ?_)
        refine (HF.out _ (Ha.out.grow (by repeat (first | exact Below.refl _ _ | assumption | (refine Below.setCell ?_ (by first | omega | (simp; done) | (simp; omega)) _) | (refine Below.alloc ?_ (by first | omega | (simp; done) | (simp; omega)) _) | refine Below.drew ?_ | (refine below_thru ?_ (by assumption) (by first | omega | (simp; done) | (simp; omega))) | refine below_drewN ?_ _)))).mono ?_
        rintro e w1 ⟨rfl, hb1⟩
        obtain ⟨hc1, hf1⟩ := bcell hb1; have hz1 := hb1.size; (try simp at hz1)
        have hl0 : w.heap.size < w1.heap.size := by omega
        have hl1 : w.heap.size + 1 < w1.heap.size := by omega
        have hl2 : w.heap.size + 1 + 1 < w1.heap.size := by omega
        have hG1 : Blk w1 w.heap.size 33 (grow g) := Blk.thru (by (repeat (first | assumption | exact Blk.new _ _ _ | (refine Blk.new' _ _ _ ?_; (simp; done)) | refine Blk.drew ?_ | refine Blk.alloc ?_ _ | (refine Blk.fars ?_ ?_ _ _; rotate_left; (dsimp only; omega)) | (refine Blk.far ?_ ?_ _; rotate_left; (first | (dsimp only; omega) | (simp; done) | (simp; omega) | omega))))) hb1 (by simp <;> omega)
        have hS1 : Blk w1 (w.heap.size + 1) 42 #[.int .i64 s.pos, .int .i64 s.charge, .bool s.bolted] := Blk.thru (by (repeat (first | assumption | exact Blk.new _ _ _ | (refine Blk.new' _ _ _ ?_; (simp; done)) | refine Blk.drew ?_ | refine Blk.alloc ?_ _ | (refine Blk.fars ?_ ?_ _ _; rotate_left; (dsimp only; omega)) | (refine Blk.far ?_ ?_ _; rotate_left; (first | (dsimp only; omega) | (simp; done) | (simp; omega) | omega))))) hb1 (by simp <;> omega)
        have hT1 : Blk w1 (w.heap.size + 1 + 1) 49 #[.int .i64 t.order, .bool t.power, .int .i64 t.outer, .int .i64 t.inner] := Blk.thru (by (repeat (first | assumption | exact Blk.new _ _ _ | (refine Blk.new' _ _ _ ?_; (simp; done)) | refine Blk.drew ?_ | refine Blk.alloc ?_ _ | (refine Blk.fars ?_ ?_ _ _; rotate_left; (dsimp only; omega)) | (refine Blk.far ?_ ?_ _; rotate_left; (first | (dsimp only; omega) | (simp; done) | (simp; omega) | omega))))) hb1 (by simp <;> omega)
        have hw1 : Below w.heap.size w w1 := (by repeat (first | exact Below.refl _ _ | assumption | (refine Below.setCell ?_ (by first | omega | (simp; done) | (simp; omega)) _) | (refine Below.alloc ?_ (by first | omega | (simp; done) | (simp; omega)) _) | refine Below.drew ?_ | (refine below_thru ?_ (by assumption) (by first | omega | (simp; done) | (simp; omega))) | refine below_drewN ?_ _))
        clear hb1 hc1 hf1
        obtain ⟨s0, s1, s2, _⟩ := hS1.three
        obtain ⟨t0, t1', t2, t3⟩ := tcells_of hT1
        have c2 : w1.cell? ⟨w.heap.size, 2, none⟩ = some (.int .i64 g.travel) := hG1.cell 2
        have c11 : w1.cell? ⟨w.heap.size, 11, none⟩ = some (.int .i64 g.drive) := hG1.cell 11
        have c12 : w1.cell? ⟨w.heap.size, 12, none⟩ = some (.int .i64 g.brake) := hG1.cell 12
        have c14 : w1.cell? ⟨w.heap.size, 14, none⟩ = some (.int .i64 g.gravity) := hG1.cell 14
        rw [HBo.out] at s2
        rw [HPo.out] at t1'
        go_wp2_with (with_reducible refine wpl_g (g := g) (b := w.heap.size) (t := 33) (by exact hG1) rfl rfl rfl ?_)
        refine (HD.out _).mono ?_
        rintro e w2 ⟨rfl, hb2⟩
        have hG2 : Blk w2 w.heap.size 33 (grow g) := Blk.thru (by exact hG1) hb2 (show w.heap.size < w1.heap.size by omega)
        have hw2 : Below w.heap.size w w2 := by first | exact hw1.trans (hb2.mono (by omega)) | exact (below_drewN hw1 _).trans (hb2.mono (show w.heap.size ≤ w1.heap.size by omega))
        have hz2 := hb2.size
        clear hb2
        go_wp2_with (with_reducible refine wpl_g (g := g) (b := w.heap.size) (t := 33) hG2 rfl rfl rfl ?_)
        refine (HU.out _).mono ?_
        rintro e w3 ⟨rfl, hb3⟩
        have hw3 : Below w.heap.size w w3 := hw2.trans (hb3.mono hw2.size)
        go_wp2
        go_ret2
        exact ⟨ret_two (by omega) (by omega), hw3⟩
      · rw [mv_stop1 hn hr hb ho hfl hdr]
        rcases hpow with hpw | hpw
        · have hdr2 : ¬ rb < nt + g.drive := fun h => hdr ⟨hpw, h⟩
          clear hn hr hdr
          have HBo := Lib.hid hb
          (try have HOo := Lib.hid ho)
          (try have HPo := Lib.hid hpw)
          (try clear hpow)
          (try clear hpw)
          (try clear ho)
          clear hb
          go_enter Tryz.func141, Tryz.ntmps141
          go_wp2_with (with_reducible refine wpl_g (g := g) (((Blk.new w _ _).alloc _).alloc _) rfl rfl rfl ?_)
          refine (HF.out _ (Ha.out.grow (by repeat (first | exact Below.refl _ _ | assumption | (refine Below.setCell ?_ (by first | omega | (simp; done) | (simp; omega)) _) | (refine Below.alloc ?_ (by first | omega | (simp; done) | (simp; omega)) _) | refine Below.drew ?_ | (refine below_thru ?_ (by assumption) (by first | omega | (simp; done) | (simp; omega))) | refine below_drewN ?_ _)))).mono ?_
          rintro e w1 ⟨rfl, hb1⟩
          obtain ⟨hc1, hf1⟩ := bcell hb1; have hz1 := hb1.size; (try simp at hz1)
          have hl0 : w.heap.size < w1.heap.size := by omega
          have hl1 : w.heap.size + 1 < w1.heap.size := by omega
          have hl2 : w.heap.size + 1 + 1 < w1.heap.size := by omega
          have hG1 : Blk w1 w.heap.size 33 (grow g) := Blk.thru (by (repeat (first | assumption | exact Blk.new _ _ _ | (refine Blk.new' _ _ _ ?_; (simp; done)) | refine Blk.drew ?_ | refine Blk.alloc ?_ _ | (refine Blk.fars ?_ ?_ _ _; rotate_left; (dsimp only; omega)) | (refine Blk.far ?_ ?_ _; rotate_left; (first | (dsimp only; omega) | (simp; done) | (simp; omega) | omega))))) hb1 (by simp <;> omega)
          have hS1 : Blk w1 (w.heap.size + 1) 42 #[.int .i64 s.pos, .int .i64 s.charge, .bool s.bolted] := Blk.thru (by (repeat (first | assumption | exact Blk.new _ _ _ | (refine Blk.new' _ _ _ ?_; (simp; done)) | refine Blk.drew ?_ | refine Blk.alloc ?_ _ | (refine Blk.fars ?_ ?_ _ _; rotate_left; (dsimp only; omega)) | (refine Blk.far ?_ ?_ _; rotate_left; (first | (dsimp only; omega) | (simp; done) | (simp; omega) | omega))))) hb1 (by simp <;> omega)
          have hT1 : Blk w1 (w.heap.size + 1 + 1) 49 #[.int .i64 t.order, .bool t.power, .int .i64 t.outer, .int .i64 t.inner] := Blk.thru (by (repeat (first | assumption | exact Blk.new _ _ _ | (refine Blk.new' _ _ _ ?_; (simp; done)) | refine Blk.drew ?_ | refine Blk.alloc ?_ _ | (refine Blk.fars ?_ ?_ _ _; rotate_left; (dsimp only; omega)) | (refine Blk.far ?_ ?_ _; rotate_left; (first | (dsimp only; omega) | (simp; done) | (simp; omega) | omega))))) hb1 (by simp <;> omega)
          have hw1 : Below w.heap.size w w1 := (by repeat (first | exact Below.refl _ _ | assumption | (refine Below.setCell ?_ (by first | omega | (simp; done) | (simp; omega)) _) | (refine Below.alloc ?_ (by first | omega | (simp; done) | (simp; omega)) _) | refine Below.drew ?_ | (refine below_thru ?_ (by assumption) (by first | omega | (simp; done) | (simp; omega))) | refine below_drewN ?_ _))
          clear hb1 hc1 hf1
          obtain ⟨s0, s1, s2, _⟩ := hS1.three
          obtain ⟨t0, t1', t2, t3⟩ := tcells_of hT1
          have c2 : w1.cell? ⟨w.heap.size, 2, none⟩ = some (.int .i64 g.travel) := hG1.cell 2
          have c11 : w1.cell? ⟨w.heap.size, 11, none⟩ = some (.int .i64 g.drive) := hG1.cell 11
          have c12 : w1.cell? ⟨w.heap.size, 12, none⟩ = some (.int .i64 g.brake) := hG1.cell 12
          have c14 : w1.cell? ⟨w.heap.size, 14, none⟩ = some (.int .i64 g.gravity) := hG1.cell 14
          rw [HBo.out] at s2
          rw [HPo.out] at t1'
          go_wp2
          go_ret2
          exact ⟨ret_two (by omega) (by omega), (by repeat (first | exact Below.refl _ _ | assumption | (refine Below.setCell ?_ (by first | omega | (simp; done) | (simp; omega)) _) | (refine Below.alloc ?_ (by first | omega | (simp; done) | (simp; omega)) _) | refine Below.drew ?_ | (refine below_thru ?_ (by assumption) (by first | omega | (simp; done) | (simp; omega))) | refine below_drewN ?_ _))⟩
        · clear hn hr hdr
          have HBo := Lib.hid hb
          (try have HOo := Lib.hid ho)
          (try have HPo := Lib.hid hpw)
          (try clear hpow)
          (try clear hpw)
          (try clear ho)
          clear hb
          go_enter Tryz.func141, Tryz.ntmps141
          go_wp2_with (with_reducible refine wpl_g (g := g) (((Blk.new w _ _).alloc _).alloc _) rfl rfl rfl ?_)
          refine (HF.out _ (Ha.out.grow (by repeat (first | exact Below.refl _ _ | assumption | (refine Below.setCell ?_ (by first | omega | (simp; done) | (simp; omega)) _) | (refine Below.alloc ?_ (by first | omega | (simp; done) | (simp; omega)) _) | refine Below.drew ?_ | (refine below_thru ?_ (by assumption) (by first | omega | (simp; done) | (simp; omega))) | refine below_drewN ?_ _)))).mono ?_
          rintro e w1 ⟨rfl, hb1⟩
          obtain ⟨hc1, hf1⟩ := bcell hb1; have hz1 := hb1.size; (try simp at hz1)
          have hl0 : w.heap.size < w1.heap.size := by omega
          have hl1 : w.heap.size + 1 < w1.heap.size := by omega
          have hl2 : w.heap.size + 1 + 1 < w1.heap.size := by omega
          have hG1 : Blk w1 w.heap.size 33 (grow g) := Blk.thru (by (repeat (first | assumption | exact Blk.new _ _ _ | (refine Blk.new' _ _ _ ?_; (simp; done)) | refine Blk.drew ?_ | refine Blk.alloc ?_ _ | (refine Blk.fars ?_ ?_ _ _; rotate_left; (dsimp only; omega)) | (refine Blk.far ?_ ?_ _; rotate_left; (first | (dsimp only; omega) | (simp; done) | (simp; omega) | omega))))) hb1 (by simp <;> omega)
          have hS1 : Blk w1 (w.heap.size + 1) 42 #[.int .i64 s.pos, .int .i64 s.charge, .bool s.bolted] := Blk.thru (by (repeat (first | assumption | exact Blk.new _ _ _ | (refine Blk.new' _ _ _ ?_; (simp; done)) | refine Blk.drew ?_ | refine Blk.alloc ?_ _ | (refine Blk.fars ?_ ?_ _ _; rotate_left; (dsimp only; omega)) | (refine Blk.far ?_ ?_ _; rotate_left; (first | (dsimp only; omega) | (simp; done) | (simp; omega) | omega))))) hb1 (by simp <;> omega)
          have hT1 : Blk w1 (w.heap.size + 1 + 1) 49 #[.int .i64 t.order, .bool t.power, .int .i64 t.outer, .int .i64 t.inner] := Blk.thru (by (repeat (first | assumption | exact Blk.new _ _ _ | (refine Blk.new' _ _ _ ?_; (simp; done)) | refine Blk.drew ?_ | refine Blk.alloc ?_ _ | (refine Blk.fars ?_ ?_ _ _; rotate_left; (dsimp only; omega)) | (refine Blk.far ?_ ?_ _; rotate_left; (first | (dsimp only; omega) | (simp; done) | (simp; omega) | omega))))) hb1 (by simp <;> omega)
          have hw1 : Below w.heap.size w w1 := (by repeat (first | exact Below.refl _ _ | assumption | (refine Below.setCell ?_ (by first | omega | (simp; done) | (simp; omega)) _) | (refine Below.alloc ?_ (by first | omega | (simp; done) | (simp; omega)) _) | refine Below.drew ?_ | (refine below_thru ?_ (by assumption) (by first | omega | (simp; done) | (simp; omega))) | refine below_drewN ?_ _))
          clear hb1 hc1 hf1
          obtain ⟨s0, s1, s2, _⟩ := hS1.three
          obtain ⟨t0, t1', t2, t3⟩ := tcells_of hT1
          have c2 : w1.cell? ⟨w.heap.size, 2, none⟩ = some (.int .i64 g.travel) := hG1.cell 2
          have c11 : w1.cell? ⟨w.heap.size, 11, none⟩ = some (.int .i64 g.drive) := hG1.cell 11
          have c12 : w1.cell? ⟨w.heap.size, 12, none⟩ = some (.int .i64 g.brake) := hG1.cell 12
          have c14 : w1.cell? ⟨w.heap.size, 14, none⟩ = some (.int .i64 g.gravity) := hG1.cell 14
          rw [HBo.out] at s2
          rw [HPo.out] at t1'
          go_wp2
          go_ret2
          exact ⟨ret_two (by omega) (by omega), (by repeat (first | exact Below.refl _ _ | assumption | (refine Below.setCell ?_ (by first | omega | (simp; done) | (simp; omega)) _) | (refine Below.alloc ?_ (by first | omega | (simp; done) | (simp; omega)) _) | refine Below.drew ?_ | (refine below_thru ?_ (by assumption) (by first | omega | (simp; done) | (simp; omega))) | refine below_drewN ?_ _))⟩

end Go.Proofs.YtgdomaddjiggaaaGreat

namespace Go.Proofs.YtgdomaddjiggaaaGreat
open Go.RowKit
set_option linter.unusedSimpArgs false
set_option linter.unusedVariables false

set_option maxRecDepth 100000 in
set_option maxHeartbeats 8000000 in
theorem rmoved_open (g : Ga) (s : Gs) (t : Gt) (w : World) (ha : g.At w w.heap.size) (hg : g.Ok) (hs : s.Ok g) (ht : t.Ok) (hb : s.bolted = false) (ho : t.order = 2) :
    Calls Tryz.prog 141 #[g.v, s.v, t.v] w fun e w' => e = .returned (.tuple #[.int .i64 (movedF g s t).1, .int .i64 (movedF g s t).2]) ∧ Below w.heap.size w w' := by
  have Ha := Lib.hid ha
  obtain ⟨nt0, nt1⟩ := net_in hg ha.ol hs.p0 hs.p1 ht.a0 ht.a1 ht.b0 ht.b1
  obtain ⟨rb0, rb1⟩ := rub_in hg s.pos ht.a0 ht.a1 ht.b0 ht.b1
  have HF := Lib.hid (fun W h => rforces_any g s.pos t.outer t.inner W h hg hs.p0 hs.p1 ht.a0 ht.a1 ht.b0 ht.b1)
  have HD := Lib.hid (fun left W h0 h1 => rdriven_any g s left W hg hs h0 h1)
  have HU := Lib.hid (fun d W h0 h1 => rused_any g d W hg h0 h1)
  have HDI := Lib.hid (fun left h0 => drive_in (left := left) hg hs h0)
  have p0 := hs.p0
  have p1 := hs.p1
  have t1 := hg.t1
  have gv0 := hg.gravity0
  have gv1 := hg.gravity1
  have br0 := hg.brake0
  have br1 := hg.brake1
  have dv0 := hg.drive0
  have dv1 := hg.drive1
  have o0 := ht.o0
  have o1 := ht.o1
  obtain ⟨nt, hn⟩ : ∃ nt, netF g s.pos t.outer t.inner = nt := ⟨_, rfl⟩
  obtain ⟨rb, hr⟩ : ∃ rb, rubF g s.pos t.outer t.inner = rb := ⟨_, rfl⟩
  rw [hn] at nt0 nt1
  rw [hr] at rb0 rb1
  rw [hn, hr] at HF
  have hpow : t.power = true ∨ t.power = false := by cases t.power <;> simp
  clear ha hg hs ht
  · have q2 : (t.order == 2) = true := by rw [beq_iff_eq]; exact ho
    have q0 : (t.order == 0) = false := by rw [beq_eq_false_iff_ne]; omega
    have w9 : IntKind.i64.wrap (-nt) = -nt := IntWalk.i64_in _ (by omega)
    by_cases hfl : rb < -nt
    · rw [mv_fall2 hn hr hb ho hfl]
      obtain ⟨mn, hmn⟩ : ∃ mn, min g.gravity s.pos = mn := ⟨_, rfl⟩
      have y1 : (if s.pos < g.gravity then s.pos else g.gravity) = mn := by rw [← hmn]; split <;> omega
      have mn0 : 0 ≤ mn := by omega
      have mn1 : mn ≤ 100 := by omega
      rw [hmn]
      clear hmn hn hr
      have HBo := Lib.hid hb
      (try have HOo := Lib.hid ho)
      (try have HPo := Lib.hid hpw)
      (try clear hpow)
      (try clear hpw)
      (try clear ho)
      clear hb
      go_enter Tryz.func141, Tryz.ntmps141
      go_wp2_with (with_reducible refine wpl_g (g := g) (((Blk.new w _ _).alloc _).alloc _) rfl rfl rfl ?_)
      refine (HF.out _ (Ha.out.grow (by repeat (first | exact Below.refl _ _ | assumption | (refine Below.setCell ?_ (by first | omega | (simp; done) | (simp; omega)) _) | (refine Below.alloc ?_ (by first | omega | (simp; done) | (simp; omega)) _) | refine Below.drew ?_ | (refine below_thru ?_ (by assumption) (by first | omega | (simp; done) | (simp; omega))) | refine below_drewN ?_ _)))).mono ?_
      rintro e w1 ⟨rfl, hb1⟩
      obtain ⟨hc1, hf1⟩ := bcell hb1; have hz1 := hb1.size; (try simp at hz1)
      have hl0 : w.heap.size < w1.heap.size := by omega
      have hl1 : w.heap.size + 1 < w1.heap.size := by omega
      have hl2 : w.heap.size + 1 + 1 < w1.heap.size := by omega
      have hG1 : Blk w1 w.heap.size 33 (grow g) := Blk.thru (by (repeat (first | assumption | exact Blk.new _ _ _ | (refine Blk.new' _ _ _ ?_; (simp; done)) | refine Blk.drew ?_ | refine Blk.alloc ?_ _ | (refine Blk.fars ?_ ?_ _ _; rotate_left; (dsimp only; omega)) | (refine Blk.far ?_ ?_ _; rotate_left; (first | (dsimp only; omega) | (simp; done) | (simp; omega) | omega))))) hb1 (by simp <;> omega)
      have hS1 : Blk w1 (w.heap.size + 1) 42 #[.int .i64 s.pos, .int .i64 s.charge, .bool s.bolted] := Blk.thru (by (repeat (first | assumption | exact Blk.new _ _ _ | (refine Blk.new' _ _ _ ?_; (simp; done)) | refine Blk.drew ?_ | refine Blk.alloc ?_ _ | (refine Blk.fars ?_ ?_ _ _; rotate_left; (dsimp only; omega)) | (refine Blk.far ?_ ?_ _; rotate_left; (first | (dsimp only; omega) | (simp; done) | (simp; omega) | omega))))) hb1 (by simp <;> omega)
      have hT1 : Blk w1 (w.heap.size + 1 + 1) 49 #[.int .i64 t.order, .bool t.power, .int .i64 t.outer, .int .i64 t.inner] := Blk.thru (by (repeat (first | assumption | exact Blk.new _ _ _ | (refine Blk.new' _ _ _ ?_; (simp; done)) | refine Blk.drew ?_ | refine Blk.alloc ?_ _ | (refine Blk.fars ?_ ?_ _ _; rotate_left; (dsimp only; omega)) | (refine Blk.far ?_ ?_ _; rotate_left; (first | (dsimp only; omega) | (simp; done) | (simp; omega) | omega))))) hb1 (by simp <;> omega)
      have hw1 : Below w.heap.size w w1 := (by repeat (first | exact Below.refl _ _ | assumption | (refine Below.setCell ?_ (by first | omega | (simp; done) | (simp; omega)) _) | (refine Below.alloc ?_ (by first | omega | (simp; done) | (simp; omega)) _) | refine Below.drew ?_ | (refine below_thru ?_ (by assumption) (by first | omega | (simp; done) | (simp; omega))) | refine below_drewN ?_ _))
      clear hb1 hc1 hf1
      obtain ⟨s0, s1, s2, _⟩ := hS1.three
      obtain ⟨t0, t1', t2, t3⟩ := tcells_of hT1
      have c2 : w1.cell? ⟨w.heap.size, 2, none⟩ = some (.int .i64 g.travel) := hG1.cell 2
      have c11 : w1.cell? ⟨w.heap.size, 11, none⟩ = some (.int .i64 g.drive) := hG1.cell 11
      have c12 : w1.cell? ⟨w.heap.size, 12, none⟩ = some (.int .i64 g.brake) := hG1.cell 12
      have c14 : w1.cell? ⟨w.heap.size, 14, none⟩ = some (.int .i64 g.gravity) := hG1.cell 14
      rw [HBo.out] at s2
      go_wp2_with fail
      go_quiet (fail)
      go_wp2
      go_ret2
      exact ⟨ret_two (by omega) (by omega), (by repeat (first | exact Below.refl _ _ | assumption | (refine Below.setCell ?_ (by first | omega | (simp; done) | (simp; omega)) _) | (refine Below.alloc ?_ (by first | omega | (simp; done) | (simp; omega)) _) | refine Below.drew ?_ | (refine below_thru ?_ (by assumption) (by first | omega | (simp; done) | (simp; omega))) | refine below_drewN ?_ _))⟩
    · by_cases hdr : t.power = true ∧ rb < -nt + g.drive
      · rw [mv_drive2 hn hr hb ho hfl hdr]
        obtain ⟨hpw, hdr⟩ := hdr
        obtain ⟨d0, d1, d2, d3, d4, d5, _⟩ := HDI.out s.pos (by omega)
        have HD := Lib.hid (fun W => by
          have := HD.out s.pos W (by omega) (by omega)
          rw [show s.v = .agg #[.int .i64 s.pos, .int .i64 s.charge, .bool false] by rw [← hb]] at this
          exact this)
        have HU := Lib.hid (fun W => HU.out (driveF g s s.pos) W (by omega) (by omega))
        have oi0 : 0 ≤ oilF g (driveF g s s.pos) ∧ oilF g (driveF g s s.pos) ≤ 1000000 := by unfold oilF; omega
        obtain ⟨oi0, oi1⟩ := oi0
        generalize driveF g s s.pos = dd at *
        generalize oilF g dd = oi at *
        clear hn hr d4 d5
        have HBo := Lib.hid hb
        (try have HOo := Lib.hid ho)
        (try have HPo := Lib.hid hpw)
        (try clear hpow)
        (try clear hpw)
        (try clear ho)
        clear hb
        go_enter Tryz.func141, Tryz.ntmps141
        go_wp2_with (with_reducible refine wpl_g (g := g) (((Blk.new w _ _).alloc _).alloc _) rfl rfl rfl ?_)
        refine (HF.out _ (Ha.out.grow (by repeat (first | exact Below.refl _ _ | assumption | (refine Below.setCell ?_ (by first | omega | (simp; done) | (simp; omega)) _) | (refine Below.alloc ?_ (by first | omega | (simp; done) | (simp; omega)) _) | refine Below.drew ?_ | (refine below_thru ?_ (by assumption) (by first | omega | (simp; done) | (simp; omega))) | refine below_drewN ?_ _)))).mono ?_
        rintro e w1 ⟨rfl, hb1⟩
        obtain ⟨hc1, hf1⟩ := bcell hb1; have hz1 := hb1.size; (try simp at hz1)
        have hl0 : w.heap.size < w1.heap.size := by omega
        have hl1 : w.heap.size + 1 < w1.heap.size := by omega
        have hl2 : w.heap.size + 1 + 1 < w1.heap.size := by omega
        have hG1 : Blk w1 w.heap.size 33 (grow g) := Blk.thru (by (repeat (first | assumption | exact Blk.new _ _ _ | (refine Blk.new' _ _ _ ?_; (simp; done)) | refine Blk.drew ?_ | refine Blk.alloc ?_ _ | (refine Blk.fars ?_ ?_ _ _; rotate_left; (dsimp only; omega)) | (refine Blk.far ?_ ?_ _; rotate_left; (first | (dsimp only; omega) | (simp; done) | (simp; omega) | omega))))) hb1 (by simp <;> omega)
        have hS1 : Blk w1 (w.heap.size + 1) 42 #[.int .i64 s.pos, .int .i64 s.charge, .bool s.bolted] := Blk.thru (by (repeat (first | assumption | exact Blk.new _ _ _ | (refine Blk.new' _ _ _ ?_; (simp; done)) | refine Blk.drew ?_ | refine Blk.alloc ?_ _ | (refine Blk.fars ?_ ?_ _ _; rotate_left; (dsimp only; omega)) | (refine Blk.far ?_ ?_ _; rotate_left; (first | (dsimp only; omega) | (simp; done) | (simp; omega) | omega))))) hb1 (by simp <;> omega)
        have hT1 : Blk w1 (w.heap.size + 1 + 1) 49 #[.int .i64 t.order, .bool t.power, .int .i64 t.outer, .int .i64 t.inner] := Blk.thru (by (repeat (first | assumption | exact Blk.new _ _ _ | (refine Blk.new' _ _ _ ?_; (simp; done)) | refine Blk.drew ?_ | refine Blk.alloc ?_ _ | (refine Blk.fars ?_ ?_ _ _; rotate_left; (dsimp only; omega)) | (refine Blk.far ?_ ?_ _; rotate_left; (first | (dsimp only; omega) | (simp; done) | (simp; omega) | omega))))) hb1 (by simp <;> omega)
        have hw1 : Below w.heap.size w w1 := (by repeat (first | exact Below.refl _ _ | assumption | (refine Below.setCell ?_ (by first | omega | (simp; done) | (simp; omega)) _) | (refine Below.alloc ?_ (by first | omega | (simp; done) | (simp; omega)) _) | refine Below.drew ?_ | (refine below_thru ?_ (by assumption) (by first | omega | (simp; done) | (simp; omega))) | refine below_drewN ?_ _))
        clear hb1 hc1 hf1
        obtain ⟨s0, s1, s2, _⟩ := hS1.three
        obtain ⟨t0, t1', t2, t3⟩ := tcells_of hT1
        have c2 : w1.cell? ⟨w.heap.size, 2, none⟩ = some (.int .i64 g.travel) := hG1.cell 2
        have c11 : w1.cell? ⟨w.heap.size, 11, none⟩ = some (.int .i64 g.drive) := hG1.cell 11
        have c12 : w1.cell? ⟨w.heap.size, 12, none⟩ = some (.int .i64 g.brake) := hG1.cell 12
        have c14 : w1.cell? ⟨w.heap.size, 14, none⟩ = some (.int .i64 g.gravity) := hG1.cell 14
        rw [HBo.out] at s2
        rw [HPo.out] at t1'
        go_wp2_with fail
        go_quiet (fail)
        have hG1n : ∀ n : Nat, Blk (w1.drewN n) w.heap.size 33 (grow g) := fun _ => hG1
        go_wp2_with (with_reducible refine wpl_g (g := g) (b := w.heap.size) (t := 33) (hG1n _) rfl rfl rfl ?_)
        refine (HD.out _).mono ?_
        rintro e w2 ⟨rfl, hb2⟩
        have hG2 : Blk w2 w.heap.size 33 (grow g) := Blk.thru (by exact hG1) hb2 (show w.heap.size < w1.heap.size by omega)
        have hw2 : Below w.heap.size w w2 := by first | exact hw1.trans (hb2.mono (by omega)) | exact (below_drewN hw1 _).trans (hb2.mono (show w.heap.size ≤ w1.heap.size by omega))
        have hz2 := hb2.size
        clear hb2
        go_wp2_with (with_reducible refine wpl_g (g := g) (b := w.heap.size) (t := 33) hG2 rfl rfl rfl ?_)
        refine (HU.out _).mono ?_
        rintro e w3 ⟨rfl, hb3⟩
        have hw3 : Below w.heap.size w w3 := hw2.trans (hb3.mono hw2.size)
        go_wp2
        go_ret2
        exact ⟨ret_two (by omega) (by omega), hw3⟩
      · rw [mv_stop2 hn hr hb ho hfl hdr]
        rcases hpow with hpw | hpw
        · have hdr2 : ¬ rb < -nt + g.drive := fun h => hdr ⟨hpw, h⟩
          clear hn hr hdr
          have HBo := Lib.hid hb
          (try have HOo := Lib.hid ho)
          (try have HPo := Lib.hid hpw)
          (try clear hpow)
          (try clear hpw)
          (try clear ho)
          clear hb
          go_enter Tryz.func141, Tryz.ntmps141
          go_wp2_with (with_reducible refine wpl_g (g := g) (((Blk.new w _ _).alloc _).alloc _) rfl rfl rfl ?_)
          refine (HF.out _ (Ha.out.grow (by repeat (first | exact Below.refl _ _ | assumption | (refine Below.setCell ?_ (by first | omega | (simp; done) | (simp; omega)) _) | (refine Below.alloc ?_ (by first | omega | (simp; done) | (simp; omega)) _) | refine Below.drew ?_ | (refine below_thru ?_ (by assumption) (by first | omega | (simp; done) | (simp; omega))) | refine below_drewN ?_ _)))).mono ?_
          rintro e w1 ⟨rfl, hb1⟩
          obtain ⟨hc1, hf1⟩ := bcell hb1; have hz1 := hb1.size; (try simp at hz1)
          have hl0 : w.heap.size < w1.heap.size := by omega
          have hl1 : w.heap.size + 1 < w1.heap.size := by omega
          have hl2 : w.heap.size + 1 + 1 < w1.heap.size := by omega
          have hG1 : Blk w1 w.heap.size 33 (grow g) := Blk.thru (by (repeat (first | assumption | exact Blk.new _ _ _ | (refine Blk.new' _ _ _ ?_; (simp; done)) | refine Blk.drew ?_ | refine Blk.alloc ?_ _ | (refine Blk.fars ?_ ?_ _ _; rotate_left; (dsimp only; omega)) | (refine Blk.far ?_ ?_ _; rotate_left; (first | (dsimp only; omega) | (simp; done) | (simp; omega) | omega))))) hb1 (by simp <;> omega)
          have hS1 : Blk w1 (w.heap.size + 1) 42 #[.int .i64 s.pos, .int .i64 s.charge, .bool s.bolted] := Blk.thru (by (repeat (first | assumption | exact Blk.new _ _ _ | (refine Blk.new' _ _ _ ?_; (simp; done)) | refine Blk.drew ?_ | refine Blk.alloc ?_ _ | (refine Blk.fars ?_ ?_ _ _; rotate_left; (dsimp only; omega)) | (refine Blk.far ?_ ?_ _; rotate_left; (first | (dsimp only; omega) | (simp; done) | (simp; omega) | omega))))) hb1 (by simp <;> omega)
          have hT1 : Blk w1 (w.heap.size + 1 + 1) 49 #[.int .i64 t.order, .bool t.power, .int .i64 t.outer, .int .i64 t.inner] := Blk.thru (by (repeat (first | assumption | exact Blk.new _ _ _ | (refine Blk.new' _ _ _ ?_; (simp; done)) | refine Blk.drew ?_ | refine Blk.alloc ?_ _ | (refine Blk.fars ?_ ?_ _ _; rotate_left; (dsimp only; omega)) | (refine Blk.far ?_ ?_ _; rotate_left; (first | (dsimp only; omega) | (simp; done) | (simp; omega) | omega))))) hb1 (by simp <;> omega)
          have hw1 : Below w.heap.size w w1 := (by repeat (first | exact Below.refl _ _ | assumption | (refine Below.setCell ?_ (by first | omega | (simp; done) | (simp; omega)) _) | (refine Below.alloc ?_ (by first | omega | (simp; done) | (simp; omega)) _) | refine Below.drew ?_ | (refine below_thru ?_ (by assumption) (by first | omega | (simp; done) | (simp; omega))) | refine below_drewN ?_ _))
          clear hb1 hc1 hf1
          obtain ⟨s0, s1, s2, _⟩ := hS1.three
          obtain ⟨t0, t1', t2, t3⟩ := tcells_of hT1
          have c2 : w1.cell? ⟨w.heap.size, 2, none⟩ = some (.int .i64 g.travel) := hG1.cell 2
          have c11 : w1.cell? ⟨w.heap.size, 11, none⟩ = some (.int .i64 g.drive) := hG1.cell 11
          have c12 : w1.cell? ⟨w.heap.size, 12, none⟩ = some (.int .i64 g.brake) := hG1.cell 12
          have c14 : w1.cell? ⟨w.heap.size, 14, none⟩ = some (.int .i64 g.gravity) := hG1.cell 14
          rw [HBo.out] at s2
          rw [HPo.out] at t1'
          go_wp2_with fail
          go_quiet (fail)
          go_wp2
          go_ret2
          exact ⟨ret_two (by omega) (by omega), (by repeat (first | exact Below.refl _ _ | assumption | (refine Below.setCell ?_ (by first | omega | (simp; done) | (simp; omega)) _) | (refine Below.alloc ?_ (by first | omega | (simp; done) | (simp; omega)) _) | refine Below.drew ?_ | (refine below_thru ?_ (by assumption) (by first | omega | (simp; done) | (simp; omega))) | refine below_drewN ?_ _))⟩
        · clear hn hr hdr
          have HBo := Lib.hid hb
          (try have HOo := Lib.hid ho)
          (try have HPo := Lib.hid hpw)
          (try clear hpow)
          (try clear hpw)
          (try clear ho)
          clear hb
          go_enter Tryz.func141, Tryz.ntmps141
          go_wp2_with (with_reducible refine wpl_g (g := g) (((Blk.new w _ _).alloc _).alloc _) rfl rfl rfl ?_)
          refine (HF.out _ (Ha.out.grow (by repeat (first | exact Below.refl _ _ | assumption | (refine Below.setCell ?_ (by first | omega | (simp; done) | (simp; omega)) _) | (refine Below.alloc ?_ (by first | omega | (simp; done) | (simp; omega)) _) | refine Below.drew ?_ | (refine below_thru ?_ (by assumption) (by first | omega | (simp; done) | (simp; omega))) | refine below_drewN ?_ _)))).mono ?_
          rintro e w1 ⟨rfl, hb1⟩
          obtain ⟨hc1, hf1⟩ := bcell hb1; have hz1 := hb1.size; (try simp at hz1)
          have hl0 : w.heap.size < w1.heap.size := by omega
          have hl1 : w.heap.size + 1 < w1.heap.size := by omega
          have hl2 : w.heap.size + 1 + 1 < w1.heap.size := by omega
          have hG1 : Blk w1 w.heap.size 33 (grow g) := Blk.thru (by (repeat (first | assumption | exact Blk.new _ _ _ | (refine Blk.new' _ _ _ ?_; (simp; done)) | refine Blk.drew ?_ | refine Blk.alloc ?_ _ | (refine Blk.fars ?_ ?_ _ _; rotate_left; (dsimp only; omega)) | (refine Blk.far ?_ ?_ _; rotate_left; (first | (dsimp only; omega) | (simp; done) | (simp; omega) | omega))))) hb1 (by simp <;> omega)
          have hS1 : Blk w1 (w.heap.size + 1) 42 #[.int .i64 s.pos, .int .i64 s.charge, .bool s.bolted] := Blk.thru (by (repeat (first | assumption | exact Blk.new _ _ _ | (refine Blk.new' _ _ _ ?_; (simp; done)) | refine Blk.drew ?_ | refine Blk.alloc ?_ _ | (refine Blk.fars ?_ ?_ _ _; rotate_left; (dsimp only; omega)) | (refine Blk.far ?_ ?_ _; rotate_left; (first | (dsimp only; omega) | (simp; done) | (simp; omega) | omega))))) hb1 (by simp <;> omega)
          have hT1 : Blk w1 (w.heap.size + 1 + 1) 49 #[.int .i64 t.order, .bool t.power, .int .i64 t.outer, .int .i64 t.inner] := Blk.thru (by (repeat (first | assumption | exact Blk.new _ _ _ | (refine Blk.new' _ _ _ ?_; (simp; done)) | refine Blk.drew ?_ | refine Blk.alloc ?_ _ | (refine Blk.fars ?_ ?_ _ _; rotate_left; (dsimp only; omega)) | (refine Blk.far ?_ ?_ _; rotate_left; (first | (dsimp only; omega) | (simp; done) | (simp; omega) | omega))))) hb1 (by simp <;> omega)
          have hw1 : Below w.heap.size w w1 := (by repeat (first | exact Below.refl _ _ | assumption | (refine Below.setCell ?_ (by first | omega | (simp; done) | (simp; omega)) _) | (refine Below.alloc ?_ (by first | omega | (simp; done) | (simp; omega)) _) | refine Below.drew ?_ | (refine below_thru ?_ (by assumption) (by first | omega | (simp; done) | (simp; omega))) | refine below_drewN ?_ _))
          clear hb1 hc1 hf1
          obtain ⟨s0, s1, s2, _⟩ := hS1.three
          obtain ⟨t0, t1', t2, t3⟩ := tcells_of hT1
          have c2 : w1.cell? ⟨w.heap.size, 2, none⟩ = some (.int .i64 g.travel) := hG1.cell 2
          have c11 : w1.cell? ⟨w.heap.size, 11, none⟩ = some (.int .i64 g.drive) := hG1.cell 11
          have c12 : w1.cell? ⟨w.heap.size, 12, none⟩ = some (.int .i64 g.brake) := hG1.cell 12
          have c14 : w1.cell? ⟨w.heap.size, 14, none⟩ = some (.int .i64 g.gravity) := hG1.cell 14
          rw [HBo.out] at s2
          rw [HPo.out] at t1'
          go_wp2_with fail
          go_quiet (fail)
          go_wp2
          go_ret2
          exact ⟨ret_two (by omega) (by omega), (by repeat (first | exact Below.refl _ _ | assumption | (refine Below.setCell ?_ (by first | omega | (simp; done) | (simp; omega)) _) | (refine Below.alloc ?_ (by first | omega | (simp; done) | (simp; omega)) _) | refine Below.drew ?_ | (refine below_thru ?_ (by assumption) (by first | omega | (simp; done) | (simp; omega))) | refine below_drewN ?_ _))⟩

theorem rmoved_any (g : Ga) (s : Gs) (t : Gt) (w : World) (ha : g.At w w.heap.size) (hg : g.Ok) (hs : s.Ok g) (ht : t.Ok) :
    Calls Tryz.prog 141 #[g.v, s.v, t.v] w fun e w' => e = .returned (.tuple #[.int .i64 (movedF g s t).1, .int .i64 (movedF g s t).2]) ∧ Below w.heap.size w w' := by
  rcases (show s.bolted = true ∨ s.bolted = false by cases s.bolted <;> simp) with hb | hb
  · exact rmoved_bolt g s t w ha hg hs ht hb
  · have o0 := ht.o0
    have o1 := ht.o1
    rcases (show t.order = 0 ∨ t.order = 1 ∨ t.order = 2 by omega) with ho | ho | ho
    · exact rmoved_hold g s t w ha hg hs ht hb ho
    · exact rmoved_close g s t w ha hg hs ht hb ho
    · exact rmoved_open g s t w ha hg hs ht hb ho
end Go.Proofs.YtgdomaddjiggaaaGreat
