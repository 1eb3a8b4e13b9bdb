/- The places of a constituent: a closure that goes on by itself. -/
import Derived.Test.YtncidhoojgncgaaGreatTdPart
namespace Go.Proofs.YtncidhoojgncgaaGreat
open Go.RowKit
set_option linter.unusedSimpArgs false
set_option linter.unusedVariables false

abbrev Cn.arr (c : Cn) : Array Value := #[.string c.name, .slice c.hA c.hn c.hc, .int .i64 c.offset, .int .i64 c.step, .int .i64 c.den, .int .i64 c.slack]
/-- A place that goes on by itself: the block of the place, and that of the constituent below it. -/
def Walker (c : Cn) (p : Int) (bp bc : Nat) (w : World) : Prop := Blk w bp 3 #[.int .i64 p] ∧ Blk w bc 70 c.arr ∧ bc < bp
def PlacesPost (c : Cn) (p : Int) (w : World) (e : Ending) (w' : World) : Prop :=
  ∃ bp bc, e = .returned (.func (.func 159) #[] #[.pointer (some ⟨bp, 0, none⟩), .pointer (some ⟨bc, 0, none⟩)]) ∧ Walker c p bp bc w' ∧ w.heap.size ≤ bc ∧ Below w.heap.size w w'
theorem Blk.drewN {w : World} {g : Nat} {t : TypeId} {cs : Array Value} (h : Blk w g t cs) (n : Nat) : Blk (w.drewN n) g t cs := h
theorem Blk.six {w : World} {g : Nat} {t : TypeId} {a b c d e f : Value} (h : Blk w g t #[a, b, c, d, e, f]) : w.cell? ⟨g, 0, none⟩ = some a ∧ w.cell? ⟨g, 1, none⟩ = some b ∧ w.cell? ⟨g, 2, none⟩ = some c ∧ w.cell? ⟨g, 3, none⟩ = some d ∧ w.cell? ⟨g, 4, none⟩ = some e ∧ w.cell? ⟨g, 5, none⟩ = some f := ⟨h.cell 0, h.cell 1, h.cell 2, h.cell 3, h.cell 4, h.cell 5⟩

set_option maxRecDepth 100000 in
set_option maxHeartbeats 2000000 in
theorem places_any (c : Cn) (t : Int) (w : World) (hok : c.Ok) (ht0 : 0 ≤ t) (ht1 : t ≤ 200000) :
    Calls Tryz.prog 114 #[c.v, .int .i64 t] w (PlacesPost c ((c.offset + c.step * t) % c.cycle) w) := by
  have hcy := hok.cycle
  have hC := fun W => cycle_any c W (by omega) hcy.2
  have HC := Lib.hid hC; clear hC
  have hs0 := hok.s0
  have hs1 := hok.s1
  have ho0 := hok.o0
  have ho1 := hok.o1
  obtain ⟨cy, hcc⟩ : ∃ cy, c.cycle = cy := ⟨_, rfl⟩
  have hofs : c.offset < cy := by rw [← hcc]; unfold Cn.cycle; omega
  rw [hcc] at HC hcy ⊢
  obtain ⟨cy0, cy1⟩ := hcy
  clear hok hcc ho1
  obtain ⟨nm, hA, hn, hc, hs, of, st, dn, sl⟩ := c
  simp only at *
  obtain ⟨m1, m2⟩ := mul_bounds' (show 0 ≤ st by omega) hs1 ht0 ht1
  have w1 : IntKind.i64.wrap (st * t) = st * t := IntWalk.i64_in _ (by omega)
  have w2 : IntKind.i64.wrap (of + st * t) = of + st * t := IntWalk.i64_in _ (by omega)
  have hne : (cy == 0) = false := by rw [beq_eq_false_iff_ne]; omega
  have hne2 : ¬ cy = 0 := by omega
  have wt : (of + st * t).tmod cy = (of + st * t) % cy := Int.tmod_eq_emod_of_nonneg (by omega)
  go_enter Tryz.func114, Tryz.ntmps114
  go_wp2_with fail
  refine wp_region_split (S := fun w' => w'.cell? ⟨w.heap.size, 0, none⟩ = some (.string nm) ∧ w'.cell? ⟨w.heap.size, 1, none⟩ = some (.slice hA hn hc) ∧ w'.cell? ⟨w.heap.size, 2, none⟩ = some (.int .i64 of) ∧ w'.cell? ⟨w.heap.size, 3, none⟩ = some (.int .i64 st) ∧ w'.cell? ⟨w.heap.size, 4, none⟩ = some (.int .i64 dn) ∧ w'.cell? ⟨w.heap.size, 5, none⟩ = some (.int .i64 sl)) 11 (by kernel_rfl) (by kernel_rfl) (by ((go_split_ands; (try dsimp only); (repeat' apply And.intro) <;> first | assumption | (simp; done) | ((repeat (first | (with_reducible refine keep_set ?_ (by first | omega | (simp; done) | (simp; omega))) | (with_reducible refine keep_new ?_ _) | (with_reducible refine keep_drew ?_))); assumption) | (refine (hc9 _ _ (by first | omega | (simp; omega))).trans ?_; assumption) | (refine (hc8 _ _ (by first | omega | (simp; omega))).trans ?_; assumption) | (refine (hc7 _ _ (by first | omega | (simp; omega))).trans ?_; assumption) | (refine (hc6 _ _ (by first | omega | (simp; omega))).trans ?_; assumption) | (refine (hc5 _ _ (by first | omega | (simp; omega))).trans ?_; assumption) | (refine (hc4 _ _ (by first | omega | (simp; omega))).trans ?_; assumption) | (refine (hc3 _ _ (by first | omega | (simp; omega))).trans ?_; assumption) | (refine (hc2 _ _ (by first | omega | (simp; omega))).trans ?_; assumption) | (refine (hc1 _ _ (by first | omega | (simp; omega))).trans ?_; assumption) | (refine (hcr _ _ (by first | omega | (simp; omega))).trans ?_; assumption) | (simp; done) | (simp [go_sem]; done) | go_keep))) (fun hHeld => ?_)
  refine wpAnyH_take (i := 0) (v := ?_) rfl (by kernel_rfl) (by kernel_rfl) (by kernel_rfl) (fun _ _ _ h => h) (Or.inl ⟨by rfl, ?_⟩) hHeld ?_
  rotate_left
  · intro w hSw; (try dsimp only at hSw); go_simp; (try with_reducible rfl)
  (try simp only [Act.put, List.setIfInBounds_toArray, List.set_cons_zero, List.set_cons_succ])
  refine wpAnyH_take (i := 1) (v := ?_) rfl (by kernel_rfl) (by kernel_rfl) (by kernel_rfl) (fun _ _ _ h => h) (Or.inl ⟨by rfl, ?_⟩) hHeld ?_
  rotate_left
  · intro w hSw; (try dsimp only at hSw); go_simp; (try with_reducible rfl)
  (try simp only [Act.put, List.setIfInBounds_toArray, List.set_cons_zero, List.set_cons_succ])
  refine wpAnyH_take (i := 2) (v := ?_) rfl (by kernel_rfl) (by kernel_rfl) (by kernel_rfl) (fun _ _ _ h => h) (Or.inl ⟨by rfl, ?_⟩) hHeld ?_
  rotate_left
  · intro w hSw; (try dsimp only at hSw); go_simp; (try with_reducible rfl)
  (try simp only [Act.put, List.setIfInBounds_toArray, List.set_cons_zero, List.set_cons_succ])
  refine wpAnyH_take (i := 3) (v := ?_) rfl (by kernel_rfl) (by kernel_rfl) (by kernel_rfl) (fun _ _ _ h => h) (Or.inl ⟨by rfl, ?_⟩) hHeld ?_
  rotate_left
  · intro w hSw; (try dsimp only at hSw); go_simp; (try with_reducible rfl)
  (try simp only [Act.put, List.setIfInBounds_toArray, List.set_cons_zero, List.set_cons_succ])
  refine wpAnyH_take (i := 4) (v := ?_) rfl (by kernel_rfl) (by kernel_rfl) (by kernel_rfl) (fun _ _ _ h => h) (Or.inl ⟨by rfl, ?_⟩) hHeld ?_
  rotate_left
  · intro w hSw; (try dsimp only at hSw); go_simp; (try with_reducible rfl)
  (try simp only [Act.put, List.setIfInBounds_toArray, List.set_cons_zero, List.set_cons_succ])
  refine wpAnyH_take (i := 5) (v := ?_) rfl (by kernel_rfl) (by kernel_rfl) (by kernel_rfl) (fun _ _ _ h => h) (Or.inl ⟨by rfl, ?_⟩) hHeld ?_
  rotate_left
  · intro w hSw; (try dsimp only at hSw); go_simp; (try with_reducible rfl)
  (try simp only [Act.put, List.setIfInBounds_toArray, List.set_cons_zero, List.set_cons_succ])
  refine wpAnyH_take (i := 6) (v := ?_) rfl (by kernel_rfl) (by kernel_rfl) (by kernel_rfl) (fun _ _ _ h => h) (Or.inl ⟨by rfl, ?_⟩) hHeld ?_
  rotate_left
  · intro w hSw; (try dsimp only at hSw); go_simp; (try with_reducible rfl)
  (try simp only [Act.put, List.setIfInBounds_toArray, List.set_cons_zero, List.set_cons_succ])
  refine wpAnyH_take (i := 7) (v := ?_) rfl (by kernel_rfl) (by kernel_rfl) (by kernel_rfl) (fun _ _ _ h => h) (Or.inl ⟨by rfl, ?_⟩) hHeld ?_
  rotate_left
  · intro w hSw; (try dsimp only at hSw); go_simp; (try with_reducible rfl)
  (try simp only [Act.put, List.setIfInBounds_toArray, List.set_cons_zero, List.set_cons_succ])
  refine wpAnyH_ready (rs := [8, 10]) (by kernel_rfl) (by simp) ?_
  refine (AllReadyH.cons rfl (fun K hK => ?_) (AllReadyH.cons rfl (fun K hK => ?_) AllReadyH.nil))
  next =>
    go_simp
    refine (HC.out _).mono ?_
    rintro e w3 ⟨rfl, hb3⟩; obtain ⟨hc3, hf3⟩ := bcell hb3; have hz3 := hb3.size; (try simp at hz3); have hl3 : w.heap.size < w3.heap.size := by omega
    (try dsimp only)
    refine hK.out _ _ (by ((go_split_ands; (try dsimp only); (repeat' apply And.intro) <;> first | assumption | (simp; done) | ((repeat (first | (with_reducible refine keep_set ?_ (by first | omega | (simp; done) | (simp; omega))) | (with_reducible refine keep_new ?_ _) | (with_reducible refine keep_drew ?_))); assumption) | (refine (hc9 _ _ (by first | omega | (simp; omega))).trans ?_; assumption) | (refine (hc8 _ _ (by first | omega | (simp; omega))).trans ?_; assumption) | (refine (hc7 _ _ (by first | omega | (simp; omega))).trans ?_; assumption) | (refine (hc6 _ _ (by first | omega | (simp; omega))).trans ?_; assumption) | (refine (hc5 _ _ (by first | omega | (simp; omega))).trans ?_; assumption) | (refine (hc4 _ _ (by first | omega | (simp; omega))).trans ?_; assumption) | (refine (hc3 _ _ (by first | omega | (simp; omega))).trans ?_; assumption) | (refine (hc2 _ _ (by first | omega | (simp; omega))).trans ?_; assumption) | (refine (hc1 _ _ (by first | omega | (simp; omega))).trans ?_; assumption) | (refine (hcr _ _ (by first | omega | (simp; omega))).trans ?_; assumption) | (simp; done) | (simp [go_sem]; done) | go_keep))) (fun hHeld => ?_)
    clear hK K
    (try simp only [Act.put, List.setIfInBounds_toArray, List.set_cons_zero, List.set_cons_succ])
    refine wpAnyH_take (i := 9) (v := ?_) rfl (by kernel_rfl) (by kernel_rfl) (by kernel_rfl) (fun _ _ _ h => h) (Or.inl ⟨by rfl, ?_⟩) hHeld ?_
    rotate_left
    · intro w hSw; (try dsimp only at hSw); go_simp; (try with_reducible rfl)
    (try simp only [Act.put, List.setIfInBounds_toArray, List.set_cons_zero, List.set_cons_succ])
    refine wpAnyH_ready (rs := [10]) (by kernel_rfl) (by simp) ?_
    refine (AllReadyH.cons rfl (fun K hK => ?_) AllReadyH.nil)
    go_simp
    (try dsimp only)
    refine hK.out _ _ (by ((go_split_ands; (try dsimp only); (repeat' apply And.intro) <;> first | assumption | (simp; done) | ((repeat (first | (with_reducible refine keep_set ?_ (by first | omega | (simp; done) | (simp; omega))) | (with_reducible refine keep_new ?_ _) | (with_reducible refine keep_drew ?_))); assumption) | (refine (hc9 _ _ (by first | omega | (simp; omega))).trans ?_; assumption) | (refine (hc8 _ _ (by first | omega | (simp; omega))).trans ?_; assumption) | (refine (hc7 _ _ (by first | omega | (simp; omega))).trans ?_; assumption) | (refine (hc6 _ _ (by first | omega | (simp; omega))).trans ?_; assumption) | (refine (hc5 _ _ (by first | omega | (simp; omega))).trans ?_; assumption) | (refine (hc4 _ _ (by first | omega | (simp; omega))).trans ?_; assumption) | (refine (hc3 _ _ (by first | omega | (simp; omega))).trans ?_; assumption) | (refine (hc2 _ _ (by first | omega | (simp; omega))).trans ?_; assumption) | (refine (hc1 _ _ (by first | omega | (simp; omega))).trans ?_; assumption) | (refine (hcr _ _ (by first | omega | (simp; omega))).trans ?_; assumption) | (simp; done) | (simp [go_sem]; done) | go_keep))) (fun hHeld => ?_)
    clear hK K
    (try simp only [Act.put, List.setIfInBounds_toArray, List.set_cons_zero, List.set_cons_succ])
    refine wpAnyH_done (by kernel_rfl) ?_ _
    simp only [tailPost, List.drop_succ_cons, List.drop_zero]
    go_wp2
    go_ret
    exact ⟨w3.heap.size, w.heap.size, rfl, ⟨Blk.new _ _ _, ((Blk.new w _ _).drew.thru hb3 (by simp)).alloc _, hl3⟩, Nat.le_refl _, (by repeat (first | exact Below.refl _ _ | assumption | (refine Below.setCell ?_ (by first | omega | (simp; done) | (simp; omega)) _) | (refine Below.alloc ?_ (by first | omega | (simp; done) | (simp; omega)) _) | refine Below.drew ?_ | (refine below_thru ?_ (by assumption) (by first | omega | (simp; done) | (simp; omega))) | refine below_drewN ?_ _))⟩
  next =>
    go_simp
    (try dsimp only)
    refine hK.out _ _ (by ((go_split_ands; (try dsimp only); (repeat' apply And.intro) <;> first | assumption | (simp; done) | ((repeat (first | (with_reducible refine keep_set ?_ (by first | omega | (simp; done) | (simp; omega))) | (with_reducible refine keep_new ?_ _) | (with_reducible refine keep_drew ?_))); assumption) | (refine (hc9 _ _ (by first | omega | (simp; omega))).trans ?_; assumption) | (refine (hc8 _ _ (by first | omega | (simp; omega))).trans ?_; assumption) | (refine (hc7 _ _ (by first | omega | (simp; omega))).trans ?_; assumption) | (refine (hc6 _ _ (by first | omega | (simp; omega))).trans ?_; assumption) | (refine (hc5 _ _ (by first | omega | (simp; omega))).trans ?_; assumption) | (refine (hc4 _ _ (by first | omega | (simp; omega))).trans ?_; assumption) | (refine (hc3 _ _ (by first | omega | (simp; omega))).trans ?_; assumption) | (refine (hc2 _ _ (by first | omega | (simp; omega))).trans ?_; assumption) | (refine (hc1 _ _ (by first | omega | (simp; omega))).trans ?_; assumption) | (refine (hcr _ _ (by first | omega | (simp; omega))).trans ?_; assumption) | (simp; done) | (simp [go_sem]; done) | go_keep))) (fun hHeld => ?_)
    clear hK K
    (try simp only [Act.put, List.setIfInBounds_toArray, List.set_cons_zero, List.set_cons_succ])
    refine wpAnyH_ready (rs := [8]) (by kernel_rfl) (by simp) ?_
    refine (AllReadyH.cons rfl (fun K hK => ?_) AllReadyH.nil)
    go_simp
    refine (HC.out _).mono ?_
    rintro e w3 ⟨rfl, hb3⟩; obtain ⟨hc3, hf3⟩ := bcell hb3; have hz3 := hb3.size; (try simp at hz3); have hl3 : w.heap.size + 1 < w3.heap.size := by omega
    (try dsimp only)
    refine hK.out _ _ (by ((go_split_ands; (try dsimp only); (repeat' apply And.intro) <;> first | assumption | (simp; done) | ((repeat (first | (with_reducible refine keep_set ?_ (by first | omega | (simp; done) | (simp; omega))) | (with_reducible refine keep_new ?_ _) | (with_reducible refine keep_drew ?_))); assumption) | (refine (hc9 _ _ (by first | omega | (simp; omega))).trans ?_; assumption) | (refine (hc8 _ _ (by first | omega | (simp; omega))).trans ?_; assumption) | (refine (hc7 _ _ (by first | omega | (simp; omega))).trans ?_; assumption) | (refine (hc6 _ _ (by first | omega | (simp; omega))).trans ?_; assumption) | (refine (hc5 _ _ (by first | omega | (simp; omega))).trans ?_; assumption) | (refine (hc4 _ _ (by first | omega | (simp; omega))).trans ?_; assumption) | (refine (hc3 _ _ (by first | omega | (simp; omega))).trans ?_; assumption) | (refine (hc2 _ _ (by first | omega | (simp; omega))).trans ?_; assumption) | (refine (hc1 _ _ (by first | omega | (simp; omega))).trans ?_; assumption) | (refine (hcr _ _ (by first | omega | (simp; omega))).trans ?_; assumption) | (simp; done) | (simp [go_sem]; done) | go_keep))) (fun hHeld => ?_)
    clear hK K
    (try simp only [Act.put, List.setIfInBounds_toArray, List.set_cons_zero, List.set_cons_succ])
    refine wpAnyH_take (i := 9) (v := ?_) rfl (by kernel_rfl) (by kernel_rfl) (by kernel_rfl) (fun _ _ _ h => h) (Or.inl ⟨by rfl, ?_⟩) hHeld ?_
    rotate_left
    · intro w hSw; (try dsimp only at hSw); go_simp; (try with_reducible rfl)
    (try simp only [Act.put, List.setIfInBounds_toArray, List.set_cons_zero, List.set_cons_succ])
    refine wpAnyH_done (by kernel_rfl) ?_ _
    simp only [tailPost, List.drop_succ_cons, List.drop_zero]
    go_wp2
    go_ret
    refine ⟨w.heap.size + 1, w.heap.size, rfl, ⟨Blk.set_ (Blk.thru (Blk.drew (Blk.new' _ _ #[.int .i64 0] ?_)) hb3 ?_) 0 _, Blk.far (Blk.thru (Blk.drew (Blk.alloc (Blk.new w _ _) _)) hb3 ?_) ?_ _, by omega⟩, Nat.le_refl _, (by repeat (first | exact Below.refl _ _ | assumption | (refine Below.setCell ?_ (by first | omega | (simp; done) | (simp; omega)) _) | (refine Below.alloc ?_ (by first | omega | (simp; done) | (simp; omega)) _) | refine Below.drew ?_ | (refine below_thru ?_ (by assumption) (by first | omega | (simp; done) | (simp; omega))) | refine below_drewN ?_ _))⟩
    all_goals first | (simp; done) | (simp; omega) | omega

theorem emod_bounds (a b : Int) (hb : 0 < b) : 0 ≤ a % b ∧ a % b < b := ⟨Int.emod_nonneg a (by omega), Int.emod_lt_of_pos a hb⟩

def NextPost (c : Cn) (p : Int) (bp bc : Nat) (w : World) (e : Ending) (w' : World) : Prop :=
  e = .returned (.tuple #[.int .i64 (p / c.den), .int .i64 (p % c.den)]) ∧ Walker c ((p + c.step) % c.cycle) bp bc w' ∧ Below bp w w'

set_option maxRecDepth 100000 in
set_option maxHeartbeats 2000000 in
theorem next_any (c : Cn) (p : Int) (bp bc : Nat) (w : World) (hok : c.Ok) (hw : Walker c p bp bc w) (hp0 : 0 ≤ p) (hp1 : p < c.cycle) :
    Calls Tryz.prog 159 #[.pointer (some ⟨bp, 0, none⟩), .pointer (some ⟨bc, 0, none⟩)] w (NextPost c p bp bc w) := by
  have hcy := hok.cycle
  have hC := fun W => cycle_any c W (by omega) hcy.2
  have HC := Lib.hid hC; clear hC
  have hs0 := hok.s0
  have hs1 := hok.s1
  have hd0 := hok.d0
  obtain ⟨cy, hcc⟩ : ∃ cy, c.cycle = cy := ⟨_, rfl⟩
  unfold NextPost
  rw [hcc] at HC hcy hp1
  obtain ⟨cy0, cy1⟩ := hcy
  obtain ⟨hbp, hbc, hlt⟩ := hw
  obtain ⟨g0, g1, g2, g3, g4, g5⟩ := hbc.six
  have q0 := hbp.cell 0
  have q1 := hbp.frozen 0
  simp only [List.getElem?_toArray, List.getElem?_cons_zero] at q0
  have hb := hbp.lt
  have hbl := hbc.lt
  have Hbp := Lib.hid hbp; clear hbp
  have Hbc := Lib.hid hbc; clear hbc
  have hf : (p + c.step) % c.cycle = (p + c.step) % cy := by rw [hcc]
  have Hf := Lib.hid hf
  clear hok hcc hf
  obtain ⟨nm, hA, hn, hc, hs, of, st, dn, sl⟩ := c
  simp only at *
  have hne : ¬ cy = 0 := by omega
  have hnd : ¬ dn = 0 := by omega
  have w2 : IntKind.i64.wrap (p + st) = p + st := IntWalk.i64_in _ (by omega)
  have wt : (p + st).tmod cy = (p + st) % cy := Int.tmod_eq_emod_of_nonneg (by omega)
  have d1 : p.tdiv dn = p / dn := Int.tdiv_eq_ediv_of_nonneg hp0
  have d2 : p.tmod dn = p % dn := Int.tmod_eq_emod_of_nonneg hp0
  have d3 : IntKind.i64.wrap (p / dn) = p / dn := IntWalk.i64_in _ (by have := tdiv_bound p dn 48000 (by omega) (by omega) (by omega) (by omega); omega)
  go_enter Tryz.func159, Tryz.ntmps159
  go_wp2_with fail
  go_quiet (fail)
  go_wp2_with fail
  refine wp_region_split (S := fun w' => w'.cell? ⟨bc, 0, none⟩ = some (.string nm) ∧ w'.cell? ⟨bc, 1, none⟩ = some (.slice hA hn hc) ∧ w'.cell? ⟨bc, 2, none⟩ = some (.int .i64 of) ∧ w'.cell? ⟨bc, 3, none⟩ = some (.int .i64 st) ∧ w'.cell? ⟨bc, 4, none⟩ = some (.int .i64 dn) ∧ w'.cell? ⟨bc, 5, none⟩ = some (.int .i64 sl) ∧ w'.cell? ⟨bp, 0, none⟩ = some (.int .i64 p)) 7 (by kernel_rfl) (by kernel_rfl) (by ((go_split_ands; (try dsimp only); (repeat' apply And.intro) <;> first | assumption | (simp; done) | ((repeat (first | (with_reducible refine keep_set ?_ (by first | omega | (simp; done) | (simp; omega))) | (with_reducible refine keep_new ?_ _) | (with_reducible refine keep_drew ?_))); assumption) | (refine (hc9 _ _ (by first | omega | (simp; omega))).trans ?_; assumption) | (refine (hc8 _ _ (by first | omega | (simp; omega))).trans ?_; assumption) | (refine (hc7 _ _ (by first | omega | (simp; omega))).trans ?_; assumption) | (refine (hc6 _ _ (by first | omega | (simp; omega))).trans ?_; assumption) | (refine (hc5 _ _ (by first | omega | (simp; omega))).trans ?_; assumption) | (refine (hc4 _ _ (by first | omega | (simp; omega))).trans ?_; assumption) | (refine (hc3 _ _ (by first | omega | (simp; omega))).trans ?_; assumption) | (refine (hc2 _ _ (by first | omega | (simp; omega))).trans ?_; assumption) | (refine (hc1 _ _ (by first | omega | (simp; omega))).trans ?_; assumption) | (refine (hcr _ _ (by first | omega | (simp; omega))).trans ?_; assumption) | (simp; done) | (simp [go_sem]; done) | go_keep))) (fun hHeld => ?_)
  refine wpAnyH_take (i := 0) (v := ?_) rfl (by kernel_rfl) (by kernel_rfl) (by kernel_rfl) (fun _ _ _ h => h) (Or.inl ⟨by rfl, ?_⟩) hHeld ?_
  rotate_left
  · intro w hSw; (try dsimp only at hSw); go_simp; (try with_reducible rfl)
  (try simp only [Act.put, List.setIfInBounds_toArray, List.set_cons_zero, List.set_cons_succ])
  refine wpAnyH_take (i := 1) (v := ?_) rfl (by kernel_rfl) (by kernel_rfl) (by kernel_rfl) (fun _ _ _ h => h) (Or.inl ⟨by rfl, ?_⟩) hHeld ?_
  rotate_left
  · intro w hSw; (try dsimp only at hSw); go_simp; (try with_reducible rfl)
  (try simp only [Act.put, List.setIfInBounds_toArray, List.set_cons_zero, List.set_cons_succ])
  refine wpAnyH_take (i := 2) (v := ?_) rfl (by kernel_rfl) (by kernel_rfl) (by kernel_rfl) (fun _ _ _ h => h) (Or.inl ⟨by rfl, ?_⟩) hHeld ?_
  rotate_left
  · intro w hSw; (try dsimp only at hSw); go_simp; (try with_reducible rfl)
  (try simp only [Act.put, List.setIfInBounds_toArray, List.set_cons_zero, List.set_cons_succ])
  refine wpAnyH_take (i := 3) (v := ?_) rfl (by kernel_rfl) (by kernel_rfl) (by kernel_rfl) (fun _ _ _ h => h) (Or.inl ⟨by rfl, ?_⟩) hHeld ?_
  rotate_left
  · intro w hSw; (try dsimp only at hSw); go_simp; (try with_reducible rfl)
  (try simp only [Act.put, List.setIfInBounds_toArray, List.set_cons_zero, List.set_cons_succ])
  refine wpAnyH_take (i := 4) (v := ?_) rfl (by kernel_rfl) (by kernel_rfl) (by kernel_rfl) (fun _ _ _ h => h) (Or.inl ⟨by rfl, ?_⟩) hHeld ?_
  rotate_left
  · intro w hSw; (try dsimp only at hSw); go_simp; (try with_reducible rfl)
  (try simp only [Act.put, List.setIfInBounds_toArray, List.set_cons_zero, List.set_cons_succ])
  refine wpAnyH_ready (rs := [5]) (by kernel_rfl) (by simp) ?_
  refine AllReadyH.cons rfl (fun K hK => ?_) AllReadyH.nil
  go_simp
  refine (HC.out _).mono ?_
  rintro e w3 ⟨rfl, hb3⟩; obtain ⟨hc3, hf3⟩ := bcell hb3; have hz3 := hb3.size; (try simp at hz3); have hl3 : bp < w3.heap.size := (by omega); have qf : w3.frozen? ⟨bp, 0, none⟩ = false := (hf3 _ _ (by first | omega | (simp; done) | (simp; omega))).trans q1
  (try dsimp only)
  refine hK.out _ _ (by ((go_split_ands; (try dsimp only); (repeat' apply And.intro) <;> first | assumption | (simp; done) | ((repeat (first | (with_reducible refine keep_set ?_ (by first | omega | (simp; done) | (simp; omega))) | (with_reducible refine keep_new ?_ _) | (with_reducible refine keep_drew ?_))); assumption) | (refine (hc9 _ _ (by first | omega | (simp; omega))).trans ?_; assumption) | (refine (hc8 _ _ (by first | omega | (simp; omega))).trans ?_; assumption) | (refine (hc7 _ _ (by first | omega | (simp; omega))).trans ?_; assumption) | (refine (hc6 _ _ (by first | omega | (simp; omega))).trans ?_; assumption) | (refine (hc5 _ _ (by first | omega | (simp; omega))).trans ?_; assumption) | (refine (hc4 _ _ (by first | omega | (simp; omega))).trans ?_; assumption) | (refine (hc3 _ _ (by first | omega | (simp; omega))).trans ?_; assumption) | (refine (hc2 _ _ (by first | omega | (simp; omega))).trans ?_; assumption) | (refine (hc1 _ _ (by first | omega | (simp; omega))).trans ?_; assumption) | (refine (hcr _ _ (by first | omega | (simp; omega))).trans ?_; assumption) | (simp; done) | (simp [go_sem]; done) | go_keep))) (fun hHeld => ?_)
  clear hK K
  (try simp only [Act.put, List.setIfInBounds_toArray, List.set_cons_zero, List.set_cons_succ])
  refine wpAnyH_take (i := 6) (v := ?_) rfl (by kernel_rfl) (by kernel_rfl) (by kernel_rfl) (fun _ _ _ h => h) (Or.inl ⟨by rfl, ?_⟩) hHeld ?_
  rotate_left
  · intro w hSw; (try dsimp only at hSw); go_simp; (try with_reducible rfl)
  (try simp only [Act.put, List.setIfInBounds_toArray, List.set_cons_zero, List.set_cons_succ])
  refine wpAnyH_done (by kernel_rfl) ?_ _
  simp only [tailPost, List.drop_succ_cons, List.drop_zero]
  go_wp2
  go_ret2
  refine ⟨rfl, ⟨?_, ?_, hlt⟩, ?_⟩
  · rw [Hf.out]
    exact Blk.set_ (Blk.thru (cs := #[.int .i64 p]) (Blk.drewN Hbp.out _) hb3 hb) 0 _
  · exact Blk.far (Blk.thru (Blk.drewN Hbc.out _) hb3 hbl) (by simp; omega) _
  · exact Below.setCell (below_thru (below_drewN (Below.refl _ _) _) hb3 (by simp; omega)) (by simp) _
end Go.Proofs.YtncidhoojgncgaaGreat
