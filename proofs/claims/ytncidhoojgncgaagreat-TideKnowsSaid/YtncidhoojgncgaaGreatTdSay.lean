/- What a reading and a gauge say. -/
import Derived.Test.YtncidhoojgncgaaGreatTdGauge
namespace Go.Proofs.YtncidhoojgncgaaGreat
open Go.RowKit
set_option linter.unusedSimpArgs false
set_option linter.unusedVariables false

/-- What the level and the shift are together, by a reading. -/
def exactS (g : Gg) (r : Rd) : Sp := (Sp.mk r.value r.value).wider g.err

set_option maxRecDepth 100000 in
set_option maxHeartbeats 1000000 in
theorem exact_any (g : Gg) (r : Rd) (w : World) (h1 : -30000 ≤ r.value) (h2 : r.value ≤ 30000) (h3 : 0 ≤ g.err) (h4 : g.err ≤ 5000) :
    Calls Tryz.prog 150 #[g.v, .agg #[.int .i64 r.tick, .int .i64 r.value]] w fun e w' => e = .returned (exactS g r).v ∧ Below w.heap.size w w' := by
  obtain ⟨nm, er, rt, dA, dn, dc, ds, rA, rn, rc, rs⟩ := g
  obtain ⟨t, v⟩ := r
  simp only at h1 h2 h3 h4
  go_enter Tryz.func150, Tryz.ntmps150
  go_wp2_with fail
  go_region_held3 (fun w' => w'.cell? ⟨w.heap.size, 1, none⟩ = some (.int .i64 er) ∧ w'.cell? ⟨w.heap.size + 1, 1, none⟩ = some (.int .i64 v)) ((go_split_ands; (try dsimp only); (repeat' apply And.intro) <;> first | assumption | (simp; done) | ((repeat (first | (with_reducible refine keep_set ?_ (by first | omega | (simp; done) | (simp; omega))) | (with_reducible refine keep_new ?_ _) | (with_reducible refine keep_drew ?_))); assumption) | (refine (hc9 _ _ (by first | omega | (simp; omega))).trans ?_; assumption) | (refine (hc8 _ _ (by first | omega | (simp; omega))).trans ?_; assumption) | (refine (hc7 _ _ (by first | omega | (simp; omega))).trans ?_; assumption) | (refine (hc6 _ _ (by first | omega | (simp; omega))).trans ?_; assumption) | (refine (hc5 _ _ (by first | omega | (simp; omega))).trans ?_; assumption) | (refine (hc4 _ _ (by first | omega | (simp; omega))).trans ?_; assumption) | (refine (hc3 _ _ (by first | omega | (simp; omega))).trans ?_; assumption) | (refine (hc2 _ _ (by first | omega | (simp; omega))).trans ?_; assumption) | (refine (hc1 _ _ (by first | omega | (simp; omega))).trans ?_; assumption) | (refine (hcr _ _ (by first | omega | (simp; omega))).trans ?_; assumption) | (simp; done) | (simp [go_sem]; done) | go_keep))
    (first | (go_at_call 113; refine (spanOf_any _ _ _).mono ?_; rintro e w1 ⟨rfl, hb1⟩; obtain ⟨hc1, hf1⟩ := bcell hb1; have hz1 := hb1.size; (try simp at hz1); have hl1 : w.heap.size + 1 + 1 < w1.heap.size := by omega) | (go_at_call 134; refine (wider_any v v er _ (by omega) (by omega) (by omega) (by omega) (by omega) (by omega)).mono ?_; rintro e w2 ⟨rfl, hb2⟩; obtain ⟨hc2, hf2⟩ := bcell hb2; have hz2 := hb2.size; (try simp at hz2)))
  go_wp2
  exact bodyPost_ret (v := Sp.v ⟨v - er, v + er⟩) (by simp [results, Tryz.results150, go_sem, hc1, hc2, hl1] <;> omega) rfl ⟨rfl, (by repeat (first | exact Below.refl _ _ | assumption | (refine Below.setCell ?_ (by first | omega | (simp; done) | (simp; omega)) _) | (refine Below.alloc ?_ (by first | omega | (simp; done) | (simp; omega)) _) | refine Below.drew ?_ | (refine below_thru ?_ (by assumption) (by first | omega | (simp; done) | (simp; omega))) | refine below_drewN ?_ _))⟩

theorem datFrom_lt : ∀ (l : List Dat) (t : Int) (a i : Nat), a < i ∨ (a = 0 ∧ i = 0 ∧ l ≠ []) → datFrom l t a i < i + l.length
  | [], t, a, i, h => by
    rcases h with h | ⟨_, _, h⟩
    · simpa [datFrom] using h
    · exact absurd rfl h
  | d :: l, t, a, i, h => by
    rw [datFrom]
    have := datFrom_lt l t (if d.from_ ≤ t then i else a) (i + 1) (.inl (by split <;> omega))
    simp only [List.length_cons]
    omega

/-- The numbers of a gauge are as stated. -/
structure Gg.Ok (g : Gg) : Prop where
  e0 : 0 ≤ g.err
  e1 : g.err ≤ 5000
  r0 : 0 ≤ g.rate
  r1 : g.rate ≤ 5000
  d1 : g.ds ≠ []
  dd : ∀ d ∈ g.ds, -5000 ≤ d.lo ∧ d.lo ≤ d.hi ∧ d.hi ≤ 5000 ∧ 0 ≤ d.from_ ∧ d.from_ ≤ 200000
  rr : ∀ r ∈ g.rs, 0 ≤ r.tick ∧ r.tick ≤ 200000 ∧ -30000 ≤ r.value ∧ r.value ≤ 30000
  rn : g.rs.length ≤ 60
  dn : g.ds.length ≤ 8

def Gg.datum (g : Gg) (t : Int) : Dat := g.ds.getD (datFrom g.ds t 0 0) ⟨0, 0, 0⟩
def saidByS (g : Gg) (r : Rd) : Sp := ⟨r.value - g.err - (g.datum r.tick).hi, r.value + g.err - (g.datum r.tick).lo⟩

set_option maxRecDepth 100000 in
set_option maxHeartbeats 2000000 in
theorem saidBy_any (g : Gg) (r : Rd) (w : World) (hg : g.At w w.heap.size) (hok : g.Ok) (h1 : -30000 ≤ r.value) (h2 : r.value ≤ 30000) :
    Calls Tryz.prog 133 #[g.v, .agg #[.int .i64 r.tick, .int .i64 r.value]] w fun e w' => e = .returned (saidByS g r).v ∧ Below w.heap.size w w' := by
  have hk := datFrom_lt g.ds r.tick 0 0 (.inr ⟨rfl, rfl, hok.d1⟩)
  have hdl := hg.dl
  obtain ⟨k, hkk⟩ : ∃ k, datFrom g.ds r.tick 0 0 = k := ⟨_, rfl⟩
  obtain ⟨d, hd⟩ : ∃ d, g.ds[k]? = some d := get_lt rfl (by omega)
  have hdat : g.datum r.tick = d := by unfold Gg.datum; rw [hkk]; simp [hd]
  have hD : ∀ W : World, g.At W W.heap.size → Calls Tryz.prog 149 #[g.v, .int .i64 r.tick] W fun e w' => e = .returned (.int .i64 (k : Nat)) ∧ Below W.heap.size W w' := fun W h => by
    have := datumAt_any g r.tick W h; rwa [hkk] at this
  have hb := hok.dd d (List.mem_of_getElem? hd)
  have he0 := hok.e0
  have he1 := hok.e1
  have hkd : k < g.dn := by omega
  obtain ⟨b, off, hA, hbb, c0, c1, c2⟩ := hg.d.three (k := k) (x := .int .i64 d.from_) (y := .int .i64 d.lo) (z := .int .i64 d.hi) (by simp [hd])
  have hdn := hg.dn
  unfold maxLen at hdn
  have hfin : saidByS g r = ⟨r.value - g.err - d.hi, r.value + g.err - d.lo⟩ := by unfold saidByS; rw [hdat]
  have Hfin := Lib.hid hfin
  have hex := fun W => exact_any g r W h1 h2 he0 he1
  clear hk hdl hkk hd hdat hfin
  have HD := Lib.hid hD; clear hD
  have HE := Lib.hid hex; clear hex
  have Hg := Lib.hid hg; clear hg
  have Hok := Lib.hid hok; clear hok
  obtain ⟨nm, er, rt, dA, dn, dc, ds, rA, rn, rc, rs⟩ := g
  obtain ⟨t, v⟩ := r
  simp only at h1 h2 he0 he1 hA hkd hdn
  subst hA
  obtain ⟨hb1, hb2, hb3, hb4, hb5⟩ := hb
  have hk0 : (0 : Int) ≤ (k : Int) := Int.natCast_nonneg _
  have hk1 : (k : Int) < (dn : Int) := by omega
  go_enter Tryz.func133, Tryz.ntmps133
  go_wp2_with fail
  go_region_held3 (fun w' => w'.cell? ⟨w.heap.size, 0, none⟩ = some (.string nm) ∧ w'.cell? ⟨w.heap.size, 1, none⟩ = some (.int .i64 er) ∧ w'.cell? ⟨w.heap.size, 2, none⟩ = some (.int .i64 rt) ∧ w'.cell? ⟨w.heap.size, 3, none⟩ = some (.slice (some ⟨b, off, none⟩) dn dc) ∧ w'.cell? ⟨w.heap.size, 4, none⟩ = some (.slice rA rn rc)
      ∧ w'.cell? ⟨w.heap.size + 1, 0, none⟩ = some (.int .i64 t) ∧ w'.cell? ⟨w.heap.size + 1, 1, none⟩ = some (.int .i64 v) ∧ w'.cell? ⟨b, off + k * 3 + 1, none⟩ = some (.int .i64 d.lo) ∧ w'.cell? ⟨b, off + k * 3 + 2, none⟩ = some (.int .i64 d.hi)) ((go_split_ands; (try dsimp only); (repeat' apply And.intro) <;> first | assumption | (simp; done) | ((repeat (first | (with_reducible refine keep_set ?_ (by first | omega | (simp; done) | (simp; omega))) | (with_reducible refine keep_new ?_ _) | (with_reducible refine keep_drew ?_))); assumption) | (refine (hc9 _ _ (by first | omega | (simp; omega))).trans ?_; assumption) | (refine (hc8 _ _ (by first | omega | (simp; omega))).trans ?_; assumption) | (refine (hc7 _ _ (by first | omega | (simp; omega))).trans ?_; assumption) | (refine (hc6 _ _ (by first | omega | (simp; omega))).trans ?_; assumption) | (refine (hc5 _ _ (by first | omega | (simp; omega))).trans ?_; assumption) | (refine (hc4 _ _ (by first | omega | (simp; omega))).trans ?_; assumption) | (refine (hc3 _ _ (by first | omega | (simp; omega))).trans ?_; assumption) | (refine (hc2 _ _ (by first | omega | (simp; omega))).trans ?_; assumption) | (refine (hc1 _ _ (by first | omega | (simp; omega))).trans ?_; assumption) | (refine (hcr _ _ (by first | omega | (simp; omega))).trans ?_; assumption) | (simp; done) | (simp [go_sem]; done) | go_keep))
    (first | (go_at_call 150; refine (HE.out _).mono ?_; rintro e w1 ⟨rfl, hb1⟩; obtain ⟨hc1, hf1⟩ := bcell hb1; have hz1 := hb1.size; (try simp at hz1); have hl1 : w.heap.size + 1 + 1 < w1.heap.size := by omega) | (go_at_call 149; refine (HD.out _ (Hg.out.grow (by repeat (first | exact Below.refl _ _ | assumption | (refine Below.setCell ?_ (by first | omega | (simp; done) | (simp; omega)) _) | (refine Below.alloc ?_ (by first | omega | (simp; done) | (simp; omega)) _) | refine Below.drew ?_ | (refine below_thru ?_ (by assumption) (by first | omega | (simp; done) | (simp; omega))) | refine below_drewN ?_ _)))).mono ?_; rintro e w2 ⟨rfl, hb2⟩; obtain ⟨hc2, hf2⟩ := bcell hb2; have hz2 := hb2.size; (try simp at hz2); have hl2 : w.heap.size + 1 + 1 < w2.heap.size := by omega) | (go_at_call 94; refine (less_any (v - er) (v + er) d.lo d.hi _ (by omega) (by omega) (by omega) (by omega) (by omega) (by omega) (by omega) (by omega)).mono ?_; rintro e w3 ⟨rfl, hb3⟩; obtain ⟨hc3, hf3⟩ := bcell hb3; have hz3 := hb3.size; (try simp at hz3); have hl3 : w.heap.size + 1 + 1 < w3.heap.size := by omega))
  go_wp2
  exact bodyPost_ret (v := Sp.v ⟨v - er - d.hi, v + er - d.lo⟩) (by simp [results, Tryz.results133, go_sem, hc1, hc2, hc3, hl1, hl2] <;> omega) rfl ⟨by rw [Hfin.out], (by repeat (first | exact Below.refl _ _ | assumption | (refine Below.setCell ?_ (by first | omega | (simp; done) | (simp; omega)) _) | (refine Below.alloc ?_ (by first | omega | (simp; done) | (simp; omega)) _) | refine Below.drew ?_ | (refine below_thru ?_ (by assumption) (by first | omega | (simp; done) | (simp; omega))) | refine below_drewN ?_ _))⟩
end Go.Proofs.YtncidhoojgncgaaGreat
