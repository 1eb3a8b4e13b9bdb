/- gaugeFault, CheckGauge and Says. -/
import Derived.Test.YtncidhoojgncgaaGreatTdGf
import Derived.Test.YtncidhoojgncgaaGreatTdSaid
namespace Go.Proofs.YtncidhoojgncgaaGreat
open Go.RowKit
set_option linter.unusedSimpArgs false
set_option linter.unusedVariables false

def gaugeL (g : Gg) : List Ft := [(need (nameB g.name) 6).in_ 1, (need (betw g.err 0 5000 && betw g.rate 0 5000) 7).in_ 1, (need (betw g.dn 1 8) 3).in_ 2, (eachF (fun i => need (datB g.ds i) 7) 0 g.dn).in_ 2,
  (need (decide ((g.rn : Int) ≤ 60)) 3).in_ 3, (eachF (fun i => need (rdB g.rs i) 7) 0 g.rn).in_ 3]
def gaugeF (g : Gg) : Ft := firstF (gaugeL g)
def gaugeC (g : Gg) (p : Value) : List Chk := [⟨120, #[p], (need (nameB g.name) 6).in_ 1⟩, ⟨122, #[p], (need (betw g.err 0 5000 && betw g.rate 0 5000) 7).in_ 1⟩, ⟨123, #[p], (need (betw g.dn 1 8) 3).in_ 2⟩,
  ⟨124, #[p], (eachF (fun i => need (datB g.ds i) 7) 0 g.dn).in_ 2⟩, ⟨127, #[p], (need (decide ((g.rn : Int) ≤ 60)) 3).in_ 3⟩, ⟨128, #[p], (eachF (fun i => need (rdB g.rs i) 7) 0 g.rn).in_ 3⟩]
theorem need_in_e {b : Bool} {c p : Int} (hc : c ≠ 0) (h : ((need b c).in_ p).e = 0) : b = true := by
  cases b
  · simp [need, Ft.in_, hc] at h
  · rfl

theorem gaugeC_good (g : Gg) (b : Nat) (w : World) (hg : g.Box w b) : Good w (gaugeC g (.pointer (some ⟨b, 0, none⟩))) := by
  intro k c hk hprev W hW
  have hb := hg.grow hW
  match k, hk with
  | 0, hk => cases hk; exact gf1_any g b W hb
  | 1, hk => cases hk; exact gf2_any g b W hb
  | 2, hk => cases hk; exact gf3_any g b W hb
  | 3, hk =>
    cases hk
    have h2 := need_in_e (by omega) (hprev 2 _ (by omega) rfl)
    simp only [betw, Bool.and_eq_true, decide_eq_true_eq] at h2
    exact gf4_any g b W hb (by omega)
  | 4, hk => cases hk; exact gf5_any g b W hb
  | 5, hk =>
    cases hk
    have h4 := need_in_e (by omega) (hprev 4 _ (by omega) rfl)
    simp only [decide_eq_true_eq] at h4
    exact gf6_any g b W hb (by omega)
  | k + 6, hk => simp [gaugeC] at hk

theorem gaugeC_plain (g : Gg) (p : Value) : ∀ (k : Nat) (c : Chk), (gaugeC g p)[k]? = some c → Plain c.f c.caps := by
  intro k c hk W
  match k, hk with
  | 0, hk => cases hk; show Sem.run Tryz.prog (callFunc _ _) W = _; kernel_rfl
  | 1, hk => cases hk; show Sem.run Tryz.prog (callFunc _ _) W = _; kernel_rfl
  | 2, hk => cases hk; show Sem.run Tryz.prog (callFunc _ _) W = _; kernel_rfl
  | 3, hk => cases hk; show Sem.run Tryz.prog (callFunc _ _) W = _; kernel_rfl
  | 4, hk => cases hk; show Sem.run Tryz.prog (callFunc _ _) W = _; kernel_rfl
  | 5, hk => cases hk; show Sem.run Tryz.prog (callFunc _ _) W = _; kernel_rfl
  | k + 6, hk => simp [gaugeC] at hk

set_option maxHeartbeats 1000000 in
theorem gaugeFault_any (g : Gg) (w : World) (hg : g.At w w.heap.size) :
    Calls Tryz.prog 76 #[g.v] w fun e w' => e = .returned (gaugeF g).v ∧ Below w.heap.size w w' := by
  have Hg := Lib.hid hg; clear hg
  have hGood := fun W b (h : g.Box W b) => gaugeC_good g b W h
  have HGood := Lib.hid hGood; clear hGood
  go_enter Tryz.func76, Tryz.ntmps76
  go_wp2_with fail
  refine (first_any _ (w.heap.size + 1 + 1) 0 6 (gaugeC g (.pointer (some ⟨w.heap.size, 0, none⟩))) rfl (by omega) (by simp) ?_ (HGood.out _ _ ⟨?_, ?_⟩) (gaugeC_plain g _)).mono ?_
  · intro k c hk
    match k, hk with
    | 0, hk => cases hk; exact (Blk.new' _ _ _ (by simp)).cell 0
    | 1, hk => cases hk; exact (Blk.new' _ _ _ (by simp)).cell 1
    | 2, hk => cases hk; exact (Blk.new' _ _ _ (by simp)).cell 2
    | 3, hk => cases hk; exact (Blk.new' _ _ _ (by simp)).cell 3
    | 4, hk => cases hk; exact (Blk.new' _ _ _ (by simp)).cell 4
    | 5, hk => cases hk; exact (Blk.new' _ _ _ (by simp)).cell 5
    | k + 6, hk => simp [gaugeC] at hk
  · exact ((Blk.new w _ _).alloc _).alloc _
  · exact Hg.out.grow (by repeat (first | exact Below.refl _ _ | assumption | (refine Below.setCell ?_ (by first | omega | (simp; done) | (simp; omega)) _) | (refine Below.alloc ?_ (by first | omega | (simp; done) | (simp; omega)) _) | refine Below.drew ?_ | (refine below_thru ?_ (by assumption) (by first | omega | (simp; done) | (simp; omega))) | refine below_drewN ?_ _))
  · rintro e w1 ⟨rfl, hb1⟩
    obtain ⟨hc1, hf1⟩ := bcell hb1; have hz1 := hb1.size; (try simp at hz1)
    go_wp2
    exact bodyPost_ret (v := (firstF ((gaugeC g (.pointer (some ⟨w.heap.size, 0, none⟩))).map (·.r))).v) (by simp [results, Tryz.results76, go_sem, hc1] <;> omega) rfl ⟨by rfl, (by repeat (first | exact Below.refl _ _ | assumption | (refine Below.setCell ?_ (by first | omega | (simp; done) | (simp; omega)) _) | (refine Below.alloc ?_ (by first | omega | (simp; done) | (simp; omega)) _) | refine Below.drew ?_ | (refine below_thru ?_ (by assumption) (by first | omega | (simp; done) | (simp; omega))) | refine below_drewN ?_ _))⟩

/-- A gauge without a fault has its numbers as stated. -/
theorem gaugeF_zero (g : Gg) (w : World) (B : Nat) (hat : g.At w B) (h : (gaugeF g).e = 0) : g.Ok := by
  have hdl := hat.dl
  have hrl := hat.rl
  have first0 : ∀ (l : List Ft), (firstF l).e = 0 → ∀ f ∈ l, f.e = 0 := by
    intro l
    induction l with
    | nil => intro _ f hf; cases hf
    | cons a l ih =>
      intro h f hf
      simp only [firstF] at h
      split at h
      · rename_i h0
        rcases List.mem_cons.1 hf with rfl | hf
        · exact h0
        · exact ih h f hf
      · rename_i h0; exact absurd h h0
  have each0 : ∀ (c : Nat → Ft) (n i : Nat), (eachF c i n).e = 0 → ∀ j, i ≤ j → j < i + n → (c j).e = 0 := by
    intro c n
    induction n with
    | zero => intro i _ j h1 h2; omega
    | succ n ih =>
      intro i h j h1 h2
      simp only [eachF] at h
      split at h
      · rename_i h0
        rcases Nat.eq_or_lt_of_le h1 with rfl | h3
        · exact h0
        · exact ih (i + 1) h j (by omega) (by omega)
      · rename_i h0; exact absurd h h0
  have in0 : ∀ (f : Ft) (p : Int), (f.in_ p).e = 0 → f.e = 0 := by
    intro f p h
    unfold Ft.in_ at h
    split at h
    · assumption
    · exact h
  have need0 : ∀ (b : Bool) (c : Int), c ≠ 0 → (need b c).e = 0 → b = true := by
    intro b c hc h
    cases b
    · simp [need] at h; exact absurd h hc
    · rfl
  have hall := first0 _ h
  have h2 := need_in_e (by omega) (hall _ (show (need (betw g.err 0 5000 && betw g.rate 0 5000) 7).in_ 1 ∈ gaugeL g by simp [gaugeL]))
  have h3 := need_in_e (by omega) (hall _ (show (need (betw g.dn 1 8) 3).in_ 2 ∈ gaugeL g by simp [gaugeL]))
  have h4 := each0 _ _ _ (in0 _ _ (hall _ (show (eachF (fun i => need (datB g.ds i) 7) 0 g.dn).in_ 2 ∈ gaugeL g by simp [gaugeL])))
  have h5 := need_in_e (by omega) (hall _ (show (need (decide ((g.rn : Int) ≤ 60)) 3).in_ 3 ∈ gaugeL g by simp [gaugeL]))
  have h6 := each0 _ _ _ (in0 _ _ (hall _ (show (eachF (fun i => need (rdB g.rs i) 7) 0 g.rn).in_ 3 ∈ gaugeL g by simp [gaugeL])))
  simp only [betw, Bool.and_eq_true, decide_eq_true_eq] at h2 h3 h5
  refine ⟨h2.1.1, h2.1.2, h2.2.1, h2.2.2, fun e => by rw [e] at hdl; simp at hdl; omega, fun d hd => ?_, fun r hr => ?_, by omega, by omega⟩
  · obtain ⟨i, hi, rfl⟩ := List.getElem_of_mem hd
    have := need0 _ _ (by omega) (h4 i (by omega) (by omega))
    unfold datB at this
    rw [List.getElem?_eq_getElem hi] at this
    simp only [Bool.and_eq_true, Sp.withinB, Sp.emptyB, Bool.not_eq_true', decide_eq_true_eq, decide_eq_false_iff_not] at this
    obtain ⟨⟨p1, p2, p3⟩, p4⟩ := this
    refine ⟨p2, by omega, p3, ?_⟩
    split at p4
    · simp at p4; omega
    · simp only [tickB, betw, Bool.and_eq_true, decide_eq_true_eq] at p4; omega
  · obtain ⟨i, hi, rfl⟩ := List.getElem_of_mem hr
    have := need0 _ _ (by omega) (h6 i (by omega) (by omega))
    unfold rdB at this
    rw [List.getElem?_eq_getElem hi] at this
    simp only [Bool.and_eq_true, tickB, betw, decide_eq_true_eq] at this
    omega

/-- What 'Says' returns. -/
def saysF (g : Gg) (tick now : Int) : Sp × Int :=
  if (gaugeF g).e = 0 then (if (tickB tick && tickB now) = true then saidF g tick now else (⟨0, 0⟩, 7)) else (⟨0, 0⟩, (gaugeF g).e)

set_option maxHeartbeats 1000000 in
theorem says1_any (g : Gg) (b : Nat) (w : World) (hg : g.Box w b) :
    Calls Tryz.prog 77 #[.pointer (some ⟨b, 0, none⟩)] w fun e w' => e = .returned (gaugeF g).v ∧ Below w.heap.size w w' := by
  obtain ⟨g0, g1, g2, g3, g4⟩ := hg.blk.five
  have hlt := hg.blk.lt
  have Hg := Lib.hid hg.at_
  clear hg
  go_enter Tryz.func77, Tryz.ntmps77
  go_wp2_with fail
  refine (gaugeFault_any g _ (Hg.out.grow (by repeat (first | exact Below.refl _ _ | assumption | (refine Below.setCell ?_ (by first | omega | (simp; done) | (simp; omega)) _) | (refine Below.alloc ?_ (by first | omega | (simp; done) | (simp; omega)) _) | refine Below.drew ?_ | (refine below_thru ?_ (by assumption) (by first | omega | (simp; done) | (simp; omega))) | refine below_drewN ?_ _)))).mono ?_
  rintro e w1 ⟨rfl, hb1⟩
  obtain ⟨hc1, hf1⟩ := bcell hb1; have hz1 := hb1.size; (try simp at hz1)
  go_wp2
  exact bodyPost_ret (v := (gaugeF g).v) (by simp [results, Tryz.results77, go_sem, hc1] <;> omega) rfl ⟨by rfl, (by repeat (first | exact Below.refl _ _ | assumption | (refine Below.setCell ?_ (by first | omega | (simp; done) | (simp; omega)) _) | (refine Below.alloc ?_ (by first | omega | (simp; done) | (simp; omega)) _) | refine Below.drew ?_ | (refine below_thru ?_ (by assumption) (by first | omega | (simp; done) | (simp; omega))) | refine below_drewN ?_ _))⟩

set_option maxHeartbeats 1000000 in
theorem says2_any (x y : Int) (bx b2 : Nat) (w : World) (hx : Blk w bx 3 #[.int .i64 x]) (hy : Blk w b2 3 #[.int .i64 y]) :
    Calls Tryz.prog 78 #[.pointer (some ⟨bx, 0, none⟩), .pointer (some ⟨b2, 0, none⟩)] w fun e w' => e = .returned (need (tickB x && tickB y) 7).v ∧ Below w.heap.size w w' := by
  have x0 := hx.cell 0
  have y0 := hy.cell 0
  simp only [List.getElem?_toArray, List.getElem?_cons_zero] at x0 y0
  have xl := hx.lt
  have yl := hy.lt
  clear hx hy
  have h1 := tick_is x
  have h2 := tick_is y
  cases e1 : tickB x
  · have H1 := Lib.hid (h1 _ e1)
    clear h1 h2 e1
    go_enter Tryz.func78, Tryz.ntmps78
    go_wp2_with fail
    refine (H1.out _).mono ?_
    rintro e w1 ⟨rfl, hw1⟩
    obtain rfl := hw1.symm
    go_wp2_with fail
    refine (need_any _ _ _).mono ?_
    rintro e w1 ⟨rfl, hb1⟩
    obtain ⟨hc1, hf1⟩ := bcell hb1; have hz1 := hb1.size; (try simp at hz1)
    go_wp2
    exact bodyPost_ret (v := (need false 7).v) (by simp [results, Tryz.results78, go_sem, hc1] <;> omega) rfl ⟨by rfl, (by repeat (first | exact Below.refl _ _ | assumption | (refine Below.setCell ?_ (by first | omega | (simp; done) | (simp; omega)) _) | (refine Below.alloc ?_ (by first | omega | (simp; done) | (simp; omega)) _) | refine Below.drew ?_ | (refine below_thru ?_ (by assumption) (by first | omega | (simp; done) | (simp; omega))) | refine below_drewN ?_ _))⟩
  · have H1 := Lib.hid (h1 _ e1)
    clear h1 e1
    go_enter Tryz.func78, Tryz.ntmps78
    go_wp2_with fail
    refine (H1.out _).mono ?_
    rintro e w1 ⟨rfl, hw1⟩
    obtain rfl := hw1.symm
    go_wp2_with fail
    refine (h2 _ rfl _).mono ?_
    rintro e w1 ⟨rfl, hw1⟩
    obtain rfl := hw1.symm
    go_wp2_with fail
    refine (need_any _ _ _).mono ?_
    rintro e w1 ⟨rfl, hb1⟩
    obtain ⟨hc1, hf1⟩ := bcell hb1; have hz1 := hb1.size; (try simp at hz1)
    go_wp2
    exact bodyPost_ret (v := (need (tickB y) 7).v) (by simp [results, Tryz.results78, go_sem, hc1] <;> omega) rfl ⟨by rfl, (by repeat (first | exact Below.refl _ _ | assumption | (refine Below.setCell ?_ (by first | omega | (simp; done) | (simp; omega)) _) | (refine Below.alloc ?_ (by first | omega | (simp; done) | (simp; omega)) _) | refine Below.drew ?_ | (refine below_thru ?_ (by assumption) (by first | omega | (simp; done) | (simp; omega))) | refine below_drewN ?_ _))⟩
end Go.Proofs.YtncidhoojgncgaaGreat
