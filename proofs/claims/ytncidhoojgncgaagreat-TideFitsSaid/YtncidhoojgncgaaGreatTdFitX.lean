/- Fit. -/
import Derived.Test.YtncidhoojgncgaaGreatTdFitC
namespace Go.Proofs.YtncidhoojgncgaaGreat
open Go.RowKit
set_option linter.unusedSimpArgs false
set_option linter.unusedVariables false

/-- Without levels no reading counts. -/
theorem fitFold_none (g : Gg) (d : Nat) (f : Int) (rs : List Rd) : fitFold g d f [] rs = ⟨(g.ds.getD d ⟨0, 0, 0⟩).lo, (g.ds.getD d ⟨0, 0, 0⟩).hi⟩ := by
  unfold fitFold
  induction rs with
  | nil => rfl
  | cons r rs ih =>
    rw [List.foldl_cons, fitStep, if_neg, ih]
    simp [fitB, betw]
    omega
theorem betw_none (x : Int) : betw x 0 (-1) = false := by
  unfold betw
  by_cases h : 0 ≤ x <;> simp [h]
  omega

set_option maxRecDepth 100000 in
set_option maxHeartbeats 4000000 in
theorem fitted0_any (g : Gg) (d : Nat) (from_ : Int) (A : Option Addr) (c : Nat) (w : World) (hg : g.At w w.heap.size) (hd : d < g.dn) :
    Calls Tryz.prog 103 #[g.v, .int .i64 d, .int .i64 from_, .slice A 0 c] w fun e w' => e = .returned (fitFold g d from_ [] g.rs).v ∧ Below w.heap.size w w' := by
  have hrl := hg.rl
  have hrm := hg.rn
  have hrt := hg.r
  have hdl := hg.dl
  have hdt := hg.d
  have hdm := hg.dn
  unfold maxLen at hrm hdm
  obtain ⟨dat, hdat⟩ : ∃ x, g.ds[d]? = some x := get_lt rfl (by omega)
  have hfin := fitFold_none g d from_ g.rs
  rw [hfin]
  have hdv : g.ds.getD d ⟨0, 0, 0⟩ = dat := by simp [hdat]
  rw [hdv]
  clear hfin hdv hg
  have HB := Lib.hid (fun x W => bet_is x 0 (-1) false (betw_none x) W)
  obtain ⟨b0, o0, hA0, hb0, y0, y1, y2⟩ := hdt.three (k := d) (x := .int .i64 dat.from_) (y := .int .i64 dat.lo) (z := .int .i64 dat.hi) (by simp [hdat])
  have Hrl := Lib.hid hrl; clear hrl
  have Hrt := Lib.hid hrt; clear hrt
  clear hdl hdt hdat
  obtain ⟨nm, er, rt, dA, dn, dc, ds, rA, rn, rc, rs⟩ := g
  simp only at hrm hd hA0 hdm
  subst hA0
  have d0 : (0 : Int) ≤ (d : Int) := Int.natCast_nonneg _
  have d1 : (d : Int) < (dn : Int) := by omega
  go_enter Tryz.func103, Tryz.ntmps103
  go_wp2_with fail
  have hl1 : w.heap.size + 1 < w.heap.size + 1 + 1 := by omega
  go_loopw [23] (fun i wr => ∃ (k : Nat), k ≤ rn ∧ i = .int .i64 k ∧ Hid (Blk wr w.heap.size 47 #[.string nm, .int .i64 er, .int .i64 rt, .slice (some ⟨b0, o0, none⟩) dn dc, .slice rA rn rc])
      ∧ Hid (Blk wr (w.heap.size + 1) 107 #[.int .i64 0, .int .i64 0]) ∧ Hid (Blk wr (w.heap.size + 1 + 1) 107 #[.int .i64 dat.lo, .int .i64 dat.hi]) ∧ Below w.heap.size w wr)
    (fun i _ => rn - (intOf i).toNat)
  case atStart => exact ⟨0, Nat.zero_le _, rfl, ((Blk.new w 47 _).alloc _).alloc _, (Blk.new' (w.alloc _) 107 _ (by simp)).alloc _, Blk.new' ((w.alloc _).alloc _) 107 _ (by simp), (by repeat (first | exact Below.refl _ _ | assumption | (refine Below.setCell ?_ (by first | omega | (simp; done) | (simp; omega)) _) | (refine Below.alloc ?_ (by first | omega | (simp; done) | (simp; omega)) _) | refine Below.drew ?_ | (refine below_thru ?_ (by assumption) (by first | omega | (simp; done) | (simp; omega))) | refine below_drewN ?_ _))⟩
  case round =>
    obtain ⟨k, hk, rfl, hbg, hbe, hbs, hbr⟩ := hrel
    have hzr := hbs.out.lt
    have hlw : w.heap.size < wr.heap.size := by omega
    have hlw2 : w.heap.size + 1 < wr.heap.size := by omega
    obtain ⟨s0, s1, s2, s3⟩ := hbs.out.two
    obtain ⟨e0, e1, e2, e3⟩ := hbe.out.two
    obtain ⟨g0, g1, g2, g3, g4⟩ := hbg.out.five
    by_cases hlt : k < rn
    · obtain ⟨r, hrk⟩ := get_lt Hrl.out hlt
      obtain ⟨b, off, hA, hb, c0, c1⟩ := Hrt.out.two (k := k) (x := .int .i64 r.tick) (y := .int .i64 r.value) (by simp [hrk])
      (try simp only at hA)
      subst hA
      clear hrk
      have c0 := (hbr.cell (p := ⟨b, off + k * 2, none⟩) hb).trans c0
      have c1 := (hbr.cell (p := ⟨b, off + k * 2 + 1, none⟩) hb).trans c1
      go_wp2_with fail
      refine (HB.out _ _).mono ?_
      rintro e w1 ⟨rfl, rfl⟩
      go_wp2
      go_roundw
      case rel => exact ⟨k + 1, by omega, by go_num, hbg.out.alloc _, hbe.out.alloc _, hbs.out.alloc _, (by repeat (first | exact Below.refl _ _ | assumption | (refine Below.setCell ?_ (by first | omega | (simp; done) | (simp; omega)) _) | (refine Below.alloc ?_ (by first | omega | (simp; done) | (simp; omega)) _) | refine Below.drew ?_ | (refine below_thru ?_ (by assumption) (by first | omega | (simp; done) | (simp; omega))) | refine below_drewN ?_ _))⟩
      case measure => simp [intOf]; omega
    · obtain rfl : k = rn := by omega
      go_wp2
      exact bodyPost_ret (v := Sp.v ⟨dat.lo, dat.hi⟩) (by simp [results, Tryz.results103, go_sem, e0, e1, e2, e3] <;> omega) rfl ⟨by rfl, (by repeat (first | exact Below.refl _ _ | assumption | (refine Below.setCell ?_ (by first | omega | (simp; done) | (simp; omega)) _) | (refine Below.alloc ?_ (by first | omega | (simp; done) | (simp; omega)) _) | refine Below.drew ?_ | (refine below_thru ?_ (by assumption) (by first | omega | (simp; done) | (simp; omega))) | refine below_drewN ?_ _))⟩

def fitC (g : Gg) (d a : Int) (n : Nat) (l : List Sp) (p q r s f : Value) : List Chk := [⟨97, #[p], gaugeF g⟩, ⟨98, #[q, p], need (betw d 0 (g.dn - 1)) 4⟩, ⟨99, #[s], need (decide ((n : Int) ≤ 400)) 3⟩, ⟨100, #[r, s], need (areTicksB a n) 7⟩, ⟨101, #[s, f], need (!l.any badS) 2⟩]
def fitL (g : Gg) (d a : Int) (n : Nat) (l : List Sp) : List Ft := [gaugeF g, need (betw d 0 (g.dn - 1)) 4, need (decide ((n : Int) ≤ 400)) 3, need (areTicksB a n) 7, need (!l.any badS) 2]
/-- What 'Fit' returns. -/
def fitR (g : Gg) (d a : Int) (n : Nat) (l : List Sp) : Sp × Int :=
  if (firstF (fitL g d a n l)).e = 0 then (if (fitFold g d.toNat a l g.rs).emptyB = true then (⟨0, 0⟩, 9) else (fitFold g d.toNat a l g.rs, 0)) else (⟨0, 0⟩, (firstF (fitL g d a n l)).e)
theorem fitC_r (g : Gg) (d a : Int) (n : Nat) (l : List Sp) (p q r s f : Value) : (fitC g d a n l p q r s f).map (·.r) = fitL g d a n l := rfl
theorem fitC_plain (g : Gg) (d a : Int) (n : Nat) (l : List Sp) (p q r s f : Value) : ∀ (k : Nat) (x : Chk), (fitC g d a n l p q r s f)[k]? = some x → Plain x.f x.caps := by
  intro k x hk W
  match k, hk with
  | 0, hk => cases hk; show Sem.run Tryz.prog (callFunc _ _) W = _; kernel_rfl
  | 1, hk => cases hk; show Sem.run Tryz.prog (callFunc _ _) W = _; kernel_rfl
  | 2, hk => cases hk; show Sem.run Tryz.prog (callFunc _ _) W = _; kernel_rfl
  | 3, hk => cases hk; show Sem.run Tryz.prog (callFunc _ _) W = _; kernel_rfl
  | 4, hk => cases hk; show Sem.run Tryz.prog (callFunc _ _) W = _; kernel_rfl
  | k + 5, hk => simp [fitC] at hk
theorem fitC_good (g : Gg) (d a : Int) (A : Option Addr) (n c : Nat) (l : List Sp) (b bd ba bl bf : Nat) (w : World) (hg : g.Box w b) (hd : Blk w bd 3 #[.int .i64 d]) (ha : Blk w ba 3 #[.int .i64 a])
    (hl : Blk w bl 35 #[.slice A n c]) (hf : Blk w bf 142 #[.func (.func 95) #[] #[]]) (hat : LvAt w w.heap.size A n l) :
    Good w (fitC g d a n l (.pointer (some ⟨b, 0, none⟩)) (.pointer (some ⟨bd, 0, none⟩)) (.pointer (some ⟨ba, 0, none⟩)) (.pointer (some ⟨bl, 0, none⟩)) (.pointer (some ⟨bf, 0, none⟩))) := by
  intro k x hk hprev W hW
  have hb := hg.grow hW
  match k, hk with
  | 0, hk => cases hk; exact fit2_any g b W hb
  | 1, hk => cases hk; exact fit3_any g d bd b W (hd.thru hW hd.lt) hb
  | 2, hk => cases hk; exact fit4_any A n c bl W (hl.thru hW hl.lt) hat.n
  | 3, hk =>
    cases hk
    have h2 := need_e (by omega) (hprev 2 _ (by omega) rfl)
    simp only [decide_eq_true_eq] at h2
    exact fit5_any a A n c ba bl W (ha.thru hW ha.lt) (hl.thru hW hl.lt) (by omega)
  | 4, hk => cases hk; exact fit6_any A n c l bl bf W (hl.thru hW hl.lt) (hf.thru hW hf.lt) (hat.grow hW)
  | k + 5, hk => simp [fitC] at hk
/-- What holds behind the checks of 'Fit'. -/
theorem fitL_zero (g : Gg) (d a : Int) (n : Nat) (l : List Sp) (hn : l.length = n) (h : (firstF (fitL g d a n l)).e = 0) :
    (gaugeF g).e = 0 ∧ 0 ≤ d ∧ d < g.dn ∧ n ≤ 400 ∧ (n = 0 ∨ (0 ≤ a ∧ a ≤ 200000)) ∧ ∀ s ∈ l, -20000 ≤ s.lo ∧ s.lo ≤ s.hi ∧ s.hi ≤ 20000 := by
  have hall := firstF_zero _ h
  have h1 := hall _ (show gaugeF g ∈ fitL g d a n l by simp [fitL])
  have h2 := need_e (by omega) (hall _ (show need (betw d 0 (g.dn - 1)) 4 ∈ fitL g d a n l by simp [fitL]))
  have h3 := need_e (by omega) (hall _ (show need (decide ((n : Int) ≤ 400)) 3 ∈ fitL g d a n l by simp [fitL]))
  have h4 := need_e (by omega) (hall _ (show need (areTicksB a n) 7 ∈ fitL g d a n l by simp [fitL]))
  have h5 := need_e (by omega) (hall _ (show need (!l.any badS) 2 ∈ fitL g d a n l by simp [fitL]))
  simp only [betw, areTicksB, tickB, Bool.and_eq_true, Bool.or_eq_true, decide_eq_true_eq, beq_iff_eq] at h2 h3 h4
  refine ⟨h1, h2.1, by omega, by omega, ?_, fun s hs => ?_⟩
  · rcases h4 with h4 | h4
    · exact .inl (by omega)
    · exact .inr h4.1
  · simp only [Bool.not_eq_true', List.any_eq_false, badS, Bool.not_eq_true, Bool.not_eq_false', Sp.withinB, Sp.emptyB, Bool.and_eq_true, decide_eq_true_eq, decide_eq_false_iff_not] at h5
    have := h5 s hs
    simp only [Bool.not_eq_true', Bool.not_eq_false, Bool.and_eq_true, Bool.not_eq_true', decide_eq_true_eq, decide_eq_false_iff_not] at this
    omega
end Go.Proofs.YtncidhoojgncgaaGreat
