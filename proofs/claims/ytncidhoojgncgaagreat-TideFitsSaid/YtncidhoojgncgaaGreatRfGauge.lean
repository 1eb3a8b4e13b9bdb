/- The reference's CheckGauge and datum. -/
import Derived.Test.YtncidhoojgncgaaGreatRfName
import Derived.Test.YtncidhoojgncgaaGreatTdGauges
namespace Go.Proofs.YtncidhoojgncgaaGreat
open Go.RowKit
set_option linter.unusedSimpArgs false
set_option linter.unusedVariables false

set_option maxRecDepth 100000 in
set_option maxHeartbeats 1000000 in
theorem rdatum_any (g : Gg) (t v : Int) (w : World) (hg : g.At w w.heap.size) :
    Calls Tryz.prog 105 #[g.v, .agg #[.int .i64 t, .int .i64 v]] w fun e w' => e = .returned (.int .i64 (datFrom g.ds t 0 0 : Nat)) ∧ Below w.heap.size w w' := by
  obtain ⟨nm, er, rt, dA, dn, dc, ds, rA, rn, rc, rs⟩ := g
  have hl := hg.dl
  have hm := hg.dn
  have hd := hg.d
  simp only at hl hm hd
  unfold maxLen at hm
  clear hg
  have Hl := Lib.hid hl; clear hl
  have Hd := Lib.hid hd; clear hd
  go_enter Tryz.func105, Tryz.ntmps105
  go_wp2
  go_loopw [5, 6] (fun a i wr => ∃ (k at_ : Nat), k ≤ dn ∧ at_ ≤ k ∧ i = .int .i64 k ∧ a = .int .i64 at_ ∧ Hid (datFrom ds t 0 0 = datFrom (ds.drop k) t at_ k)
      ∧ Hid (Blk wr w.heap.size 47 #[.string nm, .int .i64 er, .int .i64 rt, .slice dA dn dc, .slice rA rn rc]) ∧ Hid (Blk wr (w.heap.size + 1) 117 #[.int .i64 t, .int .i64 v]) ∧ Below w.heap.size w wr)
    (fun _ i _ => dn - (intOf i).toNat)
  case atStart => exact ⟨0, 0, Nat.zero_le _, Nat.le_refl _, rfl, rfl, rfl, (Blk.new w _ _).alloc _, Blk.new' (w.alloc _) _ _ (by simp), (by repeat (first | exact Below.refl _ _ | assumption | (refine Below.setCell ?_ (by first | omega | (simp; done) | (simp; omega)) _) | (refine Below.alloc ?_ (by first | omega | (simp; done) | (simp; omega)) _) | refine Below.drew ?_ | (refine below_thru ?_ (by assumption) (by first | omega | (simp; done) | (simp; omega))) | refine below_drewN ?_ _))⟩
  case round =>
    obtain ⟨k, at_, hk, hat, rfl, rfl, heq, hbg, hbt, hbr⟩ := hrel
    obtain ⟨g0, g1, g2, g3, g4⟩ := hbg.out.five
    obtain ⟨t0, t1, t2, t3⟩ := hbt.out.two
    have hzr := hbr.size
    by_cases hlt : k < dn
    · obtain ⟨d, hdk⟩ := get_lt Hl.out hlt
      have Hdk := Lib.hid hdk; clear hdk
      obtain ⟨b, off, hA, hb, c0, c1, c2⟩ := Hd.out.three (k := k) (x := .int .i64 d.from_) (y := .int .i64 d.lo) (z := .int .i64 d.hi) (by simp [Hdk.out])
      (try simp only at hA)
      subst hA
      have c0 := (hbr.cell (p := ⟨b, off + k * 3, none⟩) hb).trans c0
      clear c1 c2
      have i0 : (0 : Int) ≤ (k : Int) := Int.natCast_nonneg _
      have i1 : (k : Int) < (dn : Int) := by omega
      by_cases hft : d.from_ ≤ t
      · go_wp2_with fail
        go_quiet (fail)
        go_wp2
        go_roundw
        case rel => exact ⟨k + 1, k, by omega, by omega, by go_num, rfl, by rw [heq.out, drop_cons Hdk.out, datFrom, if_pos hft]; rfl, hbg.out, hbt.out, (by repeat (first | exact Below.refl _ _ | assumption | (refine Below.setCell ?_ (by first | omega | (simp; done) | (simp; omega)) _) | (refine Below.alloc ?_ (by first | omega | (simp; done) | (simp; omega)) _) | refine Below.drew ?_ | (refine below_thru ?_ (by assumption) (by first | omega | (simp; done) | (simp; omega))) | refine below_drewN ?_ _))⟩
        case measure => simp [intOf]; omega
      · go_wp2_with fail
        go_quiet (fail)
        go_wp2
        go_roundw
        case rel => exact ⟨k + 1, at_, by omega, by omega, by go_num, rfl, by rw [heq.out, drop_cons Hdk.out, datFrom, if_neg (by omega)]; rfl, hbg.out, hbt.out, (by repeat (first | exact Below.refl _ _ | assumption | (refine Below.setCell ?_ (by first | omega | (simp; done) | (simp; omega)) _) | (refine Below.alloc ?_ (by first | omega | (simp; done) | (simp; omega)) _) | refine Below.drew ?_ | (refine below_thru ?_ (by assumption) (by first | omega | (simp; done) | (simp; omega))) | refine below_drewN ?_ _))⟩
        case measure => simp [intOf]; omega
    · obtain rfl : k = dn := by omega
      go_wp2
      go_ret
      have hz : ds.drop k = [] := by rw [← Hl.out]; exact List.drop_length
      exact ⟨by rw [heq.out, hz]; rfl, (by repeat (first | exact Below.refl _ _ | assumption | (refine Below.setCell ?_ (by first | omega | (simp; done) | (simp; omega)) _) | (refine Below.alloc ?_ (by first | omega | (simp; done) | (simp; omega)) _) | refine Below.drew ?_ | (refine below_thru ?_ (by assumption) (by first | omega | (simp; done) | (simp; omega))) | refine below_drewN ?_ _))⟩

/-- Which fault a gauge has, by what is wrong first. -/
theorem eachNeed_ok (p : Nat → Bool) (n : Nat) (h : ∀ j, j < n → p j = true) : eachF (fun i => need (p i) 7) 0 n = ⟨0, 0, 0⟩ := by
  rw [eachF_skip _ n 0 n (Nat.le_refl _) (fun j hj => by simp [need, h j hj]), Nat.sub_self]; rfl
theorem eachNeed_bad (p : Nat → Bool) (n k : Nat) (hk : k < n) (h : ∀ j, j < k → p j = true) (hb : p k = false) : eachF (fun i => need (p i) 7) 0 n = ⟨0, k, 7⟩ := by
  rw [eachF_skip _ k 0 n (by omega) (fun j hj => by simp [need, h j hj])]
  obtain ⟨m, hm⟩ : ∃ m, n - k = m + 1 := ⟨n - k - 1, by omega⟩
  rw [hm, eachF, Nat.zero_add]
  simp [need, hb]
theorem gaugeF_a (g : Gg) (h1 : nameB g.name = false) : gaugeF g = ⟨1, 0, 6⟩ := by simp [gaugeF, gaugeL, firstF, need, Ft.in_, h1]
theorem gaugeF_b (g : Gg) (h1 : nameB g.name = true) (h2 : (betw g.err 0 5000 && betw g.rate 0 5000) = false) : gaugeF g = ⟨1, 0, 7⟩ := by
  simp [gaugeF, gaugeL, firstF, need, Ft.in_, h1, h2]
theorem gaugeF_c (g : Gg) (h1 : nameB g.name = true) (h2 : (betw g.err 0 5000 && betw g.rate 0 5000) = true) (h3 : betw g.dn 1 8 = false) : gaugeF g = ⟨2, 0, 3⟩ := by
  simp [gaugeF, gaugeL, firstF, need, Ft.in_, h1, h2, h3]
theorem gaugeF_d (g : Gg) (k : Nat) (h1 : nameB g.name = true) (h2 : (betw g.err 0 5000 && betw g.rate 0 5000) = true) (h3 : betw g.dn 1 8 = true) (hk : k < g.dn) (h : ∀ j, j < k → datB g.ds j = true) (hb : datB g.ds k = false) : gaugeF g = ⟨2, k, 7⟩ := by
  simp only [gaugeF, gaugeL]
  rw [eachNeed_bad (datB g.ds) g.dn k hk h hb]
  simp [firstF, need, Ft.in_, h1, h2, h3]
theorem gaugeF_e (g : Gg) (h1 : nameB g.name = true) (h2 : (betw g.err 0 5000 && betw g.rate 0 5000) = true) (h3 : betw g.dn 1 8 = true) (h4 : ∀ j, j < g.dn → datB g.ds j = true) (h5 : ¬ (g.rn : Int) ≤ 60) : gaugeF g = ⟨3, 0, 3⟩ := by
  simp only [gaugeF, gaugeL]
  rw [eachNeed_ok (datB g.ds) g.dn h4]
  simp [firstF, need, Ft.in_, h1, h2, h3, h5]
theorem gaugeF_f (g : Gg) (k : Nat) (h1 : nameB g.name = true) (h2 : (betw g.err 0 5000 && betw g.rate 0 5000) = true) (h3 : betw g.dn 1 8 = true) (h4 : ∀ j, j < g.dn → datB g.ds j = true) (h5 : (g.rn : Int) ≤ 60)
    (hk : k < g.rn) (h : ∀ j, j < k → rdB g.rs j = true) (hb : rdB g.rs k = false) : gaugeF g = ⟨3, k, 7⟩ := by
  simp only [gaugeF, gaugeL]
  rw [eachNeed_ok (datB g.ds) g.dn h4, eachNeed_bad (rdB g.rs) g.rn k hk h hb]
  simp [firstF, need, Ft.in_, h1, h2, h3, h5]
theorem gaugeF_g (g : Gg) (h1 : nameB g.name = true) (h2 : (betw g.err 0 5000 && betw g.rate 0 5000) = true) (h3 : betw g.dn 1 8 = true) (h4 : ∀ j, j < g.dn → datB g.ds j = true) (h5 : (g.rn : Int) ≤ 60)
    (h : ∀ j, j < g.rn → rdB g.rs j = true) : gaugeF g = ⟨0, 0, 0⟩ := by
  simp only [gaugeF, gaugeL]
  rw [eachNeed_ok (datB g.ds) g.dn h4, eachNeed_ok (rdB g.rs) g.rn h]
  simp [firstF, need, Ft.in_, h1, h2, h3, h5]
end Go.Proofs.YtncidhoojgncgaaGreat
