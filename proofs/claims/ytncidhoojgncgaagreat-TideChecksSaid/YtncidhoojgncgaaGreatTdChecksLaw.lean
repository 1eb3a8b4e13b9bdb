/- TideChecks: Name and Check return what the reference returns. -/
import Derived.Test.YtncidhoojgncgaaGreatRfCheckT
import Derived.Test.YtncidhoojgncgaaGreatTdCheckT
import Derived.Test.YtncidhoojgncgaaGreatTdAwake3
namespace Go.Proofs.YtncidhoojgncgaaGreat
open Go.RowKit
set_option linter.unusedSimpArgs false
set_option linter.unusedVariables false

theorem constAt_part (l : List Cn) (i : Nat) : (constAt l i).part = 0 := by
  unfold constAt
  split
  · rfl
  · simp only [constL, firstF, need]
    repeat (first | rfl | split)
theorem eachConst_bad (l : List Cn) (n k : Nat) (hk : k < n) (h : ∀ j, j < k → (constAt l j).e = 0) (hb : (constAt l k).e ≠ 0) : eachF (fun i => constAt l i) 0 n = ⟨0, k, (constAt l k).e⟩ := by
  rw [eachF_skip _ k 0 n (by omega) (fun j hj => by rw [Nat.zero_add]; exact h j hj)]
  obtain ⟨m, hm⟩ : ∃ m, n - k = m + 1 := ⟨n - k - 1, by omega⟩
  rw [hm, eachF, Nat.zero_add, if_neg hb, constAt_part]
theorem eachConst_ok (l : List Cn) (n : Nat) (h : ∀ j, j < n → (constAt l j).e = 0) : eachF (fun i => constAt l i) 0 n = ⟨0, 0, 0⟩ := by
  rw [eachF_skip _ n 0 n (Nat.le_refl _) (fun j hj => by rw [Nat.zero_add]; exact h j hj), Nat.sub_self]; rfl

set_option maxRecDepth 100000 in
set_option maxHeartbeats 4000000 in
theorem rCheck_any (t : Tb) (w : World) (ht : t.At w w.heap.size) :
    Calls Tryz.prog 21 #[t.v] w fun e w' => e = .returned (.tuple #[.int .i64 (tableF t).at_, .int .i64 (tableF t).e]) ∧ Below w.heap.size w w' := by
  have hcn := ht.cn
  unfold maxLen at hcn
  have hfin : tableF t = if levelB t.mean = true then (if t.cn ≤ 12 then eachF (fun i => constAt t.cs i) 0 t.cn else ⟨0, -1, 3⟩) else ⟨0, -1, 7⟩ := rfl
  have hC := fun (h : t.cn ≤ 12) i (hi : i < t.cn) (W : World) (hat : t.At W W.heap.size) => rconst_any t i W hat (by omega) hi
  have hbad := eachConst_bad t.cs t.cn
  have hok := eachConst_ok t.cs t.cn
  generalize tableF t = f at *
  have HI := rin_is t.mean (-20000) 20000
  have Ht := Lib.hid ht; clear ht
  have HC := Lib.hid hC; clear hC
  have Hbad := Lib.hid hbad; clear hbad
  have Hok := Lib.hid hok; clear hok
  generalize (fun i => constAt t.cs i) = ca at *
  unfold levelB at hfin
  cases h1 : betw t.mean (-20000) 20000
  · have Hf : Hid (f = ⟨0, -1, 7⟩) := by rw [hfin, h1]; rfl
    have HI := Lib.hid (HI _ h1)
    clear hfin h1
    go_enter Tryz.func21, Tryz.ntmps21
    go_wp2_with fail
    refine (HI.out _).mono ?_
    rintro e w1 ⟨rfl, rfl⟩
    go_wp2
    go_ret2
    exact ⟨by rw [Hf.out]; rfl, (by repeat (first | exact Below.refl _ _ | assumption | (refine Below.setCell ?_ (by first | omega | (simp; done) | (simp; omega)) _) | (refine Below.alloc ?_ (by first | omega | (simp; done) | (simp; omega)) _) | refine Below.drew ?_ | (refine below_thru ?_ (by assumption) (by first | omega | (simp; done) | (simp; omega))) | refine below_drewN ?_ _))⟩
  · have HI := Lib.hid (HI _ h1)
    rw [h1, if_pos rfl] at hfin
    by_cases h2 : t.cn ≤ 12
    · rw [if_pos h2] at hfin
      have HC := Lib.hid (HC.out h2)
      have Hfin := Lib.hid hfin
      clear hfin h1
      go_enter Tryz.func21, Tryz.ntmps21
      go_wp2_with fail
      refine (HI.out _).mono ?_
      rintro e w1 ⟨rfl, rfl⟩
      go_wp2
      go_loopw [4] (fun x wr => ∃ k : Nat, k ≤ t.cn ∧ x = .int .i64 k ∧ Hid (∀ j, j < k → (constAt t.cs j).e = 0) ∧ Hid (Blk wr w.heap.size 24 #[.int .i64 t.mean, .slice t.cA t.cn t.cc]) ∧ Below w.heap.size w wr)
        (fun x _ => t.cn - (intOf x).toNat)
      case atStart => exact ⟨0, Nat.zero_le _, rfl, fun j hj => by omega, Blk.new w _ _, (by repeat (first | exact Below.refl _ _ | assumption | (refine Below.setCell ?_ (by first | omega | (simp; done) | (simp; omega)) _) | (refine Below.alloc ?_ (by first | omega | (simp; done) | (simp; omega)) _) | refine Below.drew ?_ | (refine below_thru ?_ (by assumption) (by first | omega | (simp; done) | (simp; omega))) | refine below_drewN ?_ _))⟩
      case round =>
        obtain ⟨k, hk, rfl, hprev, hbt, hbr⟩ := hrel
        obtain ⟨t0, t1, t2, t3⟩ := hbt.out.two
        have hzr := hbt.out.lt
        by_cases hlt : k < t.cn
        · obtain ⟨er, her⟩ : ∃ er, (constAt t.cs k).e = er := ⟨_, rfl⟩
          have HCk := HC.out k hlt
          rw [her] at HCk
          have HCk := Lib.hid HCk
          by_cases h0 : er = 0
          · have Hm : Hid (∀ j, j < k + 1 → (constAt t.cs j).e = 0) := fun j hj => by
              rcases Nat.lt_or_ge j k with h1 | h1
              · exact hprev.out j h1
              · obtain rfl : j = k := by omega
                rw [her]; exact h0
            subst h0
            clear her
            go_wp2_with fail
            refine (HCk.out _ (Ht.out.grow (by repeat (first | exact Below.refl _ _ | assumption | (refine Below.setCell ?_ (by first | omega | (simp; done) | (simp; omega)) _) | (refine Below.alloc ?_ (by first | omega | (simp; done) | (simp; omega)) _) | refine Below.drew ?_ | (refine below_thru ?_ (by assumption) (by first | omega | (simp; done) | (simp; omega))) | refine below_drewN ?_ _)))).mono ?_
            rintro e w2 ⟨rfl, hb2⟩
            have hl2 := hb2.size
            go_wp2
            go_roundw
            case rel => exact ⟨k + 1, by omega, by go_num, Hm, hbt.out.thru hb2 hzr, (by repeat (first | exact Below.refl _ _ | assumption | (refine Below.setCell ?_ (by first | omega | (simp; done) | (simp; omega)) _) | (refine Below.alloc ?_ (by first | omega | (simp; done) | (simp; omega)) _) | refine Below.drew ?_ | (refine below_thru ?_ (by assumption) (by first | omega | (simp; done) | (simp; omega))) | refine below_drewN ?_ _))⟩
            case measure => simp [intOf]; omega
          · have Hf : Hid (f = ⟨0, k, er⟩) := by rw [Hfin.out, Hbad.out k hlt hprev.out (by rw [her]; exact h0), her]; rfl
            have h0' : (er != 0) = true := by simpa using h0
            clear her h0
            go_wp2_with fail
            refine (HCk.out _ (Ht.out.grow (by repeat (first | exact Below.refl _ _ | assumption | (refine Below.setCell ?_ (by first | omega | (simp; done) | (simp; omega)) _) | (refine Below.alloc ?_ (by first | omega | (simp; done) | (simp; omega)) _) | refine Below.drew ?_ | (refine below_thru ?_ (by assumption) (by first | omega | (simp; done) | (simp; omega))) | refine below_drewN ?_ _)))).mono ?_
            rintro e w2 ⟨rfl, hb2⟩
            have hl2 := hb2.size
            go_wp2
            go_ret2
            exact ⟨by rw [Hf.out]; rfl, (by repeat (first | exact Below.refl _ _ | assumption | (refine Below.setCell ?_ (by first | omega | (simp; done) | (simp; omega)) _) | (refine Below.alloc ?_ (by first | omega | (simp; done) | (simp; omega)) _) | refine Below.drew ?_ | (refine below_thru ?_ (by assumption) (by first | omega | (simp; done) | (simp; omega))) | refine below_drewN ?_ _))⟩
        · obtain rfl : k = t.cn := by omega
          have Hf : Hid (f = ⟨0, 0, 0⟩) := by rw [Hfin.out, Hok.out hprev.out]; rfl
          go_wp2
          go_ret2
          exact ⟨by rw [Hf.out]; rfl, (by repeat (first | exact Below.refl _ _ | assumption | (refine Below.setCell ?_ (by first | omega | (simp; done) | (simp; omega)) _) | (refine Below.alloc ?_ (by first | omega | (simp; done) | (simp; omega)) _) | refine Below.drew ?_ | (refine below_thru ?_ (by assumption) (by first | omega | (simp; done) | (simp; omega))) | refine below_drewN ?_ _))⟩
    · have Hf : Hid (f = ⟨0, -1, 3⟩) := by rw [hfin, if_neg h2]; rfl
      clear hfin h1
      have h2' : decide ((12 : Int) < (t.cn : Int)) = true := by rw [decide_eq_true_eq]; omega
      go_enter Tryz.func21, Tryz.ntmps21
      go_wp2_with fail
      refine (HI.out _).mono ?_
      rintro e w1 ⟨rfl, rfl⟩
      go_wp2
      go_ret2
      exact ⟨by rw [Hf.out]; rfl, (by repeat (first | exact Below.refl _ _ | assumption | (refine Below.setCell ?_ (by first | omega | (simp; done) | (simp; omega)) _) | (refine Below.alloc ?_ (by first | omega | (simp; done) | (simp; omega)) _) | refine Below.drew ?_ | (refine below_thru ?_ (by assumption) (by first | omega | (simp; done) | (simp; omega))) | refine below_drewN ?_ _))⟩

set_option maxHeartbeats 4000000 in
theorem TideChecks_any (s : ByteArray) (t : Tb) (w : World) (hs : s.size ≤ maxLen) (ht : t.At w w.heap.size) :
    Calls Tryz.prog 3 #[.string s, t.v] w fun e w' => e = .returned (.bool true) ∧ Below w.heap.size w w' := by
  have H1 := Lib.hid (fun W h => Check_any t W h)
  have H2 := Lib.hid (fun W h => rCheck_any t W h)
  have H3 := Lib.hid (fun W => Name_any s W hs)
  have H4 := Lib.hid (fun W => rName_any s W hs)
  have Ht := Lib.hid ht; clear ht
  generalize tableF t = f at *
  generalize nameB s = b at *
  obtain ⟨p, a, c⟩ := f
  cases b
  all_goals
    go_enter Tryz.func3, Tryz.ntmps3
    go_wp2_with fail
    refine (H1.out _ (Ht.out.grow (by repeat (first | exact Below.refl _ _ | assumption | (refine Below.setCell ?_ (by first | omega | (simp; done) | (simp; omega)) _) | (refine Below.alloc ?_ (by first | omega | (simp; done) | (simp; omega)) _) | refine Below.drew ?_ | (refine below_thru ?_ (by assumption) (by first | omega | (simp; done) | (simp; omega))) | refine below_drewN ?_ _)))).mono ?_
    rintro e w1 ⟨rfl, hb1⟩
    obtain ⟨hc1, hf1⟩ := bcell hb1; have hz1 := hb1.size; (try simp at hz1)
    have hl1 : w.heap.size < w1.heap.size := by omega
    go_wp2_with fail
    refine (H2.out _ (Ht.out.grow (by repeat (first | exact Below.refl _ _ | assumption | (refine Below.setCell ?_ (by first | omega | (simp; done) | (simp; omega)) _) | (refine Below.alloc ?_ (by first | omega | (simp; done) | (simp; omega)) _) | refine Below.drew ?_ | (refine below_thru ?_ (by assumption) (by first | omega | (simp; done) | (simp; omega))) | refine below_drewN ?_ _)))).mono ?_
    rintro e w2 ⟨rfl, hb2⟩
    have hl2 := hb2.size
    go_wp2_with fail
    refine (H3.out _).mono ?_
    rintro e w3 ⟨rfl, rfl⟩
    go_wp2_with fail
    refine (H4.out _).mono ?_
    rintro e w3 ⟨rfl, rfl⟩
    go_wp2_with fail
    refine (Awake_any _).mono ?_
    rintro e w4 ⟨rfl, hb4⟩
    go_wp2
    go_ret
    exact ⟨rfl, (by repeat (first | exact Below.refl _ _ | assumption | (refine Below.setCell ?_ (by first | omega | (simp; done) | (simp; omega)) _) | (refine Below.alloc ?_ (by first | omega | (simp; done) | (simp; omega)) _) | refine Below.drew ?_ | (refine below_thru ?_ (by assumption) (by first | omega | (simp; done) | (simp; omega))) | refine below_drewN ?_ _))⟩
end Go.Proofs.YtncidhoojgncgaaGreat
