/- Names. -/
import Derived.Test.YtgdomaddjiggaaaGreatGtOwn
namespace Go.Proofs.YtgdomaddjiggaaaGreat
open Go.RowKit
set_option linter.unusedSimpArgs false
set_option linter.unusedVariables false

def letZ (c : Int) : Bool := decide (97 ≤ c) && decide (c ≤ 122)
def digZ (c : Int) : Bool := decide (48 ≤ c) && decide (c ≤ 57)
/-- A byte that may follow in a name. -/
def nextZ (c : Int) : Bool := letZ c || digZ c || decide (c = 45)
def byteAt (s : ByteArray) (i : Nat) : Int := (s.data.toList.getD i 0).toNat
def nameB (s : ByteArray) : Bool := betw s.size 1 24 && letZ (byteAt s 0) && (List.range s.size).all fun i => decide (i = 0) || nextZ (byteAt s i)

theorem tbetween_any (x lo hi : Int) (w : World) :
    Calls Tryz.prog 158 #[.int .i64 x, .int .i64 lo, .int .i64 hi] w fun e w' => e = .returned (.bool (betw x lo hi)) ∧ w = w' := by
  by_cases h1 : lo ≤ x
  · by_cases h2 : x ≤ hi
    all_goals
      go_enter Tryz.func158, Tryz.ntmps158
      go_wp2
      go_ret
      exact ⟨by simp [betw, h1, h2], rfl⟩
  · have h1' : decide (lo ≤ x) = false := by simpa using h1
    go_enter Tryz.func158, Tryz.ntmps158
    go_wp2
    go_ret
    exact ⟨by simp [betw, h1'], rfl⟩
theorem letter_any (c : Int) (w : World) : Calls Tryz.prog 159 #[.int .u8 c] w fun e w' => e = .returned (.bool (letZ c)) ∧ w' = w := by
  by_cases h1 : 97 ≤ c
  · by_cases h2 : c ≤ 122
    all_goals
      go_enter Tryz.func159, Tryz.ntmps159
      go_wp2
      go_ret
      exact ⟨by simp [letZ, h1, h2], rfl⟩
  · have h1' : decide (97 ≤ c) = false := by simpa using h1
    go_enter Tryz.func159, Tryz.ntmps159
    go_wp2
    go_ret
    exact ⟨by simp [letZ, h1'], rfl⟩
theorem digit_any (c : Int) (w : World) : Calls Tryz.prog 160 #[.int .u8 c] w fun e w' => e = .returned (.bool (digZ c)) ∧ w' = w := by
  by_cases h1 : 48 ≤ c
  · by_cases h2 : c ≤ 57
    all_goals
      go_enter Tryz.func160, Tryz.ntmps160
      go_wp2
      go_ret
      exact ⟨by simp [digZ, h1, h2], rfl⟩
  · have h1' : decide (48 ≤ c) = false := by simpa using h1
    go_enter Tryz.func160, Tryz.ntmps160
    go_wp2
    go_ret
    exact ⟨by simp [digZ, h1'], rfl⟩
theorem let_is (x : Int) (b : Bool) (h : letZ x = b) : ∀ W : World, Calls Tryz.prog 159 #[.int .u8 x] W fun e w' => e = .returned (.bool b) ∧ W = w' := fun W => by
  subst h; exact (letter_any x W).mono fun _ _ h => ⟨h.1, h.2.symm⟩
theorem dig_is (x : Int) (b : Bool) (h : digZ x = b) : ∀ W : World, Calls Tryz.prog 160 #[.int .u8 x] W fun e w' => e = .returned (.bool b) ∧ W = w' := fun W => by
  subst h; exact (digit_any x W).mono fun _ _ h => ⟨h.1, h.2.symm⟩
theorem tbet_is (x lo hi : Int) (b : Bool) (h : betw x lo hi = b) : ∀ W : World, Calls Tryz.prog 158 #[.int .i64 x, .int .i64 lo, .int .i64 hi] W fun e w' => e = .returned (.bool b) ∧ W = w' := fun W => by
  subst h; exact tbetween_any x lo hi W

theorem byteAt_get (s : ByteArray) (k : Nat) (h : k < s.size) : ((s[k]'h).toNat : Int) = byteAt s k := by
  unfold byteAt
  rw [List.getD_eq_getElem?_getD, List.getElem?_eq_getElem (by simpa using h)]
  rfl

set_option maxRecDepth 100000 in
set_option maxHeartbeats 1000000 in
theorem Name_any (s : ByteArray) (w : World) (hs : s.size ≤ maxLen) :
    Calls Tryz.prog 114 #[.string s] w fun e w' => e = .returned (.bool (nameB s)) ∧ w = w' := by
  unfold maxLen at hs
  have hB := tbet_is s.size 1 24
  have hL := let_is (byteAt s 0)
  cases hb : betw s.size 1 24
  · have hfin : nameB s = false := by simp [nameB, hb]
    have HB := Lib.hid (hB _ hb)
    rw [hfin]
    clear hfin hb hB hL
    go_enter Tryz.func114, Tryz.ntmps114
    go_wp2_with (go_at_call 158; refine (HB.out _).mono ?_; rintro e w1 ⟨rfl, rfl⟩)
    go_ret
    exact ⟨rfl, rfl⟩
  · have hbb := hb
    simp only [betw, Bool.and_eq_true, decide_eq_true_eq] at hbb
    obtain ⟨z1, z2⟩ := hbb
    have z0 : 0 < s.size := by omega
    have g0 := byteAt_get s 0 z0
    have HB := Lib.hid (hB _ hb)
    cases hl : letZ (byteAt s 0)
    · have hfin : nameB s = false := by simp [nameB, hl]
      have HL := Lib.hid (hL _ hl)
      rw [hfin]
      clear hfin hb hB hL hl
      rw [← g0] at HL
      clear g0
      go_enter Tryz.func114, Tryz.ntmps114
      go_wp2_with fail
      refine (HB.out _).mono ?_
      rintro e w1 ⟨rfl, rfl⟩
      go_wp2_with fail
      refine (HL.out _).mono ?_
      rintro e w1 ⟨rfl, rfl⟩
      go_wp2
      go_ret
      exact ⟨rfl, rfl⟩
    · have hfin : nameB s = (List.range s.size).all fun i => decide (i = 0) || nextZ (byteAt s i) := by simp [nameB, hl, hb]
      have HL := Lib.hid (hL _ hl)
      rw [hfin]
      clear hfin hb hB hL hl
      rw [← g0] at HL
      clear g0
      go_enter Tryz.func114, Tryz.ntmps114
      go_wp2_with fail
      refine (HB.out _).mono ?_
      rintro e w1 ⟨rfl, rfl⟩
      go_wp2_with fail
      refine (HL.out _).mono ?_
      rintro e w1 ⟨rfl, rfl⟩
      go_wp2
      go_loop [3] (fun i => ∃ k : Nat, 1 ≤ k ∧ k ≤ s.size ∧ i = .int .i64 k ∧ Hid (∀ i, i < k → i = 0 ∨ nextZ (byteAt s i) = true)) (fun i => s.size - (intOf i).toNat)
      case atStart => exact ⟨1, Nat.le_refl _, z0, rfl, fun i hi => .inl (by omega)⟩
      case round =>
        obtain ⟨k, hk1, hk, rfl, hprev⟩ := hrel
        by_cases hlt : k < s.size
        · have gk := byteAt_get s k hlt
          have hL := let_is (byteAt s k)
          have hD := dig_is (byteAt s k)
          have more : nextZ (byteAt s k) = true → Hid (∀ i, i < k + 1 → i = 0 ∨ nextZ (byteAt s i) = true) := fun h i hi => by
            rcases Nat.lt_or_ge i k with h1 | h1
            · exact hprev.out i h1
            · obtain rfl : i = k := by omega
              exact .inr h
          have More := Lib.hid more; clear more
          cases hl : letZ (byteAt s k)
          · have HLk := Lib.hid (hL _ hl)
            cases hd : digZ (byteAt s k)
            · have HDk := Lib.hid (hD _ hd)
              by_cases h45 : byteAt s k = 45
              · have hn : nextZ (byteAt s k) = true := by simp [nextZ, h45]
                have Hm := Lib.hid (More.out hn)
                clear hL hD hl hd hn More
                rw [← gk] at HLk HDk h45
                clear gk
                have h45' : (((s[k]'hlt).toNat : Int) != 45) = false := by rw [h45]; rfl
                clear h45
                go_wp2_with fail
                refine (HLk.out _).mono ?_
                rintro e w1 ⟨rfl, rfl⟩
                go_wp2_with fail
                refine (HDk.out _).mono ?_
                rintro e w1 ⟨rfl, rfl⟩
                go_wp2
                go_round
                case rel => exact ⟨k + 1, by omega, by omega, by go_num, Hm.out⟩
                case measure => simp [intOf]; omega
              · have hn : nextZ (byteAt s k) = false := by simp [nextZ, h45, hl, hd]
                have hfin : ((List.range s.size).all fun i => decide (i = 0) || nextZ (byteAt s i)) = false := by
                  rw [List.all_eq_false]
                  exact ⟨k, by simpa using hlt, by simp [hn]; omega⟩
                have Hf := Lib.hid hfin
                clear hL hD hl hd hn More hfin
                rw [← gk] at HLk HDk h45
                clear gk
                have h45' : (((s[k]'hlt).toNat : Int) != 45) = true := by rw [bne_iff_ne]; exact h45
                clear h45
                go_wp2_with fail
                refine (HLk.out _).mono ?_
                rintro e w1 ⟨rfl, rfl⟩
                go_wp2_with fail
                refine (HDk.out _).mono ?_
                rintro e w1 ⟨rfl, rfl⟩
                go_wp2
                go_ret
                exact ⟨by rw [Hf.out]; rfl, rfl⟩
            · have HDk := Lib.hid (hD _ hd)
              have hn : nextZ (byteAt s k) = true := by simp [nextZ, hd]
              have Hm := Lib.hid (More.out hn)
              clear hL hD hl hd hn More
              rw [← gk] at HLk HDk
              clear gk
              go_wp2_with fail
              refine (HLk.out _).mono ?_
              rintro e w1 ⟨rfl, rfl⟩
              go_wp2_with fail
              refine (HDk.out _).mono ?_
              rintro e w1 ⟨rfl, rfl⟩
              go_wp2
              go_round
              case rel => exact ⟨k + 1, by omega, by omega, by go_num, Hm.out⟩
              case measure => simp [intOf]; omega
          · have HLk := Lib.hid (hL _ hl)
            have hn : nextZ (byteAt s k) = true := by simp [nextZ, hl]
            have Hm := Lib.hid (More.out hn)
            clear hL hD hl hn More
            rw [← gk] at HLk
            clear gk
            go_wp2_with fail
            refine (HLk.out _).mono ?_
            rintro e w1 ⟨rfl, rfl⟩
            go_wp2
            go_round
            case rel => exact ⟨k + 1, by omega, by omega, by go_num, Hm.out⟩
            case measure => simp [intOf]; omega
        · obtain rfl : k = s.size := by omega
          have hfin : ((List.range s.size).all fun i => decide (i = 0) || nextZ (byteAt s i)) = true := by
            rw [List.all_eq_true]
            intro i hi
            rcases hprev.out i (by simpa using hi) with h | h
            · simp [h]
            · simp [h]
          have Hf := Lib.hid hfin; clear hfin
          go_wp2
          go_ret
          exact ⟨by rw [Hf.out]; rfl, rfl⟩
end Go.Proofs.YtgdomaddjiggaaaGreat
