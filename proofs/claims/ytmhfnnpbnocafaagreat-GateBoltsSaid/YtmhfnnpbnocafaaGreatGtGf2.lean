/- Names. The checks of a gate. The faults of own forces, of sensors, of a gate. -/
import Derived.Test.YtmhfnnpbnocafaaGreatGtInv
namespace Go.Proofs.YtmhfnnpbnocafaaGreat
open Go.RowKit
set_option linter.unusedSimpArgs false
set_option linter.unusedVariables false

def letZ (c : Int) : Bool := decide (97 ≤ c) && decide (c ≤ 122)
def digZ (c : Int) : Bool := decide (48 ≤ c) && decide (c ≤ 57)
/-- A byte that may follow in a name. -/
def nextZ (c : Int) : Bool := letZ c || digZ c || decide (c = 45)
def byteAt (s : ByteArray) (i : Nat) : Int := (s.data.toList.getD i 0).toNat
def nameB (s : ByteArray) : Bool := betw s.size 1 24 && letZ (byteAt s 0) && (List.range s.size).all fun i => decide (i = 0) || nextZ (byteAt s i)

theorem tbetween_any (x lo hi : Int) (w : World) :
    Calls Tryz.prog 119 #[.int .i64 x, .int .i64 lo, .int .i64 hi] w fun e w' => e = .returned (.bool (betw x lo hi)) ∧ w = w' := by
  by_cases h1 : lo ≤ x
  · by_cases h2 : x ≤ hi
    all_goals
      go_enter Tryz.func119, Tryz.ntmps119
      go_wp2
      go_ret
      exact ⟨by simp [betw, h1, h2], rfl⟩
  · have h1' : decide (lo ≤ x) = false := by simpa using h1
    go_enter Tryz.func119, Tryz.ntmps119
    go_wp2
    go_ret
    exact ⟨by simp [betw, h1'], rfl⟩
theorem letter_any (c : Int) (w : World) : Calls Tryz.prog 120 #[.int .u8 c] w fun e w' => e = .returned (.bool (letZ c)) ∧ w' = w := by
  by_cases h1 : 97 ≤ c
  · by_cases h2 : c ≤ 122
    all_goals
      go_enter Tryz.func120, Tryz.ntmps120
      go_wp2
      go_ret
      exact ⟨by simp [letZ, h1, h2], rfl⟩
  · have h1' : decide (97 ≤ c) = false := by simpa using h1
    go_enter Tryz.func120, Tryz.ntmps120
    go_wp2
    go_ret
    exact ⟨by simp [letZ, h1'], rfl⟩
theorem digit_any (c : Int) (w : World) : Calls Tryz.prog 121 #[.int .u8 c] w fun e w' => e = .returned (.bool (digZ c)) ∧ w' = w := by
  by_cases h1 : 48 ≤ c
  · by_cases h2 : c ≤ 57
    all_goals
      go_enter Tryz.func121, Tryz.ntmps121
      go_wp2
      go_ret
      exact ⟨by simp [digZ, h1, h2], rfl⟩
  · have h1' : decide (48 ≤ c) = false := by simpa using h1
    go_enter Tryz.func121, Tryz.ntmps121
    go_wp2
    go_ret
    exact ⟨by simp [digZ, h1'], rfl⟩
theorem let_is (x : Int) (b : Bool) (h : letZ x = b) : ∀ W : World, Calls Tryz.prog 120 #[.int .u8 x] W fun e w' => e = .returned (.bool b) ∧ W = w' := fun W => by
  subst h; exact (letter_any x W).mono fun _ _ h => ⟨h.1, h.2.symm⟩
theorem dig_is (x : Int) (b : Bool) (h : digZ x = b) : ∀ W : World, Calls Tryz.prog 121 #[.int .u8 x] W fun e w' => e = .returned (.bool b) ∧ W = w' := fun W => by
  subst h; exact (digit_any x W).mono fun _ _ h => ⟨h.1, h.2.symm⟩
theorem tbet_is (x lo hi : Int) (b : Bool) (h : betw x lo hi = b) : ∀ W : World, Calls Tryz.prog 119 #[.int .i64 x, .int .i64 lo, .int .i64 hi] W fun e w' => e = .returned (.bool b) ∧ W = w' := fun W => by
  subst h; exact tbetween_any x lo hi W

theorem byteAt_get (s : ByteArray) (k : Nat) (h : k < s.size) : ((s[k]'h).toNat : Int) = byteAt s k := by
  unfold byteAt
  rw [List.getD_eq_getElem?_getD, List.getElem?_eq_getElem (by simpa using h)]
  rfl

set_option maxRecDepth 100000 in
set_option maxHeartbeats 1000000 in
theorem Name_any (s : ByteArray) (w : World) (hs : s.size ≤ maxLen) :
    Calls Tryz.prog 65 #[.string s] w fun e w' => e = .returned (.bool (nameB s)) ∧ w = w' := by
  unfold maxLen at hs
  have hB := tbet_is s.size 1 24
  have hL := let_is (byteAt s 0)
  cases hb : betw s.size 1 24
  · have hfin : nameB s = false := by simp [nameB, hb]
    have HB := Lib.hid (hB _ hb)
    rw [hfin]
    clear hfin hb hB hL
    go_enter Tryz.func65, Tryz.ntmps65
    go_wp2_with (go_at_call 119; refine (HB.out _).mono ?_; rintro e w1 ⟨rfl, rfl⟩)
    go_ret
    exact ⟨rfl, rfl⟩
  · have hbb := hb
    simp only [betw, Bool.and_eq_true, decide_eq_true_eq] at hbb
    obtain ⟨z1, z2⟩ := hbb
    have z0 : 0 < s.size := by omega
    have g0 := byteAt_get s 0 z0
    have HB := Lib.hid (hB _ hb)
    cases hl : letZ (byteAt s 0)
    · have hfin : nameB s = false := by simp [nameB, hl]
      have HL := Lib.hid (hL _ hl)
      rw [hfin]
      clear hfin hb hB hL hl
      rw [← g0] at HL
      clear g0
      go_enter Tryz.func65, Tryz.ntmps65
      go_wp2_with fail
      refine (HB.out _).mono ?_
      rintro e w1 ⟨rfl, rfl⟩
      go_wp2_with fail
      refine (HL.out _).mono ?_
      rintro e w1 ⟨rfl, rfl⟩
      go_wp2
      go_ret
      exact ⟨rfl, rfl⟩
    · have hfin : nameB s = (List.range s.size).all fun i => decide (i = 0) || nextZ (byteAt s i) := by simp [nameB, hl, hb]
      have HL := Lib.hid (hL _ hl)
      rw [hfin]
      clear hfin hb hB hL hl
      rw [← g0] at HL
      clear g0
      go_enter Tryz.func65, Tryz.ntmps65
      go_wp2_with fail
      refine (HB.out _).mono ?_
      rintro e w1 ⟨rfl, rfl⟩
      go_wp2_with fail
      refine (HL.out _).mono ?_
      rintro e w1 ⟨rfl, rfl⟩
      go_wp2
      go_loop [3] (fun i => ∃ k : Nat, 1 ≤ k ∧ k ≤ s.size ∧ i = .int .i64 k ∧ Hid (∀ i, i < k → i = 0 ∨ nextZ (byteAt s i) = true)) (fun i => s.size - (intOf i).toNat)
      case atStart => exact ⟨1, Nat.le_refl _, z0, rfl, fun i hi => .inl (by omega)⟩
      case round =>
        obtain ⟨k, hk1, hk, rfl, hprev⟩ := hrel
        by_cases hlt : k < s.size
        · have gk := byteAt_get s k hlt
          have hL := let_is (byteAt s k)
          have hD := dig_is (byteAt s k)
          have more : nextZ (byteAt s k) = true → Hid (∀ i, i < k + 1 → i = 0 ∨ nextZ (byteAt s i) = true) := fun h i hi => by
            rcases Nat.lt_or_ge i k with h1 | h1
            · exact hprev.out i h1
            · obtain rfl : i = k := by omega
              exact .inr h
          have More := Lib.hid more; clear more
          cases hl : letZ (byteAt s k)
          · have HLk := Lib.hid (hL _ hl)
            cases hd : digZ (byteAt s k)
            · have HDk := Lib.hid (hD _ hd)
              by_cases h45 : byteAt s k = 45
              · have hn : nextZ (byteAt s k) = true := by simp [nextZ, h45]
                have Hm := Lib.hid (More.out hn)
                clear hL hD hl hd hn More
                rw [← gk] at HLk HDk h45
                clear gk
                have h45' : (((s[k]'hlt).toNat : Int) != 45) = false := by rw [h45]; rfl
                clear h45
                go_wp2_with fail
                refine (HLk.out _).mono ?_
                rintro e w1 ⟨rfl, rfl⟩
                go_wp2_with fail
                refine (HDk.out _).mono ?_
                rintro e w1 ⟨rfl, rfl⟩
                go_wp2
                go_round
                case rel => exact ⟨k + 1, by omega, by omega, by go_num, Hm.out⟩
                case measure => simp [intOf]; omega
              · have hn : nextZ (byteAt s k) = false := by simp [nextZ, h45, hl, hd]
                have hfin : ((List.range s.size).all fun i => decide (i = 0) || nextZ (byteAt s i)) = false := by
                  rw [List.all_eq_false]
                  exact ⟨k, by simpa using hlt, by simp [hn]; omega⟩
                have Hf := Lib.hid hfin
                clear hL hD hl hd hn More hfin
                rw [← gk] at HLk HDk h45
                clear gk
                have h45' : (((s[k]'hlt).toNat : Int) != 45) = true := by rw [bne_iff_ne]; exact h45
                clear h45
                go_wp2_with fail
                refine (HLk.out _).mono ?_
                rintro e w1 ⟨rfl, rfl⟩
                go_wp2_with fail
                refine (HDk.out _).mono ?_
                rintro e w1 ⟨rfl, rfl⟩
                go_wp2
                go_ret
                exact ⟨by rw [Hf.out]; rfl, rfl⟩
            · have HDk := Lib.hid (hD _ hd)
              have hn : nextZ (byteAt s k) = true := by simp [nextZ, hd]
              have Hm := Lib.hid (More.out hn)
              clear hL hD hl hd hn More
              rw [← gk] at HLk HDk
              clear gk
              go_wp2_with fail
              refine (HLk.out _).mono ?_
              rintro e w1 ⟨rfl, rfl⟩
              go_wp2_with fail
              refine (HDk.out _).mono ?_
              rintro e w1 ⟨rfl, rfl⟩
              go_wp2
              go_round
              case rel => exact ⟨k + 1, by omega, by omega, by go_num, Hm.out⟩
              case measure => simp [intOf]; omega
          · have HLk := Lib.hid (hL _ hl)
            have hn : nextZ (byteAt s k) = true := by simp [nextZ, hl]
            have Hm := Lib.hid (More.out hn)
            clear hL hD hl hn More
            rw [← gk] at HLk
            clear gk
            go_wp2_with fail
            refine (HLk.out _).mono ?_
            rintro e w1 ⟨rfl, rfl⟩
            go_wp2
            go_round
            case rel => exact ⟨k + 1, by omega, by omega, by go_num, Hm.out⟩
            case measure => simp [intOf]; omega
        · obtain rfl : k = s.size := by omega
          have hfin : ((List.range s.size).all fun i => decide (i = 0) || nextZ (byteAt s i)) = true := by
            rw [List.all_eq_true]
            intro i hi
            rcases hprev.out i (by simpa using hi) with h | h
            · simp [h]
            · simp [h]
          have Hf := Lib.hid hfin; clear hfin
          go_wp2
          go_ret
          exact ⟨by rw [Hf.out]; rfl, rfl⟩
end Go.Proofs.YtmhfnnpbnocafaaGreat

namespace Go.Proofs.YtmhfnnpbnocafaaGreat
open Go.RowKit
set_option linter.unusedSimpArgs false
set_option linter.unusedVariables false

set_option maxHeartbeats 1000000 in
theorem gf1_any (g : Ga) (b : Nat) (w : World) (hg : g.Box w b) :
    Calls Tryz.prog 64 #[.pointer (some ⟨b, 0, none⟩)] w fun e w' => e = .returned ((need (nameB g.name) 6).in_ 1).v ∧ Below w.heap.size w w' := by
  obtain ⟨k0, k1, k2, k3, k4, k5, k6, k7, k8, k9, k10, k11, k12, k13, k14, k15, k16, k17, k18, k19, k20⟩ := hg.cells
  have hlt := hg.blk.lt
  have hnm := hg.at_.name
  clear hg
  go_enter Tryz.func64, Tryz.ntmps64
  go_wp2_with fail
  refine (Name_any g.name _ hnm).mono ?_
  rintro e w' ⟨rfl, rfl⟩
  go_wp2_with fail
  refine (need_any (nameB g.name) 6 _).mono ?_
  rintro e w1 ⟨rfl, hb1⟩
  obtain ⟨hc1, hf1⟩ := bcell hb1; have hz1 := hb1.size; (try simp at hz1)
  go_wp2_with fail
  refine (fault_in_any (need (nameB g.name) 6) 1 _).mono ?_
  rintro e w2 ⟨rfl, hb2⟩
  obtain ⟨hc2, hf2⟩ := bcell hb2; have hz2 := hb2.size; (try simp at hz2)
  have hl1 : w.heap.size < w1.heap.size := by omega
  go_wp2
  exact bodyPost_ret (v := ((need (nameB g.name) 6).in_ 1).v) (by simp [results, Tryz.results64, go_sem, hc1, hc2, hl1] <;> omega) rfl ⟨by rfl, (by repeat (first | exact Below.refl _ _ | assumption | (refine Below.setCell ?_ (by first | omega | (simp; done) | (simp; omega)) _) | (refine Below.alloc ?_ (by first | omega | (simp; done) | (simp; omega)) _) | refine Below.drew ?_ | (refine below_thru ?_ (by assumption) (by first | omega | (simp; done) | (simp; omega))) | refine below_drewN ?_ _))⟩

set_option maxHeartbeats 1000000 in
theorem gf2_any (g : Ga) (b : Nat) (w : World) (hg : g.Box w b) :
    Calls Tryz.prog 67 #[.pointer (some ⟨b, 0, none⟩)] w fun e w' => e = .returned ((need (betw g.kind 1 3) 2).in_ 1).v ∧ Below w.heap.size w w' := by
  obtain ⟨k0, k1, k2, k3, k4, k5, k6, k7, k8, k9, k10, k11, k12, k13, k14, k15, k16, k17, k18, k19, k20⟩ := hg.cells
  have hlt := hg.blk.lt
  clear hg
  go_enter Tryz.func67, Tryz.ntmps67
  go_wp2_with fail
  refine (between_any _ _ _ _).mono ?_
  rintro e w' ⟨rfl, rfl⟩
  go_wp2_with fail
  refine (need_any (betw g.kind 1 3) 2 _).mono ?_
  rintro e w1 ⟨rfl, hb1⟩
  obtain ⟨hc1, hf1⟩ := bcell hb1; have hz1 := hb1.size; (try simp at hz1)
  go_wp2_with fail
  refine (fault_in_any (need (betw g.kind 1 3) 2) 1 _).mono ?_
  rintro e w2 ⟨rfl, hb2⟩
  obtain ⟨hc2, hf2⟩ := bcell hb2; have hz2 := hb2.size; (try simp at hz2)
  have hl1 : w.heap.size < w1.heap.size := by omega
  go_wp2
  exact bodyPost_ret (v := ((need (betw g.kind 1 3) 2).in_ 1).v) (by simp [results, Tryz.results67, go_sem, hc1, hc2, hl1] <;> omega) rfl ⟨by rfl, (by repeat (first | exact Below.refl _ _ | assumption | (refine Below.setCell ?_ (by first | omega | (simp; done) | (simp; omega)) _) | (refine Below.alloc ?_ (by first | omega | (simp; done) | (simp; omega)) _) | refine Below.drew ?_ | (refine below_thru ?_ (by assumption) (by first | omega | (simp; done) | (simp; omega))) | refine below_drewN ?_ _))⟩

set_option maxHeartbeats 1000000 in
theorem gf3_any (g : Ga) (b : Nat) (w : World) (hg : g.Box w b) :
    Calls Tryz.prog 68 #[.pointer (some ⟨b, 0, none⟩)] w fun e w' => e = .returned ((need (betw g.travel 1 5000) 7).in_ 1).v ∧ Below w.heap.size w w' := by
  obtain ⟨k0, k1, k2, k3, k4, k5, k6, k7, k8, k9, k10, k11, k12, k13, k14, k15, k16, k17, k18, k19, k20⟩ := hg.cells
  have hlt := hg.blk.lt
  clear hg
  go_enter Tryz.func68, Tryz.ntmps68
  go_wp2_with fail
  refine (between_any _ _ _ _).mono ?_
  rintro e w' ⟨rfl, rfl⟩
  go_wp2_with fail
  refine (need_any (betw g.travel 1 5000) 7 _).mono ?_
  rintro e w1 ⟨rfl, hb1⟩
  obtain ⟨hc1, hf1⟩ := bcell hb1; have hz1 := hb1.size; (try simp at hz1)
  go_wp2_with fail
  refine (fault_in_any (need (betw g.travel 1 5000) 7) 1 _).mono ?_
  rintro e w2 ⟨rfl, hb2⟩
  obtain ⟨hc2, hf2⟩ := bcell hb2; have hz2 := hb2.size; (try simp at hz2)
  have hl1 : w.heap.size < w1.heap.size := by omega
  go_wp2
  exact bodyPost_ret (v := ((need (betw g.travel 1 5000) 7).in_ 1).v) (by simp [results, Tryz.results68, go_sem, hc1, hc2, hl1] <;> omega) rfl ⟨by rfl, (by repeat (first | exact Below.refl _ _ | assumption | (refine Below.setCell ?_ (by first | omega | (simp; done) | (simp; omega)) _) | (refine Below.alloc ?_ (by first | omega | (simp; done) | (simp; omega)) _) | refine Below.drew ?_ | (refine below_thru ?_ (by assumption) (by first | omega | (simp; done) | (simp; omega))) | refine below_drewN ?_ _))⟩

set_option maxHeartbeats 1000000 in
theorem gf4_any (g : Ga) (b : Nat) (w : World) (hg : g.Box w b) :
    Calls Tryz.prog 69 #[.pointer (some ⟨b, 0, none⟩)] w fun e w' => e = .returned ((need (betw g.on 2 16) 3).in_ 2).v ∧ Below w.heap.size w w' := by
  obtain ⟨k0, k1, k2, k3, k4, k5, k6, k7, k8, k9, k10, k11, k12, k13, k14, k15, k16, k17, k18, k19, k20⟩ := hg.cells
  have hlt := hg.blk.lt
  clear hg
  go_enter Tryz.func69, Tryz.ntmps69
  go_wp2_with fail
  refine (between_any _ _ _ _).mono ?_
  rintro e w' ⟨rfl, rfl⟩
  go_wp2_with fail
  refine (need_any (betw g.on 2 16) 3 _).mono ?_
  rintro e w1 ⟨rfl, hb1⟩
  obtain ⟨hc1, hf1⟩ := bcell hb1; have hz1 := hb1.size; (try simp at hz1)
  go_wp2_with fail
  refine (fault_in_any (need (betw g.on 2 16) 3) 2 _).mono ?_
  rintro e w2 ⟨rfl, hb2⟩
  obtain ⟨hc2, hf2⟩ := bcell hb2; have hz2 := hb2.size; (try simp at hz2)
  have hl1 : w.heap.size < w1.heap.size := by omega
  go_wp2
  exact bodyPost_ret (v := ((need (betw g.on 2 16) 3).in_ 2).v) (by simp [results, Tryz.results69, go_sem, hc1, hc2, hl1] <;> omega) rfl ⟨by rfl, (by repeat (first | exact Below.refl _ _ | assumption | (refine Below.setCell ?_ (by first | omega | (simp; done) | (simp; omega)) _) | (refine Below.alloc ?_ (by first | omega | (simp; done) | (simp; omega)) _) | refine Below.drew ?_ | (refine below_thru ?_ (by assumption) (by first | omega | (simp; done) | (simp; omega))) | refine below_drewN ?_ _))⟩

set_option maxHeartbeats 1000000 in
theorem gf7_any (g : Ga) (b : Nat) (w : World) (hg : g.Box w b) :
    Calls Tryz.prog 75 #[.pointer (some ⟨b, 0, none⟩)] w fun e w' => e = .returned ((need (decide ((g.sn : Int) ≤ 6)) 3).in_ 4).v ∧ Below w.heap.size w w' := by
  obtain ⟨k0, k1, k2, k3, k4, k5, k6, k7, k8, k9, k10, k11, k12, k13, k14, k15, k16, k17, k18, k19, k20⟩ := hg.cells
  have hlt := hg.blk.lt
  have hsn := hg.at_.sn
  unfold maxLen at hsn
  clear hg
  go_enter Tryz.func75, Tryz.ntmps75
  go_wp2_with fail
  refine (need_any (decide ((g.sn : Int) ≤ 6)) 3 _).mono ?_
  rintro e w1 ⟨rfl, hb1⟩
  obtain ⟨hc1, hf1⟩ := bcell hb1; have hz1 := hb1.size; (try simp at hz1)
  go_wp2_with fail
  refine (fault_in_any (need (decide ((g.sn : Int) ≤ 6)) 3) 4 _).mono ?_
  rintro e w2 ⟨rfl, hb2⟩
  obtain ⟨hc2, hf2⟩ := bcell hb2; have hz2 := hb2.size; (try simp at hz2)
  have hl1 : w.heap.size < w1.heap.size := by omega
  go_wp2
  exact bodyPost_ret (v := ((need (decide ((g.sn : Int) ≤ 6)) 3).in_ 4).v) (by simp [results, Tryz.results75, go_sem, hc1, hc2, hl1] <;> omega) rfl ⟨by rfl, (by repeat (first | exact Below.refl _ _ | assumption | (refine Below.setCell ?_ (by first | omega | (simp; done) | (simp; omega)) _) | (refine Below.alloc ?_ (by first | omega | (simp; done) | (simp; omega)) _) | refine Below.drew ?_ | (refine below_thru ?_ (by assumption) (by first | omega | (simp; done) | (simp; omega))) | refine below_drewN ?_ _))⟩

set_option maxHeartbeats 1000000 in
theorem gf9_any (g : Ga) (b : Nat) (w : World) (hg : g.Box w b) :
    Calls Tryz.prog 79 #[.pointer (some ⟨b, 0, none⟩)] w fun e w' => e = .returned ((need (betw g.wrong 0 g.sn) 7).in_ 4).v ∧ Below w.heap.size w w' := by
  obtain ⟨k0, k1, k2, k3, k4, k5, k6, k7, k8, k9, k10, k11, k12, k13, k14, k15, k16, k17, k18, k19, k20⟩ := hg.cells
  have hlt := hg.blk.lt
  clear hg
  go_enter Tryz.func79, Tryz.ntmps79
  go_wp2_with fail
  refine (between_any _ _ _ _).mono ?_
  rintro e w' ⟨rfl, rfl⟩
  go_wp2_with fail
  refine (need_any (betw g.wrong 0 g.sn) 7 _).mono ?_
  rintro e w1 ⟨rfl, hb1⟩
  obtain ⟨hc1, hf1⟩ := bcell hb1; have hz1 := hb1.size; (try simp at hz1)
  go_wp2_with fail
  refine (fault_in_any (need (betw g.wrong 0 g.sn) 7) 4 _).mono ?_
  rintro e w2 ⟨rfl, hb2⟩
  obtain ⟨hc2, hf2⟩ := bcell hb2; have hz2 := hb2.size; (try simp at hz2)
  have hl1 : w.heap.size < w1.heap.size := by omega
  go_wp2
  exact bodyPost_ret (v := ((need (betw g.wrong 0 g.sn) 7).in_ 4).v) (by simp [results, Tryz.results79, go_sem, hc1, hc2, hl1] <;> omega) rfl ⟨by rfl, (by repeat (first | exact Below.refl _ _ | assumption | (refine Below.setCell ?_ (by first | omega | (simp; done) | (simp; omega)) _) | (refine Below.alloc ?_ (by first | omega | (simp; done) | (simp; omega)) _) | refine Below.drew ?_ | (refine below_thru ?_ (by assumption) (by first | omega | (simp; done) | (simp; omega))) | refine below_drewN ?_ _))⟩

/-- What is wrong with one of the own forces, with a sensor. -/
def ownFt (g : Ga) (i : Nat) : Ft := firstF [need (betw (g.os.getD i 0) (-200000) 200000) 7, need (suitsB (g.os.getD i 0) g.kind) 2]
def sensFt (s : Sn) : Ft := firstF [need ((decide (s.kind = 1) && decide (s.at_ = 0)) || decide (s.kind = 2)) 2, need (betw s.at_ 0 5000 && betw s.tol 0 5000) 7]
def sensAt (g : Ga) (i : Nat) : Ft := sensFt (g.ss.getD i ⟨0, 0, 0⟩)

set_option maxHeartbeats 1000000 in
theorem own1_any (g : Ga) (b c i : Nat) (w : World) (hg : g.Box w b) (hi : i < g.on) (hc : Blk w c 3 #[.int .i64 (i : Int)]) :
    Calls Tryz.prog 122 #[.pointer (some ⟨b, 0, none⟩), .pointer (some ⟨c, 0, none⟩)] w fun e w' => e = .returned (need (betw (g.os.getD i 0) (-200000) 200000) 7).v ∧ Below w.heap.size w w' := by
  obtain ⟨bo, off, hA, hb, c0⟩ := own_cell hg.at_ hi
  have hon := hg.at_.on
  unfold maxLen at hon
  obtain ⟨k0, k1, k2, k3, k4, k5, k6, k7, k8, k9, k10, k11, k12, k13, k14, k15, k16, k17, k18, k19, k20⟩ := hg.cells
  rw [hA] at k3
  have i0 := hc.cell 0
  simp only [List.getElem?_toArray, List.getElem?_cons_zero] at i0
  have hlt := hg.blk.lt
  have hlc := hc.lt
  have j0 : (0 : Int) ≤ (i : Int) := Int.natCast_nonneg _
  have j1 : (i : Int) < (g.on : Int) := by omega
  clear hg hA hc
  generalize g.os.getD i 0 = f at *
  go_enter Tryz.func122, Tryz.ntmps122
  go_wp2_with fail
  refine (between_any _ _ _ _).mono ?_
  rintro e w' ⟨rfl, rfl⟩
  go_wp2_with fail
  refine (need_any _ 7 _).mono ?_
  rintro e w1 ⟨rfl, hb1⟩
  obtain ⟨hc1, hf1⟩ := bcell hb1; have hz1 := hb1.size; (try simp at hz1)
  go_wp2
  exact bodyPost_ret (v := (need (betw f (-200000) 200000) 7).v) (by simp [results, Tryz.results122, go_sem, hc1] <;> omega) rfl ⟨by rfl, (by repeat (first | exact Below.refl _ _ | assumption | (refine Below.setCell ?_ (by first | omega | (simp; done) | (simp; omega)) _) | (refine Below.alloc ?_ (by first | omega | (simp; done) | (simp; omega)) _) | refine Below.drew ?_ | (refine below_thru ?_ (by assumption) (by first | omega | (simp; done) | (simp; omega))) | refine below_drewN ?_ _))⟩

set_option maxHeartbeats 1000000 in
theorem own2_any (g : Ga) (b c i : Nat) (w : World) (hg : g.Box w b) (hi : i < g.on) (hc : Blk w c 3 #[.int .i64 (i : Int)]) :
    Calls Tryz.prog 123 #[.pointer (some ⟨b, 0, none⟩), .pointer (some ⟨c, 0, none⟩)] w fun e w' => e = .returned (need (suitsB (g.os.getD i 0) g.kind) 2).v ∧ Below w.heap.size w w' := by
  obtain ⟨bo, off, hA, hb, c0⟩ := own_cell hg.at_ hi
  have hon := hg.at_.on
  unfold maxLen at hon
  obtain ⟨k0, k1, k2, k3, k4, k5, k6, k7, k8, k9, k10, k11, k12, k13, k14, k15, k16, k17, k18, k19, k20⟩ := hg.cells
  rw [hA] at k3
  have i0 := hc.cell 0
  simp only [List.getElem?_toArray, List.getElem?_cons_zero] at i0
  have hlt := hg.blk.lt
  have hlc := hc.lt
  have j0 : (0 : Int) ≤ (i : Int) := Int.natCast_nonneg _
  have j1 : (i : Int) < (g.on : Int) := by omega
  have hg' := Lib.hid hg.blk
  clear hg hA hc
  generalize g.os.getD i 0 = f at *
  go_enter Tryz.func123, Tryz.ntmps123
  go_wp2_with fail
  refine wp_region_split (S := fun w' => w'.cell? ⟨b, 3, none⟩ = some (.slice (some ⟨bo, off, none⟩) g.on g.oc) ∧ w'.cell? ⟨b, 1, none⟩ = some (.int .i64 g.kind) ∧ w'.cell? ⟨c, 0, none⟩ = some (.int .i64 (i : Int)) ∧ w'.cell? ⟨bo, off + i, none⟩ = some (.int .i64 f)) 9 (by kernel_rfl) (by kernel_rfl) (by exact ⟨keep_drew (keep_new k3 _), keep_drew (keep_new k1 _), keep_drew (keep_new i0 _), keep_drew (keep_new c0 _)⟩) (fun hHeld => ?_)
  refine wpAnyH_take (i := 0) (v := ?_) rfl (by kernel_rfl) (by kernel_rfl) (by kernel_rfl) (fun _ _ _ h => h) (Or.inl ⟨by kernel_rfl, ?_⟩) hHeld ?_
  rotate_left
  · intro w hSw; (try dsimp only at hSw); obtain ⟨y0, y1, y2, y3⟩ := hSw; go_simp; (try with_reducible rfl)
  (try simp only [Act.put, List.setIfInBounds_toArray, List.set_cons_zero, List.set_cons_succ])
  refine wpAnyH_take (i := 1) (v := ?_) rfl (by kernel_rfl) (by kernel_rfl) (by kernel_rfl) (fun _ _ _ h => h) (Or.inl ⟨by kernel_rfl, ?_⟩) hHeld ?_
  rotate_left
  · intro w hSw; (try dsimp only at hSw); obtain ⟨y0, y1, y2, y3⟩ := hSw; go_simp; (try with_reducible rfl)
  (try simp only [Act.put, List.setIfInBounds_toArray, List.set_cons_zero, List.set_cons_succ])
  refine wpAnyH_take (i := 2) (v := ?_) rfl (by kernel_rfl) (by kernel_rfl) (by kernel_rfl) (fun _ _ _ h => h) (Or.inl ⟨by kernel_rfl, ?_⟩) hHeld ?_
  rotate_left
  · intro w hSw; (try dsimp only at hSw); obtain ⟨y0, y1, y2, y3⟩ := hSw; go_simp; (try with_reducible rfl)
  (try simp only [Act.put, List.setIfInBounds_toArray, List.set_cons_zero, List.set_cons_succ])
  refine wpAnyH_take (i := 3) (v := ?_) rfl (by kernel_rfl) (by kernel_rfl) (by kernel_rfl) (fun _ _ _ h => h) (Or.inl ⟨by kernel_rfl, ?_⟩) hHeld ?_
  rotate_left
  · intro w hSw; (try dsimp only at hSw); obtain ⟨y0, y1, y2, y3⟩ := hSw; go_simp; (try with_reducible rfl)
  (try simp only [Act.put, List.setIfInBounds_toArray, List.set_cons_zero, List.set_cons_succ])
  refine wpAnyH_take (i := 4) (v := ?_) rfl (by kernel_rfl) (by kernel_rfl) (by kernel_rfl) (fun _ _ _ h => h) (Or.inl ⟨by kernel_rfl, ?_⟩) hHeld ?_
  rotate_left
  · intro w hSw; (try dsimp only at hSw); obtain ⟨y0, y1, y2, y3⟩ := hSw; go_simp; (try with_reducible rfl)
  (try simp only [Act.put, List.setIfInBounds_toArray, List.set_cons_zero, List.set_cons_succ])
  refine wpAnyH_take (i := 5) (v := ?_) rfl (by kernel_rfl) (by kernel_rfl) (by kernel_rfl) (fun _ _ _ h => h) (Or.inl ⟨by kernel_rfl, ?_⟩) hHeld ?_
  rotate_left
  · intro w hSw; (try dsimp only at hSw); obtain ⟨y0, y1, y2, y3⟩ := hSw; go_simp; (try with_reducible rfl)
  (try simp only [Act.put, List.setIfInBounds_toArray, List.set_cons_zero, List.set_cons_succ])
  refine wpAnyH_take (i := 6) (v := ?_) rfl (by kernel_rfl) (by kernel_rfl) (by kernel_rfl) (fun _ _ _ h => h) (Or.inl ⟨by kernel_rfl, ?_⟩) hHeld ?_
  rotate_left
  · intro w hSw; (try dsimp only at hSw); obtain ⟨y0, y1, y2, y3⟩ := hSw; go_simp; (try with_reducible rfl)
  (try simp only [Act.put, List.setIfInBounds_toArray, List.set_cons_zero, List.set_cons_succ])
  refine wpAnyH_ready (rs := [7]) (by kernel_rfl) (by simp) ?_
  refine AllReadyH.cons rfl (fun K hK => ?_) AllReadyH.nil
  go_simp
  refine (suits_any _ _ _).mono ?_
  rintro e w' ⟨rfl, rfl⟩
  (try dsimp only)
  refine hK.out _ _ (by exact hHeld) (fun hHeld => ?_)
  clear hK K
  (try simp only [Act.put, List.setIfInBounds_toArray, List.set_cons_zero, List.set_cons_succ])
  refine wpAnyH_ready (rs := [8]) (by kernel_rfl) (by simp) ?_
  refine AllReadyH.cons rfl (fun K hK => ?_) AllReadyH.nil
  go_simp
  refine (need_any _ 2 _).mono ?_
  rintro e w1 ⟨rfl, hb1⟩; obtain ⟨hc1, hf1⟩ := bcell hb1; have hz1 := hb1.size; (try simp at hz1)
  (try dsimp only)
  refine hK.out _ _ (by exact ⟨(hc1 _ _ (by simp; omega)).trans hHeld.1, (hc1 _ _ (by simp; omega)).trans hHeld.2.1, (hc1 _ _ (by simp; omega)).trans hHeld.2.2.1, (hc1 _ _ (by simp; omega)).trans hHeld.2.2.2⟩) (fun hHeld => ?_)
  clear hK K
  (try simp only [Act.put, List.setIfInBounds_toArray, List.set_cons_zero, List.set_cons_succ])
  refine wpAnyH_done (by kernel_rfl) ?_ _
  simp only [tailPost, List.drop_succ_cons, List.drop_zero]
  go_wp2
  exact bodyPost_ret (v := (need (suitsB f g.kind) 2).v) (by simp [results, Tryz.results123, go_sem, hc1] <;> omega) rfl ⟨by rfl, (by repeat (first | exact Below.refl _ _ | assumption | (refine Below.setCell ?_ (by first | omega | (simp; done) | (simp; omega)) _) | (refine Below.alloc ?_ (by first | omega | (simp; done) | (simp; omega)) _) | refine Below.drew ?_ | (refine below_thru ?_ (by assumption) (by first | omega | (simp; done) | (simp; omega))) | refine below_drewN ?_ _))⟩
end Go.Proofs.YtmhfnnpbnocafaaGreat

namespace Go.Proofs.YtmhfnnpbnocafaaGreat
open Go.RowKit
set_option linter.unusedSimpArgs false
set_option linter.unusedVariables false

set_option maxRecDepth 100000 in
set_option maxHeartbeats 1000000 in
theorem ownFault_any (g : Ga) (i : Nat) (w : World) (hg : g.At w w.heap.size) (hi : i < g.on) :
    Calls Tryz.prog 72 #[g.v, .int .i64 (i : Int)] w fun e w' => e = .returned (ownFt g i).v ∧ Below w.heap.size w w' := by
  have Hg := Lib.hid hg; clear hg
  have hGood : ∀ (W : World) (b c : Nat), g.Box W b → Blk W c 3 #[.int .i64 (i : Int)] → Good W [⟨122, #[.pointer (some ⟨b, 0, none⟩), .pointer (some ⟨c, 0, none⟩)], need (betw (g.os.getD i 0) (-200000) 200000) 7⟩, ⟨123, #[.pointer (some ⟨b, 0, none⟩), .pointer (some ⟨c, 0, none⟩)], need (suitsB (g.os.getD i 0) g.kind) 2⟩] := by
    intro W b c hb hc k x hk _ W' hW
    match k, hk with
    | 0, hk => cases hk; exact own1_any g b c i W' (hb.grow hW) hi (hc.thru hW hc.lt)
    | 1, hk => cases hk; exact own2_any g b c i W' (hb.grow hW) hi (hc.thru hW hc.lt)
    | k + 2, hk => simp at hk
  have HGood := Lib.hid hGood; clear hGood
  go_enter Tryz.func72, Tryz.ntmps72
  go_wp2_with fail
  refine (first_any _ (w.heap.size + 1 + 1 + 1) 0 2 [⟨122, #[.pointer (some ⟨w.heap.size, 0, none⟩), .pointer (some ⟨w.heap.size + 1, 0, none⟩)], need (betw (g.os.getD i 0) (-200000) 200000) 7⟩, ⟨123, #[.pointer (some ⟨w.heap.size, 0, none⟩), .pointer (some ⟨w.heap.size + 1, 0, none⟩)], need (suitsB (g.os.getD i 0) g.kind) 2⟩] rfl (by omega) (by simp) ?_ (HGood.out _ _ _ ⟨?_, ?_⟩ ?_) ?_).mono ?_
  · intro k c hk
    match k, hk with
    | 0, hk => cases hk; exact (Blk.new' _ _ _ (by simp)).cell 0
    | 1, hk => cases hk; exact (Blk.new' _ _ _ (by simp)).cell 1
    | k + 2, hk => simp at hk
  · exact (((Blk.new w _ _).alloc _).alloc _).alloc _
  · exact Hg.out.grow (by repeat (first | exact Below.refl _ _ | assumption | (refine Below.setCell ?_ (by first | omega | (simp; done) | (simp; omega)) _) | (refine Below.alloc ?_ (by first | omega | (simp; done) | (simp; omega)) _) | refine Below.drew ?_ | (refine below_thru ?_ (by assumption) (by first | omega | (simp; done) | (simp; omega))) | refine below_drewN ?_ _))
  · exact ((Blk.new' (w.alloc _) _ _ (by simp)).alloc _).alloc _
  · intro k c hk W
    match k, hk with
    | 0, hk => cases hk; show Sem.run Tryz.prog (callFunc _ _) W = _; kernel_rfl
    | 1, hk => cases hk; show Sem.run Tryz.prog (callFunc _ _) W = _; kernel_rfl
    | k + 2, hk => simp at hk
  · rintro e w1 ⟨he, hb1⟩
    replace he : e = .returned (ownFt g i).v := he
    subst he
    obtain ⟨hc1, hf1⟩ := bcell hb1; have hz1 := hb1.size; (try simp at hz1)
    go_wp2
    exact bodyPost_ret (v := (ownFt g i).v) (by simp [results, Tryz.results72, go_sem, hc1] <;> omega) rfl ⟨by rfl, (by repeat (first | exact Below.refl _ _ | assumption | (refine Below.setCell ?_ (by first | omega | (simp; done) | (simp; omega)) _) | (refine Below.alloc ?_ (by first | omega | (simp; done) | (simp; omega)) _) | refine Below.drew ?_ | (refine below_thru ?_ (by assumption) (by first | omega | (simp; done) | (simp; omega))) | refine below_drewN ?_ _))⟩

abbrev snv (s : Sn) : Value := .agg #[.int .i64 s.kind, .int .i64 s.at_, .int .i64 s.tol]
set_option maxHeartbeats 1000000 in
theorem sens1_any (s : Sn) (b : Nat) (w : World) (hb : Blk w b 92 #[.int .i64 s.kind, .int .i64 s.at_, .int .i64 s.tol]) :
    Calls Tryz.prog 125 #[.pointer (some ⟨b, 0, none⟩)] w fun e w' => e = .returned (need ((decide (s.kind = 1) && decide (s.at_ = 0)) || decide (s.kind = 2)) 2).v ∧ Below w.heap.size w w' := by
  obtain ⟨c0, c1, c2, _⟩ := hb.three
  have hlt := hb.lt
  clear hb
  obtain ⟨k, a, t⟩ := s
  simp only at c0 c1 c2
  rcases (show (k = 1 ∧ a = 0) ∨ (k = 1 ∧ a ≠ 0) ∨ k = 2 ∨ (k ≠ 1 ∧ k ≠ 2) by omega) with ⟨rfl, rfl⟩ | ⟨rfl, h⟩ | rfl | ⟨h, h'⟩
  · go_enter Tryz.func125, Tryz.ntmps125
    go_wp2_with fail
    refine (need_any true 2 _).mono ?_
    rintro e w1 ⟨rfl, hb1⟩
    obtain ⟨hc1, hf1⟩ := bcell hb1; have hz1 := hb1.size; (try simp at hz1)
    go_wp2
    exact bodyPost_ret (v := (need true 2).v) (by simp [results, Tryz.results125, go_sem, hc1] <;> omega) rfl ⟨by simp, (by repeat (first | exact Below.refl _ _ | assumption | (refine Below.setCell ?_ (by first | omega | (simp; done) | (simp; omega)) _) | (refine Below.alloc ?_ (by first | omega | (simp; done) | (simp; omega)) _) | refine Below.drew ?_ | (refine below_thru ?_ (by assumption) (by first | omega | (simp; done) | (simp; omega))) | refine below_drewN ?_ _))⟩
  · have h1 : (a == 0) = false := by rw [beq_eq_false_iff_ne]; exact h
    have hf : decide (a = 0) = false := by simpa using h
    have Hf := Lib.hid hf
    clear hf h
    go_enter Tryz.func125, Tryz.ntmps125
    go_wp2_with fail
    refine (need_any false 2 _).mono ?_
    rintro e w1 ⟨rfl, hb1⟩
    obtain ⟨hc1, hf1⟩ := bcell hb1; have hz1 := hb1.size; (try simp at hz1)
    go_wp2
    exact bodyPost_ret (v := (need false 2).v) (by simp [results, Tryz.results125, go_sem, hc1] <;> omega) rfl ⟨by rw [Hf.out]; simp, (by repeat (first | exact Below.refl _ _ | assumption | (refine Below.setCell ?_ (by first | omega | (simp; done) | (simp; omega)) _) | (refine Below.alloc ?_ (by first | omega | (simp; done) | (simp; omega)) _) | refine Below.drew ?_ | (refine below_thru ?_ (by assumption) (by first | omega | (simp; done) | (simp; omega))) | refine below_drewN ?_ _))⟩
  · go_enter Tryz.func125, Tryz.ntmps125
    go_wp2_with fail
    refine (need_any true 2 _).mono ?_
    rintro e w1 ⟨rfl, hb1⟩
    obtain ⟨hc1, hf1⟩ := bcell hb1; have hz1 := hb1.size; (try simp at hz1)
    go_wp2
    exact bodyPost_ret (v := (need true 2).v) (by simp [results, Tryz.results125, go_sem, hc1] <;> omega) rfl ⟨by simp, (by repeat (first | exact Below.refl _ _ | assumption | (refine Below.setCell ?_ (by first | omega | (simp; done) | (simp; omega)) _) | (refine Below.alloc ?_ (by first | omega | (simp; done) | (simp; omega)) _) | refine Below.drew ?_ | (refine below_thru ?_ (by assumption) (by first | omega | (simp; done) | (simp; omega))) | refine below_drewN ?_ _))⟩
  · have h1 : (k == 1) = false := by rw [beq_eq_false_iff_ne]; exact h
    have h2 : (k == 2) = false := by rw [beq_eq_false_iff_ne]; exact h'
    have hf : ((decide (k = 1) && decide (a = 0)) || decide (k = 2)) = false := by simp [h, h']
    have Hf := Lib.hid hf
    clear hf h h'
    go_enter Tryz.func125, Tryz.ntmps125
    go_wp2_with fail
    refine (need_any false 2 _).mono ?_
    rintro e w1 ⟨rfl, hb1⟩
    obtain ⟨hc1, hf1⟩ := bcell hb1; have hz1 := hb1.size; (try simp at hz1)
    go_wp2
    exact bodyPost_ret (v := (need false 2).v) (by simp [results, Tryz.results125, go_sem, hc1] <;> omega) rfl ⟨by rw [Hf.out], (by repeat (first | exact Below.refl _ _ | assumption | (refine Below.setCell ?_ (by first | omega | (simp; done) | (simp; omega)) _) | (refine Below.alloc ?_ (by first | omega | (simp; done) | (simp; omega)) _) | refine Below.drew ?_ | (refine below_thru ?_ (by assumption) (by first | omega | (simp; done) | (simp; omega))) | refine below_drewN ?_ _))⟩

set_option maxHeartbeats 1000000 in
theorem sens2_any (s : Sn) (b : Nat) (w : World) (hb : Blk w b 92 #[.int .i64 s.kind, .int .i64 s.at_, .int .i64 s.tol]) :
    Calls Tryz.prog 126 #[.pointer (some ⟨b, 0, none⟩)] w fun e w' => e = .returned (need (betw s.at_ 0 5000 && betw s.tol 0 5000) 7).v ∧ Below w.heap.size w w' := by
  obtain ⟨c0, c1, c2, _⟩ := hb.three
  have hlt := hb.lt
  clear hb
  have h1 := bet_is s.at_ 0 5000
  have h2 := bet_is s.tol 0 5000
  cases e1 : betw s.at_ 0 5000
  · have H1 := Lib.hid (h1 _ e1)
    clear h1 h2 e1
    go_enter Tryz.func126, Tryz.ntmps126
    go_wp2_with fail
    refine (H1.out _).mono ?_
    rintro e w' ⟨rfl, rfl⟩
    go_wp2_with fail
    refine (need_any false 7 _).mono ?_
    rintro e w1 ⟨rfl, hb1⟩
    obtain ⟨hc1, hf1⟩ := bcell hb1; have hz1 := hb1.size; (try simp at hz1)
    go_wp2
    exact bodyPost_ret (v := (need false 7).v) (by simp [results, Tryz.results126, go_sem, hc1] <;> omega) rfl ⟨by simp, (by repeat (first | exact Below.refl _ _ | assumption | (refine Below.setCell ?_ (by first | omega | (simp; done) | (simp; omega)) _) | (refine Below.alloc ?_ (by first | omega | (simp; done) | (simp; omega)) _) | refine Below.drew ?_ | (refine below_thru ?_ (by assumption) (by first | omega | (simp; done) | (simp; omega))) | refine below_drewN ?_ _))⟩
  · have H1 := Lib.hid (h1 _ e1)
    have H2 := Lib.hid (h2 _ rfl)
    clear h1 h2 e1
    go_enter Tryz.func126, Tryz.ntmps126
    go_wp2_with fail
    refine (H1.out _).mono ?_
    rintro e w' ⟨rfl, rfl⟩
    go_wp2_with fail
    refine (H2.out _).mono ?_
    rintro e w' ⟨rfl, rfl⟩
    go_wp2_with fail
    refine (need_any _ 7 _).mono ?_
    rintro e w1 ⟨rfl, hb1⟩
    obtain ⟨hc1, hf1⟩ := bcell hb1; have hz1 := hb1.size; (try simp at hz1)
    go_wp2
    exact bodyPost_ret (v := (need (betw s.tol 0 5000) 7).v) (by simp [results, Tryz.results126, go_sem, hc1] <;> omega) rfl ⟨by simp, (by repeat (first | exact Below.refl _ _ | assumption | (refine Below.setCell ?_ (by first | omega | (simp; done) | (simp; omega)) _) | (refine Below.alloc ?_ (by first | omega | (simp; done) | (simp; omega)) _) | refine Below.drew ?_ | (refine below_thru ?_ (by assumption) (by first | omega | (simp; done) | (simp; omega))) | refine below_drewN ?_ _))⟩

set_option maxRecDepth 100000 in
set_option maxHeartbeats 1000000 in
theorem sensorFault_any (s : Sn) (w : World) :
    Calls Tryz.prog 78 #[snv s] w fun e w' => e = .returned (sensFt s).v ∧ Below w.heap.size w w' := by
  have hGood : ∀ (W : World) (b : Nat), Blk W b 92 #[.int .i64 s.kind, .int .i64 s.at_, .int .i64 s.tol] → Good W [⟨125, #[.pointer (some ⟨b, 0, none⟩)], need ((decide (s.kind = 1) && decide (s.at_ = 0)) || decide (s.kind = 2)) 2⟩, ⟨126, #[.pointer (some ⟨b, 0, none⟩)], need (betw s.at_ 0 5000 && betw s.tol 0 5000) 7⟩] := by
    intro W b hb k x hk _ W' hW
    match k, hk with
    | 0, hk => cases hk; exact sens1_any s b W' (hb.thru hW hb.lt)
    | 1, hk => cases hk; exact sens2_any s b W' (hb.thru hW hb.lt)
    | k + 2, hk => simp at hk
  have HGood := Lib.hid hGood; clear hGood
  go_enter Tryz.func78, Tryz.ntmps78
  go_wp2_with fail
  refine (first_any _ (w.heap.size + 1 + 1) 0 2 [⟨125, #[.pointer (some ⟨w.heap.size, 0, none⟩)], need ((decide (s.kind = 1) && decide (s.at_ = 0)) || decide (s.kind = 2)) 2⟩, ⟨126, #[.pointer (some ⟨w.heap.size, 0, none⟩)], need (betw s.at_ 0 5000 && betw s.tol 0 5000) 7⟩] rfl (by omega) (by simp) ?_ (HGood.out _ _ ?_) ?_).mono ?_
  · intro k c hk
    match k, hk with
    | 0, hk => cases hk; exact (Blk.new' _ _ _ (by simp)).cell 0
    | 1, hk => cases hk; exact (Blk.new' _ _ _ (by simp)).cell 1
    | k + 2, hk => simp at hk
  · exact ((Blk.new w _ _).alloc _).alloc _
  · intro k c hk W
    match k, hk with
    | 0, hk => cases hk; show Sem.run Tryz.prog (callFunc _ _) W = _; kernel_rfl
    | 1, hk => cases hk; show Sem.run Tryz.prog (callFunc _ _) W = _; kernel_rfl
    | k + 2, hk => simp at hk
  · rintro e w1 ⟨he, hb1⟩
    replace he : e = .returned (sensFt s).v := he
    subst he
    obtain ⟨hc1, hf1⟩ := bcell hb1; have hz1 := hb1.size; (try simp at hz1)
    go_wp2
    exact bodyPost_ret (v := (sensFt s).v) (by simp [results, Tryz.results78, go_sem, hc1] <;> omega) rfl ⟨by rfl, (by repeat (first | exact Below.refl _ _ | assumption | (refine Below.setCell ?_ (by first | omega | (simp; done) | (simp; omega)) _) | (refine Below.alloc ?_ (by first | omega | (simp; done) | (simp; omega)) _) | refine Below.drew ?_ | (refine below_thru ?_ (by assumption) (by first | omega | (simp; done) | (simp; omega))) | refine below_drewN ?_ _))⟩

theorem isStruct {o : Option TypeDesc} (h : (o.map fun d => match d with | .struct _ => true | _ => false) = some true) : ∃ fs, o = some (.struct fs) := by
  cases o with
  | none => cases h
  | some d => cases d <;> simp_all
theorem uGate : ∃ fs, Tryz.prog.underlying 25 = some (.struct fs) := isStruct (by kernel_rfl)
theorem iGate : (Tryz.prog.info? 25).map (·.size) = some 21 := by kernel_rfl
abbrev grow (g : Ga) : Array Value := #[.string g.name, .int .i64 g.kind, .int .i64 g.travel, .slice g.oA g.on g.oc, .int .i64 g.opn, .int .i64 g.shut, .int .i64 g.height, .int .i64 g.float, .int .i64 g.push, .int .i64 g.slide, .int .i64 g.sealN, .int .i64 g.drive, .int .i64 g.brake, .int .i64 g.speed, .int .i64 g.gravity, .int .i64 g.use, .int .i64 g.pump, .int .i64 g.capacity, .int .i64 g.slack, .slice g.sA g.sn g.sc, .int .i64 g.wrong]
/-- A gate is loaded whole. -/
theorem wpl_g {ops : Array Oper} {rest : List Oper} {o : Oper} {a : Act} {w : World} {Q : Exit → Act → World → Prop} {x : Operand} {b : Nat} {t : TypeId} {g : Ga} (h : Blk w b t (grow g)) (hgd : o.guard = none) (ho : o.op = .load 25 x) (hx : a.eval x = .pointer (some ⟨b, 0, none⟩))
    (hk : wpList Tryz.prog ops Q rest (a.put o.dst g.v) w) : wpList Tryz.prog ops Q (o :: rest) a w := by
  obtain ⟨fs, hu⟩ := uGate
  exact wpList_load_row hgd _ x ho b hx t (grow g) (0, 0) (.struct fs) h hu rfl iGate hk

set_option maxHeartbeats 1000000 in
theorem gf51_any (g : Ga) (b i : Nat) (w : World) (hg : g.Box w b) (hi : i < g.on) :
    Calls Tryz.prog 71 #[.int .i64 (i : Int), .pointer (some ⟨b, 0, none⟩)] w fun e w' => e = .returned (ownFt g i).v ∧ Below w.heap.size w w' := by
  have hB := Lib.hid hg.blk
  have HA := Lib.hid hg.at_
  have hlt := hg.blk.lt
  clear hg
  go_enter Tryz.func71, Tryz.ntmps71
  go_wp2_with (with_reducible refine wpl_g (hB.out.alloc _) rfl rfl rfl ?_)
  refine (ownFault_any g i _ (HA.out.grow (by repeat (first | exact Below.refl _ _ | assumption | (refine Below.setCell ?_ (by first | omega | (simp; done) | (simp; omega)) _) | (refine Below.alloc ?_ (by first | omega | (simp; done) | (simp; omega)) _) | refine Below.drew ?_ | (refine below_thru ?_ (by assumption) (by first | omega | (simp; done) | (simp; omega))) | refine below_drewN ?_ _))) hi).mono ?_
  rintro e w1 ⟨rfl, hb1⟩
  obtain ⟨hc1, hf1⟩ := bcell hb1; have hz1 := hb1.size; (try simp at hz1)
  go_wp2
  exact bodyPost_ret (v := (ownFt g i).v) (by simp [results, Tryz.results71, go_sem, hc1] <;> omega) rfl ⟨by rfl, (by repeat (first | exact Below.refl _ _ | assumption | (refine Below.setCell ?_ (by first | omega | (simp; done) | (simp; omega)) _) | (refine Below.alloc ?_ (by first | omega | (simp; done) | (simp; omega)) _) | refine Below.drew ?_ | (refine below_thru ?_ (by assumption) (by first | omega | (simp; done) | (simp; omega))) | refine below_drewN ?_ _))⟩

set_option maxHeartbeats 1000000 in
theorem gf81_any (g : Ga) (b i : Nat) (w : World) (hg : g.Box w b) (hi : i < g.sn) :
    Calls Tryz.prog 77 #[.int .i64 (i : Int), .pointer (some ⟨b, 0, none⟩)] w fun e w' => e = .returned (sensAt g i).v ∧ Below w.heap.size w w' := by
  have hsl := hg.at_.sl
  have hsn := hg.at_.sn
  unfold maxLen at hsn
  obtain ⟨s, hs⟩ := get_lt hsl hi
  obtain ⟨bs, off, hA, hb, c0, c1, c2⟩ := hg.at_.s.three (k := i) (x := .int .i64 s.kind) (y := .int .i64 s.at_) (z := .int .i64 s.tol) (by simp [hs])
  have hf : sensAt g i = sensFt s := by unfold sensAt; rw [List.getD_eq_getElem?_getD, hs]; rfl
  rw [hf]
  obtain ⟨k0, k1, k2, k3, k4, k5, k6, k7, k8, k9, k10, k11, k12, k13, k14, k15, k16, k17, k18, k19, k20⟩ := hg.cells
  rw [hA] at k19
  have hlt := hg.blk.lt
  have j0 : (0 : Int) ≤ (i : Int) := Int.natCast_nonneg _
  have j1 : (i : Int) < (g.sn : Int) := by omega
  clear hg hA hf hs hsl
  go_enter Tryz.func77, Tryz.ntmps77
  go_wp2_with fail
  refine (sensorFault_any s _).mono ?_
  rintro e w1 ⟨rfl, hb1⟩
  obtain ⟨hc1, hf1⟩ := bcell hb1; have hz1 := hb1.size; (try simp at hz1)
  go_wp2
  exact bodyPost_ret (v := (sensFt s).v) (by simp [results, Tryz.results77, go_sem, hc1] <;> omega) rfl ⟨by rfl, (by repeat (first | exact Below.refl _ _ | assumption | (refine Below.setCell ?_ (by first | omega | (simp; done) | (simp; omega)) _) | (refine Below.alloc ?_ (by first | omega | (simp; done) | (simp; omega)) _) | refine Below.drew ?_ | (refine below_thru ?_ (by assumption) (by first | omega | (simp; done) | (simp; omega))) | refine below_drewN ?_ _))⟩

set_option maxHeartbeats 1000000 in
theorem gf5_any (g : Ga) (b : Nat) (w : World) (hg : g.Box w b) (hn : g.on ≤ 1000) :
    Calls Tryz.prog 70 #[.pointer (some ⟨b, 0, none⟩)] w fun e w' => e = .returned ((eachF (fun i => ownFt g i) 0 g.on).in_ 2).v ∧ Below w.heap.size w w' := by
  have hE : ∀ W, g.Box W b → Calls Tryz.prog 54 #[.int .i64 (g.on : Int), .func (.func 71) #[] #[.pointer (some ⟨b, 0, none⟩)]] W fun e w' => e = .returned (eachF (fun i => ownFt g i) 0 g.on).v ∧ Below W.heap.size W w' := fun W hW =>
    each_any W g.on hn _ _ (fun i => ownFt g i) (fun k W' => by show Sem.run Tryz.prog (callFunc _ _) W' = _; kernel_rfl) (fun k hk _ W' hb => gf51_any g b k W' (hW.grow hb) hk)
  have HE := Lib.hid hE; clear hE
  have Hg := Lib.hid hg
  obtain ⟨k0, k1, k2, k3, k4, k5, k6, k7, k8, k9, k10, k11, k12, k13, k14, k15, k16, k17, k18, k19, k20⟩ := hg.cells
  have hlt := hg.blk.lt
  clear hg
  generalize eachF (fun i => ownFt g i) 0 g.on = ef at *
  go_enter Tryz.func70, Tryz.ntmps70
  go_wp2_with fail
  refine (HE.out _ (Hg.out.grow (by repeat (first | exact Below.refl _ _ | assumption | (refine Below.setCell ?_ (by first | omega | (simp; done) | (simp; omega)) _) | (refine Below.alloc ?_ (by first | omega | (simp; done) | (simp; omega)) _) | refine Below.drew ?_ | (refine below_thru ?_ (by assumption) (by first | omega | (simp; done) | (simp; omega))) | refine below_drewN ?_ _)))).mono ?_
  rintro e w1 ⟨rfl, hb1⟩
  obtain ⟨hc1, hf1⟩ := bcell hb1; have hz1 := hb1.size; (try simp at hz1)
  go_wp2_with fail
  refine (fault_in_any ef 2 _).mono ?_
  rintro e w2 ⟨rfl, hb2⟩
  obtain ⟨hc2, hf2⟩ := bcell hb2; have hz2 := hb2.size; (try simp at hz2)
  have hl1 : w.heap.size < w1.heap.size := by omega
  go_wp2
  exact bodyPost_ret (v := (ef.in_ 2).v) (by simp [results, Tryz.results70, go_sem, hc1, hc2, hl1] <;> omega) rfl ⟨by rfl, (by repeat (first | exact Below.refl _ _ | assumption | (refine Below.setCell ?_ (by first | omega | (simp; done) | (simp; omega)) _) | (refine Below.alloc ?_ (by first | omega | (simp; done) | (simp; omega)) _) | refine Below.drew ?_ | (refine below_thru ?_ (by assumption) (by first | omega | (simp; done) | (simp; omega))) | refine below_drewN ?_ _))⟩

set_option maxHeartbeats 1000000 in
theorem gf8_any (g : Ga) (b : Nat) (w : World) (hg : g.Box w b) (hn : g.sn ≤ 1000) :
    Calls Tryz.prog 76 #[.pointer (some ⟨b, 0, none⟩)] w fun e w' => e = .returned ((eachF (fun i => sensAt g i) 0 g.sn).in_ 4).v ∧ Below w.heap.size w w' := by
  have hE : ∀ W, g.Box W b → Calls Tryz.prog 54 #[.int .i64 (g.sn : Int), .func (.func 77) #[] #[.pointer (some ⟨b, 0, none⟩)]] W fun e w' => e = .returned (eachF (fun i => sensAt g i) 0 g.sn).v ∧ Below W.heap.size W w' := fun W hW =>
    each_any W g.sn hn _ _ (fun i => sensAt g i) (fun k W' => by show Sem.run Tryz.prog (callFunc _ _) W' = _; kernel_rfl) (fun k hk _ W' hb => gf81_any g b k W' (hW.grow hb) hk)
  have HE := Lib.hid hE; clear hE
  have Hg := Lib.hid hg
  obtain ⟨k0, k1, k2, k3, k4, k5, k6, k7, k8, k9, k10, k11, k12, k13, k14, k15, k16, k17, k18, k19, k20⟩ := hg.cells
  have hlt := hg.blk.lt
  clear hg
  generalize eachF (fun i => sensAt g i) 0 g.sn = ef at *
  go_enter Tryz.func76, Tryz.ntmps76
  go_wp2_with fail
  refine (HE.out _ (Hg.out.grow (by repeat (first | exact Below.refl _ _ | assumption | (refine Below.setCell ?_ (by first | omega | (simp; done) | (simp; omega)) _) | (refine Below.alloc ?_ (by first | omega | (simp; done) | (simp; omega)) _) | refine Below.drew ?_ | (refine below_thru ?_ (by assumption) (by first | omega | (simp; done) | (simp; omega))) | refine below_drewN ?_ _)))).mono ?_
  rintro e w1 ⟨rfl, hb1⟩
  obtain ⟨hc1, hf1⟩ := bcell hb1; have hz1 := hb1.size; (try simp at hz1)
  go_wp2_with fail
  refine (fault_in_any ef 4 _).mono ?_
  rintro e w2 ⟨rfl, hb2⟩
  obtain ⟨hc2, hf2⟩ := bcell hb2; have hz2 := hb2.size; (try simp at hz2)
  have hl1 : w.heap.size < w1.heap.size := by omega
  go_wp2
  exact bodyPost_ret (v := (ef.in_ 4).v) (by simp [results, Tryz.results76, go_sem, hc1, hc2, hl1] <;> omega) rfl ⟨by rfl, (by repeat (first | exact Below.refl _ _ | assumption | (refine Below.setCell ?_ (by first | omega | (simp; done) | (simp; omega)) _) | (refine Below.alloc ?_ (by first | omega | (simp; done) | (simp; omega)) _) | refine Below.drew ?_ | (refine below_thru ?_ (by assumption) (by first | omega | (simp; done) | (simp; omega))) | refine below_drewN ?_ _))⟩
end Go.Proofs.YtmhfnnpbnocafaaGreat
