/- The checks of Fit. -/
import Derived.Test.YtncidhoojgncgaaGreatTdFitted
import Derived.Test.YtncidhoojgncgaaGreatTdSays
namespace Go.Proofs.YtncidhoojgncgaaGreat
open Go.RowKit
set_option linter.unusedSimpArgs false
set_option linter.unusedVariables false

def badS (s : Sp) : Bool := !s.withinB (-20000) 20000
set_option maxHeartbeats 1000000 in
theorem fit1_any (s : Sp) (w : World) : Calls Tryz.prog 95 #[s.v] w fun e w' => e = .returned (.bool (badS s)) ∧ Below w.heap.size w w' := by
  have H := Lib.hid (fun W => within_any s (-20000) 20000 W)
  obtain ⟨b, hb⟩ : ∃ b, s.withinB (-20000) 20000 = b := ⟨_, rfl⟩
  have hfin : badS s = !b := by unfold badS; rw [hb]
  rw [hb] at H
  rw [hfin]
  clear hb hfin
  obtain ⟨lo, hi⟩ := s
  cases b
  all_goals
    go_enter Tryz.func95, Tryz.ntmps95
    go_wp2_with fail
    refine (H.out _).mono ?_
    rintro e w1 ⟨rfl, hb1⟩
    obtain ⟨hc1, hf1⟩ := bcell hb1; have hz1 := hb1.size; (try simp at hz1)
    go_wp2
    go_ret
    exact ⟨rfl, (by repeat (first | exact Below.refl _ _ | assumption | (refine Below.setCell ?_ (by first | omega | (simp; done) | (simp; omega)) _) | (refine Below.alloc ?_ (by first | omega | (simp; done) | (simp; omega)) _) | refine Below.drew ?_ | (refine below_thru ?_ (by assumption) (by first | omega | (simp; done) | (simp; omega))) | refine below_drewN ?_ _))⟩

set_option maxRecDepth 100000 in
set_option maxHeartbeats 1000000 in
theorem index_span_any (A : Option Addr) (n c : Nat) (l : List Sp) (w : World) (hT : Tab w w.heap.size A n 2 (l.map Sp.cells)) (hn : n ≤ maxLen) :
    Calls Tryz.prog 148 #[.slice A n c, .func (.func 95) #[] #[]] w fun e w' => e = .returned (.int .i64 (idxF badS l 0)) ∧ Below w.heap.size w w' := by
  have hl : l.length = n := by have := hT.1; simpa using this
  unfold maxLen at hn
  have Hl := Lib.hid hl; clear hl
  have HT := Lib.hid hT; clear hT
  have Hf := Lib.hid fit1_any
  go_enter Tryz.func148, Tryz.ntmps148
  go_wp2
  go_loopw [8] (fun i wr => ∃ k : Nat, k ≤ n ∧ i = .int .i64 k ∧ Hid (idxF badS l 0 = idxF badS (l.drop k) k) ∧ Below w.heap.size w wr) (fun i _ => n - (intOf i).toNat)
  case atStart => exact ⟨0, Nat.zero_le _, rfl, rfl, Below.refl _ _⟩
  case round =>
    obtain ⟨k, hk, rfl, heq, hbr⟩ := hrel
    by_cases hlt : k < n
    · obtain ⟨x, hx⟩ := get_lt Hl.out hlt
      obtain ⟨b, off, rfl, hb, c0, c1⟩ := HT.out.two (k := k) (x := .int .i64 x.lo) (y := .int .i64 x.hi) (by simp [hx])
      have Hx := Lib.hid hx; clear hx
      have c0 := (hbr.cell (p := ⟨b, off + k * 2, none⟩) hb).trans c0
      have c1 := (hbr.cell (p := ⟨b, off + k * 2 + 1, none⟩) hb).trans c1
      have hpl : ∀ W : World, Sem.run Tryz.prog (callFunc 95 #[.agg #[.int .i64 x.lo, .int .i64 x.hi]]) W = .ok (.enter 95 #[.agg #[.int .i64 x.lo, .int .i64 x.hi]]) W := fun _ => by kernel_rfl
      obtain ⟨t, ht⟩ : ∃ t, badS x = t := ⟨_, rfl⟩
      have hF : ∀ W, Calls Tryz.prog 95 #[x.v] W fun e w' => e = .returned (.bool t) ∧ Below W.heap.size W w' := fun W => by have := Hf.out x W; rwa [ht] at this
      have HF := Lib.hid hF; clear hF
      have Ht := Lib.hid ht; clear ht
      cases t
      · go_wp2_with fail
        refine (HF.out _).mono ?_
        rintro e w1 ⟨rfl, hb1⟩
        go_wp2
        go_roundw
        case rel => exact ⟨k + 1, by omega, by go_num, by rw [heq.out, drop_cons Hx.out, idxF, Ht.out]; rfl, thru hbr (hb1.mono (Nat.le_refl _))⟩
        case measure => simp [intOf]; omega
      · go_wp2_with fail
        refine (HF.out _).mono ?_
        rintro e w1 ⟨rfl, hb1⟩
        go_wp2
        go_ret
        exact ⟨by rw [heq.out, drop_cons Hx.out, idxF, Ht.out]; rfl, thru hbr hb1⟩
    · obtain rfl : k = n := by omega
      go_wp2
      go_ret
      exact ⟨by rw [heq.out, ← Hl.out, List.drop_length]; rfl, hbr⟩

set_option maxHeartbeats 1000000 in
theorem contains_span_any (A : Option Addr) (n c : Nat) (l : List Sp) (w : World) (hT : Tab w w.heap.size A n 2 (l.map Sp.cells)) (hn : n ≤ maxLen) :
    Calls Tryz.prog 102 #[.slice A n c, .func (.func 95) #[] #[]] w fun e w' => e = .returned (.bool (l.any badS)) ∧ Below w.heap.size w w' := by
  have hI := index_span_any A n c l w hT hn
  have hfin := idxF_ge badS l 0
  generalize idxF badS l 0 = r at *
  have HI := Lib.hid hI; clear hI
  have Hfin := Lib.hid hfin
  clear hfin hT
  go_enter Tryz.func102, Tryz.ntmps102
  go_wp2_with fail
  refine HI.out.mono ?_
  rintro e w1 ⟨rfl, hb1⟩
  go_wp2
  go_ret
  exact ⟨by rw [← Hfin.out]; rfl, hb1⟩

set_option maxHeartbeats 1000000 in
theorem fit2_any (g : Gg) (b : Nat) (w : World) (hg : g.Box w b) :
    Calls Tryz.prog 97 #[.pointer (some ⟨b, 0, none⟩)] w fun e w' => e = .returned (gaugeF g).v ∧ Below w.heap.size w w' := by
  obtain ⟨g0, g1, g2, g3, g4⟩ := hg.blk.five
  have hlt := hg.blk.lt
  have Hg := Lib.hid hg.at_
  clear hg
  go_enter Tryz.func97, Tryz.ntmps97
  go_wp2_with fail
  refine (gaugeFault_any g _ (Hg.out.grow (by repeat (first | exact Below.refl _ _ | assumption | (refine Below.setCell ?_ (by first | omega | (simp; done) | (simp; omega)) _) | (refine Below.alloc ?_ (by first | omega | (simp; done) | (simp; omega)) _) | refine Below.drew ?_ | (refine below_thru ?_ (by assumption) (by first | omega | (simp; done) | (simp; omega))) | refine below_drewN ?_ _)))).mono ?_
  rintro e w1 ⟨rfl, hb1⟩
  obtain ⟨hc1, hf1⟩ := bcell hb1; have hz1 := hb1.size; (try simp at hz1)
  go_wp2
  exact bodyPost_ret (v := (gaugeF g).v) (by simp [results, Tryz.results97, go_sem, hc1] <;> omega) rfl ⟨by rfl, (by repeat (first | exact Below.refl _ _ | assumption | (refine Below.setCell ?_ (by first | omega | (simp; done) | (simp; omega)) _) | (refine Below.alloc ?_ (by first | omega | (simp; done) | (simp; omega)) _) | refine Below.drew ?_ | (refine below_thru ?_ (by assumption) (by first | omega | (simp; done) | (simp; omega))) | refine below_drewN ?_ _))⟩

set_option maxHeartbeats 1000000 in
theorem fit3_any (g : Gg) (d : Int) (bd b : Nat) (w : World) (hd : Blk w bd 3 #[.int .i64 d]) (hg : g.Box w b) :
    Calls Tryz.prog 98 #[.pointer (some ⟨bd, 0, none⟩), .pointer (some ⟨b, 0, none⟩)] w fun e w' => e = .returned (need (betw d 0 (g.dn - 1)) 4).v ∧ Below w.heap.size w w' := by
  obtain ⟨g0, g1, g2, g3, g4⟩ := hg.blk.five
  have hlt := hg.blk.lt
  have x0 := hd.cell 0
  simp only [List.getElem?_toArray, List.getElem?_cons_zero] at x0
  have xl := hd.lt
  have hdn := hg.at_.dn
  unfold maxLen at hdn
  clear hg hd
  go_enter Tryz.func98, Tryz.ntmps98
  go_wp2_with fail
  refine (bet_is _ _ _ _ rfl _).mono ?_
  rintro e w1 ⟨rfl, rfl⟩
  go_wp2_with fail
  refine (need_any _ _ _).mono ?_
  rintro e w1 ⟨rfl, hb1⟩
  obtain ⟨hc1, hf1⟩ := bcell hb1; have hz1 := hb1.size; (try simp at hz1)
  go_wp2
  exact bodyPost_ret (v := (need (betw d 0 (g.dn - 1)) 4).v) (by simp [results, Tryz.results98, go_sem, hc1] <;> omega) rfl ⟨rfl, (by repeat (first | exact Below.refl _ _ | assumption | (refine Below.setCell ?_ (by first | omega | (simp; done) | (simp; omega)) _) | (refine Below.alloc ?_ (by first | omega | (simp; done) | (simp; omega)) _) | refine Below.drew ?_ | (refine below_thru ?_ (by assumption) (by first | omega | (simp; done) | (simp; omega))) | refine below_drewN ?_ _))⟩

set_option maxHeartbeats 1000000 in
theorem fit4_any (A : Option Addr) (n c : Nat) (bl : Nat) (w : World) (hl : Blk w bl 35 #[.slice A n c]) (hn : n ≤ maxLen) :
    Calls Tryz.prog 99 #[.pointer (some ⟨bl, 0, none⟩)] w fun e w' => e = .returned (need (decide ((n : Int) ≤ 400)) 3).v ∧ Below w.heap.size w w' := by
  have x0 := hl.cell 0
  simp only [List.getElem?_toArray, List.getElem?_cons_zero] at x0
  have xl := hl.lt
  unfold maxLen at hn
  clear hl
  go_enter Tryz.func99, Tryz.ntmps99
  go_wp2_with fail
  refine (need_any (decide ((n : Int) ≤ 400)) 3 _).mono ?_
  rintro e w1 ⟨rfl, hb1⟩
  obtain ⟨hc1, hf1⟩ := bcell hb1; have hz1 := hb1.size; (try simp at hz1)
  go_wp2
  exact bodyPost_ret (v := (need (decide ((n : Int) ≤ 400)) 3).v) (by simp [results, Tryz.results99, go_sem, hc1] <;> omega) rfl ⟨rfl, (by repeat (first | exact Below.refl _ _ | assumption | (refine Below.setCell ?_ (by first | omega | (simp; done) | (simp; omega)) _) | (refine Below.alloc ?_ (by first | omega | (simp; done) | (simp; omega)) _) | refine Below.drew ?_ | (refine below_thru ?_ (by assumption) (by first | omega | (simp; done) | (simp; omega))) | refine below_drewN ?_ _))⟩

set_option maxHeartbeats 1000000 in
theorem fit5_any (a : Int) (A : Option Addr) (n c : Nat) (ba bl : Nat) (w : World) (ha : Blk w ba 3 #[.int .i64 a]) (hl : Blk w bl 35 #[.slice A n c]) (hn : n ≤ 400) :
    Calls Tryz.prog 100 #[.pointer (some ⟨ba, 0, none⟩), .pointer (some ⟨bl, 0, none⟩)] w fun e w' => e = .returned (need (areTicksB a n) 7).v ∧ Below w.heap.size w w' := by
  have x0 := hl.cell 0
  have y0 := ha.cell 0
  simp only [List.getElem?_toArray, List.getElem?_cons_zero] at x0 y0
  have xl := hl.lt
  have yl := ha.lt
  clear hl ha
  go_enter Tryz.func100, Tryz.ntmps100
  go_wp2_with fail
  refine (areTicks_any a n _ (by omega) (by omega)).mono ?_
  rintro e w1 ⟨rfl, rfl⟩
  go_wp2_with fail
  refine (need_any _ _ _).mono ?_
  rintro e w1 ⟨rfl, hb1⟩
  obtain ⟨hc1, hf1⟩ := bcell hb1; have hz1 := hb1.size; (try simp at hz1)
  go_wp2
  exact bodyPost_ret (v := (need (areTicksB a n) 7).v) (by simp [results, Tryz.results100, go_sem, hc1] <;> omega) rfl ⟨rfl, (by repeat (first | exact Below.refl _ _ | assumption | (refine Below.setCell ?_ (by first | omega | (simp; done) | (simp; omega)) _) | (refine Below.alloc ?_ (by first | omega | (simp; done) | (simp; omega)) _) | refine Below.drew ?_ | (refine below_thru ?_ (by assumption) (by first | omega | (simp; done) | (simp; omega))) | refine below_drewN ?_ _))⟩

set_option maxHeartbeats 1000000 in
theorem fit6_any (A : Option Addr) (n c : Nat) (l : List Sp) (bl bf : Nat) (w : World) (hl : Blk w bl 35 #[.slice A n c]) (hf : Blk w bf 142 #[.func (.func 95) #[] #[]]) (hat : LvAt w w.heap.size A n l) :
    Calls Tryz.prog 101 #[.pointer (some ⟨bl, 0, none⟩), .pointer (some ⟨bf, 0, none⟩)] w fun e w' => e = .returned (need (!l.any badS) 2).v ∧ Below w.heap.size w w' := by
  have x0 := hl.cell 0
  have y0 := hf.cell 0
  simp only [List.getElem?_toArray, List.getElem?_cons_zero] at x0 y0
  have xl := hl.lt
  have yl := hf.lt
  have Hat := Lib.hid hat
  clear hl hf hat
  obtain ⟨t, ht⟩ : ∃ t, l.any badS = t := ⟨_, rfl⟩
  have HC := Lib.hid (show ∀ (W : World), LvAt W W.heap.size A n l → Calls Tryz.prog 102 #[.slice A n c, .func (.func 95) #[] #[]] W fun e w' => e = .returned (.bool t) ∧ Below W.heap.size W w' from fun W h => by
    have := contains_span_any A n c l W h.t h.n
    rwa [ht] at this)
  rw [ht]
  clear ht
  cases t
  all_goals
    go_enter Tryz.func101, Tryz.ntmps101
    go_wp2_with fail
    refine (HC.out _ (Hat.out.grow (by repeat (first | exact Below.refl _ _ | assumption | (refine Below.setCell ?_ (by first | omega | (simp; done) | (simp; omega)) _) | (refine Below.alloc ?_ (by first | omega | (simp; done) | (simp; omega)) _) | refine Below.drew ?_ | (refine below_thru ?_ (by assumption) (by first | omega | (simp; done) | (simp; omega))) | refine below_drewN ?_ _)))).mono ?_
    rintro e w1 ⟨rfl, hb1⟩
    obtain ⟨hc1, hf1⟩ := bcell hb1; have hz1 := hb1.size; (try simp at hz1)
    have hl1 : w.heap.size < w1.heap.size := by omega
    go_wp2_with fail
    refine (need_any _ _ _).mono ?_
    rintro e w2 ⟨rfl, hb2⟩
    obtain ⟨hc2, hf2⟩ := bcell hb2; have hz2 := hb2.size; (try simp at hz2)
    go_wp2
    exact bodyPost_ret (v := (need _ 2).v) (by simp [results, Tryz.results101, go_sem, hc1, hc2, hl1] <;> omega) rfl ⟨rfl, (by repeat (first | exact Below.refl _ _ | assumption | (refine Below.setCell ?_ (by first | omega | (simp; done) | (simp; omega)) _) | (refine Below.alloc ?_ (by first | omega | (simp; done) | (simp; omega)) _) | refine Below.drew ?_ | (refine below_thru ?_ (by assumption) (by first | omega | (simp; done) | (simp; omega))) | refine below_drewN ?_ _))⟩
end Go.Proofs.YtncidhoojgncgaaGreat
