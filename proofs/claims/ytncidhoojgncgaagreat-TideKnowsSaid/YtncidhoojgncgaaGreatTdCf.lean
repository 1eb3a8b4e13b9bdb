/- The checks of a constituent and of a table. -/
import Derived.Test.YtncidhoojgncgaaGreatTdNum
namespace Go.Proofs.YtncidhoojgncgaaGreat
open Go.RowKit
set_option linter.unusedSimpArgs false
set_option linter.unusedVariables false

structure Cn.Box (c : Cn) (w : World) (b : Nat) : Prop where
  blk : Blk w b 70 c.arr
  at_ : c.At w w.heap.size
theorem Cn.Box.grow {c : Cn} {w w' : World} {b : Nat} (h : c.Box w b) (hb : Below w.heap.size w w') : c.Box w' b := ⟨h.blk.thru hb h.blk.lt, h.at_.grow hb⟩

set_option maxHeartbeats 1000000 in
theorem cf1_any (c : Cn) (b : Nat) (w : World) (hc : c.Box w b) :
    Calls Tryz.prog 151 #[.pointer (some ⟨b, 0, none⟩)] w fun e w' => e = .returned (need (nameB c.name) 6).v ∧ Below w.heap.size w w' := by
  obtain ⟨g0, g1, g2, g3, g4, g5⟩ := hc.blk.six
  have hlt := hc.blk.lt
  have hnm := hc.at_.name
  clear hc
  go_enter Tryz.func151, Tryz.ntmps151
  go_wp2_with fail
  refine (Name_any _ _ hnm).mono ?_
  rintro e w1 ⟨rfl, rfl⟩
  go_wp2_with fail
  refine (need_any _ _ _).mono ?_
  rintro e w1 ⟨rfl, hb1⟩
  obtain ⟨hc1, hf1⟩ := bcell hb1; have hz1 := hb1.size; (try simp at hz1)
  go_wp2
  exact bodyPost_ret (v := (need (nameB c.name) 6).v) (by simp [results, Tryz.results151, go_sem, hc1] <;> omega) rfl ⟨rfl, (by repeat (first | exact Below.refl _ _ | assumption | (refine Below.setCell ?_ (by first | omega | (simp; done) | (simp; omega)) _) | (refine Below.alloc ?_ (by first | omega | (simp; done) | (simp; omega)) _) | refine Below.drew ?_ | (refine below_thru ?_ (by assumption) (by first | omega | (simp; done) | (simp; omega))) | refine below_drewN ?_ _))⟩

set_option maxHeartbeats 1000000 in
theorem cf21_any (c o : Cn) (b : Nat) (w : World) (hc : Blk w b 70 c.arr) :
    Calls Tryz.prog 154 #[o.v, .pointer (some ⟨b, 0, none⟩)] w fun e w' => e = .returned (.bool (o.name.toList == c.name.toList)) ∧ Below w.heap.size w w' := by
  obtain ⟨g0, g1, g2, g3, g4, g5⟩ := hc.six
  have hlt := hc.lt
  clear hc
  go_enter Tryz.func154, Tryz.ntmps154
  go_wp2
  go_ret
  exact ⟨rfl, (by repeat (first | exact Below.refl _ _ | assumption | (refine Below.setCell ?_ (by first | omega | (simp; done) | (simp; omega)) _) | (refine Below.alloc ?_ (by first | omega | (simp; done) | (simp; omega)) _) | refine Below.drew ?_ | (refine below_thru ?_ (by assumption) (by first | omega | (simp; done) | (simp; omega))) | refine below_drewN ?_ _))⟩

def twiceB (l : List Cn) (c : Cn) (i : Nat) : Bool := (l.take i).any fun o => o.name.toList == c.name.toList

set_option maxHeartbeats 1000000 in
theorem cf2_any (A : Option Addr) (n cc : Nat) (l : List Cn) (i : Nat) (c : Cn) (bl bi b : Nat) (w : World) (hT : Tab w w.heap.size A n 6 (l.map Cn.cells)) (hn : n ≤ 1000) (hcc : n ≤ cc) (hi : i < n)
    (hl : Blk w bl 22 #[.slice A n cc]) (hbi : Blk w bi 3 #[.int .i64 i]) (hc : c.Box w b) :
    Calls Tryz.prog 152 #[.pointer (some ⟨bl, 0, none⟩), .pointer (some ⟨bi, 0, none⟩), .pointer (some ⟨b, 0, none⟩)] w fun e w' => e = .returned (need (!twiceB l c i) 5).v ∧ Below w.heap.size w w' := by
  have x0 := hl.cell 0
  have y0 := hbi.cell 0
  simp only [List.getElem?_toArray, List.getElem?_cons_zero] at x0 y0
  have xl := hl.lt
  have yl := hbi.lt
  have zl := hc.blk.lt
  have hblk := Lib.hid hc.blk
  have hlen : l.length = n := by have := hT.1; simpa using this
  have hT' : Tab w w.heap.size A i 6 ((l.take i).map Cn.cells) := ⟨by simp; omega, fun h0 => by
    obtain ⟨ba, off, e, hb, hcell⟩ := hT.2 (by omega)
    refine ⟨ba, off, e, hb, fun k r hr j v hv => hcell k r ?_ j v hv⟩
    rw [List.map_take, List.getElem?_take] at hr
    split at hr
    · exact hr
    · cases hr⟩
  have HT := Lib.hid hT'
  clear hl hbi hc hT hT' hlen
  have i0 : (0 : Int) ≤ (i : Int) := Int.natCast_nonneg _
  have i1 : (i : Int) ≤ (cc : Int) := by omega
  have hi1000 : i ≤ maxLen := by unfold maxLen; omega
  go_enter Tryz.func152, Tryz.ntmps152
  go_wp2_with fail
  refine (contains_const_any A i _ (l.take i) 154 _ (fun o => o.name.toList == c.name.toList) _ (HT.out.grow (by repeat (first | exact Below.refl _ _ | assumption | (refine Below.setCell ?_ (by first | omega | (simp; done) | (simp; omega)) _) | (refine Below.alloc ?_ (by first | omega | (simp; done) | (simp; omega)) _) | refine Below.drew ?_ | (refine below_thru ?_ (by assumption) (by first | omega | (simp; done) | (simp; omega))) | refine below_drewN ?_ _))) hi1000 (fun _ _ => by kernel_rfl) (fun x W hW => cf21_any c x b W ((hblk.out.alloc _).thru hW (by simp; omega)))).mono ?_
  rintro e w1 ⟨rfl, hb1⟩
  obtain ⟨hc1, hf1⟩ := bcell hb1; have hz1 := hb1.size; (try simp at hz1)
  have hl1 : w.heap.size < w1.heap.size := by omega
  go_wp2_with fail
  refine (need_any (!twiceB l c i) 5 _).mono ?_
  rintro e w2 ⟨rfl, hb2⟩
  obtain ⟨hc2, hf2⟩ := bcell hb2; have hz2 := hb2.size; (try simp at hz2)
  go_wp2
  exact bodyPost_ret (v := (need (!twiceB l c i) 5).v) (by simp [results, Tryz.results152, go_sem, hc1, hc2, hl1] <;> omega) rfl ⟨rfl, (by repeat (first | exact Below.refl _ _ | assumption | (refine Below.setCell ?_ (by first | omega | (simp; done) | (simp; omega)) _) | (refine Below.alloc ?_ (by first | omega | (simp; done) | (simp; omega)) _) | refine Below.drew ?_ | (refine below_thru ?_ (by assumption) (by first | omega | (simp; done) | (simp; omega))) | refine below_drewN ?_ _))⟩

set_option maxHeartbeats 1000000 in
theorem cf3_any (c : Cn) (b : Nat) (w : World) (hc : c.Box w b) :
    Calls Tryz.prog 155 #[.pointer (some ⟨b, 0, none⟩)] w fun e w' => e = .returned (need (betw c.hn 2 48) 3).v ∧ Below w.heap.size w w' := by
  obtain ⟨g0, g1, g2, g3, g4, g5⟩ := hc.blk.six
  have hlt := hc.blk.lt
  clear hc
  go_enter Tryz.func155, Tryz.ntmps155
  go_wp2_with fail
  refine (bet_is _ _ _ _ rfl _).mono ?_
  rintro e w1 ⟨rfl, rfl⟩
  go_wp2_with fail
  refine (need_any _ _ _).mono ?_
  rintro e w1 ⟨rfl, hb1⟩
  obtain ⟨hc1, hf1⟩ := bcell hb1; have hz1 := hb1.size; (try simp at hz1)
  go_wp2
  exact bodyPost_ret (v := (need (betw c.hn 2 48) 3).v) (by simp [results, Tryz.results155, go_sem, hc1] <;> omega) rfl ⟨rfl, (by repeat (first | exact Below.refl _ _ | assumption | (refine Below.setCell ?_ (by first | omega | (simp; done) | (simp; omega)) _) | (refine Below.alloc ?_ (by first | omega | (simp; done) | (simp; omega)) _) | refine Below.drew ?_ | (refine below_thru ?_ (by assumption) (by first | omega | (simp; done) | (simp; omega))) | refine below_drewN ?_ _))⟩

set_option maxHeartbeats 1000000 in
theorem cf4_any (c : Cn) (b : Nat) (w : World) (hc : c.Box w b) (hn : c.hn ≤ 48) :
    Calls Tryz.prog 156 #[.pointer (some ⟨b, 0, none⟩)] w fun e w' => e = .returned (need (numB c) 7).v ∧ Below w.heap.size w w' := by
  obtain ⟨g0, g1, g2, g3, g4, g5⟩ := hc.blk.six
  have hlt := hc.blk.lt
  have Hc := Lib.hid hc.at_
  clear hc
  go_enter Tryz.func156, Tryz.ntmps156
  go_wp2_with fail
  refine (numbersRight_any c _ (Hc.out.grow (by repeat (first | exact Below.refl _ _ | assumption | (refine Below.setCell ?_ (by first | omega | (simp; done) | (simp; omega)) _) | (refine Below.alloc ?_ (by first | omega | (simp; done) | (simp; omega)) _) | refine Below.drew ?_ | (refine below_thru ?_ (by assumption) (by first | omega | (simp; done) | (simp; omega))) | refine below_drewN ?_ _))) hn).mono ?_
  rintro e w1 ⟨rfl, hb1⟩
  obtain ⟨hc1, hf1⟩ := bcell hb1; have hz1 := hb1.size; (try simp at hz1)
  have hl1 : w.heap.size < w1.heap.size := by omega
  go_wp2_with fail
  refine (need_any _ _ _).mono ?_
  rintro e w2 ⟨rfl, hb2⟩
  obtain ⟨hc2, hf2⟩ := bcell hb2; have hz2 := hb2.size; (try simp at hz2)
  go_wp2
  exact bodyPost_ret (v := (need (numB c) 7).v) (by simp [results, Tryz.results156, go_sem, hc1, hc2, hl1] <;> omega) rfl ⟨rfl, (by repeat (first | exact Below.refl _ _ | assumption | (refine Below.setCell ?_ (by first | omega | (simp; done) | (simp; omega)) _) | (refine Below.alloc ?_ (by first | omega | (simp; done) | (simp; omega)) _) | refine Below.drew ?_ | (refine below_thru ?_ (by assumption) (by first | omega | (simp; done) | (simp; omega))) | refine below_drewN ?_ _))⟩
end Go.Proofs.YtncidhoojgncgaaGreat
