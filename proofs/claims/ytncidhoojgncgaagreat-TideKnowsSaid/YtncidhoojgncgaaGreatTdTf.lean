/- constFault, tableFault and their closures. -/
import Derived.Test.YtncidhoojgncgaaGreatTdCf
namespace Go.Proofs.YtncidhoojgncgaaGreat
open Go.RowKit
set_option linter.unusedSimpArgs false
set_option linter.unusedVariables false

def constL (l : List Cn) (c : Cn) (i : Nat) : List Ft := [need (nameB c.name) 6, need (!twiceB l c i) 5, need (betw c.hn 2 48) 3, need (numB c) 7]
def constAt (l : List Cn) (i : Nat) : Ft := match l[i]? with
  | none => ⟨0, 0, 0⟩
  | some c => firstF (constL l c i)
def constC (l : List Cn) (c : Cn) (i : Nat) (p q r : Value) : List Chk := [⟨151, #[r], need (nameB c.name) 6⟩, ⟨152, #[p, q, r], need (!twiceB l c i) 5⟩, ⟨155, #[r], need (betw c.hn 2 48) 3⟩, ⟨156, #[r], need (numB c) 7⟩]
theorem need_e {b : Bool} {c : Int} (hc : c ≠ 0) (h : (need b c).e = 0) : b = true := by
  cases b
  · simp [need] at h; exact absurd h hc
  · rfl
theorem constC_plain (l : List Cn) (c : Cn) (i : Nat) (p q r : Value) : ∀ (k : Nat) (x : Chk), (constC l c i p q r)[k]? = some x → Plain x.f x.caps := by
  intro k x hk W
  match k, hk with
  | 0, hk => cases hk; show Sem.run Tryz.prog (callFunc _ _) W = _; kernel_rfl
  | 1, hk => cases hk; show Sem.run Tryz.prog (callFunc _ _) W = _; kernel_rfl
  | 2, hk => cases hk; show Sem.run Tryz.prog (callFunc _ _) W = _; kernel_rfl
  | 3, hk => cases hk; show Sem.run Tryz.prog (callFunc _ _) W = _; kernel_rfl
  | k + 4, hk => simp [constC] at hk
theorem constC_good (A : Option Addr) (n cc : Nat) (l : List Cn) (i : Nat) (c : Cn) (bl bi b : Nat) (w : World) (hT : Tab w w.heap.size A n 6 (l.map Cn.cells)) (hn : n ≤ 1000) (hcc : n ≤ cc) (hi : i < n)
    (hl : Blk w bl 22 #[.slice A n cc]) (hbi : Blk w bi 3 #[.int .i64 i]) (hc : c.Box w b) : Good w (constC l c i (.pointer (some ⟨bl, 0, none⟩)) (.pointer (some ⟨bi, 0, none⟩)) (.pointer (some ⟨b, 0, none⟩))) := by
  intro k x hk hprev W hW
  have hb := hc.grow hW
  match k, hk with
  | 0, hk => cases hk; exact cf1_any c b W hb
  | 1, hk => cases hk; exact cf2_any A n cc l i c bl bi b W (hT.grow hW) hn hcc hi (hl.thru hW hl.lt) (hbi.thru hW hbi.lt) hb
  | 2, hk => cases hk; exact cf3_any c b W hb
  | 3, hk =>
    cases hk
    have h2 := need_e (by omega) (hprev 2 _ (by omega) rfl)
    simp only [betw, Bool.and_eq_true, decide_eq_true_eq] at h2
    exact cf4_any c b W hb (by omega)
  | k + 4, hk => simp [constC] at hk

set_option maxRecDepth 100000 in
set_option maxHeartbeats 1000000 in
theorem constFault_any (A : Option Addr) (n cc : Nat) (l : List Cn) (i : Nat) (w : World) (hT : Tab w w.heap.size A n 6 (l.map Cn.cells)) (hE : ∀ c ∈ l, c.At w w.heap.size) (hn : n ≤ 1000) (hcc : n ≤ cc) (hi : i < n) :
    Calls Tryz.prog 111 #[.slice A n cc, .int .i64 i] w fun e w' => e = .returned (constAt l i).v ∧ Below w.heap.size w w' := by
  have hl : l.length = n := by have := hT.1; simpa using this
  obtain ⟨c, hc⟩ := get_lt hl hi
  have hat := hE c (List.mem_of_getElem? hc)
  obtain ⟨ba, off, rfl, hb, c0, c1, c2, c3, c4, c5⟩ := hT.six (k := i) (x0 := .string c.name) (x1 := .slice c.hA c.hn c.hc) (x2 := .int .i64 c.offset) (x3 := .int .i64 c.step) (x4 := .int .i64 c.den) (x5 := .int .i64 c.slack) (by simp [hc])
  have hfin : constAt l i = firstF (constL l c i) := by unfold constAt; rw [hc]
  have HT := Lib.hid hT
  have Hat := Lib.hid hat
  have hG := fun bl bi b W h1 h2 h3 h4 => constC_good (some ⟨ba, off, none⟩) n cc l i c bl bi b W h1 hn hcc hi h2 h3 h4
  have HG := Lib.hid hG
  rw [hfin]
  have i0 : (0 : Int) ≤ (i : Int) := Int.natCast_nonneg _
  have i1 : (i : Int) < (n : Int) := by omega
  clear hT hE hat hG hfin hc hl
  have hb1 : ba < w.heap.size + 1 := by omega
  have hb2 : ba < w.heap.size + 1 + 1 := by omega
  go_enter Tryz.func111, Tryz.ntmps111
  go_wp2_with fail
  refine (first_any _ (w.heap.size + 1 + 1 + 1 + 1) 0 4 (constC l c i (.pointer (some ⟨w.heap.size, 0, none⟩)) (.pointer (some ⟨w.heap.size + 1, 0, none⟩)) (.pointer (some ⟨w.heap.size + 1 + 1 + 1, 0, none⟩))) rfl (by omega) (by simp) ?_ (HG.out _ _ _ _ (HT.out.grow (by repeat (first | exact Below.refl _ _ | assumption | (refine Below.setCell ?_ (by first | omega | (simp; done) | (simp; omega)) _) | (refine Below.alloc ?_ (by first | omega | (simp; done) | (simp; omega)) _) | refine Below.drew ?_ | (refine below_thru ?_ (by assumption) (by first | omega | (simp; done) | (simp; omega))) | refine below_drewN ?_ _))) ?_ ?_ ⟨?_, Hat.out.grow (by repeat (first | exact Below.refl _ _ | assumption | (refine Below.setCell ?_ (by first | omega | (simp; done) | (simp; omega)) _) | (refine Below.alloc ?_ (by first | omega | (simp; done) | (simp; omega)) _) | refine Below.drew ?_ | (refine below_thru ?_ (by assumption) (by first | omega | (simp; done) | (simp; omega))) | refine below_drewN ?_ _))⟩) (constC_plain l c i _ _ _)).mono ?_
  · intro k x hk
    match k, hk with
    | 0, hk => cases hk; exact (Blk.new' _ _ _ (by simp)).cell 0
    | 1, hk => cases hk; exact (Blk.new' _ _ _ (by simp)).cell 1
    | 2, hk => cases hk; exact (Blk.new' _ _ _ (by simp)).cell 2
    | 3, hk => cases hk; exact (Blk.new' _ _ _ (by simp)).cell 3
    | k + 4, hk => simp [constC] at hk
  · exact ((((Blk.new w _ _).alloc _).alloc _).alloc _).alloc _
  · exact (((Blk.new' (w.alloc _) _ _ (by simp)).alloc _).alloc _).alloc _
  · exact (Blk.new' (((w.alloc _).alloc _).alloc _) _ _ (by simp)).alloc _
  · rintro e w1 ⟨rfl, hb1⟩
    obtain ⟨hc1, hf1⟩ := bcell hb1; have hz1 := hb1.size; (try simp at hz1)
    have hl1 : w.heap.size + 1 + 1 < w1.heap.size := by omega
    go_wp2
    exact bodyPost_ret (v := (firstF ((constC l c i (.pointer (some ⟨w.heap.size, 0, none⟩)) (.pointer (some ⟨w.heap.size + 1, 0, none⟩)) (.pointer (some ⟨w.heap.size + 1 + 1 + 1, 0, none⟩))).map (·.r))).v) (by simp [results, Tryz.results111, go_sem, hc1, hl1] <;> omega) rfl ⟨by rfl, (by repeat (first | exact Below.refl _ _ | assumption | (refine Below.setCell ?_ (by first | omega | (simp; done) | (simp; omega)) _) | (refine Below.alloc ?_ (by first | omega | (simp; done) | (simp; omega)) _) | refine Below.drew ?_ | (refine below_thru ?_ (by assumption) (by first | omega | (simp; done) | (simp; omega))) | refine below_drewN ?_ _))⟩

structure Tb.Box (t : Tb) (w : World) (b : Nat) : Prop where
  blk : Blk w b 24 #[.int .i64 t.mean, .slice t.cA t.cn t.cc]
  at_ : t.At w w.heap.size
theorem Tb.Box.grow {t : Tb} {w w' : World} {b : Nat} (h : t.Box w b) (hb : Below w.heap.size w w') : t.Box w' b := ⟨h.blk.thru hb h.blk.lt, h.at_.grow hb⟩

set_option maxHeartbeats 1000000 in
theorem tf1_any (t : Tb) (b : Nat) (w : World) (hc : t.Box w b) :
    Calls Tryz.prog 106 #[.pointer (some ⟨b, 0, none⟩)] w fun e w' => e = .returned (need (levelB t.mean) 7).v ∧ Below w.heap.size w w' := by
  obtain ⟨g0, g1, g2, g3⟩ := hc.blk.two
  have hlt := hc.blk.lt
  clear hc
  go_enter Tryz.func106, Tryz.ntmps106
  go_wp2_with fail
  refine (isLevel_any _ _).mono ?_
  rintro e w1 ⟨rfl, rfl⟩
  go_wp2_with fail
  refine (need_any _ _ _).mono ?_
  rintro e w1 ⟨rfl, hb1⟩
  obtain ⟨hc1, hf1⟩ := bcell hb1; have hz1 := hb1.size; (try simp at hz1)
  go_wp2
  exact bodyPost_ret (v := (need (levelB t.mean) 7).v) (by simp [results, Tryz.results106, go_sem, hc1] <;> omega) rfl ⟨rfl, (by repeat (first | exact Below.refl _ _ | assumption | (refine Below.setCell ?_ (by first | omega | (simp; done) | (simp; omega)) _) | (refine Below.alloc ?_ (by first | omega | (simp; done) | (simp; omega)) _) | refine Below.drew ?_ | (refine below_thru ?_ (by assumption) (by first | omega | (simp; done) | (simp; omega))) | refine below_drewN ?_ _))⟩

set_option maxHeartbeats 1000000 in
theorem tf2_any (t : Tb) (b : Nat) (w : World) (hc : t.Box w b) :
    Calls Tryz.prog 108 #[.pointer (some ⟨b, 0, none⟩)] w fun e w' => e = .returned (need (decide ((t.cn : Int) ≤ 12)) 3).v ∧ Below w.heap.size w w' := by
  obtain ⟨g0, g1, g2, g3⟩ := hc.blk.two
  have hlt := hc.blk.lt
  have hcn := hc.at_.cn
  unfold maxLen at hcn
  clear hc
  go_enter Tryz.func108, Tryz.ntmps108
  go_wp2_with fail
  refine (need_any (decide ((t.cn : Int) ≤ 12)) 3 _).mono ?_
  rintro e w1 ⟨rfl, hb1⟩
  obtain ⟨hc1, hf1⟩ := bcell hb1; have hz1 := hb1.size; (try simp at hz1)
  go_wp2
  exact bodyPost_ret (v := (need (decide ((t.cn : Int) ≤ 12)) 3).v) (by simp [results, Tryz.results108, go_sem, hc1] <;> omega) rfl ⟨rfl, (by repeat (first | exact Below.refl _ _ | assumption | (refine Below.setCell ?_ (by first | omega | (simp; done) | (simp; omega)) _) | (refine Below.alloc ?_ (by first | omega | (simp; done) | (simp; omega)) _) | refine Below.drew ?_ | (refine below_thru ?_ (by assumption) (by first | omega | (simp; done) | (simp; omega))) | refine below_drewN ?_ _))⟩

set_option maxHeartbeats 1000000 in
theorem tf3_any (t : Tb) (b : Nat) (i : Nat) (w : World) (hc : t.Box w b) (hn : t.cn ≤ 1000) (hi : i < t.cn) :
    Calls Tryz.prog 110 #[.int .i64 i, .pointer (some ⟨b, 0, none⟩)] w fun e w' => e = .returned (constAt t.cs i).v ∧ Below w.heap.size w w' := by
  obtain ⟨g0, g1, g2, g3⟩ := hc.blk.two
  have hlt := hc.blk.lt
  have Hc := Lib.hid hc
  clear hc
  go_enter Tryz.func110, Tryz.ntmps110
  go_wp2_with fail
  refine (constFault_any _ _ _ t.cs i _ (Hc.out.at_.grow (by repeat (first | exact Below.refl _ _ | assumption | (refine Below.setCell ?_ (by first | omega | (simp; done) | (simp; omega)) _) | (refine Below.alloc ?_ (by first | omega | (simp; done) | (simp; omega)) _) | refine Below.drew ?_ | (refine below_thru ?_ (by assumption) (by first | omega | (simp; done) | (simp; omega))) | refine below_drewN ?_ _))).c (Hc.out.at_.grow (by repeat (first | exact Below.refl _ _ | assumption | (refine Below.setCell ?_ (by first | omega | (simp; done) | (simp; omega)) _) | (refine Below.alloc ?_ (by first | omega | (simp; done) | (simp; omega)) _) | refine Below.drew ?_ | (refine below_thru ?_ (by assumption) (by first | omega | (simp; done) | (simp; omega))) | refine below_drewN ?_ _))).each hn Hc.out.at_.cc hi).mono ?_
  rintro e w1 ⟨rfl, hb1⟩
  obtain ⟨hc1, hf1⟩ := bcell hb1; have hz1 := hb1.size; (try simp at hz1)
  go_wp2
  exact bodyPost_ret (v := (constAt t.cs i).v) (by simp [results, Tryz.results110, go_sem, hc1] <;> omega) rfl ⟨rfl, (by repeat (first | exact Below.refl _ _ | assumption | (refine Below.setCell ?_ (by first | omega | (simp; done) | (simp; omega)) _) | (refine Below.alloc ?_ (by first | omega | (simp; done) | (simp; omega)) _) | refine Below.drew ?_ | (refine below_thru ?_ (by assumption) (by first | omega | (simp; done) | (simp; omega))) | refine below_drewN ?_ _))⟩

def tableC (t : Tb) (p : Value) : List Chk := [⟨106, #[p], need (levelB t.mean) 7⟩, ⟨108, #[p], need (decide ((t.cn : Int) ≤ 12)) 3⟩]
def tableF (t : Tb) : Ft :=
  if levelB t.mean = true then (if t.cn ≤ 12 then eachF (fun i => constAt t.cs i) 0 t.cn else ⟨0, -1, 3⟩) else ⟨0, -1, 7⟩
theorem tableC_plain (t : Tb) (p : Value) : ∀ (k : Nat) (c : Chk), (tableC t p)[k]? = some c → Plain c.f c.caps := by
  intro k c hk W
  match k, hk with
  | 0, hk => cases hk; show Sem.run Tryz.prog (callFunc _ _) W = _; kernel_rfl
  | 1, hk => cases hk; show Sem.run Tryz.prog (callFunc _ _) W = _; kernel_rfl
  | k + 2, hk => simp [tableC] at hk
theorem tableC_good (t : Tb) (b : Nat) (w : World) (ht : t.Box w b) : Good w (tableC t (.pointer (some ⟨b, 0, none⟩))) := by
  intro k c hk hprev W hW
  match k, hk with
  | 0, hk => cases hk; exact tf1_any t b W (ht.grow hW)
  | 1, hk => cases hk; exact tf2_any t b W (ht.grow hW)
  | k + 2, hk => simp [tableC] at hk

set_option maxRecDepth 100000 in
set_option maxHeartbeats 2000000 in
theorem tableFault_any (t : Tb) (w : World) (ht : t.At w w.heap.size) :
    Calls Tryz.prog 54 #[t.v] w fun e w' => e = .returned (tableF t).v ∧ Below w.heap.size w w' := by
  have Ht := Lib.hid ht
  have hG := fun b W h => tableC_good t b W h
  have HG := Lib.hid hG
  clear ht hG
  go_enter Tryz.func54, Tryz.ntmps54
  go_wp2_with fail
  refine (first_any _ (w.heap.size + 1 + 1) 0 2 (tableC t (.pointer (some ⟨w.heap.size, 0, none⟩))) rfl (by omega) (by simp) ?_ (HG.out _ _ ⟨?_, Ht.out.grow (by repeat (first | exact Below.refl _ _ | assumption | (refine Below.setCell ?_ (by first | omega | (simp; done) | (simp; omega)) _) | (refine Below.alloc ?_ (by first | omega | (simp; done) | (simp; omega)) _) | refine Below.drew ?_ | (refine below_thru ?_ (by assumption) (by first | omega | (simp; done) | (simp; omega))) | refine below_drewN ?_ _))⟩) (tableC_plain t _)).mono ?_
  · intro k x hk
    match k, hk with
    | 0, hk => cases hk; exact (Blk.new' _ _ _ (by simp)).cell 0
    | 1, hk => cases hk; exact (Blk.new' _ _ _ (by simp)).cell 1
    | k + 2, hk => simp [tableC] at hk
  · exact ((Blk.new w _ _).alloc _).alloc _
  · rintro e w1 ⟨rfl, hb1⟩
    obtain ⟨hc1, hf1⟩ := bcell hb1; have hz1 := hb1.size; (try simp at hz1)
    have hl0 : w.heap.size < w1.heap.size := by omega
    have hl1 : w.heap.size + 1 < w1.heap.size := by omega
    have hl2 : w.heap.size + 1 ≤ w1.heap.size := by omega
    by_cases hm : levelB t.mean = true
    · by_cases hn : t.cn ≤ 12
      · have hf : firstF ((tableC t (.pointer (some ⟨w.heap.size, 0, none⟩))).map (·.r)) = ⟨0, 0, 0⟩ := by
          simp [tableC, firstF, need, hm, show (t.cn : Int) ≤ 12 by omega]
        have hfin : tableF t = eachF (fun i => constAt t.cs i) 0 t.cn := by simp [tableF, hm, hn]
        rw [hf]
        have Hfin := Lib.hid hfin
        have Hn := Lib.hid hn
        clear hf hfin hm hn HG
        go_wp2_with fail
        refine (each_any _ t.cn (by have := Hn.out; omega) 110 _ (fun i => constAt t.cs i) (fun _ _ => by kernel_rfl) (fun k hk _ W hW => tf3_any t w.heap.size k W (Tb.Box.grow ⟨?_, Ht.out.grow (by repeat (first | exact Below.refl _ _ | assumption | (refine Below.setCell ?_ (by first | omega | (simp; done) | (simp; omega)) _) | (refine Below.alloc ?_ (by first | omega | (simp; done) | (simp; omega)) _) | refine Below.drew ?_ | (refine below_thru ?_ (by assumption) (by first | omega | (simp; done) | (simp; omega))) | refine below_drewN ?_ _))⟩ hW) (by have := Hn.out; omega) hk)).mono ?_
        · exact Blk.alloc (Blk.thru ((Blk.alloc (Blk.alloc (Blk.new w _ _) _) _)) hb1 (by simp; omega)) _
        · rintro e w2 ⟨rfl, hb2⟩
          obtain ⟨hc2, hf2⟩ := bcell hb2; have hz2 := hb2.size; (try simp at hz2)
          go_wp2
          exact bodyPost_ret (v := (eachF (fun i => constAt t.cs i) 0 t.cn).v) (by simp [results, Tryz.results54, go_sem, hc1, hc2, hl0, hl1, hl2] <;> omega) rfl ⟨by rw [Hfin.out], (by repeat (first | exact Below.refl _ _ | assumption | (refine Below.setCell ?_ (by first | omega | (simp; done) | (simp; omega)) _) | (refine Below.alloc ?_ (by first | omega | (simp; done) | (simp; omega)) _) | refine Below.drew ?_ | (refine below_thru ?_ (by assumption) (by first | omega | (simp; done) | (simp; omega))) | refine below_drewN ?_ _))⟩
      · have hf : firstF ((tableC t (.pointer (some ⟨w.heap.size, 0, none⟩))).map (·.r)) = ⟨0, 0, 3⟩ := by
          simp [tableC, firstF, need, hm, show ¬ (t.cn : Int) ≤ 12 by omega]
        have hfin : tableF t = ⟨0, -1, 3⟩ := by simp [tableF, hm, hn]
        rw [hf]
        have Hfin := Lib.hid hfin
        clear hf hfin hm HG
        go_wp2
        exact bodyPost_ret (v := Ft.v ⟨0, -1, 3⟩) (by simp [results, Tryz.results54, go_sem, hc1, hl1] <;> omega) rfl ⟨by rw [Hfin.out], (by repeat (first | exact Below.refl _ _ | assumption | (refine Below.setCell ?_ (by first | omega | (simp; done) | (simp; omega)) _) | (refine Below.alloc ?_ (by first | omega | (simp; done) | (simp; omega)) _) | refine Below.drew ?_ | (refine below_thru ?_ (by assumption) (by first | omega | (simp; done) | (simp; omega))) | refine below_drewN ?_ _))⟩
    · have hf : firstF ((tableC t (.pointer (some ⟨w.heap.size, 0, none⟩))).map (·.r)) = ⟨0, 0, 7⟩ := by
        simp [tableC, firstF, need, hm]
      have hfin : tableF t = ⟨0, -1, 7⟩ := by simp [tableF, hm]
      rw [hf]
      have Hfin := Lib.hid hfin
      clear hf hfin hm HG
      go_wp2
      exact bodyPost_ret (v := Ft.v ⟨0, -1, 7⟩) (by simp [results, Tryz.results54, go_sem, hc1, hl1] <;> omega) rfl ⟨by rw [Hfin.out], (by repeat (first | exact Below.refl _ _ | assumption | (refine Below.setCell ?_ (by first | omega | (simp; done) | (simp; omega)) _) | (refine Below.alloc ?_ (by first | omega | (simp; done) | (simp; omega)) _) | refine Below.drew ?_ | (refine below_thru ?_ (by assumption) (by first | omega | (simp; done) | (simp; omega))) | refine below_drewN ?_ _))⟩
end Go.Proofs.YtncidhoojgncgaaGreat
