/- The reference: Move. -/
import Derived.Test.YtgdomaddjiggaaaGreatGtRefT
import Derived.Test.YtgdomaddjiggaaaGreatGtChecks
namespace Go.Proofs.YtgdomaddjiggaaaGreat
open Go.RowKit
set_option linter.unusedSimpArgs false
set_option linter.unusedVariables false

section
variable {l : St} {ss : List Gs} {ts : List Gt} {sn tn pn : Nat}
theorem mo_e1 (h : (setFt l).e ≠ 0) : (moveFt l ss sn ts tn pn).e = (setFt l).e := by
  unfold moveFt moveFL
  rw [firstF_at _ 0 (setFt l) rfl h fun j f hj => by omega]
theorem mo_e2 (h : (setFt l).e = 0) (hl : lensB sn tn pn l.gn = false) : (moveFt l ss sn ts tn pn).e = 2 := by
  unfold moveFt moveFL
  simp only [firstF, h, hl, if_true]
  rfl
theorem mo_e3 (h : (setFt l).e = 0) (hl : lensB sn tn pn l.gn = true) : (moveFt l ss sn ts tn pn).e = (eachF (moveE l ss ts) 0 l.gn).e := by
  unfold moveFt moveFL
  simp only [firstF, h, hl, if_true, need]
  split
  · rename_i h0; rw [h0]
  · rfl
theorem mo_e5 (h : (setFt l).e = 0) (hl : lensB sn tn pn l.gn = true) {k : Nat} (hk : k < l.gn) (hp : ∀ j, j < k → (moveE l ss ts j).e = 0) (hb : (moveE l ss ts k).e ≠ 0) : (moveFt l ss sn ts tn pn).e = (moveE l ss ts k).e := by
  rw [mo_e3 h hl, each_at _ _ k hk hp hb]
theorem mo_e6 (h : (setFt l).e = 0) (hl : lensB sn tn pn l.gn = true) (hp : ∀ j, j < l.gn → (moveE l ss ts j).e = 0) : (moveFt l ss sn ts tn pn).e = 0 := by
  rw [mo_e3 h hl, each_none _ _ hp]
end
theorem set_gate {l : St} (hl : l.gs.length = l.gn) (h : (setFt l).e = 0) {k : Nat} {g : Ga} (hg : l.gs[k]? = some g) : (gateF g).e = 0 := by
  have hall := first0 _ h
  have h2 := each0 _ _ _ (show (eachF (fun i => memberFt l.gs i) 0 l.gn).e = 0 from hall ((eachF (fun i => memberFt l.gs i) 0 l.gn).in_ 1) (by simp [setL]))
  have h3 := h2 k (by omega) (by have := (List.getElem?_eq_some_iff.1 hg).1; omega)
  have h4 := first0 _ h3 (gateF (gAt l.gs k)) (by simp)
  rwa [gAt_of hg] at h4
/-- What a round reads. -/
structure MvR (W : World) (lb : Nat) (gv rv : Value) (gb go : Nat) (g : Ga) (sb so : Nat) (s : Gs) (tb tp : Nat) (t : Gt) : Prop where
  l : Blk W lb 25 #[gv, rv]
  g : W.rangeAt gb go g.cells
  c0 : W.cell? ⟨sb, so, none⟩ = some (.int .i64 s.pos)
  c1 : W.cell? ⟨sb, so + 1, none⟩ = some (.int .i64 s.charge)
  c2 : W.cell? ⟨sb, so + 2, none⟩ = some (.bool s.bolted)
  d0 : W.cell? ⟨tb, tp, none⟩ = some (.int .i64 t.order)
  d1 : W.cell? ⟨tb, tp + 1, none⟩ = some (.bool t.power)
  d2 : W.cell? ⟨tb, tp + 2, none⟩ = some (.int .i64 t.outer)
  d3 : W.cell? ⟨tb, tp + 3, none⟩ = some (.int .i64 t.inner)
section
variable {W W' : World} {lb gb go sb so tb tp : Nat} {gv rv : Value} {t : Gt} {g : Ga} {s : Gs}
theorem MvR.below (h : MvR W lb gv rv gb go g sb so s tb tp t) (hb : Below W.heap.size W W') : MvR W' lb gv rv gb go g sb so s tb tp t := by
  have k : ∀ (q : Addr) (v : Value), W.cell? q = some v → W'.cell? q = some v := fun q v hq => (hb.cell (World.block_lt_of_cell? W q hq)).trans hq
  exact ⟨h.l.thru hb h.l.lt, fun j v hv => k _ _ (h.g j v hv), k _ _ h.c0, k _ _ h.c1, k _ _ h.c2, k _ _ h.d0, k _ _ h.d1, k _ _ h.d2, k _ _ h.d3⟩
theorem MvR.drew (h : MvR W lb gv rv gb go g sb so s tb tp t) : MvR W.drew lb gv rv gb go g sb so s tb tp t := ⟨h.l, h.g, h.c0, h.c1, h.c2, h.d0, h.d1, h.d2, h.d3⟩
end

def MovePost (l : St) (ss : List Gs) (sn : Nat) (ts : List Gt) (tn : Nat) (ps : List Bool) (pn : Nat) (w : World) (e : Ending) (w' : World) : Prop :=
  ((moveFt l ss sn ts tn pn).e = 0 → ∃ (A : Option Addr) (c : Nat) (B : Option Addr) (d : Nat), e = .returned (.tuple #[.slice A l.gn c, .slice B l.gn d, .int .i64 0]) ∧
      Tab w' w'.heap.size A l.gn 3 ((moveS l ss ts ps).map Gs.cells) ∧ Tab w' w'.heap.size B l.gn 3 ((moveM l ss ts ps).map Gm.cells) ∧ Below w.heap.size w w') ∧
  ((moveFt l ss sn ts tn pn).e ≠ 0 → e = .returned (.tuple #[.slice none 0 0, .slice none 0 0, .int .i64 (moveFt l ss sn ts tn pn).e]) ∧ Below w.heap.size w w')

set_option maxRecDepth 100000 in
set_option maxHeartbeats 16000000 in
theorem rMove_any (l : St) (ss : List Gs) (ts : List Gt) (ps : List Bool) (sA tA pA : Option Addr) (sn sc tn tc pn pc : Nat) (w : World) (hl : l.At w w.heap.size) (hs : Tab w w.heap.size sA sn 3 (ss.map Gs.cells)) (ht : Tab w w.heap.size tA tn 4 (ts.map Gt.cells))
    (hp : Tab w w.heap.size pA pn 1 (ps.map fun p => [Value.bool p])) (hsm : sn ≤ maxLen) (htm : tn ≤ maxLen) (hpm : pn ≤ maxLen) :
    Calls Tryz.prog 43 #[l.v, .slice sA sn sc, .slice tA tn tc, .slice pA pn pc] w fun e w' => MovePost l ss sn ts tn ps pn w e w' := by
  have hgm := hl.gn
  unfold maxLen at hsm htm hpm hgm
  have hgl := hl.g.len
  have hsl : ss.length = sn := by have := hs.1; simpa using this
  have htl : ts.length = tn := by have := ht.1; simpa using this
  have Hl := Lib.hid hl
  have Hs := Lib.hid hs
  have Ht := Lib.hid ht
  have Hp := Lib.hid hp
  have Hlen := Lib.hid (And.intro hgl (And.intro hsl htl))
  have HC := Lib.hid (fun W h => rCheckSet_any l W h)
  obtain ⟨fp, fa, ge, hfl⟩ : ∃ fp fa ge, setFt l = ⟨fp, fa, ge⟩ := ⟨_, _, _, rfl⟩
  have hge : (setFt l).e = ge := by rw [hfl]
  rw [hfl] at HC
  have HC2 := Lib.hid (show ∀ W, l.At W W.heap.size → Calls Tryz.prog 21 #[.agg #[.slice l.gA l.gn l.gc, .slice l.rA l.rn l.rc]] W fun e w' => e = .returned (.tuple #[.int .i64 fp, .int .i64 fa, .int .i64 ge]) ∧ Below W.heap.size W w' from HC.out)
  clear HC
  -- what holds at the loop's head
  obtain ⟨Rel, hRel⟩ : ∃ Rel : Int → Nat → Prop, Rel = fun ee k => (ee = 0 ∧ l.Ok ∧ (setFt l).e = 0 ∧ lensB sn tn pn l.gn = true ∧ (∀ j, j < k → (moveE l ss ts j).e = 0)) ∨ (ee ≠ 0 ∧ (moveFt l ss sn ts tn pn).e = ee) := ⟨_, rfl⟩
  have start : (ge ≠ 0 ∧ (moveFt l ss sn ts tn pn).e = ge) ∨ (ge = 0 ∧ ((sn : Int) != (l.gn : Int)) = true ∧ (moveFt l ss sn ts tn pn).e = 2) ∨ (ge = 0 ∧ ((sn : Int) != (l.gn : Int)) = false ∧ ((tn : Int) != (l.gn : Int)) = true ∧ (moveFt l ss sn ts tn pn).e = 2) ∨ (ge = 0 ∧ ((sn : Int) != (l.gn : Int)) = false ∧ ((tn : Int) != (l.gn : Int)) = false ∧ ((pn : Int) != (l.gn : Int)) = true ∧ (moveFt l ss sn ts tn pn).e = 2) ∨ (ge = 0 ∧ ((sn : Int) != (l.gn : Int)) = false ∧ ((tn : Int) != (l.gn : Int)) = false ∧ ((pn : Int) != (l.gn : Int)) = false ∧ lensB sn tn pn l.gn = true ∧ l.Ok) := by
    by_cases h0 : ge = 0
    · have hs0 := hge.trans h0
      cases h1 : ((sn : Int) == (l.gn : Int))
      · exact .inr (.inl ⟨h0, by simp [bne, h1], mo_e2 hs0 (by simp [lensB, h1])⟩)
      · cases h2 : ((tn : Int) == (l.gn : Int))
        · exact .inr (.inr (.inl ⟨h0, by simp [bne, h1], by simp [bne, h2], mo_e2 hs0 (by simp [lensB, h2])⟩))
        · cases h3 : ((pn : Int) == (l.gn : Int))
          · exact .inr (.inr (.inr (.inl ⟨h0, by simp [bne, h1], by simp [bne, h2], by simp [bne, h3], mo_e2 hs0 (by simp [lensB, h3])⟩)))
          · exact .inr (.inr (.inr (.inr ⟨h0, by simp [bne, h1], by simp [bne, h2], by simp [bne, h3], by simp [lensB, h1, h2, h3], setFt_ok l w _ hl hs0⟩)))
    · exact .inl ⟨h0, by rw [mo_e1 (by rw [hge]; exact h0)]; exact hge⟩
  have Hge := Lib.hid hge
  have HRel := Lib.hid hRel
  clear hfl hge hl hs ht hp hRel hgl hsl htl
  rcases start with ⟨h0, hE⟩ | ⟨h0, b1, hE⟩ | ⟨h0, b1, b2, hE⟩ | ⟨h0, b1, b2, b3, hE⟩ | ⟨h0, b1, b2, b3, hle, hok⟩
  case' inl =>
    have hst : Hid (Rel ge 0) := by unfold Hid; rw [HRel.out]; exact .inr ⟨h0, hE⟩
    have q0 : (ge == 0) = false := by rw [beq_eq_false_iff_ne]; exact h0
    clear h0 hE
    go_enter Tryz.func43, Tryz.ntmps43
    go_wp2_with fail
    refine (HC2.out _ (Hl.out.grow (by repeat (first | exact Below.refl _ _ | assumption | (refine Below.setCell ?_ (by first | omega | (simp; done) | (simp; omega)) _) | (refine Below.alloc ?_ (by first | omega | (simp; done) | (simp; omega)) _) | refine Below.drew ?_ | (refine below_thru ?_ (by assumption) (by first | omega | (simp; done) | (simp; omega))) | refine below_drewN ?_ _)))).mono ?_
    rintro e ws ⟨rfl, hb1⟩
    have hSt : Blk ws w.heap.size 25 #[.slice l.gA l.gn l.gc, .slice l.rA l.rn l.rc] := Blk.thru (by (repeat (first | assumption | exact Blk.new _ _ _ | (refine Blk.new' _ _ _ ?_; (simp; done)) | refine Blk.drew ?_ | refine Blk.alloc ?_ _ | (refine Blk.fars ?_ ?_ _ _; rotate_left; (dsimp only; omega)) | (refine Blk.far ?_ ?_ _; rotate_left; (first | (dsimp only; omega) | (simp; done) | (simp; omega) | omega))))) hb1 (by simp <;> omega)
    have hws : Below w.heap.size w ws := (by repeat (first | exact Below.refl _ _ | assumption | (refine Below.setCell ?_ (by first | omega | (simp; done) | (simp; omega)) _) | (refine Below.alloc ?_ (by first | omega | (simp; done) | (simp; omega)) _) | refine Below.drew ?_ | (refine below_thru ?_ (by assumption) (by first | omega | (simp; done) | (simp; omega))) | refine below_drewN ?_ _))
    obtain ⟨s0, s1, _, _⟩ := hSt.two
    have hsl := hSt.lt
    have HSt := Lib.hid hSt
    clear hb1 hSt
    go_wp2
  case' inr.inl =>
    subst h0
    have hst : Hid (Rel 2 0) := by unfold Hid; rw [HRel.out]; exact .inr ⟨by omega, hE⟩
    clear hE
    go_enter Tryz.func43, Tryz.ntmps43
    go_wp2_with fail
    refine (HC2.out _ (Hl.out.grow (by repeat (first | exact Below.refl _ _ | assumption | (refine Below.setCell ?_ (by first | omega | (simp; done) | (simp; omega)) _) | (refine Below.alloc ?_ (by first | omega | (simp; done) | (simp; omega)) _) | refine Below.drew ?_ | (refine below_thru ?_ (by assumption) (by first | omega | (simp; done) | (simp; omega))) | refine below_drewN ?_ _)))).mono ?_
    rintro e ws ⟨rfl, hb1⟩
    have hSt : Blk ws w.heap.size 25 #[.slice l.gA l.gn l.gc, .slice l.rA l.rn l.rc] := Blk.thru (by (repeat (first | assumption | exact Blk.new _ _ _ | (refine Blk.new' _ _ _ ?_; (simp; done)) | refine Blk.drew ?_ | refine Blk.alloc ?_ _ | (refine Blk.fars ?_ ?_ _ _; rotate_left; (dsimp only; omega)) | (refine Blk.far ?_ ?_ _; rotate_left; (first | (dsimp only; omega) | (simp; done) | (simp; omega) | omega))))) hb1 (by simp <;> omega)
    have hws : Below w.heap.size w ws := (by repeat (first | exact Below.refl _ _ | assumption | (refine Below.setCell ?_ (by first | omega | (simp; done) | (simp; omega)) _) | (refine Below.alloc ?_ (by first | omega | (simp; done) | (simp; omega)) _) | refine Below.drew ?_ | (refine below_thru ?_ (by assumption) (by first | omega | (simp; done) | (simp; omega))) | refine below_drewN ?_ _))
    obtain ⟨s0, s1, _, _⟩ := hSt.two
    have hsl := hSt.lt
    have HSt := Lib.hid hSt
    clear hb1 hSt
    go_wp2
  case' inr.inr.inl =>
    subst h0
    have hst : Hid (Rel 2 0) := by unfold Hid; rw [HRel.out]; exact .inr ⟨by omega, hE⟩
    clear hE
    go_enter Tryz.func43, Tryz.ntmps43
    go_wp2_with fail
    refine (HC2.out _ (Hl.out.grow (by repeat (first | exact Below.refl _ _ | assumption | (refine Below.setCell ?_ (by first | omega | (simp; done) | (simp; omega)) _) | (refine Below.alloc ?_ (by first | omega | (simp; done) | (simp; omega)) _) | refine Below.drew ?_ | (refine below_thru ?_ (by assumption) (by first | omega | (simp; done) | (simp; omega))) | refine below_drewN ?_ _)))).mono ?_
    rintro e ws ⟨rfl, hb1⟩
    have hSt : Blk ws w.heap.size 25 #[.slice l.gA l.gn l.gc, .slice l.rA l.rn l.rc] := Blk.thru (by (repeat (first | assumption | exact Blk.new _ _ _ | (refine Blk.new' _ _ _ ?_; (simp; done)) | refine Blk.drew ?_ | refine Blk.alloc ?_ _ | (refine Blk.fars ?_ ?_ _ _; rotate_left; (dsimp only; omega)) | (refine Blk.far ?_ ?_ _; rotate_left; (first | (dsimp only; omega) | (simp; done) | (simp; omega) | omega))))) hb1 (by simp <;> omega)
    have hws : Below w.heap.size w ws := (by repeat (first | exact Below.refl _ _ | assumption | (refine Below.setCell ?_ (by first | omega | (simp; done) | (simp; omega)) _) | (refine Below.alloc ?_ (by first | omega | (simp; done) | (simp; omega)) _) | refine Below.drew ?_ | (refine below_thru ?_ (by assumption) (by first | omega | (simp; done) | (simp; omega))) | refine below_drewN ?_ _))
    obtain ⟨s0, s1, _, _⟩ := hSt.two
    have hsl := hSt.lt
    have HSt := Lib.hid hSt
    clear hb1 hSt
    go_wp2
  case' inr.inr.inr.inl =>
    subst h0
    have hst : Hid (Rel 2 0) := by unfold Hid; rw [HRel.out]; exact .inr ⟨by omega, hE⟩
    clear hE
    go_enter Tryz.func43, Tryz.ntmps43
    go_wp2_with fail
    refine (HC2.out _ (Hl.out.grow (by repeat (first | exact Below.refl _ _ | assumption | (refine Below.setCell ?_ (by first | omega | (simp; done) | (simp; omega)) _) | (refine Below.alloc ?_ (by first | omega | (simp; done) | (simp; omega)) _) | refine Below.drew ?_ | (refine below_thru ?_ (by assumption) (by first | omega | (simp; done) | (simp; omega))) | refine below_drewN ?_ _)))).mono ?_
    rintro e ws ⟨rfl, hb1⟩
    have hSt : Blk ws w.heap.size 25 #[.slice l.gA l.gn l.gc, .slice l.rA l.rn l.rc] := Blk.thru (by (repeat (first | assumption | exact Blk.new _ _ _ | (refine Blk.new' _ _ _ ?_; (simp; done)) | refine Blk.drew ?_ | refine Blk.alloc ?_ _ | (refine Blk.fars ?_ ?_ _ _; rotate_left; (dsimp only; omega)) | (refine Blk.far ?_ ?_ _; rotate_left; (first | (dsimp only; omega) | (simp; done) | (simp; omega) | omega))))) hb1 (by simp <;> omega)
    have hws : Below w.heap.size w ws := (by repeat (first | exact Below.refl _ _ | assumption | (refine Below.setCell ?_ (by first | omega | (simp; done) | (simp; omega)) _) | (refine Below.alloc ?_ (by first | omega | (simp; done) | (simp; omega)) _) | refine Below.drew ?_ | (refine below_thru ?_ (by assumption) (by first | omega | (simp; done) | (simp; omega))) | refine below_drewN ?_ _))
    obtain ⟨s0, s1, _, _⟩ := hSt.two
    have hsl := hSt.lt
    have HSt := Lib.hid hSt
    clear hb1 hSt
    go_wp2
  case' inr.inr.inr.inr =>
    subst h0
    have hst : Hid (Rel 0 0) := by unfold Hid; rw [HRel.out]; exact .inl ⟨rfl, hok, Hge.out, hle, fun j hj => by omega⟩
    clear hle hok
    go_enter Tryz.func43, Tryz.ntmps43
    go_wp2_with fail
    refine (HC2.out _ (Hl.out.grow (by repeat (first | exact Below.refl _ _ | assumption | (refine Below.setCell ?_ (by first | omega | (simp; done) | (simp; omega)) _) | (refine Below.alloc ?_ (by first | omega | (simp; done) | (simp; omega)) _) | refine Below.drew ?_ | (refine below_thru ?_ (by assumption) (by first | omega | (simp; done) | (simp; omega))) | refine below_drewN ?_ _)))).mono ?_
    rintro e ws ⟨rfl, hb1⟩
    have hSt : Blk ws w.heap.size 25 #[.slice l.gA l.gn l.gc, .slice l.rA l.rn l.rc] := Blk.thru (by (repeat (first | assumption | exact Blk.new _ _ _ | (refine Blk.new' _ _ _ ?_; (simp; done)) | refine Blk.drew ?_ | refine Blk.alloc ?_ _ | (refine Blk.fars ?_ ?_ _ _; rotate_left; (dsimp only; omega)) | (refine Blk.far ?_ ?_ _; rotate_left; (first | (dsimp only; omega) | (simp; done) | (simp; omega) | omega))))) hb1 (by simp <;> omega)
    have hws : Below w.heap.size w ws := (by repeat (first | exact Below.refl _ _ | assumption | (refine Below.setCell ?_ (by first | omega | (simp; done) | (simp; omega)) _) | (refine Below.alloc ?_ (by first | omega | (simp; done) | (simp; omega)) _) | refine Below.drew ?_ | (refine below_thru ?_ (by assumption) (by first | omega | (simp; done) | (simp; omega))) | refine below_drewN ?_ _))
    obtain ⟨s0, s1, _, _⟩ := hSt.two
    have hsl := hSt.lt
    have HSt := Lib.hid hSt
    clear hb1 hSt
    go_wp2
  all_goals
    go_loopw [13, 14] (fun e i wr => ∃ (k : Nat) (ee : Int), k ≤ l.gn ∧ i = .int .i64 k ∧ e = .int .i64 ee ∧ Hid (Rel ee k) ∧ Hid (Blk wr w.heap.size 25 #[.slice l.gA l.gn l.gc, .slice l.rA l.rn l.rc]) ∧ Below w.heap.size w wr)
      (fun e i _ => l.gn - (intOf i).toNat)
    case atStart => exact ⟨0, _, Nat.zero_le _, rfl, rfl, hst.out, HSt.out, hws⟩
    case round =>
      obtain ⟨k, ee, hk, rfl, rfl, hR, hset, hbr⟩ := hrel
      clear hst HSt s0 s1
      have hzr := hset.out.lt
      obtain ⟨s0, s1, _, _⟩ := hset.out.two
      by_cases hee : ee = 0
      · subst hee
        have hR' := hR.out
        rw [HRel.out] at hR'
        obtain ⟨_, hok, hs0, hle, hpr⟩ := hR'.resolve_right (fun h => h.1 rfl)
        obtain ⟨e1, e2, e3⟩ := lens_of hle
        clear hR' hR
        by_cases hlt : k < l.gn
        · obtain ⟨g, hgk⟩ := get_lt Hlen.out.1 hlt
          obtain ⟨s, hsk⟩ := get_lt Hlen.out.2.1 (by omega : k < sn)
          obtain ⟨t, htk⟩ := get_lt Hlen.out.2.2 (by omega : k < tn)
          obtain ⟨gb, off, hA, hgb, hrow⟩ := Hl.out.g.row hgk
          obtain ⟨sb, so, hB, hsb, c0, c1, c2⟩ := Hs.out.three (k := k) (x := .int .i64 s.pos) (y := .int .i64 s.charge) (z := .bool s.bolted) (by simp [hsk])
          obtain ⟨tb, tp, hC', htb, d0, d1, d2, d3⟩ := Ht.out.four (k := k) (x := .int .i64 t.order) (y := .bool t.power) (z := .int .i64 t.outer) (u := .int .i64 t.inner) (by simp [htk])
          have hme : moveE l ss ts k = stepFt g s t := by unfold moveE; rw [gAt_of hgk, sAt_of hsk, tAt_of htk]
          have hgf : (gateF g).e = 0 := set_gate Hlen.out.1 hs0 hgk
          have hvr : validR g s t = (moveE l ss ts k).e := by rw [hme, step_valid, if_pos hgf]
          have HV := Lib.hid (fun W => rvalid_any g s t W)
          rw [hvr] at HV
          have kc : ∀ (q : Addr) (v : Value), q.block < w.heap.size → w.cell? q = some v → wr.cell? q = some v := fun q v hq h => (hbr.cell hq).trans h
          have hset' := hset.out
          rw [hA] at hset' s0
          have HR := Lib.hid (show MvR wr w.heap.size (.slice (some ⟨gb, off, none⟩) l.gn l.gc) (.slice l.rA l.rn l.rc) gb (off + k * 21) g sb (so + k * 3) s tb (tp + k * 4) t from ⟨hset', fun j v hv => kc _ _ hgb (hrow j v hv), kc _ _ hsb c0, kc _ _ hsb c1, kc _ _ hsb c2, kc _ _ htb d0, kc _ _ htb d1, kc _ _ htb d2, kc _ _ htb d3⟩)
          have Hst := Lib.hid (And.intro hok (And.intro hs0 (And.intro hle hpr)))
          have HA := Lib.hid hA
          have j0 : (0 : Int) ≤ (k : Int) := Int.natCast_nonneg _
          have j1 : (k : Int) < (l.gn : Int) := by omega
          have j2 : (k : Int) < (sn : Int) := by omega
          have j3 : (k : Int) < (tn : Int) := by omega
          subst hB hC'
          clear hgk hsk htk hme hgf hvr kc hset' c0 c1 c2 d0 d1 d2 d3 hrow hA hok hs0 hle hpr hset e1 e2 e3
          have HE := Lib.hid (fun h1 h2 => mo_e5 (ss := ss) (ts := ts) (sn := sn) (tn := tn) (pn := pn) Hst.out.2.1 Hst.out.2.2.1 h1 Hst.out.2.2.2 (k := k) h2)
          have Hnext := Lib.hid (fun (h : (moveE l ss ts k).e = 0) => (show ∀ j, j < k + 1 → (moveE l ss ts j).e = 0 from fun j hj => by
            rcases Nat.lt_or_ge j k with h1 | h1
            · exact Hst.out.2.2.2 j h1
            · obtain rfl : j = k := by omega
              exact h))
          obtain ⟨vk, hvk⟩ : ∃ vk, (moveE l ss ts k).e = vk := ⟨_, rfl⟩
          rw [hvk] at HV
          have hrel : Hid (Rel vk (k + 1)) := by
            unfold Hid
            rw [HRel.out]
            by_cases hv : vk = 0
            · exact .inl ⟨hv, Hst.out.1, Hst.out.2.1, Hst.out.2.2.1, Hnext.out (hvk.trans hv)⟩
            · exact .inr ⟨hv, by rw [HE.out hlt (by rw [hvk]; exact hv)]; exact hvk⟩
          clear hvk HE Hnext Hst
          go_wp2_with fail
          refine wp_region_held (S := fun W' => MvR W' w.heap.size (.slice (some ⟨gb, off, none⟩) l.gn l.gc) (.slice l.rA l.rn l.rc) gb (off + k * 21) g sb (so + k * 3) s tb (tp + k * 4) t) (by kernel_rfl) (by exact HR.out.drew) (fun hHeld => ?_)
          refine wpAnyH_take (i := 0) (v := ?_) rfl (by kernel_rfl) (by kernel_rfl) (by kernel_rfl) (fun _ _ _ h => h) (Or.inl ⟨by kernel_rfl, ?_⟩) hHeld ?_
          rotate_left
          · intro w hSw; (try dsimp only at hSw); obtain ⟨x1, _, c0, c1, c2, d0, d1, d2, d3⟩ := hSw; have s0 := x1.cell 0; have s1 := x1.cell 1; simp only [List.getElem?_toArray, List.getElem?_cons_zero, List.getElem?_cons_succ] at s0 s1; go_simp; (try with_reducible rfl)
          (try simp only [Act.put, List.setIfInBounds_toArray, List.set_cons_zero, List.set_cons_succ])
          refine wpAnyH_take (i := 1) (v := ?_) rfl (by kernel_rfl) (by kernel_rfl) (by kernel_rfl) (fun _ _ _ h => h) (Or.inl ⟨by kernel_rfl, ?_⟩) hHeld ?_
          rotate_left
          · intro w hSw; (try dsimp only at hSw); obtain ⟨x1, _, c0, c1, c2, d0, d1, d2, d3⟩ := hSw; have s0 := x1.cell 0; have s1 := x1.cell 1; simp only [List.getElem?_toArray, List.getElem?_cons_zero, List.getElem?_cons_succ] at s0 s1; go_simp; (try with_reducible rfl)
          (try simp only [Act.put, List.setIfInBounds_toArray, List.set_cons_zero, List.set_cons_succ])
          refine wpAnyH_take (i := 2) (v := ?_) rfl (by kernel_rfl) (by kernel_rfl) (by kernel_rfl) (fun _ _ _ h => h) (Or.inl ⟨by kernel_rfl, ?_⟩) hHeld ?_
          rotate_left
          · intro w hSw; (try dsimp only at hSw); obtain ⟨x1, _, c0, c1, c2, d0, d1, d2, d3⟩ := hSw; have s0 := x1.cell 0; have s1 := x1.cell 1; simp only [List.getElem?_toArray, List.getElem?_cons_zero, List.getElem?_cons_succ] at s0 s1; go_simp; (try with_reducible rfl)
          (try simp only [Act.put, List.setIfInBounds_toArray, List.set_cons_zero, List.set_cons_succ])
          refine wpAnyH_take (i := 3) (v := ?_) rfl (by kernel_rfl) (by kernel_rfl) (by kernel_rfl) (fun _ _ _ h => h) (Or.inl ⟨by kernel_rfl, ?_⟩) hHeld ?_
          rotate_left
          · intro w hSw; (try dsimp only at hSw); obtain ⟨x1, _, c0, c1, c2, d0, d1, d2, d3⟩ := hSw; have s0 := x1.cell 0; have s1 := x1.cell 1; simp only [List.getElem?_toArray, List.getElem?_cons_zero, List.getElem?_cons_succ] at s0 s1; go_simp; (try with_reducible rfl)
          (try simp only [Act.put, List.setIfInBounds_toArray, List.set_cons_zero, List.set_cons_succ])
          (try simp only [List.getElem_toArray, List.getElem_cons_zero, List.getElem_cons_succ, Act.put, List.setIfInBounds_toArray, List.set_cons_zero, List.set_cons_succ])
          refine wpAnyH_take (i := 4) (v := g.v) rfl (by kernel_rfl) (by kernel_rfl) (by kernel_rfl) (fun _ _ _ h => h) (Or.inl ⟨by rfl, fun w hSw => ld_gm rfl rfl hSw.g⟩) hHeld ?_
          (try simp only [Act.put, List.setIfInBounds_toArray, List.set_cons_zero, List.set_cons_succ])
          refine wpAnyH_take (i := 5) (v := ?_) rfl (by kernel_rfl) (by kernel_rfl) (by kernel_rfl) (fun _ _ _ h => h) (Or.inl ⟨by kernel_rfl, ?_⟩) hHeld ?_
          rotate_left
          · intro w hSw; (try dsimp only at hSw); obtain ⟨x1, _, c0, c1, c2, d0, d1, d2, d3⟩ := hSw; have s0 := x1.cell 0; have s1 := x1.cell 1; simp only [List.getElem?_toArray, List.getElem?_cons_zero, List.getElem?_cons_succ] at s0 s1; go_simp; (try with_reducible rfl)
          (try simp only [Act.put, List.setIfInBounds_toArray, List.set_cons_zero, List.set_cons_succ])
          refine wpAnyH_take (i := 6) (v := ?_) rfl (by kernel_rfl) (by kernel_rfl) (by kernel_rfl) (fun _ _ _ h => h) (Or.inl ⟨by kernel_rfl, ?_⟩) hHeld ?_
          rotate_left
          · intro w hSw; (try dsimp only at hSw); obtain ⟨x1, _, c0, c1, c2, d0, d1, d2, d3⟩ := hSw; have s0 := x1.cell 0; have s1 := x1.cell 1; simp only [List.getElem?_toArray, List.getElem?_cons_zero, List.getElem?_cons_succ] at s0 s1; go_simp; (try with_reducible rfl)
          (try simp only [Act.put, List.setIfInBounds_toArray, List.set_cons_zero, List.set_cons_succ])
          refine wpAnyH_take (i := 7) (v := ?_) rfl (by kernel_rfl) (by kernel_rfl) (by kernel_rfl) (fun _ _ _ h => h) (Or.inl ⟨by kernel_rfl, ?_⟩) hHeld ?_
          rotate_left
          · intro w hSw; (try dsimp only at hSw); obtain ⟨x1, _, c0, c1, c2, d0, d1, d2, d3⟩ := hSw; have s0 := x1.cell 0; have s1 := x1.cell 1; simp only [List.getElem?_toArray, List.getElem?_cons_zero, List.getElem?_cons_succ] at s0 s1; go_simp; (try with_reducible rfl)
          (try simp only [Act.put, List.setIfInBounds_toArray, List.set_cons_zero, List.set_cons_succ])
          refine wpAnyH_take (i := 8) (v := ?_) rfl (by kernel_rfl) (by kernel_rfl) (by kernel_rfl) (fun _ _ _ h => h) (Or.inl ⟨by kernel_rfl, ?_⟩) hHeld ?_
          rotate_left
          · intro w hSw; (try dsimp only at hSw); obtain ⟨x1, _, c0, c1, c2, d0, d1, d2, d3⟩ := hSw; have s0 := x1.cell 0; have s1 := x1.cell 1; simp only [List.getElem?_toArray, List.getElem?_cons_zero, List.getElem?_cons_succ] at s0 s1; go_simp; (try with_reducible rfl)
          (try simp only [Act.put, List.setIfInBounds_toArray, List.set_cons_zero, List.set_cons_succ])
          refine wpAnyH_take (i := 9) (v := ?_) rfl (by kernel_rfl) (by kernel_rfl) (by kernel_rfl) (fun _ _ _ h => h) (Or.inl ⟨by kernel_rfl, ?_⟩) hHeld ?_
          rotate_left
          · intro w hSw; (try dsimp only at hSw); obtain ⟨x1, _, c0, c1, c2, d0, d1, d2, d3⟩ := hSw; have s0 := x1.cell 0; have s1 := x1.cell 1; simp only [List.getElem?_toArray, List.getElem?_cons_zero, List.getElem?_cons_succ] at s0 s1; go_simp; (try with_reducible rfl)
          (try simp only [Act.put, List.setIfInBounds_toArray, List.set_cons_zero, List.set_cons_succ])
          refine wpAnyH_take (i := 10) (v := ?_) rfl (by kernel_rfl) (by kernel_rfl) (by kernel_rfl) (fun _ _ _ h => h) (Or.inl ⟨by kernel_rfl, ?_⟩) hHeld ?_
          rotate_left
          · intro w hSw; (try dsimp only at hSw); obtain ⟨x1, _, c0, c1, c2, d0, d1, d2, d3⟩ := hSw; have s0 := x1.cell 0; have s1 := x1.cell 1; simp only [List.getElem?_toArray, List.getElem?_cons_zero, List.getElem?_cons_succ] at s0 s1; go_simp; (try with_reducible rfl)
          (try simp only [Act.put, List.setIfInBounds_toArray, List.set_cons_zero, List.set_cons_succ])
          refine wpAnyH_take (i := 11) (v := ?_) rfl (by kernel_rfl) (by kernel_rfl) (by kernel_rfl) (fun _ _ _ h => h) (Or.inl ⟨by kernel_rfl, ?_⟩) hHeld ?_
          rotate_left
          · intro w hSw; (try dsimp only at hSw); obtain ⟨x1, _, c0, c1, c2, d0, d1, d2, d3⟩ := hSw; have s0 := x1.cell 0; have s1 := x1.cell 1; simp only [List.getElem?_toArray, List.getElem?_cons_zero, List.getElem?_cons_succ] at s0 s1; go_simp; (try with_reducible rfl)
          (try simp only [Act.put, List.setIfInBounds_toArray, List.set_cons_zero, List.set_cons_succ])
          refine wpAnyH_take (i := 12) (v := ?_) rfl (by kernel_rfl) (by kernel_rfl) (by kernel_rfl) (fun _ _ _ h => h) (Or.inl ⟨by kernel_rfl, ?_⟩) hHeld ?_
          rotate_left
          · intro w hSw; (try dsimp only at hSw); obtain ⟨x1, _, c0, c1, c2, d0, d1, d2, d3⟩ := hSw; have s0 := x1.cell 0; have s1 := x1.cell 1; simp only [List.getElem?_toArray, List.getElem?_cons_zero, List.getElem?_cons_succ] at s0 s1; go_simp; (try with_reducible rfl)
          (try simp only [Act.put, List.setIfInBounds_toArray, List.set_cons_zero, List.set_cons_succ])
          (try simp only [List.getElem_toArray, List.getElem_cons_zero, List.getElem_cons_succ, Act.put, List.setIfInBounds_toArray, List.set_cons_zero, List.set_cons_succ])
          refine wpAnyH_ready (rs := [13]) (by kernel_rfl) (by simp) ?_
          refine AllReadyH.cons rfl (fun K hK => ?_) AllReadyH.nil
          go_simp
          refine (HV.out _).mono ?_
          rintro e w3 ⟨rfl, hb3⟩; have hz3 := hb3.size; (try simp at hz3)
          (try dsimp only)
          refine hK.out _ _ (by exact hHeld.below hb3) (fun hHeld => ?_)
          clear hK K
          (try simp only [Act.put, List.setIfInBounds_toArray, List.set_cons_zero, List.set_cons_succ])
          refine wpAnyH_take (i := 14) (v := ?_) rfl (by kernel_rfl) (by kernel_rfl) (by kernel_rfl) (fun _ _ _ h => h) (Or.inl ⟨by kernel_rfl, ?_⟩) hHeld ?_
          rotate_left
          · intro w hSw; (try dsimp only at hSw); skip; go_simp; (try with_reducible rfl)
          (try simp only [Act.put, List.setIfInBounds_toArray, List.set_cons_zero, List.set_cons_succ])
          refine wpAnyH_done (by kernel_rfl) ?_ _
          (try simp only [List.getElem_toArray, List.getElem_cons_zero, List.getElem_cons_succ, Act.put, List.setIfInBounds_toArray, List.set_cons_zero, List.set_cons_succ])
          have hw3 : Below w.heap.size w w3 := (hbr.drew).trans (hb3.mono (show w.heap.size ≤ wr.heap.size by omega))
          have hs3 := Lib.hid (show Blk w3 w.heap.size 25 #[.slice l.gA l.gn l.gc, .slice l.rA l.rn l.rc] by rw [HA.out]; exact hHeld.l)
          clear hHeld hb3 s0 s1
          go_wp2
          go_roundw
          case rel => exact ⟨k + 1, vk, by omega, by go_num, rfl, hrel.out, hs3.out, hw3⟩
          case measure => simp [intOf]; omega
        · obtain rfl : k = l.gn := by omega
          have hE := mo_e6 (ss := ss) (ts := ts) (sn := sn) (tn := tn) (pn := pn) hs0 hle hpr
          obtain ⟨o1, o2, o3, o4, o5, o6⟩ := move_ok Hl.out Hs.out Ht.out hE
          have HT := Lib.hid (fun (W : World) (hW : Below w.heap.size w W) => (show Calls Tryz.prog 97 #[.agg #[.slice l.gA l.gn l.gc, .slice l.rA l.rn l.rc], .slice sA sn sc, .slice tA tn tc, .slice pA pn pc] W fun e w' => ∃ (A : Option Addr) (c : Nat) (B : Option Addr) (d : Nat), e = .returned (.tuple #[.slice A l.gn c, .slice B l.gn d]) ∧
      Tab w' w'.heap.size A l.gn 3 ((moveS l ss ts ps).map Gs.cells) ∧ Tab w' w'.heap.size B l.gn 3 ((moveM l ss ts ps).map Gm.cells) ∧ l.gn ≤ c ∧ Below W.heap.size W w' from by
            have g1 := Hs.out.grow hW
            have g2 := Ht.out.grow hW
            have g3 := Hp.out.grow hW
            rw [o2] at g1
            rw [o3] at g2
            rw [o4] at g3
            rw [o2, o3, o4]
            exact rtogether_any l ss ts ps sA tA pA sc tc pc W (Hl.out.grow hW) g1 g2 g3 o1 o5 o6))
          have HE := Lib.hid hE
          clear hE o1 o2 o3 o4 o5 o6 hok hs0 hle hpr e1 e2 e3 hlt hk
          go_wp2_with fail
          refine (HT.out _ hbr).mono ?_
          rintro e w3 ⟨A, c, B, d, rfl, t1, t2, _, hb3⟩
          have Hfin := Lib.hid (show MovePost l ss sn ts tn ps pn w (.returned (.tuple #[.slice A l.gn c, .slice B l.gn d, .int .i64 0])) w3 from ⟨fun _ => ⟨A, c, B, d, rfl, t1, t2, hbr.trans (hb3.mono hbr.size)⟩, fun h => absurd HE.out h⟩)
          clear t1 t2 hb3 s0 s1
          go_wp2
          go_ret3
          exact Hfin.out
      · have hR' := hR.out
        rw [HRel.out] at hR'
        obtain ⟨h1, h2⟩ := hR'.resolve_left (fun h => hee h.1)
        have q := (show (ee == 0) = false by rw [beq_eq_false_iff_ne]; exact hee)
        have q2 := (show (ee != 0) = true by rw [bne_iff_ne]; exact hee)
        have Hfin := Lib.hid (show MovePost l ss sn ts tn ps pn w (.returned (.tuple #[.slice none 0 0, .slice none 0 0, .int .i64 ee])) wr from ⟨fun h => absurd (h2.symm.trans h) hee, fun _ => ⟨by rw [h2], hbr⟩⟩)
        clear hR' hR h1 h2 hee
        by_cases hlt : k < l.gn
        · go_wp2
          go_ret3
          exact Hfin.out
        · go_wp2
          go_ret3
          exact Hfin.out
end Go.Proofs.YtgdomaddjiggaaaGreat
