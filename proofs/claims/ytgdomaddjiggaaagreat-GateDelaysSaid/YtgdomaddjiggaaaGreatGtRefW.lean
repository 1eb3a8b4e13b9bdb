/- The reference: Delay. -/
import Derived.Test.YtgdomaddjiggaaaGreatGtRefV
namespace Go.Proofs.YtgdomaddjiggaaaGreat
open Go.RowKit
set_option linter.unusedSimpArgs false
set_option linter.unusedVariables false

theorem newMs_fst (ms : List (Ga × Gs)) (f : Nat → Gs) (k : Nat) : (newMs ms f k).map (·.1) = ms.map (·.1) := by
  apply List.ext_getElem?
  intro j
  rw [List.getElem?_map, List.getElem?_map]
  by_cases hj : j < k
  · rw [newMs_at ms f k j hj]
    cases ms[j]? <;> rfl
  · rw [newMs_get ms f k j (by omega)]
theorem machs_next {gs : List Ga} {ss : List Gs} (h : gs.length ≤ ss.length) (rs : List Gr) (rn : Nat) (t : Gt) (n : Nat) : machs gs ((stepMs (machs gs ss) rs rn t n).map (·.2)) = stepMs (machs gs ss) rs rn t n := by
  refine (List.zip_of_prod ?_ rfl).symm
  show (stepMs (machs gs ss) rs rn t n).map (·.1) = gs
  unfold stepMs
  rw [newMs_fst]
  unfold machs
  exact List.map_fst_zip h
def upB (ms : List (Ga × Gs)) (j : Nat) : Bool := (List.range j).all fun i => !ajarB ms i
theorem upB_shut (ms : List (Ga × Gs)) (n : Nat) : upB ms n = shutB ms n := by unfold upB shutB; rw [List.not_any_eq_all_not]
theorem upB_next (ms : List (Ga × Gs)) (j : Nat) : upB ms (j + 1) = (upB ms j && !ajarB ms j) := by unfold upB; rw [List.range_succ, List.all_append]; simp
def mT (t : Gt) (k : Nat) : List Value := ((List.replicate k t).map Gt.cells).flatten
theorem mT_next (t : Gt) (k : Nat) : mT t (k + 1) = mT t k ++ t.cells := by unfold mT; rw [List.replicate_succ', List.map_append, List.flatten_append]; rfl
theorem mnews4 (w : World) (t : TypeId) (a b c d : Value) : ∀ (j : Nat) (u : Value), [a, b, c, d][j]? = some u → (w.alloc (.cells #[a, b, c, d] t)).cell? ((⟨w.heap.size, 0, none⟩ : Addr).add j) = some u := by
  intro j u h
  match j, h with
  | 0, h => cases h; exact (Blk.new w t #[a, b, c, d]).cell 0
  | 1, h => cases h; exact (Blk.new w t #[a, b, c, d]).cell 1
  | 2, h => cases h; exact (Blk.new w t #[a, b, c, d]).cell 2
  | 3, h => cases h; exact (Blk.new w t #[a, b, c, d]).cell 3
section
variable {l : St} {ss : List Gs} {sn : Nat} {t : Gt}
theorem de_e1 (h : (setFt l).e ≠ 0) : (delayFt l ss sn t).e = (setFt l).e := by
  unfold delayFt
  rw [firstF_at _ 0 (setFt l) rfl h fun j f hj => by omega]
theorem de_e2 (h : (setFt l).e = 0) (hl : ((sn : Int) == (l.gn : Int)) = false) : (delayFt l ss sn t).e = 2 := by
  unfold delayFt
  simp only [firstF, h, hl, if_true]
  rfl
theorem de_e3 (h : (setFt l).e = 0) (hl : ((sn : Int) == (l.gn : Int)) = true) : (delayFt l ss sn t).e = (eachF (delayE l ss t) 0 l.gn).e := by
  unfold delayFt
  simp only [firstF, h, hl, if_true, need]
  split
  · rename_i h0; rw [h0]
  · rfl
theorem de_e5 (h : (setFt l).e = 0) (hl : ((sn : Int) == (l.gn : Int)) = true) {k : Nat} (hk : k < l.gn) (hp : ∀ j, j < k → (delayE l ss t j).e = 0) (hb : (delayE l ss t k).e ≠ 0) : (delayFt l ss sn t).e = (delayE l ss t k).e := by
  rw [de_e3 h hl, each_at _ _ k hk hp hb]
theorem de_e6 (h : (setFt l).e = 0) (hl : ((sn : Int) == (l.gn : Int)) = true) (hp : ∀ j, j < l.gn → (delayE l ss t j).e = 0) : (delayFt l ss sn t).e = 0 := by
  rw [de_e3 h hl, each_none _ _ hp]
end
/-- What a round reads. -/
structure DvS (W : World) (lb : Nat) (gv rv : Value) (gb go : Nat) (g : Ga) (sb so : Nat) (s : Gs) (tb : Nat) (tv : Array Value) : Prop where
  l : Blk W lb 25 #[gv, rv]
  g : W.rangeAt gb go g.cells
  c0 : W.cell? ⟨sb, so, none⟩ = some (.int .i64 s.pos)
  c1 : W.cell? ⟨sb, so + 1, none⟩ = some (.int .i64 s.charge)
  c2 : W.cell? ⟨sb, so + 2, none⟩ = some (.bool s.bolted)
  t : Blk W tb 49 tv
section
variable {W W' : World} {lb gb go sb so tb : Nat} {gv rv : Value} {tv : Array Value} {g : Ga} {s : Gs}
theorem DvS.below (h : DvS W lb gv rv gb go g sb so s tb tv) (hb : Below W.heap.size W W') : DvS W' lb gv rv gb go g sb so s tb tv := by
  have k : ∀ (q : Addr) (v : Value), W.cell? q = some v → W'.cell? q = some v := fun q v hq => (hb.cell (World.block_lt_of_cell? W q hq)).trans hq
  exact ⟨h.l.thru hb h.l.lt, fun j v hv => k _ _ (h.g j v hv), k _ _ h.c0, k _ _ h.c1, k _ _ h.c2, h.t.thru hb h.t.lt⟩
theorem DvS.drew (h : DvS W lb gv rv gb go g sb so s tb tv) : DvS W.drew lb gv rv gb go g sb so s tb tv := ⟨h.l, h.g, h.c0, h.c1, h.c2, h.t⟩
end

set_option maxRecDepth 100000 in
set_option maxHeartbeats 16000000 in
theorem rDelay_any (l : St) (ss : List Gs) (sA : Option Addr) (sn sc : Nat) (outer inner : Int) (power : Bool) (w : World) (hl : l.At w w.heap.size) (hs : Tab w w.heap.size sA sn 3 (ss.map Gs.cells)) (hsm : sn ≤ maxLen) :
    Calls Tryz.prog 45 #[l.v, .slice sA sn sc, .int .i64 outer, .int .i64 inner, .bool power] w fun e w' => e = .returned (pairV (delayR l ss sn ⟨1, power, outer, inner⟩)) ∧ Below w.heap.size w w' := by
  obtain ⟨t, ht⟩ : ∃ t : Gt, t = ⟨1, power, outer, inner⟩ := ⟨_, rfl⟩
  have htv : t.v = .agg #[.int .i64 1, .bool power, .int .i64 outer, .int .i64 inner] := by rw [ht]
  have htc : t.cells = [.int .i64 1, .bool power, .int .i64 outer, .int .i64 inner] := by rw [ht]
  rw [← ht]
  have hgm := hl.gn
  unfold maxLen at hsm hgm
  have hgl := hl.g.len
  have hsl : ss.length = sn := by have := hs.1; simpa using this
  have Hl := Lib.hid hl
  have Hs := Lib.hid hs
  have Hlen := Lib.hid (And.intro hgl hsl)
  have Htv := Lib.hid htv
  have Htc := Lib.hid htc
  have HC := Lib.hid (fun W h => rCheckSet_any l W h)
  obtain ⟨fp, fa, ge, hfl⟩ : ∃ fp fa ge, setFt l = ⟨fp, fa, ge⟩ := ⟨_, _, _, rfl⟩
  have hge : (setFt l).e = ge := by rw [hfl]
  rw [hfl] at HC
  have HC2 := Lib.hid (show ∀ W, l.At W W.heap.size → Calls Tryz.prog 21 #[.agg #[.slice l.gA l.gn l.gc, .slice l.rA l.rn l.rc]] W fun e w' => e = .returned (.tuple #[.int .i64 fp, .int .i64 fa, .int .i64 ge]) ∧ Below W.heap.size W w' from HC.out)
  clear HC
  obtain ⟨i0, hi, hz0, hz1, hz2⟩ := info_parts infoStep
  have HI := Lib.hid (And.intro hi (And.intro hz0 (And.intro hz1 hz2)))
  obtain ⟨i1, hi', hz0', hz1', hz2'⟩ := info_parts infoBool
  have HJ := Lib.hid (And.intro hi' (And.intro hz0' (And.intro hz1' hz2')))
  obtain ⟨R, hR⟩ : ∃ R, delayR l ss sn t = R := ⟨_, rfl⟩
  have HR := Lib.hid hR
  rw [hR]
  obtain ⟨Rel, hRel⟩ : ∃ Rel : Int → Nat → Prop, Rel = fun ee k => (ee = 0 ∧ l.Ok ∧ (setFt l).e = 0 ∧ ((sn : Int) == (l.gn : Int)) = true ∧ (∀ j, j < k → (delayE l ss t j).e = 0)) ∨ (ee ≠ 0 ∧ (delayFt l ss sn t).e = ee) := ⟨_, rfl⟩
  have start : (ge ≠ 0 ∧ (delayFt l ss sn t).e = ge) ∨ (ge = 0 ∧ ((sn : Int) != (l.gn : Int)) = true ∧ (delayFt l ss sn t).e = 2) ∨ (ge = 0 ∧ ((sn : Int) != (l.gn : Int)) = false ∧ ((sn : Int) == (l.gn : Int)) = true ∧ l.Ok) := by
    by_cases h0 : ge = 0
    · have hs0 := hge.trans h0
      cases h1 : ((sn : Int) == (l.gn : Int))
      · exact .inr (.inl ⟨h0, by simp [bne, h1], de_e2 hs0 h1⟩)
      · exact .inr (.inr ⟨h0, by simp [bne, h1], rfl, setFt_ok l w _ hl hs0⟩)
    · exact .inl ⟨h0, by rw [de_e1 (by rw [hge]; exact h0)]; exact hge⟩
  have Hge := Lib.hid hge
  have HRel := Lib.hid hRel
  clear hfl hge hl hs hRel hgl hsl hi hz0 hz1 hz2 hi' hz0' hz1' hz2' ht htv htc hR
  rcases start with ⟨h0, hE⟩ | ⟨h0, b1, hE⟩ | ⟨h0, b1, b2, hok⟩
  case' inl =>
    have hst : Hid (Rel ge 0) := by unfold Hid; rw [HRel.out]; exact .inr ⟨h0, hE⟩
    have q0 : (ge == 0) = false := by rw [beq_eq_false_iff_ne]; exact h0
    clear h0 hE
    go_enter Tryz.func45, Tryz.ntmps45
    go_wp2_with fail
    refine (HC2.out _ (Hl.out.grow (by repeat (first | exact Below.refl _ _ | assumption | (refine Below.setCell ?_ (by first | omega | (simp; done) | (simp; omega)) _) | (refine Below.alloc ?_ (by first | omega | (simp; done) | (simp; omega)) _) | refine Below.drew ?_ | (refine below_thru ?_ (by assumption) (by first | omega | (simp; done) | (simp; omega))) | refine below_drewN ?_ _)))).mono ?_
    rintro e ws ⟨rfl, hb1⟩
    have hSt : Blk ws w.heap.size 25 #[.slice l.gA l.gn l.gc, .slice l.rA l.rn l.rc] := Blk.thru (by (repeat (first | assumption | exact Blk.new _ _ _ | (refine Blk.new' _ _ _ ?_; (simp; done)) | refine Blk.drew ?_ | refine Blk.alloc ?_ _ | (refine Blk.fars ?_ ?_ _ _; rotate_left; (dsimp only; omega)) | (refine Blk.far ?_ ?_ _; rotate_left; (first | (dsimp only; omega) | (simp; done) | (simp; omega) | omega))))) hb1 (by simp <;> omega)
    have hTb : Blk ws (w.heap.size + 1) 49 #[.int .i64 1, .bool power, .int .i64 outer, .int .i64 inner] := Blk.thru (by (repeat (first | assumption | exact Blk.new _ _ _ | (refine Blk.new' _ _ _ ?_; (simp; done)) | refine Blk.drew ?_ | refine Blk.alloc ?_ _ | (refine Blk.fars ?_ ?_ _ _; rotate_left; (dsimp only; omega)) | (refine Blk.far ?_ ?_ _; rotate_left; (first | (dsimp only; omega) | (simp; done) | (simp; omega) | omega))))) hb1 (by simp <;> omega)
    have hws : Below w.heap.size w ws := (by repeat (first | exact Below.refl _ _ | assumption | (refine Below.setCell ?_ (by first | omega | (simp; done) | (simp; omega)) _) | (refine Below.alloc ?_ (by first | omega | (simp; done) | (simp; omega)) _) | refine Below.drew ?_ | (refine below_thru ?_ (by assumption) (by first | omega | (simp; done) | (simp; omega))) | refine below_drewN ?_ _))
    obtain ⟨s0, s1, _, _⟩ := hSt.two
    have hsl := hSt.lt
    have HSt := Lib.hid hSt
    have HTb := Lib.hid hTb
    clear hb1 hSt hTb
    go_wp2
  case' inr.inl =>
    subst h0
    have hst : Hid (Rel 2 0) := by unfold Hid; rw [HRel.out]; exact .inr ⟨by omega, hE⟩
    clear hE
    go_enter Tryz.func45, Tryz.ntmps45
    go_wp2_with fail
    refine (HC2.out _ (Hl.out.grow (by repeat (first | exact Below.refl _ _ | assumption | (refine Below.setCell ?_ (by first | omega | (simp; done) | (simp; omega)) _) | (refine Below.alloc ?_ (by first | omega | (simp; done) | (simp; omega)) _) | refine Below.drew ?_ | (refine below_thru ?_ (by assumption) (by first | omega | (simp; done) | (simp; omega))) | refine below_drewN ?_ _)))).mono ?_
    rintro e ws ⟨rfl, hb1⟩
    have hSt : Blk ws w.heap.size 25 #[.slice l.gA l.gn l.gc, .slice l.rA l.rn l.rc] := Blk.thru (by (repeat (first | assumption | exact Blk.new _ _ _ | (refine Blk.new' _ _ _ ?_; (simp; done)) | refine Blk.drew ?_ | refine Blk.alloc ?_ _ | (refine Blk.fars ?_ ?_ _ _; rotate_left; (dsimp only; omega)) | (refine Blk.far ?_ ?_ _; rotate_left; (first | (dsimp only; omega) | (simp; done) | (simp; omega) | omega))))) hb1 (by simp <;> omega)
    have hTb : Blk ws (w.heap.size + 1) 49 #[.int .i64 1, .bool power, .int .i64 outer, .int .i64 inner] := Blk.thru (by (repeat (first | assumption | exact Blk.new _ _ _ | (refine Blk.new' _ _ _ ?_; (simp; done)) | refine Blk.drew ?_ | refine Blk.alloc ?_ _ | (refine Blk.fars ?_ ?_ _ _; rotate_left; (dsimp only; omega)) | (refine Blk.far ?_ ?_ _; rotate_left; (first | (dsimp only; omega) | (simp; done) | (simp; omega) | omega))))) hb1 (by simp <;> omega)
    have hws : Below w.heap.size w ws := (by repeat (first | exact Below.refl _ _ | assumption | (refine Below.setCell ?_ (by first | omega | (simp; done) | (simp; omega)) _) | (refine Below.alloc ?_ (by first | omega | (simp; done) | (simp; omega)) _) | refine Below.drew ?_ | (refine below_thru ?_ (by assumption) (by first | omega | (simp; done) | (simp; omega))) | refine below_drewN ?_ _))
    obtain ⟨s0, s1, _, _⟩ := hSt.two
    have hsl := hSt.lt
    have HSt := Lib.hid hSt
    have HTb := Lib.hid hTb
    clear hb1 hSt hTb
    go_wp2
  case' inr.inr =>
    subst h0
    have hst : Hid (Rel 0 0) := by unfold Hid; rw [HRel.out]; exact .inl ⟨rfl, hok, Hge.out, b2, fun j hj => by omega⟩
    clear b2 hok
    go_enter Tryz.func45, Tryz.ntmps45
    go_wp2_with fail
    refine (HC2.out _ (Hl.out.grow (by repeat (first | exact Below.refl _ _ | assumption | (refine Below.setCell ?_ (by first | omega | (simp; done) | (simp; omega)) _) | (refine Below.alloc ?_ (by first | omega | (simp; done) | (simp; omega)) _) | refine Below.drew ?_ | (refine below_thru ?_ (by assumption) (by first | omega | (simp; done) | (simp; omega))) | refine below_drewN ?_ _)))).mono ?_
    rintro e ws ⟨rfl, hb1⟩
    have hSt : Blk ws w.heap.size 25 #[.slice l.gA l.gn l.gc, .slice l.rA l.rn l.rc] := Blk.thru (by (repeat (first | assumption | exact Blk.new _ _ _ | (refine Blk.new' _ _ _ ?_; (simp; done)) | refine Blk.drew ?_ | refine Blk.alloc ?_ _ | (refine Blk.fars ?_ ?_ _ _; rotate_left; (dsimp only; omega)) | (refine Blk.far ?_ ?_ _; rotate_left; (first | (dsimp only; omega) | (simp; done) | (simp; omega) | omega))))) hb1 (by simp <;> omega)
    have hTb : Blk ws (w.heap.size + 1) 49 #[.int .i64 1, .bool power, .int .i64 outer, .int .i64 inner] := Blk.thru (by (repeat (first | assumption | exact Blk.new _ _ _ | (refine Blk.new' _ _ _ ?_; (simp; done)) | refine Blk.drew ?_ | refine Blk.alloc ?_ _ | (refine Blk.fars ?_ ?_ _ _; rotate_left; (dsimp only; omega)) | (refine Blk.far ?_ ?_ _; rotate_left; (first | (dsimp only; omega) | (simp; done) | (simp; omega) | omega))))) hb1 (by simp <;> omega)
    have hws : Below w.heap.size w ws := (by repeat (first | exact Below.refl _ _ | assumption | (refine Below.setCell ?_ (by first | omega | (simp; done) | (simp; omega)) _) | (refine Below.alloc ?_ (by first | omega | (simp; done) | (simp; omega)) _) | refine Below.drew ?_ | (refine below_thru ?_ (by assumption) (by first | omega | (simp; done) | (simp; omega))) | refine below_drewN ?_ _))
    obtain ⟨s0, s1, _, _⟩ := hSt.two
    have hsl := hSt.lt
    have HSt := Lib.hid hSt
    have HTb := Lib.hid hTb
    clear hb1 hSt hTb
    go_wp2
  all_goals
    go_loopw [15, 16, 17] (fun e v i wr => ∃ (k : Nat) (ee : Int) (LA : Option Addr) (ln lc : Nat), k ≤ l.gn ∧ i = .int .i64 k ∧ e = .int .i64 ee ∧ v = .slice LA ln lc ∧ Hid (Rel ee k) ∧ Hid (wr.ownsRow (w.heap.size + 1 + 1) 49 4 (.slice LA ln lc) k (mT t k)) ∧ Hid (Blk wr w.heap.size 25 #[.slice l.gA l.gn l.gc, .slice l.rA l.rn l.rc]) ∧ Hid (Blk wr (w.heap.size + 1) 49 #[.int .i64 1, .bool power, .int .i64 outer, .int .i64 inner]) ∧ Below w.heap.size w wr)
      (fun e v i _ => l.gn - (intOf i).toNat)
    case atStart => exact ⟨0, _, none, 0, 0, Nat.zero_le _, rfl, rfl, rfl, hst.out, ⟨rfl, .inl ⟨rfl, rfl⟩⟩, HSt.out, HTb.out, hws⟩
    case round =>
      obtain ⟨k, ee, LA, ln, lc, hk, rfl, rfl, rfl, hR, hown, hset, htb, hbr⟩ := hrel
      clear hst HSt HTb s0 s1
      have hzr := hset.out.lt
      have hzt := htb.out.lt
      obtain ⟨s0, s1, _, _⟩ := hset.out.two
      by_cases hee : ee = 0
      · subst hee
        have hR' := hR.out
        rw [HRel.out] at hR'
        obtain ⟨_, hok, hs0, hle, hpr⟩ := hR'.resolve_right (fun h => h.1 rfl)
        have e1 := nat_of_beq hle
        have n0 := hok.n0
        have n1 := hok.n1
        clear hR' hR
        by_cases hlt : k < l.gn
        · obtain ⟨g, hgk⟩ := get_lt Hlen.out.1 hlt
          obtain ⟨s, hsk⟩ := get_lt Hlen.out.2 (by omega : k < sn)
          obtain ⟨gb, off, hA, hgb, hrow⟩ := Hl.out.g.row hgk
          obtain ⟨sb, so, hB, hsb, c0, c1, c2⟩ := Hs.out.three (k := k) (x := .int .i64 s.pos) (y := .int .i64 s.charge) (z := .bool s.bolted) (by simp [hsk])
          have hme : delayE l ss t k = stepFt g s t := by unfold delayE; rw [gAt_of hgk, sAt_of hsk]
          have hgf : (gateF g).e = 0 := set_gate Hlen.out.1 hs0 hgk
          have hvr : validR g s t = (delayE l ss t k).e := by rw [hme, step_valid, if_pos hgf]
          have HV := Lib.hid (fun W => rvalid_any g s t W)
          rw [hvr, Htv.out] at HV
          have kc : ∀ (q : Addr) (v : Value), q.block < w.heap.size → w.cell? q = some v → wr.cell? q = some v := fun q v hq h => (hbr.cell hq).trans h
          have hset' := hset.out
          rw [hA] at hset' s0
          have HRd := Lib.hid (show DvS wr w.heap.size (.slice (some ⟨gb, off, none⟩) l.gn l.gc) (.slice l.rA l.rn l.rc) gb (off + k * 21) g sb (so + k * 3) s (w.heap.size + 1) #[.int .i64 1, .bool power, .int .i64 outer, .int .i64 inner] from ⟨hset', fun j v hv => kc _ _ hgb (hrow j v hv), kc _ _ hsb c0, kc _ _ hsb c1, kc _ _ hsb c2, htb.out⟩)
          have Hst := Lib.hid (And.intro hok (And.intro hs0 (And.intro hle hpr)))
          have HA := Lib.hid hA
          have j0 : (0 : Int) ≤ (k : Int) := Int.natCast_nonneg _
          have j1 : (k : Int) < (l.gn : Int) := by omega
          have j2 : (k : Int) < (sn : Int) := by omega
          subst hB
          clear hgk hsk hme hgf hvr kc hset' c0 c1 c2 hrow hA hok hs0 hle hpr hset htb e1
          have HE := Lib.hid (fun h1 h2 => de_e5 (ss := ss) (sn := sn) (t := t) Hst.out.2.1 Hst.out.2.2.1 h1 Hst.out.2.2.2 (k := k) h2)
          have Hnext := Lib.hid (fun (h : (delayE l ss t k).e = 0) => (show ∀ j, j < k + 1 → (delayE l ss t j).e = 0 from fun j hj => by
            rcases Nat.lt_or_ge j k with h1 | h1
            · exact Hst.out.2.2.2 j h1
            · obtain rfl : j = k := by omega
              exact h))
          obtain ⟨vk, hvk⟩ : ∃ vk, (delayE l ss t k).e = vk := ⟨_, rfl⟩
          rw [hvk] at HV
          have hrel : Hid (Rel vk (k + 1)) := by
            unfold Hid
            rw [HRel.out]
            by_cases hv : vk = 0
            · exact .inl ⟨hv, Hst.out.1, Hst.out.2.1, Hst.out.2.2.1, Hnext.out (hvk.trans hv)⟩
            · exact .inr ⟨hv, by rw [HE.out hlt (by rw [hvk]; exact hv)]; exact hvk⟩
          clear hvk HE Hnext Hst
          go_wp2_with fail
          refine wp_region_held (S := fun W' => DvS W' w.heap.size (.slice (some ⟨gb, off, none⟩) l.gn l.gc) (.slice l.rA l.rn l.rc) gb (off + k * 21) g sb (so + k * 3) s (w.heap.size + 1) #[.int .i64 1, .bool power, .int .i64 outer, .int .i64 inner]) (by kernel_rfl) (by exact HRd.out.drew) (fun hHeld => ?_)
          refine wpAnyH_take (i := 0) (v := ?_) rfl (by kernel_rfl) (by kernel_rfl) (by kernel_rfl) (fun _ _ _ h => h) (Or.inl ⟨by kernel_rfl, ?_⟩) hHeld ?_
          rotate_left
          · intro w hSw; (try dsimp only at hSw); obtain ⟨x1, _, c0, c1, c2, tt⟩ := hSw; have s0 := x1.cell 0; have s1 := x1.cell 1; simp only [List.getElem?_toArray, List.getElem?_cons_zero, List.getElem?_cons_succ] at s0 s1; go_simp; (try with_reducible rfl)
          (try simp only [Act.put, List.setIfInBounds_toArray, List.set_cons_zero, List.set_cons_succ])
          refine wpAnyH_take (i := 1) (v := ?_) rfl (by kernel_rfl) (by kernel_rfl) (by kernel_rfl) (fun _ _ _ h => h) (Or.inl ⟨by kernel_rfl, ?_⟩) hHeld ?_
          rotate_left
          · intro w hSw; (try dsimp only at hSw); obtain ⟨x1, _, c0, c1, c2, tt⟩ := hSw; have s0 := x1.cell 0; have s1 := x1.cell 1; simp only [List.getElem?_toArray, List.getElem?_cons_zero, List.getElem?_cons_succ] at s0 s1; go_simp; (try with_reducible rfl)
          (try simp only [Act.put, List.setIfInBounds_toArray, List.set_cons_zero, List.set_cons_succ])
          refine wpAnyH_take (i := 2) (v := ?_) rfl (by kernel_rfl) (by kernel_rfl) (by kernel_rfl) (fun _ _ _ h => h) (Or.inl ⟨by kernel_rfl, ?_⟩) hHeld ?_
          rotate_left
          · intro w hSw; (try dsimp only at hSw); obtain ⟨x1, _, c0, c1, c2, tt⟩ := hSw; have s0 := x1.cell 0; have s1 := x1.cell 1; simp only [List.getElem?_toArray, List.getElem?_cons_zero, List.getElem?_cons_succ] at s0 s1; go_simp; (try with_reducible rfl)
          (try simp only [Act.put, List.setIfInBounds_toArray, List.set_cons_zero, List.set_cons_succ])
          refine wpAnyH_take (i := 3) (v := ?_) rfl (by kernel_rfl) (by kernel_rfl) (by kernel_rfl) (fun _ _ _ h => h) (Or.inl ⟨by kernel_rfl, ?_⟩) hHeld ?_
          rotate_left
          · intro w hSw; (try dsimp only at hSw); obtain ⟨x1, _, c0, c1, c2, tt⟩ := hSw; have s0 := x1.cell 0; have s1 := x1.cell 1; simp only [List.getElem?_toArray, List.getElem?_cons_zero, List.getElem?_cons_succ] at s0 s1; go_simp; (try with_reducible rfl)
          (try simp only [Act.put, List.setIfInBounds_toArray, List.set_cons_zero, List.set_cons_succ])
          (try simp only [List.getElem_toArray, List.getElem_cons_zero, List.getElem_cons_succ, Act.put, List.setIfInBounds_toArray, List.set_cons_zero, List.set_cons_succ])
          refine wpAnyH_take (i := 4) (v := g.v) rfl (by kernel_rfl) (by kernel_rfl) (by kernel_rfl) (fun _ _ _ h => h) (Or.inl ⟨by rfl, fun w hSw => ld_gm rfl rfl hSw.g⟩) hHeld ?_
          (try simp only [Act.put, List.setIfInBounds_toArray, List.set_cons_zero, List.set_cons_succ])
          refine wpAnyH_take (i := 5) (v := ?_) rfl (by kernel_rfl) (by kernel_rfl) (by kernel_rfl) (fun _ _ _ h => h) (Or.inl ⟨by kernel_rfl, ?_⟩) hHeld ?_
          rotate_left
          · intro w hSw; (try dsimp only at hSw); obtain ⟨x1, _, c0, c1, c2, tt⟩ := hSw; obtain ⟨t0, t1, t2, t3⟩ := tcells_of (t := ⟨1, power, outer, inner⟩) tt; go_simp; (try with_reducible rfl)
          (try simp only [Act.put, List.setIfInBounds_toArray, List.set_cons_zero, List.set_cons_succ])
          refine wpAnyH_take (i := 6) (v := ?_) rfl (by kernel_rfl) (by kernel_rfl) (by kernel_rfl) (fun _ _ _ h => h) (Or.inl ⟨by kernel_rfl, ?_⟩) hHeld ?_
          rotate_left
          · intro w hSw; (try dsimp only at hSw); obtain ⟨x1, _, c0, c1, c2, tt⟩ := hSw; obtain ⟨t0, t1, t2, t3⟩ := tcells_of (t := ⟨1, power, outer, inner⟩) tt; go_simp; (try with_reducible rfl)
          (try simp only [Act.put, List.setIfInBounds_toArray, List.set_cons_zero, List.set_cons_succ])
          refine wpAnyH_take (i := 7) (v := ?_) rfl (by kernel_rfl) (by kernel_rfl) (by kernel_rfl) (fun _ _ _ h => h) (Or.inl ⟨by kernel_rfl, ?_⟩) hHeld ?_
          rotate_left
          · intro w hSw; (try dsimp only at hSw); obtain ⟨x1, _, c0, c1, c2, tt⟩ := hSw; obtain ⟨t0, t1, t2, t3⟩ := tcells_of (t := ⟨1, power, outer, inner⟩) tt; go_simp; (try with_reducible rfl)
          (try simp only [Act.put, List.setIfInBounds_toArray, List.set_cons_zero, List.set_cons_succ])
          refine wpAnyH_take (i := 8) (v := ?_) rfl (by kernel_rfl) (by kernel_rfl) (by kernel_rfl) (fun _ _ _ h => h) (Or.inl ⟨by kernel_rfl, ?_⟩) hHeld ?_
          rotate_left
          · intro w hSw; (try dsimp only at hSw); obtain ⟨x1, _, c0, c1, c2, tt⟩ := hSw; obtain ⟨t0, t1, t2, t3⟩ := tcells_of (t := ⟨1, power, outer, inner⟩) tt; go_simp; (try with_reducible rfl)
          (try simp only [Act.put, List.setIfInBounds_toArray, List.set_cons_zero, List.set_cons_succ])
          refine wpAnyH_take (i := 9) (v := ?_) rfl (by kernel_rfl) (by kernel_rfl) (by kernel_rfl) (fun _ _ _ h => h) (Or.inl ⟨by kernel_rfl, ?_⟩) hHeld ?_
          rotate_left
          · intro w hSw; (try dsimp only at hSw); obtain ⟨x1, _, c0, c1, c2, tt⟩ := hSw; obtain ⟨t0, t1, t2, t3⟩ := tcells_of (t := ⟨1, power, outer, inner⟩) tt; go_simp; (try with_reducible rfl)
          (try simp only [Act.put, List.setIfInBounds_toArray, List.set_cons_zero, List.set_cons_succ])
          (try simp only [List.getElem_toArray, List.getElem_cons_zero, List.getElem_cons_succ, Act.put, List.setIfInBounds_toArray, List.set_cons_zero, List.set_cons_succ])
          refine wpAnyH_ready (rs := [10]) (by kernel_rfl) (by simp) ?_
          refine AllReadyH.cons rfl (fun K hK => ?_) AllReadyH.nil
          go_simp
          refine (HV.out _).mono ?_
          rintro e w3 ⟨rfl, hb3⟩; have hz3 := hb3.size; (try simp at hz3)
          (try dsimp only)
          refine hK.out _ _ (by exact hHeld.below hb3) (fun hHeld => ?_)
          clear hK K
          (try simp only [Act.put, List.setIfInBounds_toArray, List.set_cons_zero, List.set_cons_succ])
          refine wpAnyH_take (i := 11) (v := ?_) rfl (by kernel_rfl) (by kernel_rfl) (by kernel_rfl) (fun _ _ _ h => h) (Or.inl ⟨by kernel_rfl, ?_⟩) hHeld ?_
          rotate_left
          · intro w hSw; (try dsimp only at hSw); skip; go_simp; (try with_reducible rfl)
          (try simp only [Act.put, List.setIfInBounds_toArray, List.set_cons_zero, List.set_cons_succ])
          refine wpAnyH_done (by kernel_rfl) ?_ _
          (try simp only [List.getElem_toArray, List.getElem_cons_zero, List.getElem_cons_succ, Act.put, List.setIfInBounds_toArray, List.set_cons_zero, List.set_cons_succ])
          have hw3 : Below w.heap.size w w3 := (hbr.drew).trans (hb3.mono (show w.heap.size ≤ wr.heap.size by omega))
          have hs3 := Lib.hid (show Blk w3 w.heap.size 25 #[.slice l.gA l.gn l.gc, .slice l.rA l.rn l.rc] by rw [HA.out]; exact hHeld.l)
          have ht3 := Lib.hid hHeld.t
          obtain ⟨t0, t1, t2, t3⟩ := tcells_of (t := ⟨1, power, outer, inner⟩) hHeld.t
          have Hown3 := Lib.hid (owns_below (owns_drew hown.out) hb3)
          have hl3 := hHeld.t.lt
          have n4 : Hid (∀ u ∈ [Value.int .i64 1, .bool power, .int .i64 outer, .int .i64 inner], u.oneCell' = true) := fun u hu => by
            simp only [List.mem_cons, List.not_mem_nil, or_false] at hu
            rcases hu with rfl | rfl | rfl | rfl <;> rfl
          have b63 : k + 1 ≤ maxLen := by unfold maxLen; omega
          have b47 : (k + 1) * 32 ≤ 140737488355328 := by omega
          have hlo : Hid (∀ k', (Value.slice LA ln lc).ownBlock = some k' → w.heap.size + 1 + 1 ≤ k') := fun k' hk' => (Hown3.out.lt k' hk').1
          have hbs : Hid (∀ o', w.heap.size + 1 + 1 ≤ (w3.alloc o').heap.size) := fun o' => by simp; omega
          clear hHeld hb3 s0 s1 HRd hown
          go_wp2_with (at_builtin; refine wpList_append_own _ rfl _ _ 43 rfl (w.heap.size + 1 + 1) 49 i0 (.agg #[.int .i64 0, .bool false, .int .i64 0, .int .i64 0]) 4 32 undSteps HI.out.1 HI.out.2.1 HI.out.2.2.1 HI.out.2.2.2 rfl (by decide) _ _ _ rfl (World.ownsRow.alloc (w := w3) Hown3.out _) ⟨w3.heap.size, 0, none⟩ 1 1 [.int .i64 1, .bool power, .int .i64 outer, .int .i64 inner] rfl rfl (mnews4 w3 _ _ _ _ _) n4.out b63 b47 (hbs.out _) ?_; intro v' w4 hown4 hgrow _; have hb4 : Below (w.heap.size + 1 + 1) (w3.alloc (.cells #[.int .i64 1, .bool power, .int .i64 outer, .int .i64 inner] 49)) w4 := grown_below hgrow hlo.out (hbs.out _); have Hown4 := Lib.hid hown4; clear hgrow hown4)
          all_goals
            obtain ⟨A2, n2, c2, rfl⟩ := owns_slice Hown4.out
            have Hown5 := Lib.hid (show w4.ownsRow (w.heap.size + 1 + 1) 49 4 (.slice A2 n2 c2) (k + 1) (mT t (k + 1)) by rw [mT_next, Htc.out]; exact Hown4.out)
            have hs4 := Lib.hid ((hb4.block _ (by omega)).trans (hs3.out.alloc (.cells #[.int .i64 1, .bool power, .int .i64 outer, .int .i64 inner] 49)))
            have ht4 := Lib.hid ((hb4.block _ (by omega)).trans (ht3.out.alloc (.cells #[.int .i64 1, .bool power, .int .i64 outer, .int .i64 inner] 49)))
            have hw4 := Lib.hid ((hw3.alloc (by omega) (.cells #[.int .i64 1, .bool power, .int .i64 outer, .int .i64 inner] 49)).trans (hb4.mono (by omega)))
            clear Hown4 hb4 t0 t1 t2 t3
            go_wp2
            go_roundw
            case rel => exact ⟨k + 1, vk, A2, n2, c2, by omega, by go_num, rfl, rfl, hrel.out, Hown5.out, hs4.out, ht4.out, hw4.out⟩
            case measure => simp [intOf]; omega
        · obtain rfl : k = l.gn := by omega
          have hE := de_e6 (ss := ss) (sn := sn) (t := t) hs0 hle hpr
          obtain ⟨o1, o2, o3, o4⟩ := delay_ok Hl.out Hs.out hE
          have hRR := HR.out
          unfold delayR at hRR
          rw [if_pos hE] at hRR
          have hX : ∃ X, toShutF l.rs l.rn t l.gn 2000 0 (machs l.gs ss) = X := ⟨_, rfl⟩
          obtain ⟨X, hX⟩ := hX
          rw [hX] at hRR
          have hmk : ∀ W : World, (Instr.makeSlice 69 (.int .i64 (l.gn : Int)) (.int .i64 (l.gn : Int))).run Tryz.prog W = .ok (.slice (some ⟨W.heap.size, 0, none⟩) l.gn l.gn) (W.alloc (.cells (madeCells #[Value.bool false] l.gn) 4)) := by
            intro W
            have := run_make (P := Tryz.prog) W 69 4 i1 _ undBools HJ.out.1 HJ.out.2.1 .i64 .i64 l.gn l.gn (by omega) (by omega) (by rw [HJ.out.2.2.2]; omega) (by omega)
            rw [HJ.out.2.2.1, Nat.mul_one, show (Value.bool false).cells = #[Value.bool false] from rfl] at this
            simpa using this
          obtain ⟨tA, tc, hv, htab, _, _, _⟩ := owns_tabN (rows := (List.replicate l.gn t).map Gt.cells) hown.out (fun r hr => by obtain ⟨q, _, rfl⟩ := List.mem_map.1 hr; rfl) (by omega)
          cases hv
          have Htab := Lib.hid htab
          have HT := Lib.hid (fun (W : World) (su : List Gs) (uA pA : Option Addr) (uc pc : Nat) (hW : Below w.heap.size w W) (h1 : Tab W W.heap.size uA l.gn 3 (su.map Gs.cells)) (h2 : Tab W W.heap.size LA l.gn 4 ((List.replicate l.gn t).map Gt.cells)) (h3 : Tab W W.heap.size pA l.gn 1 ((sameB l.gn).map fun p => [Value.bool p])) (h4 : ∀ m ∈ machs l.gs su, m.1.Ok ∧ m.2.Ok m.1) =>
            (show Calls Tryz.prog 97 #[.agg #[.slice l.gA l.gn l.gc, .slice l.rA l.rn l.rc], .slice uA l.gn uc, .slice LA l.gn lc, .slice pA l.gn pc] W fun e w' => ∃ (A : Option Addr) (c : Nat) (B : Option Addr) (d : Nat), e = .returned (.tuple #[.slice A l.gn c, .slice B l.gn d]) ∧
      Tab w' w'.heap.size A l.gn 3 ((moveS l su (sameT t l.gn) (sameB l.gn)).map Gs.cells) ∧ Tab w' w'.heap.size B l.gn 3 ((moveM l su (sameT t l.gn) (sameB l.gn)).map Gm.cells) ∧ l.gn ≤ c ∧ Below W.heap.size W w' from rtogether_any l su (sameT t l.gn) (sameB l.gn) uA LA pA uc lc pc W (Hl.out.grow hW) h1 h2 h3 o1 (fun t' ht' => by rw [List.eq_of_mem_replicate ht']; exact o3) h4))
          have hstart : ss.length = l.gn ∧ (∀ m ∈ machs l.gs ss, m.1.Ok ∧ m.2.Ok m.1) ∧ ((0 ≤ 2000 ∧ X = toShutF l.rs l.rn t l.gn (2000 - 0) 0 (machs l.gs ss)) ∨ (0 = 2001 ∧ X = (0, 9))) := ⟨by rw [Hlen.out.2, o2], o4, .inl ⟨by omega, hX.symm⟩⟩
          have Hstart := Lib.hid hstart
          have HRR := Lib.hid hRR
          have Ho2 := Lib.hid o2
          have Ho3 := Lib.hid o3
          have HWS := Lib.hid (hbr.alloc (by omega) (.cells (madeCells #[Value.bool false] l.gn) 4))
          have HsetS := Lib.hid (hset.out.alloc (.cells (madeCells #[Value.bool false] l.gn) 4))
          have HtabS := Lib.hid (Htab.out.grow (show Below wr.heap.size wr (wr.alloc (.cells (madeCells #[Value.bool false] l.gn) 4)) from (Below.refl _ _).alloc (Nat.le_refl _) _))
          have HshipS : Hid (Tab (wr.alloc (.cells (madeCells #[Value.bool false] l.gn) 4)) (wr.alloc (.cells (madeCells #[Value.bool false] l.gn) 4)).heap.size (some ⟨wr.heap.size, 0, none⟩) l.gn 1 ((sameB l.gn).map fun p => [Value.bool p])) := by
            refine Tab.of_flat (Blk.new wr _ _) (by simp) (by simp [sameB]) (fun r hr => by obtain ⟨q, _, rfl⟩ := List.mem_map.1 hr; rfl) ?_
            have := bools_is l.gn n1
            have h2 : (madeCells #[Value.bool false] l.gn) = (madeCells #[Value.bool false] l.gn).toList.toArray := by simp
            rw [h2, this]
            unfold sameB
            rw [List.map_replicate]
          have hzS : wr.heap.size < (wr.alloc (.cells (madeCells #[Value.bool false] l.gn) 4)).heap.size := by simp
          clear hX hRR hown htab Htab hstart hok hs0 hle hpr hset htb o1 o2 o3 o4 hE hlt hk e1
          go_wp2_with fail
          generalize wr.alloc (.cells (madeCells #[Value.bool false] l.gn) 4) = wS at *
          clear s0 s1
          go_loopw [1, 19] (fun sv nv wx => ∃ (k : Nat) (su : List Gs) (uA : Option Addr) (uc : Nat), k ≤ 2001 ∧ nv = .int .i64 k ∧ sv = .slice uA l.gn uc ∧ Hid (su.length = l.gn ∧ (∀ m ∈ machs l.gs su, m.1.Ok ∧ m.2.Ok m.1) ∧ ((k ≤ 2000 ∧ X = toShutF l.rs l.rn t l.gn (2000 - k) k (machs l.gs su)) ∨ (k = 2001 ∧ X = (0, 9)))) ∧ Hid (Tab wx wx.heap.size uA l.gn 3 (su.map Gs.cells)) ∧ Hid (Below wS.heap.size wS wx))
            (fun _ nv _ => 2001 - (intOf nv).toNat)
          case atStart => exact ⟨0, ss, sA, sc, by omega, rfl, by rw [Ho2.out], Hstart.out, (by have h := (Hs.out.grow HWS.out); rw [Ho2.out] at h; exact h), Below.refl _ _⟩
          case round =>
            obtain ⟨k, su, uA, uc, hk, rfl, rfl, hru, htu, hbx⟩ := hrel
            rename World => wx
            obtain ⟨wx, rfl⟩ : ∃ wy : World, wy = wx := ⟨_, rfl⟩
            have hzx := hbx.out.size
            have hsx := HsetS.out.thru hbx.out HsetS.out.lt
            have Hsx := Lib.hid hsx
            have hlx := hsx.lt
            obtain ⟨s0, s1, _, _⟩ := hsx.two
            clear hsx
            by_cases hk2 : k ≤ 2000
            · have hXk : X = toShutF l.rs l.rn t l.gn (2000 - k) k (machs l.gs su) := by
                rcases hru.out.2.2 with h | h
                · exact h.2
                · omega
              have HXk := Lib.hid hXk
              have hml : (machs l.gs su).length = l.gn := by unfold machs; rw [List.length_zip, Hlen.out.1, hru.out.1]; omega
              have Hml := Lib.hid hml
              have j9 : (k : Int) ≤ 2000 := by omega
              have j8 : (0 : Int) ≤ (k : Int) := Int.natCast_nonneg _
              clear hXk hml
              go_wp2_with fail
              go_loopw [20, 21] (fun av jv wy => ∃ j : Nat, j ≤ l.gn ∧ jv = .int .i64 j ∧ av = .bool (upB (machs l.gs su) j) ∧ Hid (Below wx.heap.size wx wy))
                (fun _ jv _ => l.gn - (intOf jv).toNat)
              case atStart => exact ⟨0, Nat.zero_le _, rfl, rfl, Below.refl _ _⟩
              case round =>
                obtain ⟨j, hj, rfl, rfl, hby⟩ := hrel
                rename World => wy
                have hsy := Hsx.out.thru hby.out Hsx.out.lt
                have hly := hsy.lt
                by_cases hlt : j < l.gn
                · obtain ⟨m, hm⟩ := get_lt Hml.out hlt
                  have hmz := hm
                  unfold machs at hmz
                  rw [List.getElem?_zip_eq_some] at hmz
                  obtain ⟨hgj, hsj⟩ := hmz
                  have hmo := (hru.out.2.1 m (List.mem_of_getElem? hm)).2
                  have haj : ajarB (machs l.gs su) j = decide (m.2.pos < m.1.travel) := by unfold ajarB; rw [hm]; rfl
                  have Hnx := Lib.hid (upB_next (machs l.gs su) j)
                  rw [haj] at Hnx
                  obtain ⟨gb, off, hA, hgb, hrow⟩ := Hl.out.g.row hgj
                  obtain ⟨ub, uo, hU, hub, c0, _, _⟩ := htu.out.three (k := j) (x := .int .i64 m.2.pos) (y := .int .i64 m.2.charge) (z := .bool m.2.bolted) (by simp [hsj])
                  have c0 := (hby.out.cell (p := ⟨ub, uo + j * 3, none⟩) hub).trans c0
                  have hwy : Below w.heap.size w wy := (HWS.out.trans (hbx.out.mono HWS.out.size)).trans (hby.out.mono (by have := HWS.out.size; omega))
                  have k2 : wy.cell? ⟨gb, off + j * 21 + 2, none⟩ = some (.int .i64 m.1.travel) := (hwy.cell (p := ⟨gb, off + j * 21 + 2, none⟩) hgb).trans (hrow 2 _ rfl)
                  have hgby : gb < wy.heap.size := by have := hwy.size; omega
                  rw [hA] at hsy
                  obtain ⟨v0, v1, _, _⟩ := hsy.two
                  have i0 : (0 : Int) ≤ (j : Int) := Int.natCast_nonneg _
                  have i1 : (j : Int) < (l.gn : Int) := by omega
                  have hpos := hmo.p1
                  have Hby := hby
                  subst hU
                  clear hgj hsj haj hm hrow hsy hA hby hmo s0 s1
                  generalize upB (machs l.gs su) j = b at *
                  cases b
                  · have Hbn := Lib.hid (show upB (machs l.gs su) (j + 1) = false by rw [Hnx.out]; rfl)
                    clear Hnx
                    go_wp2_with fail
                    go_quiet (fail)
                    go_wp2
                    go_roundw
                    case rel => exact ⟨j + 1, by omega, by go_num, by rw [Hbn.out], below_drewN Hby.out _⟩
                    case measure => simp [intOf]; omega
                  · by_cases hp : m.2.pos = m.1.travel
                    · have q : (m.2.pos == m.1.travel) = true := by rw [beq_iff_eq]; exact hp
                      have Hbn := Lib.hid (show upB (machs l.gs su) (j + 1) = true by rw [Hnx.out]; simp; omega)
                      clear Hnx hp
                      go_wp2_with fail
                      go_quiet (fail)
                      go_wp2
                      go_roundw
                      case rel => exact ⟨j + 1, by omega, by go_num, by rw [Hbn.out], below_drewN Hby.out _⟩
                      case measure => simp [intOf]; omega
                    · have q : (m.2.pos == m.1.travel) = false := by rw [beq_eq_false_iff_ne]; exact hp
                      have Hbn := Lib.hid (show upB (machs l.gs su) (j + 1) = false by rw [Hnx.out]; simp; omega)
                      clear Hnx hp
                      go_wp2_with fail
                      go_quiet (fail)
                      go_wp2
                      go_roundw
                      case rel => exact ⟨j + 1, by omega, by go_num, by rw [Hbn.out], below_drewN Hby.out _⟩
                      case measure => simp [intOf]; omega
                · obtain rfl : j = l.gn := by omega
                  have hwy : Below w.heap.size w wy := (HWS.out.trans (hbx.out.mono HWS.out.size)).trans (hby.out.mono (by have := HWS.out.size; omega))
                  obtain ⟨v0, v1, _, _⟩ := hsy.two
                  have hbS : Below wS.heap.size wS wy := hbx.out.trans (hby.out.mono hzx)
                  have HtabY := Lib.hid (HtabS.out.grow hbS)
                  have HshipY := Lib.hid (HshipS.out.grow hbS)
                  have HtuY := Lib.hid (htu.out.grow hby.out)
                  have HbS := Lib.hid hbS
                  have Hwy := Lib.hid hwy
                  have hub := upB_shut (machs l.gs su) l.gn
                  cases hsh : shutB (machs l.gs su) l.gn
                  · have hnew : su.length = l.gn := hru.out.1
                    have hnx : (moveS l su (sameT t l.gn) (sameB l.gn)).length = l.gn ∧ (∀ m ∈ machs l.gs (moveS l su (sameT t l.gn) (sameB l.gn)), m.1.Ok ∧ m.2.Ok m.1) ∧ ((k + 1 ≤ 2000 ∧ X = toShutF l.rs l.rn t l.gn (2000 - (k + 1)) (k + 1) (machs l.gs (moveS l su (sameT t l.gn) (sameB l.gn)))) ∨ (k + 1 = 2001 ∧ X = (0, 9))) := by
                      have hmv : moveS l su (sameT t l.gn) (sameB l.gn) = (stepMs (machs l.gs su) l.rs l.rn t l.gn).map (·.2) := rfl
                      have hmm : machs l.gs (moveS l su (sameT t l.gn) (sameB l.gn)) = stepMs (machs l.gs su) l.rs l.rn t l.gn := by rw [hmv]; exact machs_next (by rw [Hlen.out.1, hnew]; omega) _ _ _ _
                      refine ⟨by rw [hmv, List.length_map]; unfold stepMs; rw [newMs_len]; exact Hml.out, ?_, ?_⟩
                      · rw [hmm]
                        refine newMs_all hru.out.2.1 l.gn (fun i m hi hm => ?_)
                        have ho := hru.out.2.1 m (List.mem_of_getElem? hm)
                        refine ⟨ho.1, ?_⟩
                        unfold aftF
                        rw [hm]
                        have h1 : (sameT t l.gn)[i]? = some t := by unfold sameT; rw [List.getElem?_replicate, if_pos hi]
                        have h2 : (sameB l.gn)[i]? = some false := by unfold sameB; rw [List.getElem?_replicate, if_pos hi]
                        rw [h1, h2]
                        exact after_ok ho.1 ho.2 t _
                      · rw [hmm]
                        rcases (show k = 2000 ∨ k < 2000 by omega) with h | h
                        · subst h
                          right
                          refine ⟨rfl, ?_⟩
                          rw [HXk.out, Nat.sub_self, toShutF, if_neg (by rw [hsh]; decide)]
                        · left
                          refine ⟨by omega, ?_⟩
                          rw [HXk.out, show 2000 - k = (2000 - (k + 1)) + 1 by omega, toShutF, if_neg (by rw [hsh]; decide)]
                    have Hnx := Lib.hid hnx
                    rw [hsh] at hub
                    rw [hub]
                    have HT2 := Lib.hid (HT.out wy su uA (some ⟨wr.heap.size, 0, none⟩) uc l.gn Hwy.out HtuY.out HtabY.out HshipY.out hru.out.2.1)
                    clear hnx hub hsh hnew hwy hbS hsy hby hbx s0 s1 hlt hj
                    go_wp2_with fail
                    refine (HT2.out).mono ?_
                    rintro e w5 ⟨A5, c5, B5, d5, rfl, h51, h52, _, hb5⟩
                    have Ht5 := Lib.hid h51
                    have HbS5 := Lib.hid (HbS.out.trans (hb5.mono HbS.out.size))
                    clear h51 h52 hb5 v0 v1
                    go_wp2
                    go_roundw
                    case rel => exact ⟨k + 1, _, A5, c5, by omega, by go_num, rfl, Hnx.out, Ht5.out, HbS5.out⟩
                    case measure => simp [intOf]; omega
                  · have hXv : X = ((k : Int), 0) := by rw [HXk.out]; unfold toShutF; split <;> rw [if_pos hsh]
                    have hRv : R = (((k : Int) + 10 - 1) / 10, 0) := by
                      rw [← HRR.out, hXv]
                      show (-(-(k : Int) / 10), (0 : Int)) = _
                      congr 1
                      omega
                    have HRv := Lib.hid hRv
                    rw [hsh] at hub
                    rw [hub]
                    clear hXv hRv hub hsh hwy hbS hsy hby hbx s0 s1 hlt hj
                    go_wp2
                    go_ret2
                    exact ⟨by rw [HRv.out]; rfl, Hwy.out⟩
            · obtain rfl : k = 2001 := by omega
              have hXv : X = (0, 9) := by
                rcases hru.out.2.2 with h | h
                · omega
                · exact h.2
              have HRv := Lib.hid (show R = (0, 9) by rw [← HRR.out, hXv]; rfl)
              have hwx : Below w.heap.size w wx := HWS.out.trans (hbx.out.mono HWS.out.size)
              have Hwx := Lib.hid hwx
              clear hXv hwx hbx hk2 hk
              go_wp2
              go_ret2
              exact ⟨by rw [HRv.out]; rfl, Hwx.out⟩
      · have hR' := hR.out
        rw [HRel.out] at hR'
        obtain ⟨h1, h2⟩ := hR'.resolve_left (fun h => hee h.1)
        have q := (show (ee == 0) = false by rw [beq_eq_false_iff_ne]; exact hee)
        have q2 := (show (ee != 0) = true by rw [bne_iff_ne]; exact hee)
        have HRv := Lib.hid (show R = (0, ee) by rw [← HR.out]; unfold delayR; rw [if_neg (by rw [h2]; exact hee), h2])
        clear hR' hR h1 h2 hee
        by_cases hlt : k < l.gn
        · go_wp2
          go_ret2
          exact ⟨by rw [HRv.out]; rfl, hbr⟩
        · go_wp2
          go_ret2
          exact ⟨by rw [HRv.out]; rfl, hbr⟩
end Go.Proofs.YtgdomaddjiggaaaGreat
