/- Move without a fault: the states and what came of the steps. -/
import Derived.Test.YtgdomaddjiggaaaGreatGtMove
namespace Go.Proofs.YtgdomaddjiggaaaGreat
open Go.RowKit
set_option linter.unusedSimpArgs false
set_option linter.unusedVariables false

def moveMs (l : St) (ss : List Gs) (ts : List Gt) (ps : List Bool) : List (Ga × Gs) := newMs (machs l.gs ss) (aftF (machs l.gs ss) l.rs l.rn ts ps) l.gn
def moveS (l : St) (ss : List Gs) (ts : List Gt) (ps : List Bool) : List Gs := (moveMs l ss ts ps).map (·.2)
def moveM (l : St) (ss : List Gs) (ts : List Gt) (ps : List Bool) : List Gm := (List.range l.gn).map (camF (machs l.gs ss) l.rs l.rn ts ps)

set_option maxRecDepth 100000 in
set_option maxHeartbeats 8000000 in
theorem Move_ok (l : St) (ss : List Gs) (ts : List Gt) (ps : List Bool) (sA tA pA : Option Addr) (sn sc tn tc pn pc : Nat) (w : World) (hl : l.At w w.heap.size) (hs : Tab w w.heap.size sA sn 3 (ss.map Gs.cells)) (ht : Tab w w.heap.size tA tn 4 (ts.map Gt.cells))
    (hp : Tab w w.heap.size pA pn 1 (ps.map fun p => [Value.bool p])) (h0 : (moveFt l ss sn ts tn pn).e = 0) :
    Calls Tryz.prog 42 #[l.v, .slice sA sn sc, .slice tA tn tc, .slice pA pn pc] w fun e w' => ∃ (A : Option Addr) (c gd : Nat), e = .returned (.tuple #[.slice A l.gn c, .slice (some ⟨gd, 0, none⟩) l.gn l.gn, .int .i64 0]) ∧
      Tab w' w'.heap.size A l.gn 3 ((moveS l ss ts ps).map Gs.cells) ∧ Tab w' w'.heap.size (some ⟨gd, 0, none⟩) l.gn 3 ((moveM l ss ts ps).map Gm.cells) ∧ l.gn ≤ c ∧ Below w.heap.size w w' := by
  obtain ⟨hlo, hsn, htn, hpn, hto, hmo⟩ := move_ok hl hs ht h0
  have n0 := hlo.n0
  have n1 := hlo.n1
  have hgl := hl.g.len
  have hsl : ss.length = sn := by have := hs.1; simpa using this
  have Hml := Lib.hid (show (machs l.gs ss).length = l.gn by unfold machs; rw [List.length_zip]; omega)
  subst hsn htn hpn
  have Hl := Lib.hid hl
  have Hs := Lib.hid hs
  have Ht := Lib.hid ht
  have HSO := Lib.hid (fun (W : World) (hW : Below w.heap.size w W) => setOf_any l ss sA l.gn sc W (hl.grow hW) (hs.grow hW) rfl (by omega))
  have HSS := Lib.hid (fun (W : World) (b c : Nat) (hM : Ms W b (machs l.gs ss)) (hW : Below w.heap.size w W) (hml : (machs l.gs ss).length = l.gn) =>
    sstep_any (machs l.gs ss) l.rs ts ps b l.gn c l.rA l.rn l.rc tA tc pA pc W hM (fun m hm => (hl.g.at_ m.1 (by obtain ⟨k, hk⟩ := List.getElem?_of_mem hm; unfold machs at hk; rw [List.getElem?_zip_eq_some] at hk; exact List.mem_of_getElem? hk.1)).grow hW) hmo hml (by omega) n1 (hl.r.grow hW) (by have := hlo.rn; omega) (fun r hr => by have := (hlo.r r hr).2.1; omega) (ht.grow hW) hto (hp.grow hW))
  have HGood := Lib.hid (fun W lb xb yb zb nb h1 h2 h3 h4 h5 h6 h7 => moveC_good lb xb yb zb nb l ss ts sA tA pA l.gn sc l.gn tc l.gn pc W h1 h2 h3 h4 h5 h6 h7)
  obtain ⟨fp, fa, fe, hfl⟩ : ∃ fp fa fe, moveFt l ss l.gn ts l.gn l.gn = ⟨fp, fa, fe⟩ := ⟨_, _, _, rfl⟩
  have Hfl := Lib.hid hfl
  rw [hfl] at h0
  simp only at h0
  subst h0
  clear hfl hl hs ht hp hlo hto hmo hgl hsl
  go_enter Tryz.func42, Tryz.ntmps42
  go_wp2_with fail
  refine (first_any _ (w.heap.size + 1 + 1 + 1 + 1 + 1) 0 3 (moveC w.heap.size (w.heap.size + 1) (w.heap.size + 1 + 1) (w.heap.size + 1 + 1 + 1) (w.heap.size + 1 + 1 + 1 + 1) l ss l.gn ts l.gn l.gn) rfl (by omega) (by simp) ?_ (HGood.out _ _ _ _ _ _ ⟨?_, ?_⟩ ?_ ?_ ?_ ?_ ?_ ?_) (moveC_plain _ _ _ _ _ l ss l.gn ts l.gn l.gn)).mono ?_
  · intro k c hk
    match k, hk with
    | 0, hk => cases hk; exact (Blk.new' _ _ _ (by simp)).cell 0
    | 1, hk => cases hk; exact (Blk.new' _ _ _ (by simp)).cell 1
    | 2, hk => cases hk; exact (Blk.new' _ _ _ (by simp)).cell 2
    | k + 3, hk => simp [moveC] at hk
  · exact (((((Blk.new w _ _).alloc _).alloc _).alloc _).alloc _).alloc _
  · exact Hl.out.grow (by repeat (first | exact Below.refl _ _ | assumption | (refine Below.setCell ?_ (by first | omega | (simp; done) | (simp; omega)) _) | (refine Below.alloc ?_ (by first | omega | (simp; done) | (simp; omega)) _) | refine Below.drew ?_ | (refine below_thru ?_ (by assumption) (by first | omega | (simp; done) | (simp; omega))) | refine below_drewN ?_ _))
  · exact ((((Blk.new' (w.alloc _) _ _ (by simp)).alloc _).alloc _).alloc _).alloc _
  · exact (((Blk.new' ((w.alloc _).alloc _) _ _ (by simp)).alloc _).alloc _).alloc _
  · exact ((Blk.new' (((w.alloc _).alloc _).alloc _) _ _ (by simp)).alloc _).alloc _
  · exact (Blk.new' ((((w.alloc _).alloc _).alloc _).alloc _) _ _ (by simp)).alloc _
  · exact Hs.out.grow (by repeat (first | exact Below.refl _ _ | assumption | (refine Below.setCell ?_ (by first | omega | (simp; done) | (simp; omega)) _) | (refine Below.alloc ?_ (by first | omega | (simp; done) | (simp; omega)) _) | refine Below.drew ?_ | (refine below_thru ?_ (by assumption) (by first | omega | (simp; done) | (simp; omega))) | refine below_drewN ?_ _))
  · exact Ht.out.grow (by repeat (first | exact Below.refl _ _ | assumption | (refine Below.setCell ?_ (by first | omega | (simp; done) | (simp; omega)) _) | (refine Below.alloc ?_ (by first | omega | (simp; done) | (simp; omega)) _) | refine Below.drew ?_ | (refine below_thru ?_ (by assumption) (by first | omega | (simp; done) | (simp; omega))) | refine below_drewN ?_ _))
  rintro e w1 ⟨he, hb1⟩
  replace he : e = .returned (moveFt l ss l.gn ts l.gn l.gn).v := he
  rw [Hfl.out] at he
  subst he
  obtain ⟨hc1, hf1⟩ := bcell hb1; have hz1 := hb1.size; (try simp at hz1)
  have hL1 : Blk w1 w.heap.size 25 #[.slice l.gA l.gn l.gc, .slice l.rA l.rn l.rc] := Blk.thru (by (repeat (first | assumption | exact Blk.new _ _ _ | (refine Blk.new' _ _ _ ?_; (simp; done)) | refine Blk.drew ?_ | refine Blk.alloc ?_ _ | (refine Blk.fars ?_ ?_ _ _; rotate_left; (dsimp only; omega)) | (refine Blk.far ?_ ?_ _; rotate_left; (first | (dsimp only; omega) | (simp; done) | (simp; omega) | omega))))) hb1 (by simp <;> omega)
  have hX1 : Blk w1 (w.heap.size + 1) 50 #[.slice sA l.gn sc] := Blk.thru (by (repeat (first | assumption | exact Blk.new _ _ _ | (refine Blk.new' _ _ _ ?_; (simp; done)) | refine Blk.drew ?_ | refine Blk.alloc ?_ _ | (refine Blk.fars ?_ ?_ _ _; rotate_left; (dsimp only; omega)) | (refine Blk.far ?_ ?_ _; rotate_left; (first | (dsimp only; omega) | (simp; done) | (simp; omega) | omega))))) hb1 (by simp <;> omega)
  have hY1 : Blk w1 (w.heap.size + 1 + 1) 43 #[.slice tA l.gn tc] := Blk.thru (by (repeat (first | assumption | exact Blk.new _ _ _ | (refine Blk.new' _ _ _ ?_; (simp; done)) | refine Blk.drew ?_ | refine Blk.alloc ?_ _ | (refine Blk.fars ?_ ?_ _ _; rotate_left; (dsimp only; omega)) | (refine Blk.far ?_ ?_ _; rotate_left; (first | (dsimp only; omega) | (simp; done) | (simp; omega) | omega))))) hb1 (by simp <;> omega)
  have hZ1 : Blk w1 (w.heap.size + 1 + 1 + 1) 69 #[.slice pA l.gn pc] := Blk.thru (by (repeat (first | assumption | exact Blk.new _ _ _ | (refine Blk.new' _ _ _ ?_; (simp; done)) | refine Blk.drew ?_ | refine Blk.alloc ?_ _ | (refine Blk.fars ?_ ?_ _ _; rotate_left; (dsimp only; omega)) | (refine Blk.far ?_ ?_ _; rotate_left; (first | (dsimp only; omega) | (simp; done) | (simp; omega) | omega))))) hb1 (by simp <;> omega)
  have hw1 : Below w.heap.size w w1 := (by repeat (first | exact Below.refl _ _ | assumption | (refine Below.setCell ?_ (by first | omega | (simp; done) | (simp; omega)) _) | (refine Below.alloc ?_ (by first | omega | (simp; done) | (simp; omega)) _) | refine Below.drew ?_ | (refine below_thru ?_ (by assumption) (by first | omega | (simp; done) | (simp; omega))) | refine below_drewN ?_ _))
  have hl0 := hL1.lt
  have hl1 := hX1.lt
  have hl2 := hY1.lt
  have hl3 := hZ1.lt
  clear hb1 hc1 hf1
  obtain ⟨s0, s1, _, _⟩ := hL1.two
  have x0 := hX1.cell 0
  simp only [List.getElem?_toArray, List.getElem?_cons_zero] at x0
  have HY1 := Lib.hid hY1
  have HZ1 := Lib.hid hZ1
  clear hL1 hX1 hY1 hZ1
  go_wp2_with fail
  refine (HSO.out _ (by repeat (first | exact Below.refl _ _ | assumption | (refine Below.setCell ?_ (by first | omega | (simp; done) | (simp; omega)) _) | (refine Below.alloc ?_ (by first | omega | (simp; done) | (simp; omega)) _) | refine Below.drew ?_ | (refine below_thru ?_ (by assumption) (by first | omega | (simp; done) | (simp; omega))) | refine below_drewN ?_ _))).mono ?_
  rintro e w2 ⟨A, c, rfl, hown, hb2⟩
  obtain ⟨b, rfl, _, hbb, hms, hml⟩ := ms_of_owns hown (by omega)
  have hz2 := hb2.size
  (try simp at hz2 hbb)
  have hw2 : Below w.heap.size w w2 := (hw1.alloc (by omega) _).trans (hb2.mono (by simp; omega))
  have hY2 : Blk w2 (w.heap.size + 1 + 1) 43 #[.slice tA l.gn tc] := Blk.thru (HY1.out.alloc _) hb2 (by simp; omega)
  have hZ2 : Blk w2 (w.heap.size + 1 + 1 + 1) 69 #[.slice pA l.gn pc] := Blk.thru (HZ1.out.alloc _) hb2 (by simp; omega)
  have y0 := hY2.cell 0
  have z0 := hZ2.cell 0
  simp only [List.getElem?_toArray, List.getElem?_cons_zero] at y0 z0
  have hy2 := hY2.lt
  have hz2' := hZ2.lt
  have hbl := hms.lt
  have Hms := Lib.hid hms
  have hsetA : Ms (w2.alloc (.cells #[.slice (some ⟨b, 0, none⟩) l.gn c, .slice l.rA l.rn l.rc] 114)) b (machs l.gs ss) := hms.grow (by repeat (first | exact Below.refl _ _ | assumption | (refine Below.setCell ?_ (by first | omega | (simp; done) | (simp; omega)) _) | (refine Below.alloc ?_ (by first | omega | (simp; done) | (simp; omega)) _) | refine Below.drew ?_ | (refine below_thru ?_ (by assumption) (by first | omega | (simp; done) | (simp; omega))) | refine below_drewN ?_ _))
  have HsetA := Lib.hid hsetA
  clear hown hb2 hms s0 s1 x0 hY2 hZ2 hsetA
  go_wp2_with fail
  refine (HSS.out _ b c HsetA.out (by repeat (first | exact Below.refl _ _ | assumption | (refine Below.setCell ?_ (by first | omega | (simp; done) | (simp; omega)) _) | (refine Below.alloc ?_ (by first | omega | (simp; done) | (simp; omega)) _) | refine Below.drew ?_ | (refine below_thru ?_ (by assumption) (by first | omega | (simp; done) | (simp; omega))) | refine below_drewN ?_ _)) Hml.out).mono ?_
  rintro e w3 ⟨gd, rfl, hgd0, hgd1, hrc, hms3, hgr⟩
  have hz3 := hgr.size
  (try simp at hz3)
  have hw2a : Below w.heap.size w (w2.alloc (.cells #[.slice (some ⟨b, 0, none⟩) l.gn c, .slice l.rA l.rn l.rc] 114)) := (by repeat (first | exact Below.refl _ _ | assumption | (refine Below.setCell ?_ (by first | omega | (simp; done) | (simp; omega)) _) | (refine Below.alloc ?_ (by first | omega | (simp; done) | (simp; omega)) _) | refine Below.drew ?_ | (refine below_thru ?_ (by assumption) (by first | omega | (simp; done) | (simp; omega))) | refine below_drewN ?_ _))
  have hw3 : Below w.heap.size w w3 := hw2a.trans (grown_below hgr (fun k hk => by cases hk; omega) (by simp; omega))
  have hset3 : Blk w3 w2.heap.size 114 #[.slice (some ⟨b, 0, none⟩) l.gn c, .slice l.rA l.rn l.rc] := Blk.kept (Blk.new w2 _ _) hgr (by omega)
  obtain ⟨a0, a1, _, _⟩ := hset3.two
  have hsl3 := hset3.lt
  have Hms3 := Lib.hid (show Ms w3 b (moveMs l ss ts ps) from hms3)
  have Hlen := Lib.hid (show (moveMs l ss ts ps).length = l.gn by unfold moveMs; rw [newMs_len]; exact Hml.out)
  have hM : ∀ W, Below w3.heap.size w3 W → Tab W W.heap.size (some ⟨gd, 0, none⟩) l.gn 3 ((moveM l ss ts ps).map Gm.cells) := fun W hW => by
    refine ⟨by simp [moveM], fun _ => ⟨gd, 0, rfl, by have := hW.size; omega, fun k r hr j u hu => ?_⟩⟩
    have hk : k < l.gn := by have := (List.getElem?_eq_some_iff.1 hr).1; simpa [moveM] using this
    have hr' : r = (camF (machs l.gs ss) l.rs l.rn ts ps k).cells := by
      simp [moveM, hk] at hr
      exact hr.symm
    subst hr'
    have h1 := hrc k hk j u hu
    rw [show 0 + k * 3 + j = k * 3 + j by omega]
    exact (hW.cell (p := ⟨gd, k * 3 + j, none⟩) hgd1).trans h1
  have HM := Lib.hid hM
  clear hgr hrc hms3 hset3 HsetA Hms y0 z0 hM
  go_wp2_with fail
  refine (states_any (moveMs l ss ts ps) b l.gn c l.rA l.rn l.rc _ Hms3.out Hlen.out n1).mono ?_
  rintro e w4 ⟨v, rfl, hv, hb4⟩
  obtain ⟨SA, svn, svc, rfl⟩ := owns_slice hv
  have hfl : stCells (moveMs l ss ts ps) = ((moveS l ss ts ps).map Gs.cells).flatten := by unfold stCells moveS; rw [List.flatMap_def, List.map_map]; rfl
  rw [hfl] at hv
  obtain ⟨A', c', hv', htab, hle, _, _⟩ := owns_tabN (rows := (moveS l ss ts ps).map Gs.cells) hv (fun r hr => by obtain ⟨q, _, rfl⟩ := List.mem_map.1 hr; rfl) (by omega)
  cases hv'
  have Hfin := Lib.hid (show Tab w4 w4.heap.size SA l.gn 3 ((moveS l ss ts ps).map Gs.cells) ∧ Tab w4 w4.heap.size (some ⟨gd, 0, none⟩) l.gn 3 ((moveM l ss ts ps).map Gm.cells) ∧ l.gn ≤ svc ∧ Below w.heap.size w w4 from ⟨htab, HM.out w4 hb4, hle, hw3.trans (hb4.mono hw3.size)⟩)
  clear hv hfl htab hle hb4 a0 a1
  go_wp2
  go_ret3
  exact ⟨SA, svc, gd, rfl, Hfin.out.1, Hfin.out.2.1, Hfin.out.2.2.1, Hfin.out.2.2.2⟩
end Go.Proofs.YtgdomaddjiggaaaGreat
