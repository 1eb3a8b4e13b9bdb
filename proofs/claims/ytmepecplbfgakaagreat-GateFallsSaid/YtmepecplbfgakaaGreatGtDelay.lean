/- Delay and Time. -/
import Derived.Test.YtmepecplbfgakaaGreatGtDelayF
namespace Go.Proofs.YtmepecplbfgakaaGreat
open Go.RowKit
set_option linter.unusedSimpArgs false
set_option linter.unusedVariables false

def delayR (l : St) (ss : List Gs) (sn : Nat) (t : Gt) : Int × Int :=
  if (delayFt l ss sn t).e = 0 then (-(-(toShutF l.rs l.rn t l.gn 2000 0 (machs l.gs ss)).1 / 10), (toShutF l.rs l.rn t l.gn 2000 0 (machs l.gs ss)).2) else (0, (delayFt l ss sn t).e)
theorem nat_of_beq {a b : Nat} (h : ((a : Int) == (b : Int)) = true) : a = b := by
  have : (a : Int) = (b : Int) := by simpa using h
  omega
theorem toShut_in (rs : List Gr) (rn : Nat) (t : Gt) (n : Nat) : ∀ (f k : Nat) (ms : List (Ga × Gs)), f + k ≤ 2000 → 0 ≤ (toShutF rs rn t n f k ms).1 ∧ (toShutF rs rn t n f k ms).1 ≤ 2000
  | 0, k, ms, h => by
    unfold toShutF
    split
    · simp only; omega
    · simp only; omega
  | f + 1, k, ms, h => by
    unfold toShutF
    split
    · simp only; omega
    · exact toShut_in rs rn t n f (k + 1) _ (by omega)
theorem delay_ok {l : St} {ss : List Gs} {sn : Nat} {t : Gt} {w : World} {B : Nat} {A : Option Addr} (hl : l.At w B) (hs : Tab w B A sn 3 (ss.map Gs.cells)) (h : (delayFt l ss sn t).e = 0) : l.Ok ∧ sn = l.gn ∧ t.Ok ∧ ∀ m ∈ machs l.gs ss, m.1.Ok ∧ m.2.Ok m.1 := by
  have h1 := first0 _ h _ (by simp : setFt l ∈ [setFt l, need ((sn : Int) == (l.gn : Int)) 2, eachF (delayE l ss t) 0 l.gn])
  have h2 := need_e (b := ((sn : Int) == (l.gn : Int))) (c := 2) (by omega) (first0 _ h (need ((sn : Int) == (l.gn : Int)) 2) (by simp))
  have h3 := each0 _ _ _ (first0 _ h (eachF (delayE l ss t) 0 l.gn) (by simp))
  have hlo := setFt_ok l w B hl h1
  have hsn : sn = l.gn := nat_of_beq h2
  have hsl : ss.length = sn := by have := hs.1; simpa using this
  have hgl := hl.g.len
  have hk : ∀ (k : Nat) (g : Ga) (s : Gs), l.gs[k]? = some g → ss[k]? = some s → g.Ok ∧ s.Ok g ∧ t.Ok := fun k g s hg hs => by
    have hlt := (List.getElem?_eq_some_iff.1 hg).1
    have := h3 k (by omega) (by omega)
    unfold delayE at this
    rw [gAt_of hg, sAt_of hs] at this
    exact step_ok (hl.g.at_ g (List.mem_of_getElem? hg)) this
  refine ⟨hlo, hsn, ?_, fun m hm => ?_⟩
  · have n0 := hlo.n0
    obtain ⟨g, hg⟩ := get_lt hgl (by omega : 0 < l.gn)
    obtain ⟨s, hs'⟩ := get_lt hsl (by omega : 0 < sn)
    exact (hk 0 g s hg hs').2.2
  · obtain ⟨k, hkm⟩ := List.getElem?_of_mem hm
    unfold machs at hkm
    rw [List.getElem?_zip_eq_some] at hkm
    have := hk k m.1 m.2 hkm.1 hkm.2
    exact ⟨this.1, this.2.1⟩

/-- What the end of Delay reads. -/
structure DlR (W : World) (lb : Nat) (lv : Array Value) (xb : Nat) (sv : Value) (tb : Nat) (t : Gt) : Prop where
  l : Blk W lb 25 lv
  x : Blk W xb 50 #[sv]
  t : Blk W tb 49 #[.int .i64 t.order, .bool t.power, .int .i64 t.outer, .int .i64 t.inner]
section
variable {W W' : World} {lb xb tb : Nat} {lv : Array Value} {sv : Value} {t : Gt}
theorem DlR.below (h : DlR W lb lv xb sv tb t) (hb : Below W.heap.size W W') : DlR W' lb lv xb sv tb t := ⟨h.l.thru hb h.l.lt, h.x.thru hb h.x.lt, h.t.thru hb h.t.lt⟩
theorem DlR.drew (h : DlR W lb lv xb sv tb t) : DlR W.drew lb lv xb sv tb t := ⟨h.l, h.x, h.t⟩
theorem DlR.kept {c : Nat} (h : DlR W lb lv xb sv tb t) (hg : W.grownBy W' (some c)) (h1 : lb ≠ c) (h2 : xb ≠ c) (h3 : tb ≠ c) : DlR W' lb lv xb sv tb t := ⟨h.l.kept hg h1, h.x.kept hg h2, h.t.kept hg h3⟩
end

set_option maxRecDepth 100000 in
set_option maxHeartbeats 8000000 in
theorem Delay_any (l : St) (ss : List Gs) (sA : Option Addr) (sn sc : Nat) (outer inner : Int) (power : Bool) (w : World) (hl : l.At w w.heap.size) (hs : Tab w w.heap.size sA sn 3 (ss.map Gs.cells)) (hsm : sn ≤ maxLen) :
    Calls Tryz.prog 44 #[l.v, .slice sA sn sc, .int .i64 outer, .int .i64 inner, .bool power] w fun e w' => e = .returned (pairV (delayR l ss sn ⟨1, power, outer, inner⟩)) ∧ Below w.heap.size w w' := by
  obtain ⟨t, ht⟩ : ∃ t : Gt, t = ⟨1, power, outer, inner⟩ := ⟨_, rfl⟩
  rw [← ht]
  have hto : t.order = 1 ∧ t.power = power ∧ t.outer = outer ∧ t.inner = inner := by subst ht; exact ⟨rfl, rfl, rfl, rfl⟩
  obtain ⟨t0, t1, t2, t3⟩ := hto
  have hGood : ∀ (W : World) (b0 b1 b2 b3 : Nat), l.Box W b0 → Blk W b1 50 #[.slice sA sn sc] → Tab W W.heap.size sA sn 3 (ss.map Gs.cells) → Blk W b2 49 #[.int .i64 t.order, .bool t.power, .int .i64 t.outer, .int .i64 t.inner] → Blk W b3 3 #[.int .i64 (l.gn : Int)] →
      Good W [⟨98, #[.pointer (some ⟨b0, 0, none⟩)], setFt l⟩, ⟨99, #[.pointer (some ⟨b1, 0, none⟩), .pointer (some ⟨b3, 0, none⟩)], need ((sn : Int) == (l.gn : Int)) 2⟩, ⟨100, #[.pointer (some ⟨b3, 0, none⟩), .pointer (some ⟨b0, 0, none⟩), .pointer (some ⟨b1, 0, none⟩), .pointer (some ⟨b2, 0, none⟩)], eachF (delayE l ss t) 0 l.gn⟩] := by
    intro W b0 b1 b2 b3 h0 h1 hT h2 h3 k x hk hprev W' hW
    match k, hk with
    | 0, hk => cases hk; exact de1_any l b0 W' (h0.grow hW)
    | 1, hk => cases hk; exact de2_any sA sn sc l.gn b1 b3 W' (h1.thru hW h1.lt) (h3.thru hW h3.lt)
    | 2, hk =>
      cases hk
      have e1 := setFt_ok l W W.heap.size h0.at_ (hprev 0 _ (by omega) rfl)
      have e2 := need_e (b := ((sn : Int) == (l.gn : Int))) (c := 2) (by omega) (hprev 1 _ (by omega) rfl)
      have n1 := e1.n1
      exact de3_any l ss t sA sn sc b0 b1 b2 b3 W' (h0.grow hW) (h1.thru hW h1.lt) (h2.thru hW h2.lt) (h3.thru hW h3.lt) (hT.grow hW) (by omega) (nat_of_beq e2)
    | k + 3, hk => simp at hk
  have HGood := Lib.hid hGood
  have Hl := Lib.hid hl
  have Hs := Lib.hid hs
  by_cases h0 : (delayFt l ss sn t).e = 0
  · have hd := delay_ok hl hs h0
    have hf : delayR l ss sn t = (-(-(toShutF l.rs l.rn t l.gn 2000 0 (machs l.gs ss)).1 / 10), (toShutF l.rs l.rn t l.gn 2000 0 (machs l.gs ss)).2) := by unfold delayR; rw [if_pos h0]
    rw [hf]
    clear hf hGood
    obtain ⟨hlo, hsn, hto, hmo⟩ := hd
    rw [← hsn]
    obtain ⟨s0, s1⟩ := toShut_in l.rs l.rn t sn 2000 0 (machs l.gs ss) (by omega)
    have HSO := Lib.hid (fun (W : World) (hW : Below w.heap.size w W) => setOf_any l ss sA sn sc W (hl.grow hW) (hs.grow hW) hsn.symm (by have := hlo.n1; omega))
    have hTS : ∀ (W : World) (b c : Nat), Ms W b (machs l.gs ss) → Below w.heap.size w W → w.heap.size ≤ b → (machs l.gs ss).length = sn →
        Calls Tryz.prog 85 #[setV (some ⟨b, 0, none⟩) sn c l.rA l.rn l.rc, t.v] W fun e w' => e = .returned (pairV (toShutF l.rs l.rn t sn 2000 0 (machs l.gs ss))) ∧ W.grownBy w' (some b) := by
      intro W b c hM hW hbw hml
      exact toShut_any (machs l.gs ss) l.rs t b sn c l.rA l.rn l.rc W hM
        ⟨hml, fun m hm => ((hl.below hW).g.at_ m.1 (by obtain ⟨k, hk⟩ := List.getElem?_of_mem hm; unfold machs at hk; rw [List.getElem?_zip_eq_some] at hk; exact List.mem_of_getElem? hk.1)).more hbw, hmo⟩ (by have := hlo.n0; omega) (by have := hlo.n1; omega) ((hl.below hW).r.more hbw) (by have := hlo.rn; omega) (fun r hr => by have := (hlo.r r hr).2.1; omega) hto
    have HTS := Lib.hid hTS
    clear hTS
    have h0n : 1 ≤ sn := by have := hlo.n0; omega
    obtain ⟨fp, fa, fe, hfl⟩ : ∃ fp fa fe, delayFt l ss sn t = ⟨fp, fa, fe⟩ := ⟨_, _, _, rfl⟩
    have Hfl := Lib.hid hfl
    rw [hfl] at h0
    simp only at h0
    subst h0
    have T0 := Lib.hid t0
    have Hsn := Lib.hid hsn
    generalize toShutF l.rs l.rn t sn 2000 0 (machs l.gs ss) = ts at *
    obtain ⟨n, er⟩ := ts
    simp only at s0 s1
    clear hfl ht t0 hl hs hlo hto hmo hsn
    subst t1 t2 t3
    go_enter Tryz.func44, Tryz.ntmps44
    go_wp2_with fail
    refine (first_any _ (w.heap.size + 1 + 1 + 1 + 1) 0 3 [⟨98, #[.pointer (some ⟨w.heap.size, 0, none⟩)], setFt l⟩, ⟨99, #[.pointer (some ⟨w.heap.size + 1, 0, none⟩), .pointer (some ⟨w.heap.size + 1 + 1 + 1, 0, none⟩)], need ((sn : Int) == (l.gn : Int)) 2⟩, ⟨100, #[.pointer (some ⟨w.heap.size + 1 + 1 + 1, 0, none⟩), .pointer (some ⟨w.heap.size, 0, none⟩), .pointer (some ⟨w.heap.size + 1, 0, none⟩), .pointer (some ⟨w.heap.size + 1 + 1, 0, none⟩)], eachF (delayE l ss t) 0 l.gn⟩] rfl (by omega) (by simp) ?_ (HGood.out _ _ _ _ _ ⟨?_, ?_⟩ ?_ ?_ ?_ ?_) ?_).mono ?_
    · intro k c hk
      match k, hk with
      | 0, hk => cases hk; exact (Blk.new' _ _ _ (by simp)).cell 0
      | 1, hk => cases hk; exact (Blk.new' _ _ _ (by simp)).cell 1
      | 2, hk => cases hk; exact (Blk.new' _ _ _ (by simp)).cell 2
      | k + 3, hk => simp at hk
    · exact ((((Blk.new w _ _).alloc _).alloc _).alloc _).alloc _
    · exact Hl.out.grow (by repeat (first | exact Below.refl _ _ | assumption | (refine Below.setCell ?_ (by first | omega | (simp; done) | (simp; omega)) _) | (refine Below.alloc ?_ (by first | omega | (simp; done) | (simp; omega)) _) | refine Below.drew ?_ | (refine below_thru ?_ (by assumption) (by first | omega | (simp; done) | (simp; omega))) | refine below_drewN ?_ _))
    · exact (((Blk.new' (w.alloc _) _ _ (by simp)).alloc _).alloc _).alloc _
    · exact Hs.out.grow (by repeat (first | exact Below.refl _ _ | assumption | (refine Below.setCell ?_ (by first | omega | (simp; done) | (simp; omega)) _) | (refine Below.alloc ?_ (by first | omega | (simp; done) | (simp; omega)) _) | refine Below.drew ?_ | (refine below_thru ?_ (by assumption) (by first | omega | (simp; done) | (simp; omega))) | refine below_drewN ?_ _))
    · rw [T0.out]; exact ((Blk.new' ((w.alloc _).alloc _) _ _ (by simp)).alloc _).alloc _
    · exact (Blk.new' (((w.alloc _).alloc _).alloc _) _ _ (by simp)).alloc _
    · intro k c hk W
      match k, hk with
      | 0, hk => cases hk; show Sem.run Tryz.prog (callFunc _ _) W = _; kernel_rfl
      | 1, hk => cases hk; show Sem.run Tryz.prog (callFunc _ _) W = _; kernel_rfl
      | 2, hk => cases hk; show Sem.run Tryz.prog (callFunc _ _) W = _; kernel_rfl
      | k + 3, hk => simp at hk
    rintro e w1 ⟨he, hb1⟩
    replace he : e = .returned (delayFt l ss sn t).v := he
    rw [Hfl.out] at he
    subst he
    obtain ⟨hc1, hf1⟩ := bcell hb1; have hz1 := hb1.size; (try simp at hz1)
    have hD1 : DlR w1 w.heap.size #[.slice l.gA l.gn l.gc, .slice l.rA l.rn l.rc] (w.heap.size + 1) (.slice sA sn sc) (w.heap.size + 1 + 1) t :=
      ⟨Blk.thru (by (repeat (first | assumption | exact Blk.new _ _ _ | (refine Blk.new' _ _ _ ?_; (simp; done)) | refine Blk.drew ?_ | refine Blk.alloc ?_ _ | (refine Blk.fars ?_ ?_ _ _; rotate_left; (dsimp only; omega)) | (refine Blk.far ?_ ?_ _; rotate_left; (first | (dsimp only; omega) | (simp; done) | (simp; omega) | omega))))) hb1 (by simp <;> omega), Blk.thru (by (repeat (first | assumption | exact Blk.new _ _ _ | (refine Blk.new' _ _ _ ?_; (simp; done)) | refine Blk.drew ?_ | refine Blk.alloc ?_ _ | (refine Blk.fars ?_ ?_ _ _; rotate_left; (dsimp only; omega)) | (refine Blk.far ?_ ?_ _; rotate_left; (first | (dsimp only; omega) | (simp; done) | (simp; omega) | omega))))) hb1 (by simp <;> omega), Blk.thru (by rw [T0.out]; (repeat (first | assumption | exact Blk.new _ _ _ | (refine Blk.new' _ _ _ ?_; (simp; done)) | refine Blk.drew ?_ | refine Blk.alloc ?_ _ | (refine Blk.fars ?_ ?_ _ _; rotate_left; (dsimp only; omega)) | (refine Blk.far ?_ ?_ _; rotate_left; (first | (dsimp only; omega) | (simp; done) | (simp; omega) | omega))))) hb1 (by simp <;> omega)⟩
    have hD2 := (hD1.below (W' := w1.alloc (.cells #[.int .i64 fp, .int .i64 fa, .int .i64 0] 94)) (by repeat (first | exact Below.refl _ _ | assumption | (refine Below.setCell ?_ (by first | omega | (simp; done) | (simp; omega)) _) | (refine Below.alloc ?_ (by first | omega | (simp; done) | (simp; omega)) _) | refine Below.drew ?_ | (refine below_thru ?_ (by assumption) (by first | omega | (simp; done) | (simp; omega))) | refine below_drewN ?_ _))).drew
    have hB2 : Below w.heap.size w (w1.alloc (.cells #[.int .i64 fp, .int .i64 fa, .int .i64 0] 94)).drew := (by repeat (first | exact Below.refl _ _ | assumption | (refine Below.setCell ?_ (by first | omega | (simp; done) | (simp; omega)) _) | (refine Below.alloc ?_ (by first | omega | (simp; done) | (simp; omega)) _) | refine Below.drew ?_ | (refine below_thru ?_ (by assumption) (by first | omega | (simp; done) | (simp; omega))) | refine below_drewN ?_ _))
    have hz2 : (w1.alloc (.cells #[.int .i64 fp, .int .i64 fa, .int .i64 0] 94)).drew.heap.size = w1.heap.size + 1 := by simp
    clear hD1
    go_wp2_with fail
    generalize hw2 : (w1.alloc (.cells #[.int .i64 fp, .int .i64 fa, .int .i64 0] 94)) = wx at *
    clear hw2
    refine wp_region_held (S := fun W' => DlR W' w.heap.size #[.slice l.gA l.gn l.gc, .slice l.rA l.rn l.rc] (w.heap.size + 1) (.slice sA sn sc) (w.heap.size + 1 + 1) t) (by kernel_rfl) (by exact hD2) (fun hHeld => ?_)
    refine wpAnyH_take (i := 0) (v := ?_) rfl (by kernel_rfl) (by kernel_rfl) (by kernel_rfl) (fun _ _ _ h => h) (Or.inl ⟨by rfl, ?_⟩) hHeld ?_
    rotate_left
    · intro w hSw; (try dsimp only at hSw); obtain ⟨x1, x2, x3⟩ := hSw; have s0 := x1.cell 0; have s1 := x1.cell 1; have y0 := x2.cell 0; have t0 := x3.cell 0; have t1 := x3.cell 1; have t2 := x3.cell 2; have t3 := x3.cell 3; simp only [List.getElem?_toArray, List.getElem?_cons_zero, List.getElem?_cons_succ] at s0 s1 y0 t0 t1 t2 t3; go_simp; (try with_reducible rfl)
    (try simp only [Act.put, List.setIfInBounds_toArray, List.set_cons_zero, List.set_cons_succ])
    refine wpAnyH_take (i := 1) (v := ?_) rfl (by kernel_rfl) (by kernel_rfl) (by kernel_rfl) (fun _ _ _ h => h) (Or.inl ⟨by rfl, ?_⟩) hHeld ?_
    rotate_left
    · intro w hSw; (try dsimp only at hSw); obtain ⟨x1, x2, x3⟩ := hSw; have s0 := x1.cell 0; have s1 := x1.cell 1; have y0 := x2.cell 0; have t0 := x3.cell 0; have t1 := x3.cell 1; have t2 := x3.cell 2; have t3 := x3.cell 3; simp only [List.getElem?_toArray, List.getElem?_cons_zero, List.getElem?_cons_succ] at s0 s1 y0 t0 t1 t2 t3; go_simp; (try with_reducible rfl)
    (try simp only [Act.put, List.setIfInBounds_toArray, List.set_cons_zero, List.set_cons_succ])
    refine wpAnyH_take (i := 3) (v := ?_) rfl (by kernel_rfl) (by kernel_rfl) (by kernel_rfl) (fun _ _ _ h => h) (Or.inl ⟨by rfl, ?_⟩) hHeld ?_
    rotate_left
    · intro w hSw; (try dsimp only at hSw); obtain ⟨x1, x2, x3⟩ := hSw; have s0 := x1.cell 0; have s1 := x1.cell 1; have y0 := x2.cell 0; have t0 := x3.cell 0; have t1 := x3.cell 1; have t2 := x3.cell 2; have t3 := x3.cell 3; simp only [List.getElem?_toArray, List.getElem?_cons_zero, List.getElem?_cons_succ] at s0 s1 y0 t0 t1 t2 t3; go_simp; (try with_reducible rfl)
    (try simp only [Act.put, List.setIfInBounds_toArray, List.set_cons_zero, List.set_cons_succ])
    (try simp only [List.getElem_toArray, List.getElem_cons_zero, List.getElem_cons_succ, Act.put, List.setIfInBounds_toArray, List.set_cons_zero, List.set_cons_succ])
    refine wpAnyH_ready (rs := [2]) (by kernel_rfl) (by simp) ?_
    refine AllReadyH.cons rfl (fun K hK => ?_) AllReadyH.nil
    go_simp
    refine (HSO.out _ hB2).mono ?_
    rintro e w3 ⟨A, c, rfl, hown, hb3⟩; have hz3 := hb3.size
    (try dsimp only)
    refine hK.out _ _ (by exact hHeld.below hb3) (fun hHeld => ?_)
    clear hK K
    (try simp only [Act.put, List.setIfInBounds_toArray, List.set_cons_zero, List.set_cons_succ])
    obtain ⟨b, rfl, _, hbb, hms, hml⟩ := ms_of_owns hown (by omega)
    (try simp at hz2 hbb)
    have hB3 : Below w.heap.size w w3 := hB2.trans (hb3.mono (by simp; omega))
    have hbl := hms.lt
    (try simp only [List.getElem_toArray, List.getElem_cons_zero, List.getElem_cons_succ, Act.put, List.setIfInBounds_toArray, List.set_cons_zero, List.set_cons_succ])
    have hcall : Calls Tryz.prog 85 #[setV (some ⟨b, 0, none⟩) sn c l.rA l.rn l.rc, t.v] w3 fun e w' => e = .returned (.tuple #[.int .i64 n, .int .i64 er]) ∧ w3.grownBy w' (some b) := HTS.out w3 b c hms hB3 (by omega) hml
    refine wpAnyH_ready (rs := [4]) (by kernel_rfl) (by simp) ?_
    refine AllReadyH.cons rfl (fun K hK => ?_) AllReadyH.nil
    go_simp
    refine (hcall).mono ?_
    rintro e w4 ⟨rfl, hg4⟩; have hz4 := hg4.size
    (try dsimp only)
    refine hK.out _ _ (by exact hHeld.kept hg4 (by omega) (by omega) (by omega)) (fun hHeld => ?_)
    clear hK K
    (try simp only [Act.put, List.setIfInBounds_toArray, List.set_cons_zero, List.set_cons_succ])
    have hB4 : Below w.heap.size w w4 := hB3.trans (below_of_grown hg4 (by omega) (by omega))
    clear hg4 hms hown hb3 hB3 hB2 hD2
    (try simp only [List.getElem_toArray, List.getElem_cons_zero, List.getElem_cons_succ, Act.put, List.setIfInBounds_toArray, List.set_cons_zero, List.set_cons_succ])
    refine wpAnyH_take (i := 5) (v := ?_) rfl (by kernel_rfl) (by kernel_rfl) (by kernel_rfl) (fun _ _ _ h => h) (Or.inl ⟨by rfl, ?_⟩) hHeld ?_
    rotate_left
    · intro w hSw; (try dsimp only at hSw); skip; go_simp; (try with_reducible rfl)
    (try simp only [Act.put, List.setIfInBounds_toArray, List.set_cons_zero, List.set_cons_succ])
    refine wpAnyH_take (i := 6) (v := ?_) rfl (by kernel_rfl) (by kernel_rfl) (by kernel_rfl) (fun _ _ _ h => h) (Or.inl ⟨by rfl, ?_⟩) hHeld ?_
    rotate_left
    · intro w hSw; (try dsimp only at hSw); skip; go_simp; (try with_reducible rfl)
    (try simp only [Act.put, List.setIfInBounds_toArray, List.set_cons_zero, List.set_cons_succ])
    refine wpAnyH_take (i := 7) (v := ?_) rfl (by kernel_rfl) (by kernel_rfl) (by kernel_rfl) (fun _ _ _ h => h) (Or.inl ⟨by rfl, ?_⟩) hHeld ?_
    rotate_left
    · intro w hSw; (try dsimp only at hSw); skip; go_simp; (try with_reducible rfl)
    (try simp only [Act.put, List.setIfInBounds_toArray, List.set_cons_zero, List.set_cons_succ])
    refine wpAnyH_take (i := 8) (v := ?_) rfl (by kernel_rfl) (by kernel_rfl) (by kernel_rfl) (fun _ _ _ h => h) (Or.inl ⟨by rfl, ?_⟩) hHeld ?_
    rotate_left
    · intro w hSw; (try dsimp only at hSw); skip; go_simp; (try with_reducible rfl)
    (try simp only [Act.put, List.setIfInBounds_toArray, List.set_cons_zero, List.set_cons_succ])
    refine wpAnyH_take (i := 9) (v := ?_) rfl (by kernel_rfl) (by kernel_rfl) (by kernel_rfl) (fun _ _ _ h => h) (Or.inl ⟨by rfl, ?_⟩) hHeld ?_
    rotate_left
    · intro w hSw; (try dsimp only at hSw); skip; go_simp; (try with_reducible rfl)
    (try simp only [Act.put, List.setIfInBounds_toArray, List.set_cons_zero, List.set_cons_succ])
    refine wpAnyH_done (by kernel_rfl) ?_ _
    (try simp only [List.getElem_toArray, List.getElem_cons_zero, List.getElem_cons_succ, Act.put, List.setIfInBounds_toArray, List.set_cons_zero, List.set_cons_succ])
    go_wp2_with fail
    refine (ceilDiv_any n 10 _ (by omega) (by omega) (by omega)).mono ?_
    rintro e w5 ⟨rfl, rfl⟩
    go_wp2
    go_ret2
    exact ⟨rfl, hB4⟩
  · have hf : delayR l ss sn t = (0, (delayFt l ss sn t).e) := by unfold delayR; rw [if_neg h0]
    rw [hf]
    clear hf hGood hl hs
    obtain ⟨fp, fa, fe, hfl⟩ : ∃ fp fa fe, delayFt l ss sn t = ⟨fp, fa, fe⟩ := ⟨_, _, _, rfl⟩
    have Hfl := Lib.hid hfl
    rw [hfl] at h0 ⊢
    simp only at h0
    have h0' : (fe != 0) = true := by rw [bne_iff_ne]; exact h0
    have T0 := Lib.hid t0
    clear hfl h0 ht t0
    subst t1 t2 t3
    go_enter Tryz.func44, Tryz.ntmps44
    go_wp2_with fail
    refine (first_any _ (w.heap.size + 1 + 1 + 1 + 1) 0 3 [⟨98, #[.pointer (some ⟨w.heap.size, 0, none⟩)], setFt l⟩, ⟨99, #[.pointer (some ⟨w.heap.size + 1, 0, none⟩), .pointer (some ⟨w.heap.size + 1 + 1 + 1, 0, none⟩)], need ((sn : Int) == (l.gn : Int)) 2⟩, ⟨100, #[.pointer (some ⟨w.heap.size + 1 + 1 + 1, 0, none⟩), .pointer (some ⟨w.heap.size, 0, none⟩), .pointer (some ⟨w.heap.size + 1, 0, none⟩), .pointer (some ⟨w.heap.size + 1 + 1, 0, none⟩)], eachF (delayE l ss t) 0 l.gn⟩] rfl (by omega) (by simp) ?_ (HGood.out _ _ _ _ _ ⟨?_, ?_⟩ ?_ ?_ ?_ ?_) ?_).mono ?_
    · intro k c hk
      match k, hk with
      | 0, hk => cases hk; exact (Blk.new' _ _ _ (by simp)).cell 0
      | 1, hk => cases hk; exact (Blk.new' _ _ _ (by simp)).cell 1
      | 2, hk => cases hk; exact (Blk.new' _ _ _ (by simp)).cell 2
      | k + 3, hk => simp at hk
    · exact ((((Blk.new w _ _).alloc _).alloc _).alloc _).alloc _
    · exact Hl.out.grow (by repeat (first | exact Below.refl _ _ | assumption | (refine Below.setCell ?_ (by first | omega | (simp; done) | (simp; omega)) _) | (refine Below.alloc ?_ (by first | omega | (simp; done) | (simp; omega)) _) | refine Below.drew ?_ | (refine below_thru ?_ (by assumption) (by first | omega | (simp; done) | (simp; omega))) | refine below_drewN ?_ _))
    · exact (((Blk.new' (w.alloc _) _ _ (by simp)).alloc _).alloc _).alloc _
    · exact Hs.out.grow (by repeat (first | exact Below.refl _ _ | assumption | (refine Below.setCell ?_ (by first | omega | (simp; done) | (simp; omega)) _) | (refine Below.alloc ?_ (by first | omega | (simp; done) | (simp; omega)) _) | refine Below.drew ?_ | (refine below_thru ?_ (by assumption) (by first | omega | (simp; done) | (simp; omega))) | refine below_drewN ?_ _))
    · rw [T0.out]; exact ((Blk.new' ((w.alloc _).alloc _) _ _ (by simp)).alloc _).alloc _
    · exact (Blk.new' (((w.alloc _).alloc _).alloc _) _ _ (by simp)).alloc _
    · intro k c hk W
      match k, hk with
      | 0, hk => cases hk; show Sem.run Tryz.prog (callFunc _ _) W = _; kernel_rfl
      | 1, hk => cases hk; show Sem.run Tryz.prog (callFunc _ _) W = _; kernel_rfl
      | 2, hk => cases hk; show Sem.run Tryz.prog (callFunc _ _) W = _; kernel_rfl
      | k + 3, hk => simp at hk
    rintro e w1 ⟨he, hb1⟩
    replace he : e = .returned (delayFt l ss sn t).v := he
    rw [Hfl.out] at he
    subst he
    obtain ⟨hc1, hf1⟩ := bcell hb1; have hz1 := hb1.size; (try simp at hz1)
    have hl1 : w.heap.size < w1.heap.size := by omega
    go_wp2_with fail
    go_quiet (fail)
    go_wp2
    go_ret2
    exact ⟨rfl, (by repeat (first | exact Below.refl _ _ | assumption | (refine Below.setCell ?_ (by first | omega | (simp; done) | (simp; omega)) _) | (refine Below.alloc ?_ (by first | omega | (simp; done) | (simp; omega)) _) | refine Below.drew ?_ | (refine below_thru ?_ (by assumption) (by first | omega | (simp; done) | (simp; omega))) | refine below_drewN ?_ _))⟩
end Go.Proofs.YtmepecplbfgakaaGreat
