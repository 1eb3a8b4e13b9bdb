/- The faults of the gates of a set: memberFault. -/
import Derived.Test.YtgdomaddjiggaaaGreatGtToShut
namespace Go.Proofs.YtgdomaddjiggaaaGreat
open Go.RowKit
set_option linter.unusedSimpArgs false
set_option linter.unusedVariables false

/-- Gates one after the other, below block B. -/
structure Gates (w : World) (B : Nat) (A : Option Addr) (n : Nat) (gs : List Ga) : Prop where
  tab : Tab w B A n 21 (gs.map Ga.cells)
  at_ : ∀ g ∈ gs, g.At w B
theorem Gates.below {w w' : World} {B : Nat} {A : Option Addr} {n : Nat} {gs : List Ga} (h : Gates w B A n gs) (hb : Below B w w') : Gates w' B A n gs := ⟨h.tab.below hb, fun g hg => (h.at_ g hg).below hb⟩
theorem Gates.more {w : World} {B B' : Nat} {A : Option Addr} {n : Nat} {gs : List Ga} (h : Gates w B A n gs) (hB : B ≤ B') : Gates w B' A n gs := ⟨h.tab.more hB, fun g hg => (h.at_ g hg).more hB⟩
theorem Gates.grow {w w' : World} {A : Option Addr} {n : Nat} {gs : List Ga} (h : Gates w w.heap.size A n gs) (hb : Below w.heap.size w w') : Gates w' w'.heap.size A n gs := (h.below hb).more hb.size
theorem Gates.len {w : World} {B : Nat} {A : Option Addr} {n : Nat} {gs : List Ga} (h : Gates w B A n gs) : gs.length = n := by have := h.tab.1; simpa using this
theorem Gates.row {w : World} {B : Nat} {A : Option Addr} {n : Nat} {gs : List Ga} (h : Gates w B A n gs) {k : Nat} {g : Ga} (hk : gs[k]? = some g) : ∃ b off, A = some ⟨b, off, none⟩ ∧ b < B ∧ w.rangeAt b (off + k * 21) g.cells := by
  have hlt := (List.getElem?_eq_some_iff.1 hk).1
  have hl := h.len
  obtain ⟨b, off, e, hb, hc⟩ := h.tab.2 (by omega)
  exact ⟨b, off, e, hb, fun j v hv => by
    have := hc k g.cells (by simp [hk]) j v hv
    exact this⟩
theorem wpl_gm {ops : Array Oper} {rest : List Oper} {o : Oper} {a : Act} {w : World} {Q : Exit → Act → World → Prop} {x : Operand} {b off : Nat} {g : Ga} (h : w.rangeAt b off g.cells) (hgd : o.guard = none) (ho : o.op = .load 33 x) (hx : a.eval x = .pointer (some ⟨b, off, none⟩))
    (hk : wpList Tryz.prog ops Q rest (a.put o.dst g.v) w) : wpList Tryz.prog ops Q (o :: rest) a w := by
  obtain ⟨fs, hu⟩ := uGate
  exact wpList_load_mid hgd _ x ho b off hx g.cells (.struct fs) h hu rfl iGate hk

/-- A gate of a set, or one that is none. -/
def noGate : Ga := ⟨⟨#[]⟩, 0, 0, none, 0, 0, [], 0, 0, 0, 0, 0, 0, 0, 0, 0, 0, 0, 0, 0, 0, 0, none, 0, 0, [], 0⟩
def gAt (gs : List Ga) (i : Nat) : Ga := (gs[i]?).getD noGate
/-- A gate before the i-th has its name. -/
def twiceB (gs : List Ga) (i : Nat) : Bool := (List.range i).any fun k => (gAt gs k).name.toList == (gAt gs i).name.toList
def memberFt (gs : List Ga) (i : Nat) : Ft := firstF [gateF (gAt gs i), need (!twiceB gs i) 5]
theorem gAt_of {gs : List Ga} {i : Nat} {g : Ga} (h : gs[i]? = some g) : gAt gs i = g := by unfold gAt; rw [h]; rfl

set_option maxHeartbeats 1000000 in
theorem mf1_any (gs : List Ga) (A : Option Addr) (n c i bl bi : Nat) (w : World) (hg : Gates w w.heap.size A n gs) (hi : i < n) (hn : n ≤ 1000) (hl : Blk w bl 22 #[.slice A n c]) (hI : Blk w bi 3 #[.int .i64 (i : Int)]) :
    Calls Tryz.prog 151 #[.pointer (some ⟨bl, 0, none⟩), .pointer (some ⟨bi, 0, none⟩)] w fun e w' => e = .returned (gateF (gAt gs i)).v ∧ Below w.heap.size w w' := by
  obtain ⟨g, hgi⟩ := get_lt hg.len hi
  obtain ⟨b, off, rfl, hb, hrow⟩ := hg.row hgi
  have hga := hg.at_ g (List.mem_of_getElem? hgi)
  rw [gAt_of hgi]
  have x0 := hl.cell 0
  have i0 := hI.cell 0
  simp only [List.getElem?_toArray, List.getElem?_cons_zero] at x0 i0
  have hll := hl.lt
  have hil := hI.lt
  have j0 : (0 : Int) ≤ (i : Int) := Int.natCast_nonneg _
  have j1 : (i : Int) < (n : Int) := by omega
  have Hrow := Lib.hid hrow
  have Hga := Lib.hid hga
  clear hg hgi hrow hga hl hI
  go_enter Tryz.func151, Tryz.ntmps151
  go_wp2_with (with_reducible refine wpl_gm (g := g) (range_below Hrow.out ((Below.refl w.heap.size w).alloc (Nat.le_refl _) _) hb) rfl rfl rfl ?_)
  refine (gateFault_any g _ (Hga.out.grow (by repeat (first | exact Below.refl _ _ | assumption | (refine Below.setCell ?_ (by first | omega | (simp; done) | (simp; omega)) _) | (refine Below.alloc ?_ (by first | omega | (simp; done) | (simp; omega)) _) | refine Below.drew ?_ | (refine below_thru ?_ (by assumption) (by first | omega | (simp; done) | (simp; omega))) | refine below_drewN ?_ _)))).mono ?_
  rintro e w1 ⟨rfl, hb1⟩
  obtain ⟨hc1, hf1⟩ := bcell hb1; have hz1 := hb1.size; (try simp at hz1)
  go_wp2
  exact bodyPost_ret (v := (gateF g).v) (by simp [results, Tryz.results151, go_sem, hc1] <;> omega) rfl ⟨by rfl, (by repeat (first | exact Below.refl _ _ | assumption | (refine Below.setCell ?_ (by first | omega | (simp; done) | (simp; omega)) _) | (refine Below.alloc ?_ (by first | omega | (simp; done) | (simp; omega)) _) | refine Below.drew ?_ | (refine below_thru ?_ (by assumption) (by first | omega | (simp; done) | (simp; omega))) | refine below_drewN ?_ _))⟩

set_option maxHeartbeats 1000000 in
theorem mf21_any (o : Ga) (gs : List Ga) (A : Option Addr) (n c i bl bi : Nat) (w : World) (hg : Gates w w.heap.size A n gs) (hi : i < n) (hn : n ≤ 1000) (hl : Blk w bl 22 #[.slice A n c]) (hI : Blk w bi 3 #[.int .i64 (i : Int)]) :
    Calls Tryz.prog 154 #[o.v, .pointer (some ⟨bl, 0, none⟩), .pointer (some ⟨bi, 0, none⟩)] w fun e w' => e = .returned (.bool (o.name.toList == (gAt gs i).name.toList)) ∧ Below w.heap.size w w' := by
  obtain ⟨g, hgi⟩ := get_lt hg.len hi
  obtain ⟨b, off, rfl, hb, hrow⟩ := hg.row hgi
  rw [gAt_of hgi]
  have x0 := hl.cell 0
  have i0 := hI.cell 0
  simp only [List.getElem?_toArray, List.getElem?_cons_zero] at x0 i0
  have n0 := hrow 0 _ rfl
  simp only [Nat.add_zero] at n0
  have hll := hl.lt
  have hil := hI.lt
  have j0 : (0 : Int) ≤ (i : Int) := Int.natCast_nonneg _
  have j1 : (i : Int) < (n : Int) := by omega
  clear hg hgi hrow hl hI
  go_enter Tryz.func154, Tryz.ntmps154
  go_wp2_with fail
  go_quiet (fail)
  go_wp2
  go_ret
  exact ⟨rfl, (by repeat (first | exact Below.refl _ _ | assumption | (refine Below.setCell ?_ (by first | omega | (simp; done) | (simp; omega)) _) | (refine Below.alloc ?_ (by first | omega | (simp; done) | (simp; omega)) _) | refine Below.drew ?_ | (refine below_thru ?_ (by assumption) (by first | omega | (simp; done) | (simp; omega))) | refine below_drewN ?_ _))⟩

set_option maxRecDepth 100000 in
set_option maxHeartbeats 2000000 in
theorem indexG_any (gs : List Ga) (p : Nat → Bool) (gA : Option Addr) (gn gc : Nat) (f : FuncId) (c1 c2 : Value) (w : World) (ht : Gates w w.heap.size gA gn gs) (hn : gn ≤ 1000)
    (hp : ∀ (r : Value) (W : World), Sem.run Tryz.prog (callFunc f #[r, c1, c2]) W = .ok (.enter f #[r, c1, c2]) W)
    (hc : ∀ (k : Nat) (r : Ga) (W : World), gs[k]? = some r → Below w.heap.size w W → Calls Tryz.prog f #[r.v, c1, c2] W fun e w' => e = .returned (.bool (p k)) ∧ Below W.heap.size W w') :
    Calls Tryz.prog 176 #[.slice gA gn gc, .func (.func f) #[] #[c1, c2]] w fun e w' => e = .returned (.int .i64 (idxF p 0 gn)) ∧ Below w.heap.size w w' := by
  have hl : gs.length = gn := ht.len
  have Ht := Lib.hid ht
  have Hl := Lib.hid hl
  have Hc := Lib.hid hc
  have Hp := Lib.hid hp
  clear ht hl hc hp
  go_enter Tryz.func176, Tryz.ntmps176
  go_wp2
  go_loopw [8] (fun i wr => ∃ k : Nat, k ≤ gn ∧ i = .int .i64 k ∧ Hid (∀ j, j < k → p j = false) ∧ Below w.heap.size w wr)
    (fun i _ => gn - (intOf i).toNat)
  case atStart => exact ⟨0, Nat.zero_le _, rfl, fun j hj => by omega, (by repeat (first | exact Below.refl _ _ | assumption | (refine Below.setCell ?_ (by first | omega | (simp; done) | (simp; omega)) _) | (refine Below.alloc ?_ (by first | omega | (simp; done) | (simp; omega)) _) | refine Below.drew ?_ | (refine below_thru ?_ (by assumption) (by first | omega | (simp; done) | (simp; omega))) | refine below_drewN ?_ _))⟩
  case round =>
    obtain ⟨k, hk, rfl, hprev, hbr⟩ := hrel
    have hzr := hbr.size
    by_cases hlt : k < gn
    · obtain ⟨r, hr⟩ := get_lt Hl.out hlt
      obtain ⟨b, off, hA, hb, hrow⟩ := Ht.out.row hr
      have Hrow := Lib.hid (range_below hrow hbr hb)
      have hpl := Hp.out r.v
      have HC := Lib.hid (Hc.out k r wr hr hbr)
      subst hA
      have j0 : (0 : Int) ≤ (k : Int) := Int.natCast_nonneg _
      have j1 : (k : Int) < (gn : Int) := by omega
      clear hr hrow
      cases hpk : p k
      · have Hn : Hid (∀ j, j < k + 1 → p j = false) := fun j hj => by
          rcases Nat.lt_or_ge j k with h | h
          · exact hprev.out j h
          · obtain rfl : j = k := by omega
            exact hpk
        rw [hpk] at HC
        clear hpk
        go_wp2_with (with_reducible refine wpl_gm (g := r) Hrow.out rfl rfl rfl ?_)
        refine (HC.out).mono ?_
        rintro e w1 ⟨rfl, hb1⟩
        have hz1 := hb1.size
        go_wp2
        go_roundw
        case rel => exact ⟨k + 1, by omega, by go_num, Hn, (by repeat (first | exact Below.refl _ _ | assumption | (refine Below.setCell ?_ (by first | omega | (simp; done) | (simp; omega)) _) | (refine Below.alloc ?_ (by first | omega | (simp; done) | (simp; omega)) _) | refine Below.drew ?_ | (refine below_thru ?_ (by assumption) (by first | omega | (simp; done) | (simp; omega))) | refine below_drewN ?_ _))⟩
        case measure => simp [intOf]; omega
      · have hv : idxF p 0 gn = k := by
          rw [idx_skip p k 0 gn (by omega) (fun j hj => by rw [Nat.zero_add]; exact hprev.out j hj), Nat.zero_add]
          obtain ⟨m, hm⟩ : ∃ m, gn - k = m + 1 := ⟨gn - k - 1, by omega⟩
          rw [hm, idxF, if_pos hpk]
        have Hv := Lib.hid hv
        rw [hpk] at HC
        clear hpk hv
        go_wp2_with (with_reducible refine wpl_gm (g := r) Hrow.out rfl rfl rfl ?_)
        refine (HC.out).mono ?_
        rintro e w1 ⟨rfl, hb1⟩
        have hz1 := hb1.size
        go_wp2
        go_ret
        exact ⟨by rw [Hv.out]; rfl, (by repeat (first | exact Below.refl _ _ | assumption | (refine Below.setCell ?_ (by first | omega | (simp; done) | (simp; omega)) _) | (refine Below.alloc ?_ (by first | omega | (simp; done) | (simp; omega)) _) | refine Below.drew ?_ | (refine below_thru ?_ (by assumption) (by first | omega | (simp; done) | (simp; omega))) | refine below_drewN ?_ _))⟩
    · obtain rfl : k = gn := by omega
      have hv : idxF p 0 k = -1 := by
        rw [idx_skip p k 0 k (Nat.le_refl _) (fun j hj => by rw [Nat.zero_add]; exact hprev.out j hj), Nat.sub_self]; rfl
      have Hv := Lib.hid hv
      clear hv
      go_wp2
      go_ret
      exact ⟨by rw [Hv.out]; rfl, (by repeat (first | exact Below.refl _ _ | assumption | (refine Below.setCell ?_ (by first | omega | (simp; done) | (simp; omega)) _) | (refine Below.alloc ?_ (by first | omega | (simp; done) | (simp; omega)) _) | refine Below.drew ?_ | (refine below_thru ?_ (by assumption) (by first | omega | (simp; done) | (simp; omega))) | refine below_drewN ?_ _))⟩

set_option maxHeartbeats 1000000 in
theorem containsG_any (gs : List Ga) (p : Nat → Bool) (gA : Option Addr) (gn gc : Nat) (f : FuncId) (c1 c2 : Value) (w : World) (ht : Gates w w.heap.size gA gn gs) (hn : gn ≤ 1000)
    (hp : ∀ (r : Value) (W : World), Sem.run Tryz.prog (callFunc f #[r, c1, c2]) W = .ok (.enter f #[r, c1, c2]) W)
    (hc : ∀ (k : Nat) (r : Ga) (W : World), gs[k]? = some r → Below w.heap.size w W → Calls Tryz.prog f #[r.v, c1, c2] W fun e w' => e = .returned (.bool (p k)) ∧ Below W.heap.size W w') :
    Calls Tryz.prog 153 #[.slice gA gn gc, .func (.func f) #[] #[c1, c2]] w fun e w' => e = .returned (.bool ((List.range gn).any p)) ∧ Below w.heap.size w w' := by
  have HI := Lib.hid (indexG_any gs p gA gn gc f c1 c2 w ht hn hp hc)
  have hx := idx_any p 0 gn
  simp only [Nat.zero_add] at hx
  have hx' : (List.range gn).any p = decide (0 ≤ idxF p 0 gn) := hx.symm
  rw [hx']
  generalize idxF p 0 gn = ix at *
  clear ht hp hc hx hx'
  go_enter Tryz.func153, Tryz.ntmps153
  go_wp2_with fail
  refine HI.out.mono ?_
  rintro e w1 ⟨rfl, hb1⟩
  go_wp2
  go_ret
  exact ⟨rfl, (by repeat (first | exact Below.refl _ _ | assumption | (refine Below.setCell ?_ (by first | omega | (simp; done) | (simp; omega)) _) | (refine Below.alloc ?_ (by first | omega | (simp; done) | (simp; omega)) _) | refine Below.drew ?_ | (refine below_thru ?_ (by assumption) (by first | omega | (simp; done) | (simp; omega))) | refine below_drewN ?_ _))⟩

theorem Gates.take {w : World} {B : Nat} {A : Option Addr} {n : Nat} {gs : List Ga} (h : Gates w B A n gs) {i : Nat} (hi : i ≤ n) : Gates w B A i (gs.take i) := by
  have hl := h.len
  refine ⟨⟨by simp; omega, fun h0 => ?_⟩, fun g hg => h.at_ g (List.mem_of_mem_take hg)⟩
  obtain ⟨b, off, e, hb, hc⟩ := h.tab.2 (by omega)
  refine ⟨b, off, e, hb, fun k r hr j v hv => hc k r ?_ j v hv⟩
  rw [List.map_take, List.getElem?_take] at hr
  split at hr
  · exact hr
  · cases hr

set_option maxHeartbeats 1000000 in
theorem mf2_any (gs : List Ga) (A : Option Addr) (n c i bl bi : Nat) (w : World) (hg : Gates w w.heap.size A n gs) (hi : i < n) (hn : n ≤ 1000) (hcn : n ≤ c) (hl : Blk w bl 22 #[.slice A n c]) (hI : Blk w bi 3 #[.int .i64 (i : Int)]) :
    Calls Tryz.prog 152 #[.pointer (some ⟨bl, 0, none⟩), .pointer (some ⟨bi, 0, none⟩)] w fun e w' => e = .returned (need (!twiceB gs i) 5).v ∧ Below w.heap.size w w' := by
  have HC := Lib.hid (fun (W : World) (hW : Below w.heap.size w W) =>
    containsG_any (gs.take i) (fun k => (gAt gs k).name.toList == (gAt gs i).name.toList) A i c 154 (.pointer (some ⟨bl, 0, none⟩)) (.pointer (some ⟨bi, 0, none⟩)) W ((hg.grow hW).take (Nat.le_of_lt hi)) (by omega)
      (fun r W' => by show Sem.run Tryz.prog (callFunc _ _) W' = _; kernel_rfl)
      (fun k r W' hk hb => by
        have hk' : gs[k]? = some r := by
          rw [List.getElem?_take] at hk
          split at hk
          · exact hk
          · cases hk
        simp only [gAt_of hk']
        exact mf21_any r gs A n c i bl bi W' ((hg.grow hW).grow hb) hi hn ((hl.thru hW hl.lt).thru hb (hl.thru hW hl.lt).lt) ((hI.thru hW hI.lt).thru hb (hI.thru hW hI.lt).lt)))
  obtain ⟨b, off, hA, hb, _⟩ := hg.tab.2 (by omega)
  have x0 := hl.cell 0
  have i0 := hI.cell 0
  simp only [List.getElem?_toArray, List.getElem?_cons_zero] at x0 i0
  have hll := hl.lt
  have hil := hI.lt
  have hf : twiceB gs i = (List.range i).any fun k => (gAt gs k).name.toList == (gAt gs i).name.toList := rfl
  rw [hf]
  clear hf
  generalize (List.range i).any (fun k => (gAt gs k).name.toList == (gAt gs i).name.toList) = tw at *
  have j0 : (0 : Int) ≤ (i : Int) := Int.natCast_nonneg _
  have j1 : (i : Int) < (n : Int) := by omega
  have j2 : (i : Int) ≤ (c : Int) := by omega
  subst hA
  clear hg hl hI
  go_enter Tryz.func152, Tryz.ntmps152
  go_wp2_with fail
  refine (HC.out _ (by repeat (first | exact Below.refl _ _ | assumption | (refine Below.setCell ?_ (by first | omega | (simp; done) | (simp; omega)) _) | (refine Below.alloc ?_ (by first | omega | (simp; done) | (simp; omega)) _) | refine Below.drew ?_ | (refine below_thru ?_ (by assumption) (by first | omega | (simp; done) | (simp; omega))) | refine below_drewN ?_ _))).mono ?_
  rintro e w1 ⟨rfl, hb1⟩
  obtain ⟨hc1, hf1⟩ := bcell hb1; have hz1 := hb1.size; (try simp at hz1)
  go_wp2_with fail
  refine (need_any (!tw) 5 _).mono ?_
  rintro e w2 ⟨rfl, hb2⟩
  obtain ⟨hc2, hf2⟩ := bcell hb2; have hz2 := hb2.size; (try simp at hz2)
  have hl1 : w.heap.size < w1.heap.size := by omega
  go_wp2
  exact bodyPost_ret (v := (need (!tw) 5).v) (by simp [results, Tryz.results152, go_sem, hc1, hc2, hl1] <;> omega) rfl ⟨by rfl, (by repeat (first | exact Below.refl _ _ | assumption | (refine Below.setCell ?_ (by first | omega | (simp; done) | (simp; omega)) _) | (refine Below.alloc ?_ (by first | omega | (simp; done) | (simp; omega)) _) | refine Below.drew ?_ | (refine below_thru ?_ (by assumption) (by first | omega | (simp; done) | (simp; omega))) | refine below_drewN ?_ _))⟩

set_option maxRecDepth 100000 in
set_option maxHeartbeats 1000000 in
theorem memberFault_any (gs : List Ga) (A : Option Addr) (n c i : Nat) (w : World) (hg : Gates w w.heap.size A n gs) (hi : i < n) (hn : n ≤ 1000) (hcn : n ≤ c) :
    Calls Tryz.prog 108 #[.slice A n c, .int .i64 (i : Int)] w fun e w' => e = .returned (memberFt gs i).v ∧ Below w.heap.size w w' := by
  have Hg := Lib.hid hg; clear hg
  have hGood : ∀ (W : World) (b0 b1 : Nat), Gates W W.heap.size A n gs → Blk W b0 22 #[.slice A n c] → Blk W b1 3 #[.int .i64 (i : Int)] → Good W [⟨151, #[.pointer (some ⟨b0, 0, none⟩), .pointer (some ⟨b1, 0, none⟩)], gateF (gAt gs i)⟩, ⟨152, #[.pointer (some ⟨b0, 0, none⟩), .pointer (some ⟨b1, 0, none⟩)], need (!twiceB gs i) 5⟩] := by
    intro W b0 b1 hG h0 h1 k x hk _ W' hW
    match k, hk with
    | 0, hk => cases hk; exact mf1_any gs A n c i b0 b1 W' (hG.grow hW) hi hn (h0.thru hW h0.lt) (h1.thru hW h1.lt)
    | 1, hk => cases hk; exact mf2_any gs A n c i b0 b1 W' (hG.grow hW) hi hn hcn (h0.thru hW h0.lt) (h1.thru hW h1.lt)
    | k + 2, hk => simp at hk
  have HGood := Lib.hid hGood; clear hGood
  go_enter Tryz.func108, Tryz.ntmps108
  go_wp2_with fail
  refine (first_any _ (w.heap.size + 1 + 1 + 1) 0 2 [⟨151, #[.pointer (some ⟨w.heap.size, 0, none⟩), .pointer (some ⟨w.heap.size + 1, 0, none⟩)], gateF (gAt gs i)⟩, ⟨152, #[.pointer (some ⟨w.heap.size, 0, none⟩), .pointer (some ⟨w.heap.size + 1, 0, none⟩)], need (!twiceB gs i) 5⟩] rfl (by omega) (by simp) ?_ (HGood.out _ _ _ ?_ ?_ ?_) ?_).mono ?_
  · intro k c hk
    match k, hk with
    | 0, hk => cases hk; exact (Blk.new' _ _ _ (by simp)).cell 0
    | 1, hk => cases hk; exact (Blk.new' _ _ _ (by simp)).cell 1
    | k + 2, hk => simp at hk
  · exact Hg.out.grow (by repeat (first | exact Below.refl _ _ | assumption | (refine Below.setCell ?_ (by first | omega | (simp; done) | (simp; omega)) _) | (refine Below.alloc ?_ (by first | omega | (simp; done) | (simp; omega)) _) | refine Below.drew ?_ | (refine below_thru ?_ (by assumption) (by first | omega | (simp; done) | (simp; omega))) | refine below_drewN ?_ _))
  · exact (((Blk.new w _ _).alloc _).alloc _).alloc _
  · exact ((Blk.new' (w.alloc _) _ _ (by simp)).alloc _).alloc _
  · intro k c hk W
    match k, hk with
    | 0, hk => cases hk; show Sem.run Tryz.prog (callFunc _ _) W = _; kernel_rfl
    | 1, hk => cases hk; show Sem.run Tryz.prog (callFunc _ _) W = _; kernel_rfl
    | k + 2, hk => simp at hk
  · rintro e w1 ⟨he, hb1⟩
    replace he : e = .returned (memberFt gs i).v := he
    subst he
    obtain ⟨hc1, hf1⟩ := bcell hb1; have hz1 := hb1.size; (try simp at hz1)
    go_wp2
    exact bodyPost_ret (v := (memberFt gs i).v) (by simp [results, Tryz.results108, go_sem, hc1] <;> omega) rfl ⟨by rfl, (by repeat (first | exact Below.refl _ _ | assumption | (refine Below.setCell ?_ (by first | omega | (simp; done) | (simp; omega)) _) | (refine Below.alloc ?_ (by first | omega | (simp; done) | (simp; omega)) _) | refine Below.drew ?_ | (refine below_thru ?_ (by assumption) (by first | omega | (simp; done) | (simp; omega))) | refine below_drewN ?_ _))⟩
end Go.Proofs.YtgdomaddjiggaaaGreat
