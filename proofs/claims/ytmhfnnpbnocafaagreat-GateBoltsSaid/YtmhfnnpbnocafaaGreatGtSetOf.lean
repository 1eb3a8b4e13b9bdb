/- The faults of the gates of a set: memberFault. The faults of a rule. The faults of a set: setFault. setOf: the gates of a set in their states. -/
import Derived.Test.YtmhfnnpbnocafaaGreatGtToShut
namespace Go.Proofs.YtmhfnnpbnocafaaGreat
open Go.RowKit
set_option linter.unusedSimpArgs false
set_option linter.unusedVariables false

/-- Gates one after the other, below block B. -/
structure Gates (w : World) (B : Nat) (A : Option Addr) (n : Nat) (gs : List Ga) : Prop where
  tab : Tab w B A n 21 (gs.map Ga.cells)
  at_ : ∀ g ∈ gs, g.At w B
theorem Gates.below {w w' : World} {B : Nat} {A : Option Addr} {n : Nat} {gs : List Ga} (h : Gates w B A n gs) (hb : Below B w w') : Gates w' B A n gs := ⟨h.tab.below hb, fun g hg => (h.at_ g hg).below hb⟩
theorem Gates.more {w : World} {B B' : Nat} {A : Option Addr} {n : Nat} {gs : List Ga} (h : Gates w B A n gs) (hB : B ≤ B') : Gates w B' A n gs := ⟨h.tab.more hB, fun g hg => (h.at_ g hg).more hB⟩
theorem Gates.grow {w w' : World} {A : Option Addr} {n : Nat} {gs : List Ga} (h : Gates w w.heap.size A n gs) (hb : Below w.heap.size w w') : Gates w' w'.heap.size A n gs := (h.below hb).more hb.size
theorem Gates.len {w : World} {B : Nat} {A : Option Addr} {n : Nat} {gs : List Ga} (h : Gates w B A n gs) : gs.length = n := by have := h.tab.1; simpa using this
theorem Gates.row {w : World} {B : Nat} {A : Option Addr} {n : Nat} {gs : List Ga} (h : Gates w B A n gs) {k : Nat} {g : Ga} (hk : gs[k]? = some g) : ∃ b off, A = some ⟨b, off, none⟩ ∧ b < B ∧ w.rangeAt b (off + k * 21) g.cells := by
  have hlt := (List.getElem?_eq_some_iff.1 hk).1
  have hl := h.len
  obtain ⟨b, off, e, hb, hc⟩ := h.tab.2 (by omega)
  exact ⟨b, off, e, hb, fun j v hv => by
    have := hc k g.cells (by simp [hk]) j v hv
    exact this⟩
theorem wpl_gm {ops : Array Oper} {rest : List Oper} {o : Oper} {a : Act} {w : World} {Q : Exit → Act → World → Prop} {x : Operand} {b off : Nat} {g : Ga} (h : w.rangeAt b off g.cells) (hgd : o.guard = none) (ho : o.op = .load 25 x) (hx : a.eval x = .pointer (some ⟨b, off, none⟩))
    (hk : wpList Tryz.prog ops Q rest (a.put o.dst g.v) w) : wpList Tryz.prog ops Q (o :: rest) a w := by
  obtain ⟨fs, hu⟩ := uGate
  exact wpList_load_mid hgd _ x ho b off hx g.cells (.struct fs) h hu rfl iGate hk

/-- A gate of a set, or one that is none. -/
def noGate : Ga := ⟨⟨#[]⟩, 0, 0, none, 0, 0, [], 0, 0, 0, 0, 0, 0, 0, 0, 0, 0, 0, 0, 0, 0, 0, none, 0, 0, [], 0⟩
def gAt (gs : List Ga) (i : Nat) : Ga := (gs[i]?).getD noGate
/-- A gate before the i-th has its name. -/
def twiceB (gs : List Ga) (i : Nat) : Bool := (List.range i).any fun k => (gAt gs k).name.toList == (gAt gs i).name.toList
def memberFt (gs : List Ga) (i : Nat) : Ft := firstF [gateF (gAt gs i), need (!twiceB gs i) 5]
theorem gAt_of {gs : List Ga} {i : Nat} {g : Ga} (h : gs[i]? = some g) : gAt gs i = g := by unfold gAt; rw [h]; rfl

set_option maxHeartbeats 1000000 in
theorem mf1_any (gs : List Ga) (A : Option Addr) (n c i bl bi : Nat) (w : World) (hg : Gates w w.heap.size A n gs) (hi : i < n) (hn : n ≤ 1000) (hl : Blk w bl 58 #[.slice A n c]) (hI : Blk w bi 3 #[.int .i64 (i : Int)]) :
    Calls Tryz.prog 136 #[.pointer (some ⟨bl, 0, none⟩), .pointer (some ⟨bi, 0, none⟩)] w fun e w' => e = .returned (gateF (gAt gs i)).v ∧ Below w.heap.size w w' := by
  obtain ⟨g, hgi⟩ := get_lt hg.len hi
  obtain ⟨b, off, rfl, hb, hrow⟩ := hg.row hgi
  have hga := hg.at_ g (List.mem_of_getElem? hgi)
  rw [gAt_of hgi]
  have x0 := hl.cell 0
  have i0 := hI.cell 0
  simp only [List.getElem?_toArray, List.getElem?_cons_zero] at x0 i0
  have hll := hl.lt
  have hil := hI.lt
  have j0 : (0 : Int) ≤ (i : Int) := Int.natCast_nonneg _
  have j1 : (i : Int) < (n : Int) := by omega
  have Hrow := Lib.hid hrow
  have Hga := Lib.hid hga
  clear hg hgi hrow hga hl hI
  go_enter Tryz.func136, Tryz.ntmps136
  go_wp2_with (with_reducible refine wpl_gm (g := g) (range_below Hrow.out ((Below.refl w.heap.size w).alloc (Nat.le_refl _) _) hb) rfl rfl rfl ?_)
  refine (gateFault_any g _ (Hga.out.grow (by repeat (first | exact Below.refl _ _ | assumption | (refine Below.setCell ?_ (by first | omega | (simp; done) | (simp; omega)) _) | (refine Below.alloc ?_ (by first | omega | (simp; done) | (simp; omega)) _) | refine Below.drew ?_ | (refine below_thru ?_ (by assumption) (by first | omega | (simp; done) | (simp; omega))) | refine below_drewN ?_ _)))).mono ?_
  rintro e w1 ⟨rfl, hb1⟩
  obtain ⟨hc1, hf1⟩ := bcell hb1; have hz1 := hb1.size; (try simp at hz1)
  go_wp2
  exact bodyPost_ret (v := (gateF g).v) (by simp [results, Tryz.results136, go_sem, hc1] <;> omega) rfl ⟨by rfl, (by repeat (first | exact Below.refl _ _ | assumption | (refine Below.setCell ?_ (by first | omega | (simp; done) | (simp; omega)) _) | (refine Below.alloc ?_ (by first | omega | (simp; done) | (simp; omega)) _) | refine Below.drew ?_ | (refine below_thru ?_ (by assumption) (by first | omega | (simp; done) | (simp; omega))) | refine below_drewN ?_ _))⟩

set_option maxHeartbeats 1000000 in
theorem mf21_any (o : Ga) (gs : List Ga) (A : Option Addr) (n c i bl bi : Nat) (w : World) (hg : Gates w w.heap.size A n gs) (hi : i < n) (hn : n ≤ 1000) (hl : Blk w bl 58 #[.slice A n c]) (hI : Blk w bi 3 #[.int .i64 (i : Int)]) :
    Calls Tryz.prog 139 #[o.v, .pointer (some ⟨bl, 0, none⟩), .pointer (some ⟨bi, 0, none⟩)] w fun e w' => e = .returned (.bool (o.name.toList == (gAt gs i).name.toList)) ∧ Below w.heap.size w w' := by
  obtain ⟨g, hgi⟩ := get_lt hg.len hi
  obtain ⟨b, off, rfl, hb, hrow⟩ := hg.row hgi
  rw [gAt_of hgi]
  have x0 := hl.cell 0
  have i0 := hI.cell 0
  simp only [List.getElem?_toArray, List.getElem?_cons_zero] at x0 i0
  have n0 := hrow 0 _ rfl
  simp only [Nat.add_zero] at n0
  have hll := hl.lt
  have hil := hI.lt
  have j0 : (0 : Int) ≤ (i : Int) := Int.natCast_nonneg _
  have j1 : (i : Int) < (n : Int) := by omega
  clear hg hgi hrow hl hI
  go_enter Tryz.func139, Tryz.ntmps139
  go_wp2_with fail
  go_quiet (fail)
  go_wp2
  go_ret
  exact ⟨rfl, (by repeat (first | exact Below.refl _ _ | assumption | (refine Below.setCell ?_ (by first | omega | (simp; done) | (simp; omega)) _) | (refine Below.alloc ?_ (by first | omega | (simp; done) | (simp; omega)) _) | refine Below.drew ?_ | (refine below_thru ?_ (by assumption) (by first | omega | (simp; done) | (simp; omega))) | refine below_drewN ?_ _))⟩

set_option maxRecDepth 100000 in
set_option maxHeartbeats 2000000 in
theorem indexG_any (gs : List Ga) (p : Nat → Bool) (gA : Option Addr) (gn gc : Nat) (f : FuncId) (c1 c2 : Value) (w : World) (ht : Gates w w.heap.size gA gn gs) (hn : gn ≤ 1000)
    (hp : ∀ (r : Value) (W : World), Sem.run Tryz.prog (callFunc f #[r, c1, c2]) W = .ok (.enter f #[r, c1, c2]) W)
    (hc : ∀ (k : Nat) (r : Ga) (W : World), gs[k]? = some r → Below w.heap.size w W → Calls Tryz.prog f #[r.v, c1, c2] W fun e w' => e = .returned (.bool (p k)) ∧ Below W.heap.size W w') :
    Calls Tryz.prog 152 #[.slice gA gn gc, .func (.func f) #[] #[c1, c2]] w fun e w' => e = .returned (.int .i64 (idxF p 0 gn)) ∧ Below w.heap.size w w' := by
  have hl : gs.length = gn := ht.len
  have Ht := Lib.hid ht
  have Hl := Lib.hid hl
  have Hc := Lib.hid hc
  have Hp := Lib.hid hp
  clear ht hl hc hp
  go_enter Tryz.func152, Tryz.ntmps152
  go_wp2
  go_loopw [8] (fun i wr => ∃ k : Nat, k ≤ gn ∧ i = .int .i64 k ∧ Hid (∀ j, j < k → p j = false) ∧ Below w.heap.size w wr)
    (fun i _ => gn - (intOf i).toNat)
  case atStart => exact ⟨0, Nat.zero_le _, rfl, fun j hj => by omega, (by repeat (first | exact Below.refl _ _ | assumption | (refine Below.setCell ?_ (by first | omega | (simp; done) | (simp; omega)) _) | (refine Below.alloc ?_ (by first | omega | (simp; done) | (simp; omega)) _) | refine Below.drew ?_ | (refine below_thru ?_ (by assumption) (by first | omega | (simp; done) | (simp; omega))) | refine below_drewN ?_ _))⟩
  case round =>
    obtain ⟨k, hk, rfl, hprev, hbr⟩ := hrel
    have hzr := hbr.size
    by_cases hlt : k < gn
    · obtain ⟨r, hr⟩ := get_lt Hl.out hlt
      obtain ⟨b, off, hA, hb, hrow⟩ := Ht.out.row hr
      have Hrow := Lib.hid (range_below hrow hbr hb)
      have hpl := Hp.out r.v
      have HC := Lib.hid (Hc.out k r wr hr hbr)
      subst hA
      have j0 : (0 : Int) ≤ (k : Int) := Int.natCast_nonneg _
      have j1 : (k : Int) < (gn : Int) := by omega
      clear hr hrow
      cases hpk : p k
      · have Hn : Hid (∀ j, j < k + 1 → p j = false) := fun j hj => by
          rcases Nat.lt_or_ge j k with h | h
          · exact hprev.out j h
          · obtain rfl : j = k := by omega
            exact hpk
        rw [hpk] at HC
        clear hpk
        go_wp2_with (with_reducible refine wpl_gm (g := r) Hrow.out rfl rfl rfl ?_)
        refine (HC.out).mono ?_
        rintro e w1 ⟨rfl, hb1⟩
        have hz1 := hb1.size
        go_wp2
        go_roundw
        case rel => exact ⟨k + 1, by omega, by go_num, Hn, (by repeat (first | exact Below.refl _ _ | assumption | (refine Below.setCell ?_ (by first | omega | (simp; done) | (simp; omega)) _) | (refine Below.alloc ?_ (by first | omega | (simp; done) | (simp; omega)) _) | refine Below.drew ?_ | (refine below_thru ?_ (by assumption) (by first | omega | (simp; done) | (simp; omega))) | refine below_drewN ?_ _))⟩
        case measure => simp [intOf]; omega
      · have hv : idxF p 0 gn = k := by
          rw [idx_skip p k 0 gn (by omega) (fun j hj => by rw [Nat.zero_add]; exact hprev.out j hj), Nat.zero_add]
          obtain ⟨m, hm⟩ : ∃ m, gn - k = m + 1 := ⟨gn - k - 1, by omega⟩
          rw [hm, idxF, if_pos hpk]
        have Hv := Lib.hid hv
        rw [hpk] at HC
        clear hpk hv
        go_wp2_with (with_reducible refine wpl_gm (g := r) Hrow.out rfl rfl rfl ?_)
        refine (HC.out).mono ?_
        rintro e w1 ⟨rfl, hb1⟩
        have hz1 := hb1.size
        go_wp2
        go_ret
        exact ⟨by rw [Hv.out]; rfl, (by repeat (first | exact Below.refl _ _ | assumption | (refine Below.setCell ?_ (by first | omega | (simp; done) | (simp; omega)) _) | (refine Below.alloc ?_ (by first | omega | (simp; done) | (simp; omega)) _) | refine Below.drew ?_ | (refine below_thru ?_ (by assumption) (by first | omega | (simp; done) | (simp; omega))) | refine below_drewN ?_ _))⟩
    · obtain rfl : k = gn := by omega
      have hv : idxF p 0 k = -1 := by
        rw [idx_skip p k 0 k (Nat.le_refl _) (fun j hj => by rw [Nat.zero_add]; exact hprev.out j hj), Nat.sub_self]; rfl
      have Hv := Lib.hid hv
      clear hv
      go_wp2
      go_ret
      exact ⟨by rw [Hv.out]; rfl, (by repeat (first | exact Below.refl _ _ | assumption | (refine Below.setCell ?_ (by first | omega | (simp; done) | (simp; omega)) _) | (refine Below.alloc ?_ (by first | omega | (simp; done) | (simp; omega)) _) | refine Below.drew ?_ | (refine below_thru ?_ (by assumption) (by first | omega | (simp; done) | (simp; omega))) | refine below_drewN ?_ _))⟩

set_option maxHeartbeats 1000000 in
theorem containsG_any (gs : List Ga) (p : Nat → Bool) (gA : Option Addr) (gn gc : Nat) (f : FuncId) (c1 c2 : Value) (w : World) (ht : Gates w w.heap.size gA gn gs) (hn : gn ≤ 1000)
    (hp : ∀ (r : Value) (W : World), Sem.run Tryz.prog (callFunc f #[r, c1, c2]) W = .ok (.enter f #[r, c1, c2]) W)
    (hc : ∀ (k : Nat) (r : Ga) (W : World), gs[k]? = some r → Below w.heap.size w W → Calls Tryz.prog f #[r.v, c1, c2] W fun e w' => e = .returned (.bool (p k)) ∧ Below W.heap.size W w') :
    Calls Tryz.prog 138 #[.slice gA gn gc, .func (.func f) #[] #[c1, c2]] w fun e w' => e = .returned (.bool ((List.range gn).any p)) ∧ Below w.heap.size w w' := by
  have HI := Lib.hid (indexG_any gs p gA gn gc f c1 c2 w ht hn hp hc)
  have hx := idx_any p 0 gn
  simp only [Nat.zero_add] at hx
  have hx' : (List.range gn).any p = decide (0 ≤ idxF p 0 gn) := hx.symm
  rw [hx']
  generalize idxF p 0 gn = ix at *
  clear ht hp hc hx hx'
  go_enter Tryz.func138, Tryz.ntmps138
  go_wp2_with fail
  refine HI.out.mono ?_
  rintro e w1 ⟨rfl, hb1⟩
  go_wp2
  go_ret
  exact ⟨rfl, (by repeat (first | exact Below.refl _ _ | assumption | (refine Below.setCell ?_ (by first | omega | (simp; done) | (simp; omega)) _) | (refine Below.alloc ?_ (by first | omega | (simp; done) | (simp; omega)) _) | refine Below.drew ?_ | (refine below_thru ?_ (by assumption) (by first | omega | (simp; done) | (simp; omega))) | refine below_drewN ?_ _))⟩

theorem Gates.take {w : World} {B : Nat} {A : Option Addr} {n : Nat} {gs : List Ga} (h : Gates w B A n gs) {i : Nat} (hi : i ≤ n) : Gates w B A i (gs.take i) := by
  have hl := h.len
  refine ⟨⟨by simp; omega, fun h0 => ?_⟩, fun g hg => h.at_ g (List.mem_of_mem_take hg)⟩
  obtain ⟨b, off, e, hb, hc⟩ := h.tab.2 (by omega)
  refine ⟨b, off, e, hb, fun k r hr j v hv => hc k r ?_ j v hv⟩
  rw [List.map_take, List.getElem?_take] at hr
  split at hr
  · exact hr
  · cases hr

set_option maxHeartbeats 1000000 in
theorem mf2_any (gs : List Ga) (A : Option Addr) (n c i bl bi : Nat) (w : World) (hg : Gates w w.heap.size A n gs) (hi : i < n) (hn : n ≤ 1000) (hcn : n ≤ c) (hl : Blk w bl 58 #[.slice A n c]) (hI : Blk w bi 3 #[.int .i64 (i : Int)]) :
    Calls Tryz.prog 137 #[.pointer (some ⟨bl, 0, none⟩), .pointer (some ⟨bi, 0, none⟩)] w fun e w' => e = .returned (need (!twiceB gs i) 5).v ∧ Below w.heap.size w w' := by
  have HC := Lib.hid (fun (W : World) (hW : Below w.heap.size w W) =>
    containsG_any (gs.take i) (fun k => (gAt gs k).name.toList == (gAt gs i).name.toList) A i c 139 (.pointer (some ⟨bl, 0, none⟩)) (.pointer (some ⟨bi, 0, none⟩)) W ((hg.grow hW).take (Nat.le_of_lt hi)) (by omega)
      (fun r W' => by show Sem.run Tryz.prog (callFunc _ _) W' = _; kernel_rfl)
      (fun k r W' hk hb => by
        have hk' : gs[k]? = some r := by
          rw [List.getElem?_take] at hk
          split at hk
          · exact hk
          · cases hk
        simp only [gAt_of hk']
        exact mf21_any r gs A n c i bl bi W' ((hg.grow hW).grow hb) hi hn ((hl.thru hW hl.lt).thru hb (hl.thru hW hl.lt).lt) ((hI.thru hW hI.lt).thru hb (hI.thru hW hI.lt).lt)))
  obtain ⟨b, off, hA, hb, _⟩ := hg.tab.2 (by omega)
  have x0 := hl.cell 0
  have i0 := hI.cell 0
  simp only [List.getElem?_toArray, List.getElem?_cons_zero] at x0 i0
  have hll := hl.lt
  have hil := hI.lt
  have hf : twiceB gs i = (List.range i).any fun k => (gAt gs k).name.toList == (gAt gs i).name.toList := rfl
  rw [hf]
  clear hf
  generalize (List.range i).any (fun k => (gAt gs k).name.toList == (gAt gs i).name.toList) = tw at *
  have j0 : (0 : Int) ≤ (i : Int) := Int.natCast_nonneg _
  have j1 : (i : Int) < (n : Int) := by omega
  have j2 : (i : Int) ≤ (c : Int) := by omega
  subst hA
  clear hg hl hI
  go_enter Tryz.func137, Tryz.ntmps137
  go_wp2_with fail
  refine (HC.out _ (by repeat (first | exact Below.refl _ _ | assumption | (refine Below.setCell ?_ (by first | omega | (simp; done) | (simp; omega)) _) | (refine Below.alloc ?_ (by first | omega | (simp; done) | (simp; omega)) _) | refine Below.drew ?_ | (refine below_thru ?_ (by assumption) (by first | omega | (simp; done) | (simp; omega))) | refine below_drewN ?_ _))).mono ?_
  rintro e w1 ⟨rfl, hb1⟩
  obtain ⟨hc1, hf1⟩ := bcell hb1; have hz1 := hb1.size; (try simp at hz1)
  go_wp2_with fail
  refine (need_any (!tw) 5 _).mono ?_
  rintro e w2 ⟨rfl, hb2⟩
  obtain ⟨hc2, hf2⟩ := bcell hb2; have hz2 := hb2.size; (try simp at hz2)
  have hl1 : w.heap.size < w1.heap.size := by omega
  go_wp2
  exact bodyPost_ret (v := (need (!tw) 5).v) (by simp [results, Tryz.results137, go_sem, hc1, hc2, hl1] <;> omega) rfl ⟨by rfl, (by repeat (first | exact Below.refl _ _ | assumption | (refine Below.setCell ?_ (by first | omega | (simp; done) | (simp; omega)) _) | (refine Below.alloc ?_ (by first | omega | (simp; done) | (simp; omega)) _) | refine Below.drew ?_ | (refine below_thru ?_ (by assumption) (by first | omega | (simp; done) | (simp; omega))) | refine below_drewN ?_ _))⟩

set_option maxRecDepth 100000 in
set_option maxHeartbeats 1000000 in
theorem memberFault_any (gs : List Ga) (A : Option Addr) (n c i : Nat) (w : World) (hg : Gates w w.heap.size A n gs) (hi : i < n) (hn : n ≤ 1000) (hcn : n ≤ c) :
    Calls Tryz.prog 112 #[.slice A n c, .int .i64 (i : Int)] w fun e w' => e = .returned (memberFt gs i).v ∧ Below w.heap.size w w' := by
  have Hg := Lib.hid hg; clear hg
  have hGood : ∀ (W : World) (b0 b1 : Nat), Gates W W.heap.size A n gs → Blk W b0 58 #[.slice A n c] → Blk W b1 3 #[.int .i64 (i : Int)] → Good W [⟨136, #[.pointer (some ⟨b0, 0, none⟩), .pointer (some ⟨b1, 0, none⟩)], gateF (gAt gs i)⟩, ⟨137, #[.pointer (some ⟨b0, 0, none⟩), .pointer (some ⟨b1, 0, none⟩)], need (!twiceB gs i) 5⟩] := by
    intro W b0 b1 hG h0 h1 k x hk _ W' hW
    match k, hk with
    | 0, hk => cases hk; exact mf1_any gs A n c i b0 b1 W' (hG.grow hW) hi hn (h0.thru hW h0.lt) (h1.thru hW h1.lt)
    | 1, hk => cases hk; exact mf2_any gs A n c i b0 b1 W' (hG.grow hW) hi hn hcn (h0.thru hW h0.lt) (h1.thru hW h1.lt)
    | k + 2, hk => simp at hk
  have HGood := Lib.hid hGood; clear hGood
  go_enter Tryz.func112, Tryz.ntmps112
  go_wp2_with fail
  refine (first_any _ (w.heap.size + 1 + 1 + 1) 0 2 [⟨136, #[.pointer (some ⟨w.heap.size, 0, none⟩), .pointer (some ⟨w.heap.size + 1, 0, none⟩)], gateF (gAt gs i)⟩, ⟨137, #[.pointer (some ⟨w.heap.size, 0, none⟩), .pointer (some ⟨w.heap.size + 1, 0, none⟩)], need (!twiceB gs i) 5⟩] rfl (by omega) (by simp) ?_ (HGood.out _ _ _ ?_ ?_ ?_) ?_).mono ?_
  · intro k c hk
    match k, hk with
    | 0, hk => cases hk; exact (Blk.new' _ _ _ (by simp)).cell 0
    | 1, hk => cases hk; exact (Blk.new' _ _ _ (by simp)).cell 1
    | k + 2, hk => simp at hk
  · exact Hg.out.grow (by repeat (first | exact Below.refl _ _ | assumption | (refine Below.setCell ?_ (by first | omega | (simp; done) | (simp; omega)) _) | (refine Below.alloc ?_ (by first | omega | (simp; done) | (simp; omega)) _) | refine Below.drew ?_ | (refine below_thru ?_ (by assumption) (by first | omega | (simp; done) | (simp; omega))) | refine below_drewN ?_ _))
  · exact (((Blk.new w _ _).alloc _).alloc _).alloc _
  · exact ((Blk.new' (w.alloc _) _ _ (by simp)).alloc _).alloc _
  · intro k c hk W
    match k, hk with
    | 0, hk => cases hk; show Sem.run Tryz.prog (callFunc _ _) W = _; kernel_rfl
    | 1, hk => cases hk; show Sem.run Tryz.prog (callFunc _ _) W = _; kernel_rfl
    | k + 2, hk => simp at hk
  · rintro e w1 ⟨he, hb1⟩
    replace he : e = .returned (memberFt gs i).v := he
    subst he
    obtain ⟨hc1, hf1⟩ := bcell hb1; have hz1 := hb1.size; (try simp at hz1)
    go_wp2
    exact bodyPost_ret (v := (memberFt gs i).v) (by simp [results, Tryz.results112, go_sem, hc1] <;> omega) rfl ⟨by rfl, (by repeat (first | exact Below.refl _ _ | assumption | (refine Below.setCell ?_ (by first | omega | (simp; done) | (simp; omega)) _) | (refine Below.alloc ?_ (by first | omega | (simp; done) | (simp; omega)) _) | refine Below.drew ?_ | (refine below_thru ?_ (by assumption) (by first | omega | (simp; done) | (simp; omega))) | refine below_drewN ?_ _))⟩
end Go.Proofs.YtmhfnnpbnocafaaGreat

namespace Go.Proofs.YtmhfnnpbnocafaaGreat
open Go.RowKit
set_option linter.unusedSimpArgs false
set_option linter.unusedVariables false

def ruleA (n : Nat) (r : Gr) : Bool := betw r.gate 0 ((n : Int) - 1) && betw r.other 0 ((n : Int) - 1)
def ruleB (r : Gr) : Bool := r.gate != r.other
def ruleC (r : Gr) : Bool := decide (0 ≤ r.lo) && (decide (r.lo ≤ r.hi) && decide (r.hi ≤ 5000))
def ruleFt (n : Nat) (r : Gr) : Ft := firstF [need (ruleA n r) 4, need (ruleB r) 2, need (ruleC r) 7]
abbrev rrow (r : Gr) : Array Value := #[.int .i64 r.gate, .int .i64 r.other, .int .i64 r.lo, .int .i64 r.hi]
structure RCells (w : World) (b : Nat) (r : Gr) : Prop where
  c0 : w.cell? ⟨b, 0, none⟩ = some (.int .i64 r.gate)
  c1 : w.cell? ⟨b, 1, none⟩ = some (.int .i64 r.other)
  c2 : w.cell? ⟨b, 2, none⟩ = some (.int .i64 r.lo)
  c3 : w.cell? ⟨b, 3, none⟩ = some (.int .i64 r.hi)
theorem rcells_of {w : World} {b : Nat} {r : Gr} {ty : TypeId} (h : Blk w b ty (rrow r)) : RCells w b r := ⟨h.cell 0, h.cell 1, h.cell 2, h.cell 3⟩

set_option maxHeartbeats 1000000 in
theorem rf1_any (r : Gr) (n b c : Nat) (w : World) (hr : Blk w b 77 (rrow r)) (hl : Blk w c 3 #[.int .i64 ((n : Int) - 1)]) :
    Calls Tryz.prog 140 #[.pointer (some ⟨b, 0, none⟩), .pointer (some ⟨c, 0, none⟩)] w fun e w' => e = .returned (need (ruleA n r) 4).v ∧ Below w.heap.size w w' := by
  obtain ⟨r0, r1, r2, r3⟩ := rcells_of hr
  have l0 := hl.cell 0
  simp only [List.getElem?_toArray, List.getElem?_cons_zero] at l0
  have hrl := hr.lt
  have hll := hl.lt
  clear hr hl
  have h1 := bet_is r.gate 0 ((n : Int) - 1)
  have h2 := bet_is r.other 0 ((n : Int) - 1)
  have hf : ruleA n r = (betw r.gate 0 ((n : Int) - 1) && betw r.other 0 ((n : Int) - 1)) := rfl
  rw [hf]
  clear hf
  generalize (n : Int) - 1 = m at *
  cases e1 : betw r.gate 0 m
  · have H1 := Lib.hid (h1 _ e1)
    clear h1 h2 e1
    go_enter Tryz.func140, Tryz.ntmps140
    go_wp2_with fail
    refine (H1.out _).mono ?_
    rintro e w' ⟨rfl, rfl⟩
    go_wp2_with fail
    refine (need_any false 4 _).mono ?_
    rintro e w1 ⟨rfl, hb1⟩
    obtain ⟨hc1, hf1⟩ := bcell hb1; have hz1 := hb1.size; (try simp at hz1)
    go_wp2
    exact bodyPost_ret (v := (need false 4).v) (by simp [results, Tryz.results140, go_sem, hc1] <;> omega) rfl ⟨by simp, (by repeat (first | exact Below.refl _ _ | assumption | (refine Below.setCell ?_ (by first | omega | (simp; done) | (simp; omega)) _) | (refine Below.alloc ?_ (by first | omega | (simp; done) | (simp; omega)) _) | refine Below.drew ?_ | (refine below_thru ?_ (by assumption) (by first | omega | (simp; done) | (simp; omega))) | refine below_drewN ?_ _))⟩
  · have H1 := Lib.hid (h1 _ e1)
    have H2 := Lib.hid (h2 _ rfl)
    clear h1 h2 e1
    go_enter Tryz.func140, Tryz.ntmps140
    go_wp2_with fail
    refine (H1.out _).mono ?_
    rintro e w' ⟨rfl, rfl⟩
    go_wp2_with fail
    refine (H2.out _).mono ?_
    rintro e w' ⟨rfl, rfl⟩
    go_wp2_with fail
    refine (need_any _ 4 _).mono ?_
    rintro e w1 ⟨rfl, hb1⟩
    obtain ⟨hc1, hf1⟩ := bcell hb1; have hz1 := hb1.size; (try simp at hz1)
    go_wp2
    exact bodyPost_ret (v := (need (betw r.other 0 m) 4).v) (by simp [results, Tryz.results140, go_sem, hc1] <;> omega) rfl ⟨by simp, (by repeat (first | exact Below.refl _ _ | assumption | (refine Below.setCell ?_ (by first | omega | (simp; done) | (simp; omega)) _) | (refine Below.alloc ?_ (by first | omega | (simp; done) | (simp; omega)) _) | refine Below.drew ?_ | (refine below_thru ?_ (by assumption) (by first | omega | (simp; done) | (simp; omega))) | refine below_drewN ?_ _))⟩
set_option maxHeartbeats 1000000 in
theorem rf2_any (r : Gr) (b : Nat) (w : World) (hr : Blk w b 77 (rrow r)) :
    Calls Tryz.prog 141 #[.pointer (some ⟨b, 0, none⟩)] w fun e w' => e = .returned (need (ruleB r) 2).v ∧ Below w.heap.size w w' := by
  obtain ⟨r0, r1, r2, r3⟩ := rcells_of hr
  have hrl := hr.lt
  clear hr
  go_enter Tryz.func141, Tryz.ntmps141
  go_wp2_with fail
  refine (need_any (r.gate != r.other) 2 _).mono ?_
  rintro e w1 ⟨rfl, hb1⟩
  obtain ⟨hc1, hf1⟩ := bcell hb1; have hz1 := hb1.size; (try simp at hz1)
  go_wp2
  exact bodyPost_ret (v := (need (r.gate != r.other) 2).v) (by simp [results, Tryz.results141, go_sem, hc1] <;> omega) rfl ⟨by rfl, (by repeat (first | exact Below.refl _ _ | assumption | (refine Below.setCell ?_ (by first | omega | (simp; done) | (simp; omega)) _) | (refine Below.alloc ?_ (by first | omega | (simp; done) | (simp; omega)) _) | refine Below.drew ?_ | (refine below_thru ?_ (by assumption) (by first | omega | (simp; done) | (simp; omega))) | refine below_drewN ?_ _))⟩
set_option maxHeartbeats 1000000 in
theorem rf3_any (r : Gr) (b : Nat) (w : World) (hr : Blk w b 77 (rrow r)) :
    Calls Tryz.prog 142 #[.pointer (some ⟨b, 0, none⟩)] w fun e w' => e = .returned (need (ruleC r) 7).v ∧ Below w.heap.size w w' := by
  obtain ⟨r0, r1, r2, r3⟩ := rcells_of hr
  have hrl := hr.lt
  clear hr
  have hf : ruleC r = (decide (0 ≤ r.lo) && (decide (r.lo ≤ r.hi) && decide (r.hi ≤ 5000))) := rfl
  rw [hf]
  clear hf
  obtain ⟨rg, ro, rl, rh⟩ := r
  simp only at *
  by_cases h1 : 0 ≤ rl
  · by_cases h2 : rl ≤ rh
    · have d1 : decide (0 ≤ rl) = true := by simpa using h1
      have d2 : decide (rl ≤ rh) = true := by simpa using h2
      have Hd := Lib.hid (And.intro d1 d2)
      clear d1 d2
      go_enter Tryz.func142, Tryz.ntmps142
      go_wp2_with fail
      refine (need_any (decide (rh ≤ 5000)) 7 _).mono ?_
      rintro e w1 ⟨rfl, hb1⟩
      obtain ⟨hc1, hf1⟩ := bcell hb1; have hz1 := hb1.size; (try simp at hz1)
      go_wp2
      exact bodyPost_ret (v := (need (decide (rh ≤ 5000)) 7).v) (by simp [results, Tryz.results142, go_sem, hc1] <;> omega) rfl ⟨by rw [Hd.out.1, Hd.out.2]; simp, (by repeat (first | exact Below.refl _ _ | assumption | (refine Below.setCell ?_ (by first | omega | (simp; done) | (simp; omega)) _) | (refine Below.alloc ?_ (by first | omega | (simp; done) | (simp; omega)) _) | refine Below.drew ?_ | (refine below_thru ?_ (by assumption) (by first | omega | (simp; done) | (simp; omega))) | refine below_drewN ?_ _))⟩
    · have d1 : decide (0 ≤ rl) = true := by simpa using h1
      have d2 : decide (rl ≤ rh) = false := by simpa using h2
      have Hd := Lib.hid (And.intro d1 d2)
      clear d1
      go_enter Tryz.func142, Tryz.ntmps142
      go_wp2_with fail
      refine (need_any false 7 _).mono ?_
      rintro e w1 ⟨rfl, hb1⟩
      obtain ⟨hc1, hf1⟩ := bcell hb1; have hz1 := hb1.size; (try simp at hz1)
      go_wp2
      exact bodyPost_ret (v := (need false 7).v) (by simp [results, Tryz.results142, go_sem, hc1] <;> omega) rfl ⟨by rw [Hd.out.1, Hd.out.2]; simp, (by repeat (first | exact Below.refl _ _ | assumption | (refine Below.setCell ?_ (by first | omega | (simp; done) | (simp; omega)) _) | (refine Below.alloc ?_ (by first | omega | (simp; done) | (simp; omega)) _) | refine Below.drew ?_ | (refine below_thru ?_ (by assumption) (by first | omega | (simp; done) | (simp; omega))) | refine below_drewN ?_ _))⟩
  · have d1 : decide (0 ≤ rl) = false := by simpa using h1
    have Hd := Lib.hid d1
    go_enter Tryz.func142, Tryz.ntmps142
    go_wp2_with fail
    refine (need_any false 7 _).mono ?_
    rintro e w1 ⟨rfl, hb1⟩
    obtain ⟨hc1, hf1⟩ := bcell hb1; have hz1 := hb1.size; (try simp at hz1)
    go_wp2
    exact bodyPost_ret (v := (need false 7).v) (by simp [results, Tryz.results142, go_sem, hc1] <;> omega) rfl ⟨by rw [Hd.out]; simp, (by repeat (first | exact Below.refl _ _ | assumption | (refine Below.setCell ?_ (by first | omega | (simp; done) | (simp; omega)) _) | (refine Below.alloc ?_ (by first | omega | (simp; done) | (simp; omega)) _) | refine Below.drew ?_ | (refine below_thru ?_ (by assumption) (by first | omega | (simp; done) | (simp; omega))) | refine below_drewN ?_ _))⟩

set_option maxRecDepth 100000 in
set_option maxHeartbeats 1000000 in
theorem ruleFault_any (r : Gr) (gA : Option Addr) (n gc : Nat) (rv : Value) (w : World) (hn : n ≤ 1000) (hcell : rv.oneCell' = true) :
    Calls Tryz.prog 116 #[.agg #[.slice gA n gc, rv], .agg #[.int .i64 r.gate, .int .i64 r.other, .int .i64 r.lo, .int .i64 r.hi]] w fun e w' => e = .returned (ruleFt n r).v ∧ Below w.heap.size w w' := by
  have hGood : ∀ (W : World) (b0 b1 : Nat), Blk W b0 77 (rrow r) → Blk W b1 3 #[.int .i64 ((n : Int) - 1)] → Good W [⟨140, #[.pointer (some ⟨b0, 0, none⟩), .pointer (some ⟨b1, 0, none⟩)], need (ruleA n r) 4⟩, ⟨141, #[.pointer (some ⟨b0, 0, none⟩)], need (ruleB r) 2⟩, ⟨142, #[.pointer (some ⟨b0, 0, none⟩)], need (ruleC r) 7⟩] := by
    intro W b0 b1 h0 h1 k x hk _ W' hW
    match k, hk with
    | 0, hk => cases hk; exact rf1_any r n b0 b1 W' (h0.thru hW h0.lt) (h1.thru hW h1.lt)
    | 1, hk => cases hk; exact rf2_any r b0 W' (h0.thru hW h0.lt)
    | 2, hk => cases hk; exact rf3_any r b0 W' (h0.thru hW h0.lt)
    | k + 3, hk => simp at hk
  have HGood := Lib.hid hGood; clear hGood
  have j0 : (0 : Int) ≤ (n : Int) := Int.natCast_nonneg _
  have j1 : (n : Int) ≤ 1000 := by omega
  go_enter Tryz.func116, Tryz.ntmps116
  go_wp2_with fail
  refine (first_any _ (w.heap.size + 1 + 1 + 1 + 1) 0 3 [⟨140, #[.pointer (some ⟨w.heap.size + 1, 0, none⟩), .pointer (some ⟨w.heap.size + 1 + 1 + 1, 0, none⟩)], need (ruleA n r) 4⟩, ⟨141, #[.pointer (some ⟨w.heap.size + 1, 0, none⟩)], need (ruleB r) 2⟩, ⟨142, #[.pointer (some ⟨w.heap.size + 1, 0, none⟩)], need (ruleC r) 7⟩] rfl (by omega) (by simp) ?_ (HGood.out _ _ _ ?_ ?_) ?_).mono ?_
  · intro k c hk
    match k, hk with
    | 0, hk => cases hk; exact (Blk.new' _ _ _ (by simp)).cell 0
    | 1, hk => cases hk; exact (Blk.new' _ _ _ (by simp)).cell 1
    | 2, hk => cases hk; exact (Blk.new' _ _ _ (by simp)).cell 2
    | k + 3, hk => simp at hk
  · exact (((Blk.new' (w.alloc _) _ _ (by simp)).alloc _).alloc _).alloc _
  · exact (Blk.new' (((w.alloc _).alloc _).alloc _) _ _ (by simp)).alloc _
  · intro k c hk W
    match k, hk with
    | 0, hk => cases hk; show Sem.run Tryz.prog (callFunc _ _) W = _; kernel_rfl
    | 1, hk => cases hk; show Sem.run Tryz.prog (callFunc _ _) W = _; kernel_rfl
    | 2, hk => cases hk; show Sem.run Tryz.prog (callFunc _ _) W = _; kernel_rfl
    | k + 3, hk => simp at hk
  · rintro e w1 ⟨he, hb1⟩
    replace he : e = .returned (ruleFt n r).v := he
    subst he
    obtain ⟨hc1, hf1⟩ := bcell hb1; have hz1 := hb1.size; (try simp at hz1)
    go_wp2
    exact bodyPost_ret (v := (ruleFt n r).v) (by simp [results, Tryz.results116, go_sem, hc1] <;> omega) rfl ⟨by rfl, (by repeat (first | exact Below.refl _ _ | assumption | (refine Below.setCell ?_ (by first | omega | (simp; done) | (simp; omega)) _) | (refine Below.alloc ?_ (by first | omega | (simp; done) | (simp; omega)) _) | refine Below.drew ?_ | (refine below_thru ?_ (by assumption) (by first | omega | (simp; done) | (simp; omega))) | refine below_drewN ?_ _))⟩
end Go.Proofs.YtmhfnnpbnocafaaGreat

namespace Go.Proofs.YtmhfnnpbnocafaaGreat
open Go.RowKit
set_option linter.unusedSimpArgs false
set_option linter.unusedVariables false

/-- A set of gates: where its gates and its rules lie. -/
structure St where
  gA : Option Addr
  gn : Nat
  gc : Nat
  gs : List Ga
  rA : Option Addr
  rn : Nat
  rc : Nat
  rs : List Gr
abbrev St.v (l : St) : Value := .agg #[.slice l.gA l.gn l.gc, .slice l.rA l.rn l.rc]
structure St.At (l : St) (w : World) (B : Nat) : Prop where
  g : Gates w B l.gA l.gn l.gs
  r : Tab w B l.rA l.rn 4 (l.rs.map Gr.cells)
  gn : l.gn ≤ maxLen
  rn : l.rn ≤ maxLen
  gc : l.gn ≤ l.gc
theorem St.At.grow {l : St} {w w' : World} (h : l.At w w.heap.size) (hb : Below w.heap.size w w') : l.At w' w'.heap.size := ⟨h.g.grow hb, h.r.grow hb, h.gn, h.rn, h.gc⟩
theorem St.At.below {l : St} {w w' : World} {B : Nat} (h : l.At w B) (hb : Below B w w') : l.At w' B := ⟨h.g.below hb, h.r.below hb, h.gn, h.rn, h.gc⟩
theorem St.At.more {l : St} {w : World} {B B' : Nat} (h : l.At w B) (hB : B ≤ B') : l.At w B' := ⟨h.g.more hB, h.r.more hB, h.gn, h.rn, h.gc⟩
theorem St.At.rl {l : St} {w : World} {B : Nat} (h : l.At w B) : l.rs.length = l.rn := by have := h.r.1; simpa using this
/-- A set in a block of its own. -/
structure St.Box (l : St) (w : World) (b : Nat) : Prop where
  blk : Blk w b 61 #[.slice l.gA l.gn l.gc, .slice l.rA l.rn l.rc]
  at_ : l.At w w.heap.size
theorem St.Box.grow {l : St} {w w' : World} {b : Nat} (h : l.Box w b) (hb : Below w.heap.size w w') : l.Box w' b := ⟨h.blk.thru hb h.blk.lt, h.at_.grow hb⟩
def rAt (l : St) (i : Nat) : Gr := (l.rs[i]?).getD ⟨0, 0, 0, 0⟩
theorem rAt_of {l : St} {i : Nat} {r : Gr} (h : l.rs[i]? = some r) : rAt l i = r := by unfold rAt; rw [h]; rfl
def setL (l : St) : List Ft := [(need (betw l.gn 1 6) 3).in_ 1, (eachF (fun i => memberFt l.gs i) 0 l.gn).in_ 1, (need (decide ((l.rn : Int) ≤ 12)) 3).in_ 2, (eachF (fun i => ruleFt l.gn (rAt l i)) 0 l.rn).in_ 2]
def setFt (l : St) : Ft := firstF (setL l)
theorem uFault : ∃ fs, Tryz.prog.underlying 80 = some (.struct fs) := isStruct (by kernel_rfl)
theorem iFault : (Tryz.prog.info? 80).map (·.size) = some 3 := by kernel_rfl

set_option maxHeartbeats 1000000 in
theorem sf1_any (l : St) (b : Nat) (w : World) (hl : l.Box w b) :
    Calls Tryz.prog 109 #[.pointer (some ⟨b, 0, none⟩)] w fun e w' => e = .returned ((need (betw l.gn 1 6) 3).in_ 1).v ∧ Below w.heap.size w w' := by
  obtain ⟨s0, s1, _, _⟩ := hl.blk.two
  have hlt := hl.blk.lt
  clear hl
  go_enter Tryz.func109, Tryz.ntmps109
  go_wp2_with fail
  refine (between_any _ _ _ _).mono ?_
  rintro e w' ⟨rfl, rfl⟩
  go_wp2_with fail
  refine (need_any (betw l.gn 1 6) 3 _).mono ?_
  rintro e w1 ⟨rfl, hb1⟩
  obtain ⟨hc1, hf1⟩ := bcell hb1; have hz1 := hb1.size; (try simp at hz1)
  go_wp2_with fail
  refine (fault_in_any (need (betw l.gn 1 6) 3) 1 _).mono ?_
  rintro e w2 ⟨rfl, hb2⟩
  obtain ⟨hc2, hf2⟩ := bcell hb2; have hz2 := hb2.size; (try simp at hz2)
  have hl1 : w.heap.size < w1.heap.size := by omega
  go_wp2
  exact bodyPost_ret (v := ((need (betw l.gn 1 6) 3).in_ 1).v) (by simp [results, Tryz.results109, go_sem, hc1, hc2, hl1] <;> omega) rfl ⟨by rfl, (by repeat (first | exact Below.refl _ _ | assumption | (refine Below.setCell ?_ (by first | omega | (simp; done) | (simp; omega)) _) | (refine Below.alloc ?_ (by first | omega | (simp; done) | (simp; omega)) _) | refine Below.drew ?_ | (refine below_thru ?_ (by assumption) (by first | omega | (simp; done) | (simp; omega))) | refine below_drewN ?_ _))⟩
set_option maxHeartbeats 1000000 in
theorem sf3_any (l : St) (b : Nat) (w : World) (hl : l.Box w b) :
    Calls Tryz.prog 113 #[.pointer (some ⟨b, 0, none⟩)] w fun e w' => e = .returned ((need (decide ((l.rn : Int) ≤ 12)) 3).in_ 2).v ∧ Below w.heap.size w w' := by
  obtain ⟨s0, s1, _, _⟩ := hl.blk.two
  have hlt := hl.blk.lt
  have hrn := hl.at_.rn
  unfold maxLen at hrn
  clear hl
  go_enter Tryz.func113, Tryz.ntmps113
  go_wp2_with fail
  refine (need_any (decide ((l.rn : Int) ≤ 12)) 3 _).mono ?_
  rintro e w1 ⟨rfl, hb1⟩
  obtain ⟨hc1, hf1⟩ := bcell hb1; have hz1 := hb1.size; (try simp at hz1)
  go_wp2_with fail
  refine (fault_in_any (need (decide ((l.rn : Int) ≤ 12)) 3) 2 _).mono ?_
  rintro e w2 ⟨rfl, hb2⟩
  obtain ⟨hc2, hf2⟩ := bcell hb2; have hz2 := hb2.size; (try simp at hz2)
  have hl1 : w.heap.size < w1.heap.size := by omega
  go_wp2
  exact bodyPost_ret (v := ((need (decide ((l.rn : Int) ≤ 12)) 3).in_ 2).v) (by simp [results, Tryz.results113, go_sem, hc1, hc2, hl1] <;> omega) rfl ⟨by rfl, (by repeat (first | exact Below.refl _ _ | assumption | (refine Below.setCell ?_ (by first | omega | (simp; done) | (simp; omega)) _) | (refine Below.alloc ?_ (by first | omega | (simp; done) | (simp; omega)) _) | refine Below.drew ?_ | (refine below_thru ?_ (by assumption) (by first | omega | (simp; done) | (simp; omega))) | refine below_drewN ?_ _))⟩
set_option maxHeartbeats 1000000 in
theorem sf21_any (l : St) (b i : Nat) (w : World) (hl : l.Box w b) (hi : i < l.gn) (hn : l.gn ≤ 1000) :
    Calls Tryz.prog 111 #[.int .i64 (i : Int), .pointer (some ⟨b, 0, none⟩)] w fun e w' => e = .returned (memberFt l.gs i).v ∧ Below w.heap.size w w' := by
  obtain ⟨s0, s1, _, _⟩ := hl.blk.two
  have hlt := hl.blk.lt
  have HM := Lib.hid (fun (W : World) (hW : Below w.heap.size w W) => memberFault_any l.gs l.gA l.gn l.gc i W (hl.at_.g.grow hW) hi hn hl.at_.gc)
  clear hl
  generalize memberFt l.gs i = f at *
  go_enter Tryz.func111, Tryz.ntmps111
  go_wp2_with fail
  refine (HM.out _ (by repeat (first | exact Below.refl _ _ | assumption | (refine Below.setCell ?_ (by first | omega | (simp; done) | (simp; omega)) _) | (refine Below.alloc ?_ (by first | omega | (simp; done) | (simp; omega)) _) | refine Below.drew ?_ | (refine below_thru ?_ (by assumption) (by first | omega | (simp; done) | (simp; omega))) | refine below_drewN ?_ _))).mono ?_
  rintro e w1 ⟨rfl, hb1⟩
  obtain ⟨hc1, hf1⟩ := bcell hb1; have hz1 := hb1.size; (try simp at hz1)
  go_wp2
  exact bodyPost_ret (v := f.v) (by simp [results, Tryz.results111, go_sem, hc1] <;> omega) rfl ⟨by rfl, (by repeat (first | exact Below.refl _ _ | assumption | (refine Below.setCell ?_ (by first | omega | (simp; done) | (simp; omega)) _) | (refine Below.alloc ?_ (by first | omega | (simp; done) | (simp; omega)) _) | refine Below.drew ?_ | (refine below_thru ?_ (by assumption) (by first | omega | (simp; done) | (simp; omega))) | refine below_drewN ?_ _))⟩
set_option maxHeartbeats 1000000 in
theorem sf2_any (l : St) (b : Nat) (w : World) (hl : l.Box w b) (hn : l.gn ≤ 1000) :
    Calls Tryz.prog 110 #[.pointer (some ⟨b, 0, none⟩)] w fun e w' => e = .returned ((eachF (fun i => memberFt l.gs i) 0 l.gn).in_ 1).v ∧ Below w.heap.size w w' := by
  have HE := Lib.hid (fun (W : World) (hW : l.Box W b) => each_any W l.gn hn 111 (.pointer (some ⟨b, 0, none⟩)) (fun i => memberFt l.gs i) (fun k W' => by show Sem.run Tryz.prog (callFunc _ _) W' = _; kernel_rfl) (fun k hk _ W' hb => sf21_any l b k W' (hW.grow hb) hk hn))
  have Hl := Lib.hid hl
  obtain ⟨s0, s1, _, _⟩ := hl.blk.two
  have hlt := hl.blk.lt
  clear hl
  generalize eachF (fun i => memberFt l.gs i) 0 l.gn = ef at *
  go_enter Tryz.func110, Tryz.ntmps110
  go_wp2_with fail
  refine (HE.out _ (Hl.out.grow (by repeat (first | exact Below.refl _ _ | assumption | (refine Below.setCell ?_ (by first | omega | (simp; done) | (simp; omega)) _) | (refine Below.alloc ?_ (by first | omega | (simp; done) | (simp; omega)) _) | refine Below.drew ?_ | (refine below_thru ?_ (by assumption) (by first | omega | (simp; done) | (simp; omega))) | refine below_drewN ?_ _)))).mono ?_
  rintro e w1 ⟨rfl, hb1⟩
  obtain ⟨hc1, hf1⟩ := bcell hb1; have hz1 := hb1.size; (try simp at hz1)
  go_wp2_with fail
  refine (fault_in_any ef 1 _).mono ?_
  rintro e w2 ⟨rfl, hb2⟩
  obtain ⟨hc2, hf2⟩ := bcell hb2; have hz2 := hb2.size; (try simp at hz2)
  have hl1 : w.heap.size < w1.heap.size := by omega
  go_wp2
  exact bodyPost_ret (v := (ef.in_ 1).v) (by simp [results, Tryz.results110, go_sem, hc1, hc2, hl1] <;> omega) rfl ⟨by rfl, (by repeat (first | exact Below.refl _ _ | assumption | (refine Below.setCell ?_ (by first | omega | (simp; done) | (simp; omega)) _) | (refine Below.alloc ?_ (by first | omega | (simp; done) | (simp; omega)) _) | refine Below.drew ?_ | (refine below_thru ?_ (by assumption) (by first | omega | (simp; done) | (simp; omega))) | refine below_drewN ?_ _))⟩

/-- What the check of a rule reads. -/
structure RfR (W : World) (b : Nat) (gv rv : Value) (rb ro : Nat) (r : Gr) : Prop where
  st : Blk W b 61 #[gv, rv]
  c0 : W.cell? ⟨rb, ro, none⟩ = some (.int .i64 r.gate)
  c1 : W.cell? ⟨rb, ro + 1, none⟩ = some (.int .i64 r.other)
  c2 : W.cell? ⟨rb, ro + 2, none⟩ = some (.int .i64 r.lo)
  c3 : W.cell? ⟨rb, ro + 3, none⟩ = some (.int .i64 r.hi)
theorem RfR.below {W W' : World} {b rb ro : Nat} {gv rv : Value} {r : Gr} (h : RfR W b gv rv rb ro r) (hb : Below W.heap.size W W') : RfR W' b gv rv rb ro r := by
  have k : ∀ (q : Addr) (v : Value), W.cell? q = some v → W'.cell? q = some v := fun q v hq => (hb.cell (World.block_lt_of_cell? W q hq)).trans hq
  exact ⟨h.st.thru hb h.st.lt, k _ _ h.c0, k _ _ h.c1, k _ _ h.c2, k _ _ h.c3⟩
theorem RfR.drew {W : World} {b rb ro : Nat} {gv rv : Value} {r : Gr} (h : RfR W b gv rv rb ro r) : RfR W.drew b gv rv rb ro r := ⟨h.st, h.c0, h.c1, h.c2, h.c3⟩
theorem RfR.sets {W : World} {b rb ro : Nat} {gv rv : Value} {r : Gr} (h : RfR W b gv rv rb ro r) {d : Nat} (h1 : b ≠ d) (h2 : rb ≠ d) (vs : List Value) (o : Nat) : RfR (W.setCells d o vs) b gv rv rb ro r := by
  have k : ∀ (q : Addr) (v : Value), q.block ≠ d → W.cell? q = some v → (W.setCells d o vs).cell? q = some v := fun q v hq h => (World.cell?_setCells_out d vs o W q (fun hb _ => absurd hb hq)).trans h
  exact ⟨h.st.fars h1 _ _, k _ _ h2 h.c0, k _ _ h2 h.c1, k _ _ h2 h.c2, k _ _ h2 h.c3⟩

set_option maxRecDepth 100000 in
set_option maxHeartbeats 2000000 in
theorem sf41_any (l : St) (b i : Nat) (w : World) (hl : l.Box w b) (hi : i < l.rn) (hn : l.gn ≤ 1000) (hrn : l.rn ≤ 1000) :
    Calls Tryz.prog 115 #[.int .i64 (i : Int), .pointer (some ⟨b, 0, none⟩)] w fun e w' => e = .returned (ruleFt l.gn (rAt l i)).v ∧ Below w.heap.size w w' := by
  obtain ⟨r, hri⟩ := get_lt hl.at_.rl hi
  obtain ⟨rb, off, hA, hb, c0, c1, c2, c3⟩ := hl.at_.r.four (k := i) (x := .int .i64 r.gate) (y := .int .i64 r.other) (z := .int .i64 r.lo) (u := .int .i64 r.hi) (by simp [hri])
  rw [rAt_of hri]
  have hst := hl.blk
  rw [hA] at hst
  have hlt := hst.lt
  have hR : RfR w b (.slice l.gA l.gn l.gc) (.slice (some ⟨rb, off, none⟩) l.rn l.rc) rb (off + i * 4) r := ⟨hst, c0, c1, c2, c3⟩
  have hR1 : RfR (w.alloc (.cells #[.int .i64 0, .int .i64 0, .int .i64 0] 80)).drew b (.slice l.gA l.gn l.gc) (.slice (some ⟨rb, off, none⟩) l.rn l.rc) rb (off + i * 4) r := (hR.below (by repeat (first | exact Below.refl _ _ | assumption | (refine Below.setCell ?_ (by first | omega | (simp; done) | (simp; omega)) _) | (refine Below.alloc ?_ (by first | omega | (simp; done) | (simp; omega)) _) | refine Below.drew ?_ | (refine below_thru ?_ (by assumption) (by first | omega | (simp; done) | (simp; omega))) | refine below_drewN ?_ _))).drew
  have j0 : (0 : Int) ≤ (i : Int) := Int.natCast_nonneg _
  have j1 : (i : Int) < (l.rn : Int) := by omega
  have HF := Lib.hid (fun W => ruleFault_any r l.gA l.gn l.gc (.slice (some ⟨rb, off, none⟩) l.rn l.rc) W hn rfl)
  generalize ruleFt l.gn r = f at *
  obtain ⟨s0, s1, _, _⟩ := hst.two
  clear hl hA hri c0 c1 c2 c3 hR hst
  go_enter Tryz.func115, Tryz.ntmps115
  go_wp2_with fail
  refine wp_region_held (S := fun W' => RfR W' b (.slice l.gA l.gn l.gc) (.slice (some ⟨rb, off, none⟩) l.rn l.rc) rb (off + i * 4) r) (by kernel_rfl) (by exact hR1) (fun hHeld => ?_)
  refine wpAnyH_take (i := 0) (v := ?_) rfl (by kernel_rfl) (by kernel_rfl) (by kernel_rfl) (fun _ _ _ h => h) (Or.inl ⟨by kernel_rfl, ?_⟩) hHeld ?_
  rotate_left
  · intro w hSw; (try dsimp only at hSw); obtain ⟨st, y0, y1, y2, y3⟩ := hSw; have s0 := st.cell 0; have s1 := st.cell 1; simp only [List.getElem?_toArray, List.getElem?_cons_zero, List.getElem?_cons_succ] at s0 s1; go_simp; (try with_reducible rfl)
  (try simp only [Act.put, List.setIfInBounds_toArray, List.set_cons_zero, List.set_cons_succ])
  refine wpAnyH_take (i := 1) (v := ?_) rfl (by kernel_rfl) (by kernel_rfl) (by kernel_rfl) (fun _ _ _ h => h) (Or.inl ⟨by kernel_rfl, ?_⟩) hHeld ?_
  rotate_left
  · intro w hSw; (try dsimp only at hSw); obtain ⟨st, y0, y1, y2, y3⟩ := hSw; have s0 := st.cell 0; have s1 := st.cell 1; simp only [List.getElem?_toArray, List.getElem?_cons_zero, List.getElem?_cons_succ] at s0 s1; go_simp; (try with_reducible rfl)
  (try simp only [Act.put, List.setIfInBounds_toArray, List.set_cons_zero, List.set_cons_succ])
  refine wpAnyH_take (i := 2) (v := ?_) rfl (by kernel_rfl) (by kernel_rfl) (by kernel_rfl) (fun _ _ _ h => h) (Or.inl ⟨by kernel_rfl, ?_⟩) hHeld ?_
  rotate_left
  · intro w hSw; (try dsimp only at hSw); obtain ⟨st, y0, y1, y2, y3⟩ := hSw; have s0 := st.cell 0; have s1 := st.cell 1; simp only [List.getElem?_toArray, List.getElem?_cons_zero, List.getElem?_cons_succ] at s0 s1; go_simp; (try with_reducible rfl)
  (try simp only [Act.put, List.setIfInBounds_toArray, List.set_cons_zero, List.set_cons_succ])
  refine wpAnyH_take (i := 3) (v := ?_) rfl (by kernel_rfl) (by kernel_rfl) (by kernel_rfl) (fun _ _ _ h => h) (Or.inl ⟨by kernel_rfl, ?_⟩) hHeld ?_
  rotate_left
  · intro w hSw; (try dsimp only at hSw); obtain ⟨st, y0, y1, y2, y3⟩ := hSw; have s0 := st.cell 0; have s1 := st.cell 1; simp only [List.getElem?_toArray, List.getElem?_cons_zero, List.getElem?_cons_succ] at s0 s1; go_simp; (try with_reducible rfl)
  (try simp only [Act.put, List.setIfInBounds_toArray, List.set_cons_zero, List.set_cons_succ])
  refine wpAnyH_take (i := 4) (v := ?_) rfl (by kernel_rfl) (by kernel_rfl) (by kernel_rfl) (fun _ _ _ h => h) (Or.inl ⟨by kernel_rfl, ?_⟩) hHeld ?_
  rotate_left
  · intro w hSw; (try dsimp only at hSw); obtain ⟨st, y0, y1, y2, y3⟩ := hSw; have s0 := st.cell 0; have s1 := st.cell 1; simp only [List.getElem?_toArray, List.getElem?_cons_zero, List.getElem?_cons_succ] at s0 s1; go_simp; (try with_reducible rfl)
  (try simp only [Act.put, List.setIfInBounds_toArray, List.set_cons_zero, List.set_cons_succ])
  refine wpAnyH_take (i := 5) (v := ?_) rfl (by kernel_rfl) (by kernel_rfl) (by kernel_rfl) (fun _ _ _ h => h) (Or.inl ⟨by kernel_rfl, ?_⟩) hHeld ?_
  rotate_left
  · intro w hSw; (try dsimp only at hSw); obtain ⟨st, y0, y1, y2, y3⟩ := hSw; have s0 := st.cell 0; have s1 := st.cell 1; simp only [List.getElem?_toArray, List.getElem?_cons_zero, List.getElem?_cons_succ] at s0 s1; go_simp; (try with_reducible rfl)
  (try simp only [Act.put, List.setIfInBounds_toArray, List.set_cons_zero, List.set_cons_succ])
  refine wpAnyH_ready (rs := [6]) (by kernel_rfl) (by simp) ?_
  refine AllReadyH.cons rfl (fun K hK => ?_) AllReadyH.nil
  go_simp
  refine (HF.out _).mono ?_
  rintro e w1 ⟨rfl, hb1⟩; have hz1 := hb1.size; (try simp at hz1)
  (try dsimp only)
  refine hK.out _ _ (by exact hHeld.below hb1) (fun hHeld => ?_)
  clear hK K
  (try simp only [Act.put, List.setIfInBounds_toArray, List.set_cons_zero, List.set_cons_succ])
  have hF1 : Blk w1 w.heap.size 80 #[.int .i64 0, .int .i64 0, .int .i64 0] := Blk.thru (by (repeat (first | assumption | exact Blk.new _ _ _ | (refine Blk.new' _ _ _ ?_; (simp; done)) | refine Blk.drew ?_ | refine Blk.alloc ?_ _ | (refine Blk.fars ?_ ?_ _ _; rotate_left; (dsimp only; omega)) | (refine Blk.far ?_ ?_ _; rotate_left; (first | (dsimp only; omega) | (simp; done) | (simp; omega) | omega))))) hb1 (by simp)
  have hB1 : Below w.heap.size w w1 := (by repeat (first | exact Below.refl _ _ | assumption | (refine Below.setCell ?_ (by first | omega | (simp; done) | (simp; omega)) _) | (refine Below.alloc ?_ (by first | omega | (simp; done) | (simp; omega)) _) | refine Below.drew ?_ | (refine below_thru ?_ (by assumption) (by first | omega | (simp; done) | (simp; omega))) | refine below_drewN ?_ _))
  (try simp only [List.getElem_toArray, List.getElem_cons_zero, List.getElem_cons_succ, Act.put, List.setIfInBounds_toArray, List.set_cons_zero, List.set_cons_succ])
  refine wpAnyH_ready (rs := [7]) (by kernel_rfl) (by simp) ?_
  refine AllReadyH.cons rfl (fun K hK => ?_) AllReadyH.nil
  refine wanted_of (by rfl) (wp_store_mid (P := Tryz.prog) 80 _ _ rfl (w.heap.size) 0 #[.int .i64 f.part, .int .i64 f.at_, .int .i64 f.e] rfl rfl (Blk.there hF1 (by show 0 + 3 ≤ 3; omega)) (by kernel_rfl) (by simp [Value.oneCell']) ?_)
  refine hK.out _ _ (by exact hHeld.sets (by omega) (by omega) _ _) (fun hHeld => ?_)
  clear hK K
  (try simp only [Act.put, List.setIfInBounds_toArray, List.set_cons_zero, List.set_cons_succ])
  refine wpAnyH_done (by kernel_rfl) ?_ _
  (try simp only [List.getElem_toArray, List.getElem_cons_zero, List.getElem_cons_succ, Act.put, List.setIfInBounds_toArray, List.set_cons_zero, List.set_cons_succ])
  have hFe : Blk (w1.setCells w.heap.size 0 (#[.int .i64 f.part, .int .i64 f.at_, .int .i64 f.e] : Array Value).toList) w.heap.size 80 #[.int .i64 f.part, .int .i64 f.at_, .int .i64 f.e] := Blk.sets hF1 _ _
  have hBe : Below w.heap.size w (w1.setCells w.heap.size 0 (#[.int .i64 f.part, .int .i64 f.at_, .int .i64 f.e] : Array Value).toList) := below_sets hB1 (Nat.le_refl _) _ _
  obtain ⟨fs, hu⟩ := uFault
  go_wp2
  exact bodyPost_ret (results_cell_row rfl _ _ w.heap.size 80 #[.int .i64 f.part, .int .i64 f.at_, .int .i64 f.e] (0, 0) _ rfl hFe hu rfl iFault) rfl ⟨rfl, hBe⟩
set_option maxHeartbeats 1000000 in
theorem sf4_any (l : St) (b : Nat) (w : World) (hl : l.Box w b) (hn : l.gn ≤ 1000) (hrn : l.rn ≤ 1000) :
    Calls Tryz.prog 114 #[.pointer (some ⟨b, 0, none⟩)] w fun e w' => e = .returned ((eachF (fun i => ruleFt l.gn (rAt l i)) 0 l.rn).in_ 2).v ∧ Below w.heap.size w w' := by
  have HE := Lib.hid (fun (W : World) (hW : l.Box W b) => each_any W l.rn hrn 115 (.pointer (some ⟨b, 0, none⟩)) (fun i => ruleFt l.gn (rAt l i)) (fun k W' => by show Sem.run Tryz.prog (callFunc _ _) W' = _; kernel_rfl) (fun k hk _ W' hb => sf41_any l b k W' (hW.grow hb) hk hn hrn))
  have Hl := Lib.hid hl
  obtain ⟨s0, s1, _, _⟩ := hl.blk.two
  have hlt := hl.blk.lt
  clear hl
  generalize eachF (fun i => ruleFt l.gn (rAt l i)) 0 l.rn = ef at *
  go_enter Tryz.func114, Tryz.ntmps114
  go_wp2_with fail
  refine (HE.out _ (Hl.out.grow (by repeat (first | exact Below.refl _ _ | assumption | (refine Below.setCell ?_ (by first | omega | (simp; done) | (simp; omega)) _) | (refine Below.alloc ?_ (by first | omega | (simp; done) | (simp; omega)) _) | refine Below.drew ?_ | (refine below_thru ?_ (by assumption) (by first | omega | (simp; done) | (simp; omega))) | refine below_drewN ?_ _)))).mono ?_
  rintro e w1 ⟨rfl, hb1⟩
  obtain ⟨hc1, hf1⟩ := bcell hb1; have hz1 := hb1.size; (try simp at hz1)
  go_wp2_with fail
  refine (fault_in_any ef 2 _).mono ?_
  rintro e w2 ⟨rfl, hb2⟩
  obtain ⟨hc2, hf2⟩ := bcell hb2; have hz2 := hb2.size; (try simp at hz2)
  have hl1 : w.heap.size < w1.heap.size := by omega
  go_wp2
  exact bodyPost_ret (v := (ef.in_ 2).v) (by simp [results, Tryz.results114, go_sem, hc1, hc2, hl1] <;> omega) rfl ⟨by rfl, (by repeat (first | exact Below.refl _ _ | assumption | (refine Below.setCell ?_ (by first | omega | (simp; done) | (simp; omega)) _) | (refine Below.alloc ?_ (by first | omega | (simp; done) | (simp; omega)) _) | refine Below.drew ?_ | (refine below_thru ?_ (by assumption) (by first | omega | (simp; done) | (simp; omega))) | refine below_drewN ?_ _))⟩

def setC (l : St) (p : Value) : List Chk := [⟨109, #[p], (need (betw l.gn 1 6) 3).in_ 1⟩, ⟨110, #[p], (eachF (fun i => memberFt l.gs i) 0 l.gn).in_ 1⟩, ⟨113, #[p], (need (decide ((l.rn : Int) ≤ 12)) 3).in_ 2⟩, ⟨114, #[p], (eachF (fun i => ruleFt l.gn (rAt l i)) 0 l.rn).in_ 2⟩]
theorem setC_good (l : St) (b : Nat) (w : World) (hl : l.Box w b) : Good w (setC l (.pointer (some ⟨b, 0, none⟩))) := by
  intro k c hk hprev W hW
  have hb := hl.grow hW
  match k, hk with
  | 0, hk => cases hk; exact sf1_any l b W hb
  | 1, hk =>
    cases hk
    have h2 : betw l.gn 1 6 = true := need_e (c := 3) (by omega) (hprev 0 _ (by omega) rfl)
    simp only [betw, Bool.and_eq_true, decide_eq_true_eq] at h2
    exact sf2_any l b W hb (by omega)
  | 2, hk => cases hk; exact sf3_any l b W hb
  | 3, hk =>
    cases hk
    have h2 : betw l.gn 1 6 = true := need_e (c := 3) (by omega) (hprev 0 _ (by omega) rfl)
    have h3 : decide ((l.rn : Int) ≤ 12) = true := need_e (c := 3) (by omega) (hprev 2 _ (by omega) rfl)
    simp only [betw, Bool.and_eq_true, decide_eq_true_eq] at h2 h3
    exact sf4_any l b W hb (by omega) (by omega)
  | k + 4, hk => simp [setC] at hk
theorem setC_plain (l : St) (p : Value) : ∀ (k : Nat) (c : Chk), (setC l p)[k]? = some c → Plain c.f c.caps := by
  intro k c hk W
  match k, hk with
  | 0, hk => cases hk; show Sem.run Tryz.prog (callFunc _ _) W = _; kernel_rfl
  | 1, hk => cases hk; show Sem.run Tryz.prog (callFunc _ _) W = _; kernel_rfl
  | 2, hk => cases hk; show Sem.run Tryz.prog (callFunc _ _) W = _; kernel_rfl
  | 3, hk => cases hk; show Sem.run Tryz.prog (callFunc _ _) W = _; kernel_rfl
  | k + 4, hk => simp [setC] at hk
set_option maxRecDepth 100000 in
set_option maxHeartbeats 1000000 in
theorem setFault_any (l : St) (w : World) (hl : l.At w w.heap.size) :
    Calls Tryz.prog 51 #[l.v] w fun e w' => e = .returned (setFt l).v ∧ Below w.heap.size w w' := by
  have Hl := Lib.hid hl; clear hl
  have HGood := Lib.hid (fun W b (h : l.Box W b) => setC_good l b W h)
  go_enter Tryz.func51, Tryz.ntmps51
  go_wp2_with fail
  refine (first_any _ (w.heap.size + 1 + 1) 0 4 (setC l (.pointer (some ⟨w.heap.size, 0, none⟩))) rfl (by omega) (by simp) ?_ (HGood.out _ _ ⟨?_, ?_⟩) (setC_plain l _)).mono ?_
  · intro k c hk
    match k, hk with
    | 0, hk => cases hk; exact (Blk.new' _ _ _ (by simp)).cell 0
    | 1, hk => cases hk; exact (Blk.new' _ _ _ (by simp)).cell 1
    | 2, hk => cases hk; exact (Blk.new' _ _ _ (by simp)).cell 2
    | 3, hk => cases hk; exact (Blk.new' _ _ _ (by simp)).cell 3
    | k + 4, hk => simp [setC] at hk
  · exact ((Blk.new w _ _).alloc _).alloc _
  · exact Hl.out.grow (by repeat (first | exact Below.refl _ _ | assumption | (refine Below.setCell ?_ (by first | omega | (simp; done) | (simp; omega)) _) | (refine Below.alloc ?_ (by first | omega | (simp; done) | (simp; omega)) _) | refine Below.drew ?_ | (refine below_thru ?_ (by assumption) (by first | omega | (simp; done) | (simp; omega))) | refine below_drewN ?_ _))
  · rintro e w1 ⟨he, hb1⟩
    replace he : e = .returned (setFt l).v := he
    subst he
    obtain ⟨hc1, hf1⟩ := bcell hb1; have hz1 := hb1.size; (try simp at hz1)
    go_wp2
    exact bodyPost_ret (v := (setFt l).v) (by simp [results, Tryz.results51, go_sem, hc1] <;> omega) rfl ⟨by rfl, (by repeat (first | exact Below.refl _ _ | assumption | (refine Below.setCell ?_ (by first | omega | (simp; done) | (simp; omega)) _) | (refine Below.alloc ?_ (by first | omega | (simp; done) | (simp; omega)) _) | refine Below.drew ?_ | (refine below_thru ?_ (by assumption) (by first | omega | (simp; done) | (simp; omega))) | refine below_drewN ?_ _))⟩
/-- What a set without a fault is. -/
structure St.Ok (l : St) : Prop where
  n0 : 1 ≤ l.gn
  n1 : l.gn ≤ 6
  rn : l.rn ≤ 12
  g : ∀ g ∈ l.gs, g.Ok
  r : ∀ r ∈ l.rs, (0 ≤ r.gate ∧ r.gate < l.gn) ∧ (0 ≤ r.other ∧ r.other < l.gn) ∧ r.gate ≠ r.other ∧ 0 ≤ r.lo ∧ r.lo ≤ r.hi ∧ r.hi ≤ 5000
theorem setFt_ok (l : St) (w : World) (B : Nat) (hl : l.At w B) (h : (setFt l).e = 0) : l.Ok := by
  have hall := first0 _ h
  have h1 := need_e (b := betw l.gn 1 6) (c := 3) (by omega) (hall ((need (betw l.gn 1 6) 3).in_ 1) (by simp [setL]))
  have h2 := each0 _ _ _ (show (eachF (fun i => memberFt l.gs i) 0 l.gn).e = 0 from hall ((eachF (fun i => memberFt l.gs i) 0 l.gn).in_ 1) (by simp [setL]))
  have h3 := need_e (b := decide ((l.rn : Int) ≤ 12)) (c := 3) (by omega) (hall ((need (decide ((l.rn : Int) ≤ 12)) 3).in_ 2) (by simp [setL]))
  have h4 := each0 _ _ _ (show (eachF (fun i => ruleFt l.gn (rAt l i)) 0 l.rn).e = 0 from hall ((eachF (fun i => ruleFt l.gn (rAt l i)) 0 l.rn).in_ 2) (by simp [setL]))
  simp only [betw, Bool.and_eq_true, decide_eq_true_eq] at h1 h3
  refine ⟨by omega, by omega, by omega, fun g hg => ?_, fun r hr => ?_⟩
  · obtain ⟨i, hi, rfl⟩ := List.getElem_of_mem hg
    have hgl := hl.g.len
    have := h2 i (by omega) (by omega)
    have := first0 _ this (gateF (gAt l.gs i)) (by simp)
    rw [gAt_of (List.getElem?_eq_getElem hi)] at this
    exact gateF_ok _ w B (hl.g.at_ _ (List.getElem_mem hi)) this
  · obtain ⟨i, hi, rfl⟩ := List.getElem_of_mem hr
    have hrl := hl.rl
    have h5 := h4 i (by omega) (by omega)
    rw [rAt_of (List.getElem?_eq_getElem hi)] at h5
    have a1 := need_e (b := ruleA l.gn l.rs[i]) (c := 4) (by omega) (first0 _ h5 (need (ruleA l.gn l.rs[i]) 4) (by simp))
    have a2 := need_e (b := ruleB l.rs[i]) (c := 2) (by omega) (first0 _ h5 (need (ruleB l.rs[i]) 2) (by simp))
    have a3 := need_e (b := ruleC l.rs[i]) (c := 7) (by omega) (first0 _ h5 (need (ruleC l.rs[i]) 7) (by simp))
    simp only [ruleA, ruleB, ruleC, betw, Bool.and_eq_true, decide_eq_true_eq, bne_iff_ne] at a1 a2 a3
    exact ⟨⟨a1.1.1, by omega⟩, ⟨a1.2.1, by omega⟩, a2, a3.1, a3.2.1, a3.2.2⟩
end Go.Proofs.YtmhfnnpbnocafaaGreat

namespace Go.Proofs.YtmhfnnpbnocafaaGreat
open Go.RowKit
set_option linter.unusedSimpArgs false
set_option linter.unusedVariables false

theorem infoMachine : (Tryz.prog.info? 97).map (fun i => (i.size, i.bytes)) = some (24, 232) := by kernel_rfl
theorem zeroMachine : ((Tryz.prog.info? 97).bind (·.zero)).map (·.cells.size) = some 24 := by kernel_rfl
theorem undMachines : Tryz.prog.underlying 101 = some (.slice 97) := by kernel_rfl
def zgrow : Array Value := #[.string ByteArray.empty, .int .i64 0, .int .i64 0, .slice none 0 0, .int .i64 0, .int .i64 0, .int .i64 0, .int .i64 0, .int .i64 0, .int .i64 0, .int .i64 0, .int .i64 0, .int .i64 0, .int .i64 0, .int .i64 0, .int .i64 0, .int .i64 0, .int .i64 0, .int .i64 0, .slice none 0 0, .int .i64 0]
theorem put_g (g : Ga) : putRow zgrow 0 (grow g).toList = grow g := by kernel_rfl
theorem run_alloc_g (w : World) : (Instr.alloc 25 true (.tuple #[])).run Tryz.prog w = .ok (.pointer (some ⟨w.heap.size, 0, none⟩)) (w.alloc (.cells zgrow 25)) := by
  kernel_rfl
theorem wpl_sg {ops : Array Oper} {rest : List Oper} {o : Oper} {a : Act} {w : World} {Q : Exit → Act → World → Prop} {x y : Operand} {b : Nat} {cs : Array Value} {t : TypeId} {g : Ga} (h : Blk w b t cs) (hc : cs.size = 21) (hgd : o.guard = none) (ho : o.op = .store 25 x y) (hx : a.eval x = .pointer (some ⟨b, 0, none⟩)) (hy : a.eval y = g.v)
    (hp : putRow cs 0 (grow g).toList = grow g) (hk : ∀ W : World, Wrote w W b t (grow g) → wpList Tryz.prog ops Q rest (a.put o.dst undef) W) : wpList Tryz.prog ops Q (o :: rest) a w :=
  wpList_store_mid hgd _ x y ho b 0 (grow g) hx hy (Blk.there h (by rw [hc]; show 0 + 21 ≤ 21; omega)) iGate (by simp [Value.oneCell'])
    (hk _ ⟨blk_eq hp (Blk.sets h (grow g).toList 0), fun g' t' cs' hne hb => Blk.fars hb hne _ _, fun B a hB hb => below_sets hb hB _ _, size_sets _ _ _⟩)
theorem ld_g {o : Oper} {ev : Operand → Value} {w : World} {x : Operand} {b : Nat} {t : TypeId} {g : Ga} (ho : o.op = .load 25 x) (hx : ev x = .pointer (some ⟨b, 0, none⟩)) (h : Blk w b t (grow g)) :
    (execOp ev o).run Tryz.prog w = .ok (.value g.v) w := by
  obtain ⟨fs, hu⟩ := uGate
  have hr : (Instr.loadAt 25 (.pointer (some ⟨b, 0, none⟩))).run Tryz.prog w = .ok g.v w := by
    simp only [Instr.loadAt, Instr.sureAddr, Sem.run_bind, Sem.run_pure, Result.andThen_ok, run_loadVar_row w b t 25 (grow g) (0, 0) _ h hu rfl iGate]
  unfold execOp
  simp only [ho, hx, Sem.run_bind, hr, Sem.run_pure, Result.andThen_ok]
/-- The machines of a set. -/
def machs (gs : List Ga) (ss : List Gs) : List (Ga × Gs) := gs.zip ss
def mCells (ms : List (Ga × Gs)) : List Value := ms.flatMap fun m => mcells m.1 m.2
theorem mCells_take (ms : List (Ga × Gs)) (k : Nat) (m : Ga × Gs) (h : ms[k]? = some m) : mCells (ms.take (k + 1)) = mCells (ms.take k) ++ mcells m.1 m.2 := by
  have h1 : ms.take (k + 1) = ms.take k ++ [m] := by rw [List.take_add_one, h]; rfl
  unfold mCells
  rw [h1, List.flatMap_append]
  simp
theorem mCells_flat (ms : List (Ga × Gs)) : mCells ms = (ms.map fun m => mcells m.1 m.2).flatten := by unfold mCells; rw [List.flatMap_def]
theorem grow_setCell (w : World) (p : Addr) (v : Value) (h : p.spot = none) : w.grownBy (w.setCell p v) (some p.block) := by
  refine ⟨rfl, rfl, rfl, by simp [World.setCell], fun i hi hne => ?_⟩
  exact Below.heap_setCell w p v i (by intro e; exact hne (by rw [e]))
theorem ms_of_owns {w : World} {base : Nat} {A : Option Addr} {vn vc n : Nat} {ms : List (Ga × Gs)} (h : w.ownsRow base 97 24 (.slice A vn vc) n (mCells ms)) (h0 : 0 < n) : ∃ g, A = some ⟨g, 0, none⟩ ∧ vn = n ∧ base ≤ g ∧ Ms w g ms ∧ ms.length = n := by
  have hlen := h.1
  rw [mCells_flat, flat_len 24 _ (fun r hr => by obtain ⟨m, _, rfl⟩ := List.mem_map.1 hr; rfl), List.length_map] at hlen
  have hl : ms.length = n := Nat.eq_of_mul_eq_mul_right (by omega : 0 < 24) hlen
  rcases h.2 with ⟨_, rfl⟩ | ⟨g, cap, cur, h1, hb, hg, hn, hc, hsz, ht⟩
  · omega
  · cases h1
    have hblk : Blk w g 97 cur := hg
    refine ⟨g, rfl, rfl, hb, ⟨fun i m hm j v hv => ?_, fun o => hblk.frozen o, hblk.lt⟩, hl⟩
    have hf := flat_get 24 (ms.map fun m => mcells m.1 m.2) (fun r hr => by obtain ⟨m, _, rfl⟩ := List.mem_map.1 hr; rfl) i (mcells m.1 m.2) j v (by simp [hm]) hv
    rw [← mCells_flat, ← ht, List.getElem?_take] at hf
    split at hf
    · rw [hblk.cell]; simpa using hf
    · cases hf

theorem owns_below {w W : World} {base : Nat} {e : TypeId} {size n : Nat} {v : Value} {xs : List Value} (h : w.ownsRow base e size v n xs) (hb : Below w.heap.size w W) : W.ownsRow base e size v n xs := by
  refine ⟨h.1, ?_⟩
  rcases h.2 with h1 | ⟨g, cap, cur, h1, h2, h3, h4⟩
  · exact .inl h1
  · exact .inr ⟨g, cap, cur, h1, h2, Blk.thru (show Blk w g e cur from h3) hb (Blk.lt (show Blk w g e cur from h3)), h4⟩
/-- What a round of setOf reads. -/
structure SoR (W : World) (sb : Nat) (av rv : Value) (gb : Nat) (g : Ga) (tb to : Nat) (s : Gs) : Prop where
  st : Blk W sb 103 #[av, rv]
  g : Blk W gb 25 (grow g)
  c0 : W.cell? ⟨tb, to, none⟩ = some (.int .i64 s.pos)
  c1 : W.cell? ⟨tb, to + 1, none⟩ = some (.int .i64 s.charge)
  c2 : W.cell? ⟨tb, to + 2, none⟩ = some (.bool s.bolted)
theorem SoR.below {W W' : World} {sb gb tb to : Nat} {av rv : Value} {g : Ga} {s : Gs} (h : SoR W sb av rv gb g tb to s) (hb : Below W.heap.size W W') : SoR W' sb av rv gb g tb to s := by
  have k : ∀ (q : Addr) (v : Value), W.cell? q = some v → W'.cell? q = some v := fun q v hq => (hb.cell (World.block_lt_of_cell? W q hq)).trans hq
  exact ⟨h.st.thru hb h.st.lt, h.g.thru hb h.g.lt, k _ _ h.c0, k _ _ h.c1, k _ _ h.c2⟩
theorem SoR.drew {W : World} {sb gb tb to : Nat} {av rv : Value} {g : Ga} {s : Gs} (h : SoR W sb av rv gb g tb to s) : SoR W.drew sb av rv gb g tb to s := ⟨h.st, h.g, h.c0, h.c1, h.c2⟩
theorem SoR.grown {W W' : World} {sb gb tb to : Nat} {av rv : Value} {g : Ga} {s : Gs} {row : Option Nat} (h : SoR W sb av rv gb g tb to s) (hg : W.grownBy W' row) (h1 : some sb ≠ row) (h2 : some gb ≠ row) (h3 : some tb ≠ row) : SoR W' sb av rv gb g tb to s := by
  have k : ∀ (q : Addr) (v : Value), some q.block ≠ row → W.cell? q = some v → W'.cell? q = some v := fun q v hq hc => hg.cell hc hq
  exact ⟨(hg.block _ h.st.lt h1).trans h.st, (hg.block _ h.g.lt h2).trans h.g, k _ _ h3 h.c0, k _ _ h3 h.c1, k _ _ h3 h.c2⟩

set_option maxRecDepth 100000 in
set_option maxHeartbeats 8000000 in
theorem setOf_any (l : St) (ss : List Gs) (sA : Option Addr) (n sc : Nat) (w : World) (hl : l.At w w.heap.size) (hs : Tab w w.heap.size sA n 3 (ss.map Gs.cells)) (hn : l.gn = n) (hn6 : n ≤ 1000) :
    Calls Tryz.prog 56 #[l.v, .slice sA n sc] w fun e w' => ∃ A c, e = .returned (setV A n c l.rA l.rn l.rc) ∧ w'.ownsRow (w.heap.size + 1 + 1 + 1) 97 24 (.slice A n c) n (mCells (machs l.gs ss)) ∧ Below w.heap.size w w' := by
  obtain ⟨i0, hi, hzz⟩ : ∃ i0, Tryz.prog.info? 97 = some i0 ∧ i0.size = 24 ∧ i0.bytes = 232 := by
    have := infoMachine
    cases hq : Tryz.prog.info? 97 with
    | none => rw [hq] at this; cases this
    | some i => rw [hq] at this; simp at this; exact ⟨i, rfl, this.1, this.2⟩
  obtain ⟨z0, hz0, hz1⟩ : ∃ z0, i0.zero = some z0 ∧ z0.cells.size = 24 := by
    have := zeroMachine
    rw [hi] at this
    cases hq : i0.zero with
    | none => simp [hq] at this
    | some z => simp [hq] at this; exact ⟨z, rfl, this⟩
  have HI := Lib.hid (And.intro hi (And.intro hzz (And.intro hz0 hz1)))
  clear hi hzz hz0 hz1
  obtain ⟨gA, gn, gc, gs, rA, rn, rc, rs⟩ := l
  simp only at hn
  subst hn
  have hgl : gs.length = gn := hl.g.len
  have hsl : ss.length = gn := by have := hs.1; simpa using this
  have hml : (machs gs ss).length = gn := by unfold machs; rw [List.length_zip, hgl, hsl]; omega
  have Hgl := Lib.hid hgl
  have Hsl := Lib.hid hsl
  have Hml := Lib.hid hml
  have Hg := Lib.hid hl.g
  have Hs := Lib.hid hs
  clear hl hs hgl hsl hml
  have hal := fun W => run_alloc_g W
  go_enter Tryz.func56, Tryz.ntmps56
  go_wp2
  go_loopw [14] (fun i wr => ∃ (k : Nat) (A : Option Addr) (vn vc : Nat), k ≤ gn ∧ i = .int .i64 k ∧ Hid (wr.ownsRow (w.heap.size + 1 + 1 + 1) 97 24 (.slice A vn vc) k (mCells ((machs gs ss).take k))) ∧ Hid (Blk wr (w.heap.size + 1 + 1) 103 #[.slice A vn vc, .slice rA rn rc]) ∧ Hid (Blk wr (w.heap.size + 1) 103 #[.slice none 0 0, .slice none 0 0]) ∧ Below w.heap.size w wr ∧ w.heap.size + 1 + 1 + 1 ≤ wr.heap.size)
    (fun i _ => gn - (intOf i).toNat)
  case atStart =>
    refine ⟨0, none, 0, 0, Nat.zero_le _, rfl, ⟨rfl, .inl ⟨rfl, rfl⟩⟩, Blk.new' ((w.alloc _).alloc _) _ _ (by simp), (Blk.new' (w.alloc _) _ _ (by simp)).alloc _, (by repeat (first | exact Below.refl _ _ | assumption | (refine Below.setCell ?_ (by first | omega | (simp; done) | (simp; omega)) _) | (refine Below.alloc ?_ (by first | omega | (simp; done) | (simp; omega)) _) | refine Below.drew ?_ | (refine below_thru ?_ (by assumption) (by first | omega | (simp; done) | (simp; omega))) | refine below_drewN ?_ _)), by simp⟩
  case round =>
    obtain ⟨k, A, vn, vc, hk, rfl, hown, hbs, hbr0, hbr, hzr⟩ := hrel
    by_cases hkn : k < gn
    · obtain ⟨g, hgk⟩ := get_lt Hgl.out hkn
      obtain ⟨s, hsk⟩ := get_lt Hsl.out hkn
      have hmk : (machs gs ss)[k]? = some (g, s) := by unfold machs; rw [List.getElem?_zip_eq_some]; exact ⟨hgk, hsk⟩
      have htk := mCells_take (machs gs ss) k (g, s) hmk
      obtain ⟨gb, off, hA, hgb, hrow⟩ := Hg.out.row hgk
      obtain ⟨sb, so, hB, hsb, c0, c1, c2⟩ := Hs.out.three (k := k) (x := .int .i64 s.pos) (y := .int .i64 s.charge) (z := .bool s.bolted) (by simp [hsk])
      have Htk := Lib.hid htk
      have Hrow := Lib.hid (range_below hrow hbr hgb)
      subst hA
      subst hB
      have j0 : (0 : Int) ≤ (k : Int) := Int.natCast_nonneg _
      have j1 : (k : Int) < (gn : Int) := by omega
      clear hgk hsk hmk htk hrow
      go_wp2_with (first | (with_reducible refine wpl_gm (g := g) Hrow.out rfl rfl rfl ?_) | (with_reducible refine wpl_sg (cs := zgrow) (g := g) (Blk.new wr _ _) rfl rfl rfl rfl rfl (put_g _) ?_; intro W hW))
      have hsz := hW.size
      simp at hsz
      have hBW : Below wr.heap.size wr W := hW.below _ _ (Nat.le_refl _) ((Below.refl _ _).alloc (Nat.le_refl _) _)
      have hbW : Below w.heap.size w W := hbr.trans (hBW.mono (by omega))
      have hsW : SoR W (w.heap.size + 1 + 1) (.slice A vn vc) (.slice rA rn rc) wr.heap.size g sb (so + k * 3) s :=
        ⟨hbs.out.thru hBW (by omega), hW.blk, (hbW.cell (p := ⟨sb, so + k * 3, none⟩) hsb).trans c0, (hbW.cell (p := ⟨sb, so + k * 3 + 1, none⟩) hsb).trans c1, (hbW.cell (p := ⟨sb, so + k * 3 + 2, none⟩) hsb).trans c2⟩
      have hoW : Hid (W.ownsRow (w.heap.size + 1 + 1 + 1) 97 24 (.slice A vn vc) k (mCells ((machs gs ss).take k))) := owns_below hown.out hBW
      have hr0W : Blk W (w.heap.size + 1) 103 #[.slice none 0 0, .slice none 0 0] := hbr0.out.thru hBW (by omega)
      have Hr0W := Lib.hid hr0W
      have HbW := Lib.hid hbW
      have hloW : ∀ k', (Value.slice A vn vc).ownBlock = some k' → k' < wr.heap.size := fun k' hk' => (hown.out.lt k' hk').2
      clear hW hBW hbW hr0W c0 c1 c2 hown hbs hbr0
      have hbd : ∀ W' : World, (Instr.build 97 #[(0, g.v), (1, .agg #[.int .i64 s.pos, .int .i64 s.charge, .bool s.bolted])]).run Tryz.prog W' = .ok (mv g s) W' := fun W' => run_build_m g s W'
      have hbsl := fun W' => run_bslice_m g s W'
      have n1 : Hid (∀ u ∈ (mrow g s).toList, u.oneCell' = true) := fun u hu => by
        have : (mrow g s).all (·.oneCell') = true := by simp [Value.oneCell']
        exact Array.all_eq_true_iff_forall_mem.1 this u (by simpa using hu)
      have hlo : Hid (∀ k', (Value.slice A vn vc).ownBlock = some k' → w.heap.size + 1 + 1 + 1 ≤ k' ∧ k' < W.heap.size) := fun k' hk' => hoW.out.lt k' hk'
      have hlo2 : Hid (∀ k', (Value.slice A vn vc).ownBlock = some k' → k' < wr.heap.size) := hloW
      go_wp2_with fail
      refine wp_region_split (S := fun W' => SoR W' (w.heap.size + 1 + 1) (.slice A vn vc) (.slice rA rn rc) wr.heap.size g sb (so + k * 3) s) 10 (by kernel_rfl) (by kernel_rfl) (by exact hsW.drew) (fun hHeld => ?_)
      refine wpAnyH_take (i := 2) (v := g.v) rfl (by kernel_rfl) (by kernel_rfl) (by kernel_rfl) (fun _ _ _ h => h) (Or.inl ⟨by rfl, fun w hSw => ld_g rfl rfl hSw.g⟩) hHeld ?_
      (try simp only [Act.put, List.setIfInBounds_toArray, List.set_cons_zero, List.set_cons_succ])
      refine wpAnyH_take (i := 0) (v := ?_) rfl (by kernel_rfl) (by kernel_rfl) (by kernel_rfl) (fun _ _ _ h => h) (Or.inl ⟨by kernel_rfl, ?_⟩) hHeld ?_
      rotate_left
      · intro w hSw; (try dsimp only at hSw); obtain ⟨st, hg', y0, y1, y2⟩ := hSw; have s0 := st.cell 0; have s1 := st.cell 1; simp only [List.getElem?_toArray, List.getElem?_cons_zero, List.getElem?_cons_succ] at s0 s1; go_simp; (try with_reducible rfl)
      (try simp only [Act.put, List.setIfInBounds_toArray, List.set_cons_zero, List.set_cons_succ])
      refine wpAnyH_take (i := 1) (v := ?_) rfl (by kernel_rfl) (by kernel_rfl) (by kernel_rfl) (fun _ _ _ h => h) (Or.inl ⟨by kernel_rfl, ?_⟩) hHeld ?_
      rotate_left
      · intro w hSw; (try dsimp only at hSw); obtain ⟨st, hg', y0, y1, y2⟩ := hSw; have s0 := st.cell 0; have s1 := st.cell 1; simp only [List.getElem?_toArray, List.getElem?_cons_zero, List.getElem?_cons_succ] at s0 s1; go_simp; (try with_reducible rfl)
      (try simp only [Act.put, List.setIfInBounds_toArray, List.set_cons_zero, List.set_cons_succ])
      refine wpAnyH_take (i := 3) (v := ?_) rfl (by kernel_rfl) (by kernel_rfl) (by kernel_rfl) (fun _ _ _ h => h) (Or.inl ⟨by kernel_rfl, ?_⟩) hHeld ?_
      rotate_left
      · intro w hSw; (try dsimp only at hSw); obtain ⟨st, hg', y0, y1, y2⟩ := hSw; have s0 := st.cell 0; have s1 := st.cell 1; simp only [List.getElem?_toArray, List.getElem?_cons_zero, List.getElem?_cons_succ] at s0 s1; go_simp; (try with_reducible rfl)
      (try simp only [Act.put, List.setIfInBounds_toArray, List.set_cons_zero, List.set_cons_succ])
      refine wpAnyH_take (i := 4) (v := ?_) rfl (by kernel_rfl) (by kernel_rfl) (by kernel_rfl) (fun _ _ _ h => h) (Or.inl ⟨by kernel_rfl, ?_⟩) hHeld ?_
      rotate_left
      · intro w hSw; (try dsimp only at hSw); obtain ⟨st, hg', y0, y1, y2⟩ := hSw; have s0 := st.cell 0; have s1 := st.cell 1; simp only [List.getElem?_toArray, List.getElem?_cons_zero, List.getElem?_cons_succ] at s0 s1; go_simp; (try with_reducible rfl)
      (try simp only [Act.put, List.setIfInBounds_toArray, List.set_cons_zero, List.set_cons_succ])
      refine wpAnyH_take (i := 5) (v := ?_) rfl (by kernel_rfl) (by kernel_rfl) (by kernel_rfl) (fun _ _ _ h => h) (Or.inl ⟨by kernel_rfl, ?_⟩) hHeld ?_
      rotate_left
      · intro w hSw; (try dsimp only at hSw); obtain ⟨st, hg', y0, y1, y2⟩ := hSw; have s0 := st.cell 0; have s1 := st.cell 1; simp only [List.getElem?_toArray, List.getElem?_cons_zero, List.getElem?_cons_succ] at s0 s1; go_simp; (try with_reducible rfl)
      (try simp only [Act.put, List.setIfInBounds_toArray, List.set_cons_zero, List.set_cons_succ])
      refine wpAnyH_take (i := 6) (v := ?_) rfl (by kernel_rfl) (by kernel_rfl) (by kernel_rfl) (fun _ _ _ h => h) (Or.inl ⟨by kernel_rfl, ?_⟩) hHeld ?_
      rotate_left
      · intro w hSw; (try dsimp only at hSw); obtain ⟨st, hg', y0, y1, y2⟩ := hSw; have s0 := st.cell 0; have s1 := st.cell 1; simp only [List.getElem?_toArray, List.getElem?_cons_zero, List.getElem?_cons_succ] at s0 s1; go_simp; (try with_reducible rfl)
      (try simp only [Act.put, List.setIfInBounds_toArray, List.set_cons_zero, List.set_cons_succ])
      refine wpAnyH_take (i := 7) (v := ?_) rfl (by kernel_rfl) (by kernel_rfl) (by kernel_rfl) (fun _ _ _ h => h) (Or.inl ⟨by kernel_rfl, ?_⟩) hHeld ?_
      rotate_left
      · intro w hSw; (try dsimp only at hSw); skip; go_simp; (try with_reducible rfl)
      (try simp only [Act.put, List.setIfInBounds_toArray, List.set_cons_zero, List.set_cons_succ])
      refine wpAnyH_ready (rs := [8]) (by kernel_rfl) (by simp) ?_
      refine AllReadyH.cons rfl (fun K hK => ?_) AllReadyH.nil
      go_simp
      (try dsimp only)
      refine hK.out _ _ (by exact hHeld.below ((Below.refl _ _).alloc (Nat.le_refl _) _)) (fun hHeld => ?_)
      clear hK K
      (try simp only [Act.put, List.setIfInBounds_toArray, List.set_cons_zero, List.set_cons_succ])
      have hoW2 : (W.alloc (.cells (mrow g s) 97)).drew.ownsRow (w.heap.size + 1 + 1 + 1) 97 24 (.slice A vn vc) k (mCells ((machs gs ss).take k)) := hoW.out.alloc _
      have hnews : ∀ j u, (mrow g s).toList[j]? = some u → (W.alloc (.cells (mrow g s) 97)).drew.cell? ((⟨wr.heap.size + 1, 0, none⟩ : Addr).add j) = some u := src_of (Blk.range (Blk.new' W _ _ hsz).drew (by simp))
      have hR0 : Blk (W.alloc (.cells (mrow g s) 97)).drew (w.heap.size + 1) 103 #[.slice none 0 0, .slice none 0 0] := Hr0W.out.alloc _
      have hbA : Below w.heap.size w (W.alloc (.cells (mrow g s) 97)).drew := Below.drew (HbW.out.alloc (by omega) _)
      have hzA : (W.alloc (.cells (mrow g s) 97)).drew.heap.size = W.heap.size + 1 := by simp
      generalize hWA : (W.alloc (.cells (mrow g s) 97)).drew = WA at *
      clear hWA
      (try simp only [List.getElem_toArray, List.getElem_cons_zero, List.getElem_cons_succ, Act.put, List.setIfInBounds_toArray, List.set_cons_zero, List.set_cons_succ])
      refine wpAnyH_ready (rs := [9]) (by kernel_rfl) (by simp) ?_
      refine AllReadyH.cons rfl (fun K hK => ?_) AllReadyH.nil
      refine wanted_of (by rfl) (wp_append_own (P := Tryz.prog) WA (.tmp 20) (.tmp 27) 101 rfl (w.heap.size + 1 + 1 + 1) 97 i0 z0 24 232 undMachines HI.out.1 HI.out.2.2.1 HI.out.2.1.1 HI.out.2.1.2 HI.out.2.2.2 (by omega) (.slice A vn vc) k (mCells ((machs gs ss).take k)) rfl hoW2 ⟨wr.heap.size + 1, 0, none⟩ 1 1 (mrow g s).toList rfl rfl hnews n1.out (by unfold maxLen; omega) (by omega) (by omega) ?_)
      intro v' w1 hown1 hgrow _
      have hz1 := hgrow.size
      have hB1 : Below (w.heap.size + 1 + 1 + 1) WA w1 := grown_below hgrow (fun k' hk' => (hlo.out k' hk').1) (by omega)
      refine hK.out _ _ (by exact hHeld.grown hgrow (fun h => by have := (hlo.out _ h.symm).1; omega) (fun h => by have := hlo2.out _ h.symm; omega) (fun h => by have := (hlo.out _ h.symm).1; omega)) (fun hHeld => ?_)
      clear hK K
      (try simp only [Act.put, List.setIfInBounds_toArray, List.set_cons_zero, List.set_cons_succ])
      refine wpAnyH_done (by kernel_rfl) ?_ _
      simp only [tailPost, List.drop_succ_cons, List.drop_zero]
      have hS1 := hHeld.st
      obtain ⟨q0, q1, y0, y1⟩ := hS1.two
      have hR1 : Blk w1 (w.heap.size + 1) 103 #[.slice none 0 0, .slice none 0 0] := hR0.thru hB1 (by omega)
      have hbw1 : Below w.heap.size w w1 := hbA.trans (hB1.mono (by omega))
      obtain ⟨A', vn', vc', rfl⟩ := owns_slice hown1
      have hown2 : Hid (w1.ownsRow (w.heap.size + 1 + 1 + 1) 97 24 (.slice A' vn' vc') (k + 1) (mCells ((machs gs ss).take (k + 1)))) := by
        show w1.ownsRow _ _ _ _ _ _
        rw [Htk.out]
        exact hown1
      have hl2 : w.heap.size + 1 + 1 < w1.heap.size := by omega
      clear hown1 hgrow hHeld hB1 hbA hR0 hoW2 hnews
      go_wp2
      have hSe : Blk (w1.setCell ⟨w.heap.size + 1 + 1, 0, none⟩ (.slice A' vn' vc')) (w.heap.size + 1 + 1) 103 #[.slice A' vn' vc', .slice rA rn rc] := hS1.set_ 0 _
      have hRe : Blk (w1.setCell ⟨w.heap.size + 1 + 1, 0, none⟩ (.slice A' vn' vc')) (w.heap.size + 1) 103 #[.slice none 0 0, .slice none 0 0] := hR1.far (by simp) _
      have hOe : (w1.setCell ⟨w.heap.size + 1 + 1, 0, none⟩ (.slice A' vn' vc')).ownsRow (w.heap.size + 1 + 1 + 1) 97 24 (.slice A' vn' vc') (k + 1) (mCells ((machs gs ss).take (k + 1))) := hown2.out.kept (grow_setCell _ _ _ rfl) (.inr (fun h => by have := (hown2.out.lt _ h).1; simp at this; omega))
      have hBe : Below w.heap.size w (w1.setCell ⟨w.heap.size + 1 + 1, 0, none⟩ (.slice A' vn' vc')) := Below.setCell hbw1 (by simp; omega) _
      have HSe := Lib.hid hSe
      have HRe := Lib.hid hRe
      have HOe := Lib.hid hOe
      clear hSe hRe hOe q0 q1 y0 y1 hown2 hS1 hR1
      go_roundw
      case rel => exact ⟨k + 1, A', vn', vc', by omega, by go_num, HOe.out, HSe.out, HRe.out, hBe, by simp; omega⟩
      case measure => simp [intOf]; omega
    · obtain rfl : k = gn := by omega
      have htk : (machs gs ss).take k = machs gs ss := List.take_of_length_le (by have := Hml.out; omega)
      have hown2 := hown.out
      rw [htk] at hown2
      have hvn : vn = k := by
        rcases hown2.2 with ⟨h1, h2⟩ | ⟨g', c', cur, h1, _⟩
        · cases h1; exact h2.symm
        · cases h1; rfl
      subst hvn
      have Hown2 := Lib.hid hown2
      obtain ⟨s0, s1, x0, x1⟩ := hbs.out.two
      obtain ⟨r0, r1, y0, y1⟩ := hbr0.out.two
      have hR2 := hbr0.out
      have hl1 : w.heap.size + 1 < wr.heap.size := by omega
      have hl2 : w.heap.size + 1 + 1 < wr.heap.size := by omega
      clear hown2 htk hown hbs hbr0
      go_wp2
      have hne : ∀ k', (Value.slice A vn vc).ownBlock = some k' → k' ≠ w.heap.size + 1 := fun k' hk' => by have := (Hown2.out.lt k' hk').1; omega
      exact bodyPost_ret (v := setV A vn vc rA rn rc) (by simp [results, Tryz.results56, go_sem, r0, r1, hl1] <;> omega) rfl ⟨A, vc, rfl, (Hown2.out.kept (grow_setCell _ _ _ rfl) (.inr (fun h => hne _ h rfl))).kept (grow_setCell _ _ _ rfl) (.inr (fun h => hne _ h rfl)), (by repeat (first | exact Below.refl _ _ | assumption | (refine Below.setCell ?_ (by first | omega | (simp; done) | (simp; omega)) _) | (refine Below.alloc ?_ (by first | omega | (simp; done) | (simp; omega)) _) | refine Below.drew ?_ | (refine below_thru ?_ (by assumption) (by first | omega | (simp; done) | (simp; omega))) | refine below_drewN ?_ _))⟩
end Go.Proofs.YtmhfnnpbnocafaaGreat
