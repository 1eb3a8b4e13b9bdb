/- The faults of levels, states, orders and steps. The first position at which a gate does not fall. Falls. A set of machines in memory; a gate alone; the states of a set. -/
import Derived.Test.YtmhfnnpbnocafaaGreatGtGf3
import Derived.Test.YtmhfnnpbnocafaaGreatGtRow2
import Derived.WalkLawsBesides
import Derived.OwnWalk
namespace Go.Proofs.YtmhfnnpbnocafaaGreat
open Go.RowKit
set_option linter.unusedSimpArgs false
set_option linter.unusedVariables false

def levelsFt (g : Ga) (a b : Int) : Ft := firstF [gateF g, need (levels2B a b) 7]
def stateB (g : Ga) (s : Gs) : Bool := betw s.pos 0 g.travel && betw s.charge 0 g.capacity
def stateFt (g : Ga) (s : Gs) : Ft := firstF [gateF g, need (stateB g s) 7]
def orderFt (t : Gt) : Ft := firstF [need (betw t.order 0 2) 2, need (levels2B t.outer t.inner) 7]
def stepFt (g : Ga) (s : Gs) (t : Gt) : Ft := firstF [stateFt g s, orderFt t]

set_option maxHeartbeats 1000000 in
theorem levelsFault1_any (g : Ga) (b : Nat) (w : World) (hg : g.Box w b) :
    Calls Tryz.prog 97 #[.pointer (some ⟨b, 0, none⟩)] w fun e w' => e = .returned (gateF g).v ∧ Below w.heap.size w w' := by
  have hB := Lib.hid hg.blk
  have HA := Lib.hid hg.at_
  have hlt := hg.blk.lt
  clear hg
  go_enter Tryz.func97, Tryz.ntmps97
  go_wp2_with (with_reducible refine wpl_g (hB.out.alloc _) rfl rfl rfl ?_)
  refine (gateFault_any g _ (HA.out.grow (by repeat (first | exact Below.refl _ _ | assumption | (refine Below.setCell ?_ (by first | omega | (simp; done) | (simp; omega)) _) | (refine Below.alloc ?_ (by first | omega | (simp; done) | (simp; omega)) _) | refine Below.drew ?_ | (refine below_thru ?_ (by assumption) (by first | omega | (simp; done) | (simp; omega))) | refine below_drewN ?_ _)))).mono ?_
  rintro e w1 ⟨rfl, hb1⟩
  obtain ⟨hc1, hf1⟩ := bcell hb1; have hz1 := hb1.size; (try simp at hz1)
  go_wp2
  exact bodyPost_ret (v := (gateF g).v) (by simp [results, Tryz.results97, go_sem, hc1] <;> omega) rfl ⟨by rfl, (by repeat (first | exact Below.refl _ _ | assumption | (refine Below.setCell ?_ (by first | omega | (simp; done) | (simp; omega)) _) | (refine Below.alloc ?_ (by first | omega | (simp; done) | (simp; omega)) _) | refine Below.drew ?_ | (refine below_thru ?_ (by assumption) (by first | omega | (simp; done) | (simp; omega))) | refine below_drewN ?_ _))⟩

set_option maxHeartbeats 1000000 in
theorem stateFault1_any (g : Ga) (b : Nat) (w : World) (hg : g.Box w b) :
    Calls Tryz.prog 90 #[.pointer (some ⟨b, 0, none⟩)] w fun e w' => e = .returned (gateF g).v ∧ Below w.heap.size w w' := by
  have hB := Lib.hid hg.blk
  have HA := Lib.hid hg.at_
  have hlt := hg.blk.lt
  clear hg
  go_enter Tryz.func90, Tryz.ntmps90
  go_wp2_with (with_reducible refine wpl_g (hB.out.alloc _) rfl rfl rfl ?_)
  refine (gateFault_any g _ (HA.out.grow (by repeat (first | exact Below.refl _ _ | assumption | (refine Below.setCell ?_ (by first | omega | (simp; done) | (simp; omega)) _) | (refine Below.alloc ?_ (by first | omega | (simp; done) | (simp; omega)) _) | refine Below.drew ?_ | (refine below_thru ?_ (by assumption) (by first | omega | (simp; done) | (simp; omega))) | refine below_drewN ?_ _)))).mono ?_
  rintro e w1 ⟨rfl, hb1⟩
  obtain ⟨hc1, hf1⟩ := bcell hb1; have hz1 := hb1.size; (try simp at hz1)
  go_wp2
  exact bodyPost_ret (v := (gateF g).v) (by simp [results, Tryz.results90, go_sem, hc1] <;> omega) rfl ⟨by rfl, (by repeat (first | exact Below.refl _ _ | assumption | (refine Below.setCell ?_ (by first | omega | (simp; done) | (simp; omega)) _) | (refine Below.alloc ?_ (by first | omega | (simp; done) | (simp; omega)) _) | refine Below.drew ?_ | (refine below_thru ?_ (by assumption) (by first | omega | (simp; done) | (simp; omega))) | refine below_drewN ?_ _))⟩

set_option maxHeartbeats 1000000 in
theorem levelsFault2_any (x y : Int) (b c : Nat) (w : World) (hx : Blk w b 3 #[.int .i64 x]) (hy : Blk w c 3 #[.int .i64 y]) :
    Calls Tryz.prog 98 #[.pointer (some ⟨b, 0, none⟩), .pointer (some ⟨c, 0, none⟩)] w fun e w' => e = .returned (need (levels2B x y) 7).v ∧ Below w.heap.size w w' := by
  have x0 := hx.cell 0
  have y0 := hy.cell 0
  simp only [List.getElem?_toArray, List.getElem?_cons_zero] at x0 y0
  have xl := hx.lt
  have yl := hy.lt
  clear hx hy
  go_enter Tryz.func98, Tryz.ntmps98
  go_wp2_with fail
  refine (areLevels_any _ _ _).mono ?_
  rintro e w' ⟨rfl, rfl⟩
  go_wp2_with fail
  refine (need_any _ 7 _).mono ?_
  rintro e w1 ⟨rfl, hb1⟩
  obtain ⟨hc1, hf1⟩ := bcell hb1; have hz1 := hb1.size; (try simp at hz1)
  go_wp2
  exact bodyPost_ret (v := (need (levels2B x y) 7).v) (by simp [results, Tryz.results98, go_sem, hc1] <;> omega) rfl ⟨by rfl, (by repeat (first | exact Below.refl _ _ | assumption | (refine Below.setCell ?_ (by first | omega | (simp; done) | (simp; omega)) _) | (refine Below.alloc ?_ (by first | omega | (simp; done) | (simp; omega)) _) | refine Below.drew ?_ | (refine below_thru ?_ (by assumption) (by first | omega | (simp; done) | (simp; omega))) | refine below_drewN ?_ _))⟩

set_option maxHeartbeats 1000000 in
theorem stateFault2_any (g : Ga) (s : Gs) (b c : Nat) (w : World) (hs : Blk w b 27 #[.int .i64 s.pos, .int .i64 s.charge, .bool s.bolted]) (hg : g.Box w c) :
    Calls Tryz.prog 91 #[.pointer (some ⟨b, 0, none⟩), .pointer (some ⟨c, 0, none⟩)] w fun e w' => e = .returned (need (stateB g s) 7).v ∧ Below w.heap.size w w' := by
  obtain ⟨s0, s1, s2, _⟩ := hs.three
  have hsl := hs.lt
  obtain ⟨k0, k1, k2, k3, k4, k5, k6, k7, k8, k9, k10, k11, k12, k13, k14, k15, k16, k17, k18, k19, k20⟩ := hg.cells
  have hlt := hg.blk.lt
  clear hs hg
  have h1 := bet_is s.pos 0 g.travel
  have h2 := bet_is s.charge 0 g.capacity
  have hf : stateB g s = (betw s.pos 0 g.travel && betw s.charge 0 g.capacity) := rfl
  rw [hf]
  clear hf
  cases e1 : betw s.pos 0 g.travel
  · have H1 := Lib.hid (h1 _ e1)
    clear h1 h2 e1
    go_enter Tryz.func91, Tryz.ntmps91
    go_wp2_with fail
    refine (H1.out _).mono ?_
    rintro e w' ⟨rfl, rfl⟩
    go_wp2_with fail
    refine (need_any false 7 _).mono ?_
    rintro e w1 ⟨rfl, hb1⟩
    obtain ⟨hc1, hf1⟩ := bcell hb1; have hz1 := hb1.size; (try simp at hz1)
    go_wp2
    exact bodyPost_ret (v := (need false 7).v) (by simp [results, Tryz.results91, go_sem, hc1] <;> omega) rfl ⟨by simp, (by repeat (first | exact Below.refl _ _ | assumption | (refine Below.setCell ?_ (by first | omega | (simp; done) | (simp; omega)) _) | (refine Below.alloc ?_ (by first | omega | (simp; done) | (simp; omega)) _) | refine Below.drew ?_ | (refine below_thru ?_ (by assumption) (by first | omega | (simp; done) | (simp; omega))) | refine below_drewN ?_ _))⟩
  · have H1 := Lib.hid (h1 _ e1)
    have H2 := Lib.hid (h2 _ rfl)
    clear h1 h2 e1
    go_enter Tryz.func91, Tryz.ntmps91
    go_wp2_with fail
    refine (H1.out _).mono ?_
    rintro e w' ⟨rfl, rfl⟩
    go_wp2_with fail
    refine (H2.out _).mono ?_
    rintro e w' ⟨rfl, rfl⟩
    go_wp2_with fail
    refine (need_any _ 7 _).mono ?_
    rintro e w1 ⟨rfl, hb1⟩
    obtain ⟨hc1, hf1⟩ := bcell hb1; have hz1 := hb1.size; (try simp at hz1)
    go_wp2
    exact bodyPost_ret (v := (need (betw s.charge 0 g.capacity) 7).v) (by simp [results, Tryz.results91, go_sem, hc1] <;> omega) rfl ⟨by simp, (by repeat (first | exact Below.refl _ _ | assumption | (refine Below.setCell ?_ (by first | omega | (simp; done) | (simp; omega)) _) | (refine Below.alloc ?_ (by first | omega | (simp; done) | (simp; omega)) _) | refine Below.drew ?_ | (refine below_thru ?_ (by assumption) (by first | omega | (simp; done) | (simp; omega))) | refine below_drewN ?_ _))⟩

set_option maxHeartbeats 1000000 in
theorem orderFault1_any (t : Gt) (b : Nat) (w : World) (ht : Blk w b 51 #[.int .i64 t.order, .bool t.power, .int .i64 t.outer, .int .i64 t.inner]) :
    Calls Tryz.prog 117 #[.pointer (some ⟨b, 0, none⟩)] w fun e w' => e = .returned (need (betw t.order 0 2) 2).v ∧ Below w.heap.size w w' := by
  obtain ⟨t0, t1, t2, t3⟩ := tcells_of ht
  have hlt := ht.lt
  clear ht
  go_enter Tryz.func117, Tryz.ntmps117
  go_wp2_with fail
  refine (between_any _ _ _ _).mono ?_
  rintro e w' ⟨rfl, rfl⟩
  go_wp2_with fail
  refine (need_any _ 2 _).mono ?_
  rintro e w1 ⟨rfl, hb1⟩
  obtain ⟨hc1, hf1⟩ := bcell hb1; have hz1 := hb1.size; (try simp at hz1)
  go_wp2
  exact bodyPost_ret (v := (need (betw t.order 0 2) 2).v) (by simp [results, Tryz.results117, go_sem, hc1] <;> omega) rfl ⟨by rfl, (by repeat (first | exact Below.refl _ _ | assumption | (refine Below.setCell ?_ (by first | omega | (simp; done) | (simp; omega)) _) | (refine Below.alloc ?_ (by first | omega | (simp; done) | (simp; omega)) _) | refine Below.drew ?_ | (refine below_thru ?_ (by assumption) (by first | omega | (simp; done) | (simp; omega))) | refine below_drewN ?_ _))⟩
set_option maxHeartbeats 1000000 in
theorem orderFault2_any (t : Gt) (b : Nat) (w : World) (ht : Blk w b 51 #[.int .i64 t.order, .bool t.power, .int .i64 t.outer, .int .i64 t.inner]) :
    Calls Tryz.prog 118 #[.pointer (some ⟨b, 0, none⟩)] w fun e w' => e = .returned (need (levels2B t.outer t.inner) 7).v ∧ Below w.heap.size w w' := by
  obtain ⟨t0, t1, t2, t3⟩ := tcells_of ht
  have hlt := ht.lt
  clear ht
  go_enter Tryz.func118, Tryz.ntmps118
  go_wp2_with fail
  refine (areLevels_any _ _ _).mono ?_
  rintro e w' ⟨rfl, rfl⟩
  go_wp2_with fail
  refine (need_any _ 7 _).mono ?_
  rintro e w1 ⟨rfl, hb1⟩
  obtain ⟨hc1, hf1⟩ := bcell hb1; have hz1 := hb1.size; (try simp at hz1)
  go_wp2
  exact bodyPost_ret (v := (need (levels2B t.outer t.inner) 7).v) (by simp [results, Tryz.results118, go_sem, hc1] <;> omega) rfl ⟨by rfl, (by repeat (first | exact Below.refl _ _ | assumption | (refine Below.setCell ?_ (by first | omega | (simp; done) | (simp; omega)) _) | (refine Below.alloc ?_ (by first | omega | (simp; done) | (simp; omega)) _) | refine Below.drew ?_ | (refine below_thru ?_ (by assumption) (by first | omega | (simp; done) | (simp; omega))) | refine below_drewN ?_ _))⟩

set_option maxRecDepth 100000 in
set_option maxHeartbeats 1000000 in
theorem levelsFault_any (g : Ga) (x y : Int) (w : World) (hg : g.At w w.heap.size) :
    Calls Tryz.prog 40 #[g.v, .int .i64 x, .int .i64 y] w fun e w' => e = .returned (levelsFt g x y).v ∧ Below w.heap.size w w' := by
  have Hg := Lib.hid hg; clear hg
  have hGood : ∀ (W : World) (b0 b1 b2 : Nat), g.Box W b0 → Blk W b1 3 #[.int .i64 x] → Blk W b2 3 #[.int .i64 y] → Good W [⟨97, #[.pointer (some ⟨b0, 0, none⟩)], gateF g⟩, ⟨98, #[.pointer (some ⟨b1, 0, none⟩), .pointer (some ⟨b2, 0, none⟩)], need (levels2B x y) 7⟩] := by
    intro W b0 b1 b2 h0 h1 h2 k x hk _ W' hW
    match k, hk with
    | 0, hk => cases hk; exact levelsFault1_any g b0 W' (h0.grow hW)
    | 1, hk => cases hk; exact levelsFault2_any x y b1 b2 W' (h1.thru hW h1.lt) (h2.thru hW h2.lt)
    | k + 2, hk => simp at hk
  have HGood := Lib.hid hGood; clear hGood
  go_enter Tryz.func40, Tryz.ntmps40
  go_wp2_with fail
  refine (first_any _ (w.heap.size + 1 + 1 + 1 + 1) 0 2 [⟨97, #[.pointer (some ⟨w.heap.size, 0, none⟩)], gateF g⟩, ⟨98, #[.pointer (some ⟨w.heap.size + 1, 0, none⟩), .pointer (some ⟨w.heap.size + 1 + 1, 0, none⟩)], need (levels2B x y) 7⟩] rfl (by omega) (by simp) ?_ (HGood.out _ _ _ _ ?_ ?_ ?_) ?_).mono ?_
  · intro k c hk
    match k, hk with
    | 0, hk => cases hk; exact (Blk.new' _ _ _ (by simp)).cell 0
    | 1, hk => cases hk; exact (Blk.new' _ _ _ (by simp)).cell 1
    | k + 2, hk => simp at hk
  · exact ⟨((((Blk.new w _ _).alloc _).alloc _).alloc _).alloc _, Hg.out.grow (by repeat (first | exact Below.refl _ _ | assumption | (refine Below.setCell ?_ (by first | omega | (simp; done) | (simp; omega)) _) | (refine Below.alloc ?_ (by first | omega | (simp; done) | (simp; omega)) _) | refine Below.drew ?_ | (refine below_thru ?_ (by assumption) (by first | omega | (simp; done) | (simp; omega))) | refine below_drewN ?_ _))⟩
  · exact (((Blk.new' (w.alloc _) _ _ (by simp)).alloc _).alloc _).alloc _
  · exact ((Blk.new' ((w.alloc _).alloc _) _ _ (by simp)).alloc _).alloc _
  · intro k c hk W
    match k, hk with
    | 0, hk => cases hk; show Sem.run Tryz.prog (callFunc _ _) W = _; kernel_rfl
    | 1, hk => cases hk; show Sem.run Tryz.prog (callFunc _ _) W = _; kernel_rfl
    | k + 2, hk => simp at hk
  · rintro e w1 ⟨he, hb1⟩
    replace he : e = .returned (levelsFt g x y).v := he
    subst he
    obtain ⟨hc1, hf1⟩ := bcell hb1; have hz1 := hb1.size; (try simp at hz1)
    go_wp2
    exact bodyPost_ret (v := (levelsFt g x y).v) (by simp [results, Tryz.results40, go_sem, hc1] <;> omega) rfl ⟨by rfl, (by repeat (first | exact Below.refl _ _ | assumption | (refine Below.setCell ?_ (by first | omega | (simp; done) | (simp; omega)) _) | (refine Below.alloc ?_ (by first | omega | (simp; done) | (simp; omega)) _) | refine Below.drew ?_ | (refine below_thru ?_ (by assumption) (by first | omega | (simp; done) | (simp; omega))) | refine below_drewN ?_ _))⟩

set_option maxRecDepth 100000 in
set_option maxHeartbeats 1000000 in
theorem stateFault_any (g : Ga) (s : Gs) (w : World) (hg : g.At w w.heap.size) :
    Calls Tryz.prog 33 #[g.v, s.v] w fun e w' => e = .returned (stateFt g s).v ∧ Below w.heap.size w w' := by
  have Hg := Lib.hid hg; clear hg
  have hGood : ∀ (W : World) (b0 b1 : Nat), g.Box W b0 → Blk W b1 27 #[.int .i64 s.pos, .int .i64 s.charge, .bool s.bolted] → Good W [⟨90, #[.pointer (some ⟨b0, 0, none⟩)], gateF g⟩, ⟨91, #[.pointer (some ⟨b1, 0, none⟩), .pointer (some ⟨b0, 0, none⟩)], need (stateB g s) 7⟩] := by
    intro W b0 b1 h0 h1 k x hk _ W' hW
    match k, hk with
    | 0, hk => cases hk; exact stateFault1_any g b0 W' (h0.grow hW)
    | 1, hk => cases hk; exact stateFault2_any g s b1 b0 W' (h1.thru hW h1.lt) (h0.grow hW)
    | k + 2, hk => simp at hk
  have HGood := Lib.hid hGood; clear hGood
  go_enter Tryz.func33, Tryz.ntmps33
  go_wp2_with fail
  refine (first_any _ (w.heap.size + 1 + 1 + 1) 0 2 [⟨90, #[.pointer (some ⟨w.heap.size, 0, none⟩)], gateF g⟩, ⟨91, #[.pointer (some ⟨w.heap.size + 1, 0, none⟩), .pointer (some ⟨w.heap.size, 0, none⟩)], need (stateB g s) 7⟩] rfl (by omega) (by simp) ?_ (HGood.out _ _ _ ?_ ?_) ?_).mono ?_
  · intro k c hk
    match k, hk with
    | 0, hk => cases hk; exact (Blk.new' _ _ _ (by simp)).cell 0
    | 1, hk => cases hk; exact (Blk.new' _ _ _ (by simp)).cell 1
    | k + 2, hk => simp at hk
  · exact ⟨(((Blk.new w _ _).alloc _).alloc _).alloc _, Hg.out.grow (by repeat (first | exact Below.refl _ _ | assumption | (refine Below.setCell ?_ (by first | omega | (simp; done) | (simp; omega)) _) | (refine Below.alloc ?_ (by first | omega | (simp; done) | (simp; omega)) _) | refine Below.drew ?_ | (refine below_thru ?_ (by assumption) (by first | omega | (simp; done) | (simp; omega))) | refine below_drewN ?_ _))⟩
  · exact ((Blk.new' (w.alloc _) _ _ (by simp)).alloc _).alloc _
  · intro k c hk W
    match k, hk with
    | 0, hk => cases hk; show Sem.run Tryz.prog (callFunc _ _) W = _; kernel_rfl
    | 1, hk => cases hk; show Sem.run Tryz.prog (callFunc _ _) W = _; kernel_rfl
    | k + 2, hk => simp at hk
  · rintro e w1 ⟨he, hb1⟩
    replace he : e = .returned (stateFt g s).v := he
    subst he
    obtain ⟨hc1, hf1⟩ := bcell hb1; have hz1 := hb1.size; (try simp at hz1)
    go_wp2
    exact bodyPost_ret (v := (stateFt g s).v) (by simp [results, Tryz.results33, go_sem, hc1] <;> omega) rfl ⟨by rfl, (by repeat (first | exact Below.refl _ _ | assumption | (refine Below.setCell ?_ (by first | omega | (simp; done) | (simp; omega)) _) | (refine Below.alloc ?_ (by first | omega | (simp; done) | (simp; omega)) _) | refine Below.drew ?_ | (refine below_thru ?_ (by assumption) (by first | omega | (simp; done) | (simp; omega))) | refine below_drewN ?_ _))⟩

set_option maxRecDepth 100000 in
set_option maxHeartbeats 1000000 in
theorem orderFault_any (t : Gt) (w : World) :
    Calls Tryz.prog 63 #[t.v] w fun e w' => e = .returned (orderFt t).v ∧ Below w.heap.size w w' := by
  have hGood : ∀ (W : World) (b0 : Nat), Blk W b0 51 #[.int .i64 t.order, .bool t.power, .int .i64 t.outer, .int .i64 t.inner] → Good W [⟨117, #[.pointer (some ⟨b0, 0, none⟩)], need (betw t.order 0 2) 2⟩, ⟨118, #[.pointer (some ⟨b0, 0, none⟩)], need (levels2B t.outer t.inner) 7⟩] := by
    intro W b0 h0 k x hk _ W' hW
    match k, hk with
    | 0, hk => cases hk; exact orderFault1_any t b0 W' (h0.thru hW h0.lt)
    | 1, hk => cases hk; exact orderFault2_any t b0 W' (h0.thru hW h0.lt)
    | k + 2, hk => simp at hk
  have HGood := Lib.hid hGood; clear hGood
  go_enter Tryz.func63, Tryz.ntmps63
  go_wp2_with fail
  refine (first_any _ (w.heap.size + 1 + 1) 0 2 [⟨117, #[.pointer (some ⟨w.heap.size, 0, none⟩)], need (betw t.order 0 2) 2⟩, ⟨118, #[.pointer (some ⟨w.heap.size, 0, none⟩)], need (levels2B t.outer t.inner) 7⟩] rfl (by omega) (by simp) ?_ (HGood.out _ _ ?_) ?_).mono ?_
  · intro k c hk
    match k, hk with
    | 0, hk => cases hk; exact (Blk.new' _ _ _ (by simp)).cell 0
    | 1, hk => cases hk; exact (Blk.new' _ _ _ (by simp)).cell 1
    | k + 2, hk => simp at hk
  · exact ((Blk.new w _ _).alloc _).alloc _
  · intro k c hk W
    match k, hk with
    | 0, hk => cases hk; show Sem.run Tryz.prog (callFunc _ _) W = _; kernel_rfl
    | 1, hk => cases hk; show Sem.run Tryz.prog (callFunc _ _) W = _; kernel_rfl
    | k + 2, hk => simp at hk
  · rintro e w1 ⟨he, hb1⟩
    replace he : e = .returned (orderFt t).v := he
    subst he
    obtain ⟨hc1, hf1⟩ := bcell hb1; have hz1 := hb1.size; (try simp at hz1)
    go_wp2
    exact bodyPost_ret (v := (orderFt t).v) (by simp [results, Tryz.results63, go_sem, hc1] <;> omega) rfl ⟨by rfl, (by repeat (first | exact Below.refl _ _ | assumption | (refine Below.setCell ?_ (by first | omega | (simp; done) | (simp; omega)) _) | (refine Below.alloc ?_ (by first | omega | (simp; done) | (simp; omega)) _) | refine Below.drew ?_ | (refine below_thru ?_ (by assumption) (by first | omega | (simp; done) | (simp; omega))) | refine below_drewN ?_ _))⟩

set_option maxHeartbeats 1000000 in
theorem stepFault1_any (g : Ga) (s : Gs) (b c : Nat) (w : World) (hg : g.Box w b) (hs : Blk w c 27 #[.int .i64 s.pos, .int .i64 s.charge, .bool s.bolted]) :
    Calls Tryz.prog 103 #[.pointer (some ⟨b, 0, none⟩), .pointer (some ⟨c, 0, none⟩)] w fun e w' => e = .returned (stateFt g s).v ∧ Below w.heap.size w w' := by
  have hB := Lib.hid hg.blk
  have HA := Lib.hid hg.at_
  have hlt := hg.blk.lt
  obtain ⟨s0, s1, s2, _⟩ := hs.three
  have hsl := hs.lt
  clear hg hs
  go_enter Tryz.func103, Tryz.ntmps103
  go_wp2_with (with_reducible refine wpl_g (hB.out.alloc _) rfl rfl rfl ?_)
  refine (stateFault_any g s _ (HA.out.grow (by repeat (first | exact Below.refl _ _ | assumption | (refine Below.setCell ?_ (by first | omega | (simp; done) | (simp; omega)) _) | (refine Below.alloc ?_ (by first | omega | (simp; done) | (simp; omega)) _) | refine Below.drew ?_ | (refine below_thru ?_ (by assumption) (by first | omega | (simp; done) | (simp; omega))) | refine below_drewN ?_ _)))).mono ?_
  rintro e w1 ⟨rfl, hb1⟩
  obtain ⟨hc1, hf1⟩ := bcell hb1; have hz1 := hb1.size; (try simp at hz1)
  go_wp2
  exact bodyPost_ret (v := (stateFt g s).v) (by simp [results, Tryz.results103, go_sem, hc1] <;> omega) rfl ⟨by rfl, (by repeat (first | exact Below.refl _ _ | assumption | (refine Below.setCell ?_ (by first | omega | (simp; done) | (simp; omega)) _) | (refine Below.alloc ?_ (by first | omega | (simp; done) | (simp; omega)) _) | refine Below.drew ?_ | (refine below_thru ?_ (by assumption) (by first | omega | (simp; done) | (simp; omega))) | refine below_drewN ?_ _))⟩
set_option maxHeartbeats 1000000 in
theorem stepFault2_any (t : Gt) (b : Nat) (w : World) (ht : Blk w b 51 #[.int .i64 t.order, .bool t.power, .int .i64 t.outer, .int .i64 t.inner]) :
    Calls Tryz.prog 104 #[.pointer (some ⟨b, 0, none⟩)] w fun e w' => e = .returned (orderFt t).v ∧ Below w.heap.size w w' := by
  obtain ⟨t0, t1, t2, t3⟩ := tcells_of ht
  have hlt := ht.lt
  clear ht
  go_enter Tryz.func104, Tryz.ntmps104
  go_wp2_with fail
  refine (orderFault_any t _).mono ?_
  rintro e w1 ⟨rfl, hb1⟩
  obtain ⟨hc1, hf1⟩ := bcell hb1; have hz1 := hb1.size; (try simp at hz1)
  go_wp2
  exact bodyPost_ret (v := (orderFt t).v) (by simp [results, Tryz.results104, go_sem, hc1] <;> omega) rfl ⟨by rfl, (by repeat (first | exact Below.refl _ _ | assumption | (refine Below.setCell ?_ (by first | omega | (simp; done) | (simp; omega)) _) | (refine Below.alloc ?_ (by first | omega | (simp; done) | (simp; omega)) _) | refine Below.drew ?_ | (refine below_thru ?_ (by assumption) (by first | omega | (simp; done) | (simp; omega))) | refine below_drewN ?_ _))⟩

set_option maxRecDepth 100000 in
set_option maxHeartbeats 1000000 in
theorem stepFault_any (g : Ga) (s : Gs) (t : Gt) (w : World) (hg : g.At w w.heap.size) :
    Calls Tryz.prog 45 #[g.v, s.v, t.v] w fun e w' => e = .returned (stepFt g s t).v ∧ Below w.heap.size w w' := by
  have Hg := Lib.hid hg; clear hg
  have hGood : ∀ (W : World) (b0 b1 b2 : Nat), g.Box W b0 → Blk W b1 27 #[.int .i64 s.pos, .int .i64 s.charge, .bool s.bolted] → Blk W b2 51 #[.int .i64 t.order, .bool t.power, .int .i64 t.outer, .int .i64 t.inner] → Good W [⟨103, #[.pointer (some ⟨b0, 0, none⟩), .pointer (some ⟨b1, 0, none⟩)], stateFt g s⟩, ⟨104, #[.pointer (some ⟨b2, 0, none⟩)], orderFt t⟩] := by
    intro W b0 b1 b2 h0 h1 h2 k x hk _ W' hW
    match k, hk with
    | 0, hk => cases hk; exact stepFault1_any g s b0 b1 W' (h0.grow hW) (h1.thru hW h1.lt)
    | 1, hk => cases hk; exact stepFault2_any t b2 W' (h2.thru hW h2.lt)
    | k + 2, hk => simp at hk
  have HGood := Lib.hid hGood; clear hGood
  go_enter Tryz.func45, Tryz.ntmps45
  go_wp2_with fail
  refine (first_any _ (w.heap.size + 1 + 1 + 1 + 1) 0 2 [⟨103, #[.pointer (some ⟨w.heap.size, 0, none⟩), .pointer (some ⟨w.heap.size + 1, 0, none⟩)], stateFt g s⟩, ⟨104, #[.pointer (some ⟨w.heap.size + 1 + 1, 0, none⟩)], orderFt t⟩] rfl (by omega) (by simp) ?_ (HGood.out _ _ _ _ ?_ ?_ ?_) ?_).mono ?_
  · intro k c hk
    match k, hk with
    | 0, hk => cases hk; exact (Blk.new' _ _ _ (by simp)).cell 0
    | 1, hk => cases hk; exact (Blk.new' _ _ _ (by simp)).cell 1
    | k + 2, hk => simp at hk
  · exact ⟨((((Blk.new w _ _).alloc _).alloc _).alloc _).alloc _, Hg.out.grow (by repeat (first | exact Below.refl _ _ | assumption | (refine Below.setCell ?_ (by first | omega | (simp; done) | (simp; omega)) _) | (refine Below.alloc ?_ (by first | omega | (simp; done) | (simp; omega)) _) | refine Below.drew ?_ | (refine below_thru ?_ (by assumption) (by first | omega | (simp; done) | (simp; omega))) | refine below_drewN ?_ _))⟩
  · exact (((Blk.new' (w.alloc _) _ _ (by simp)).alloc _).alloc _).alloc _
  · exact ((Blk.new' ((w.alloc _).alloc _) _ _ (by simp)).alloc _).alloc _
  · intro k c hk W
    match k, hk with
    | 0, hk => cases hk; show Sem.run Tryz.prog (callFunc _ _) W = _; kernel_rfl
    | 1, hk => cases hk; show Sem.run Tryz.prog (callFunc _ _) W = _; kernel_rfl
    | k + 2, hk => simp at hk
  · rintro e w1 ⟨he, hb1⟩
    replace he : e = .returned (stepFt g s t).v := he
    subst he
    obtain ⟨hc1, hf1⟩ := bcell hb1; have hz1 := hb1.size; (try simp at hz1)
    go_wp2
    exact bodyPost_ret (v := (stepFt g s t).v) (by simp [results, Tryz.results45, go_sem, hc1] <;> omega) rfl ⟨by rfl, (by repeat (first | exact Below.refl _ _ | assumption | (refine Below.setCell ?_ (by first | omega | (simp; done) | (simp; omega)) _) | (refine Below.alloc ?_ (by first | omega | (simp; done) | (simp; omega)) _) | refine Below.drew ?_ | (refine below_thru ?_ (by assumption) (by first | omega | (simp; done) | (simp; omega))) | refine below_drewN ?_ _))⟩

end Go.Proofs.YtmhfnnpbnocafaaGreat

namespace Go.Proofs.YtmhfnnpbnocafaaGreat
open Go.RowKit
set_option linter.unusedSimpArgs false
set_option linter.unusedVariables false

/-- A world in which one block has become another, whole. -/
structure Wrote (w W : World) (b : Nat) (t : TypeId) (cs : Array Value) : Prop where
  blk : Blk W b t cs
  far : ∀ g t' cs', g ≠ b → Blk w g t' cs' → Blk W g t' cs'
  below : ∀ B a, B ≤ b → Below B a w → Below B a W
  size : W.heap.size = w.heap.size
theorem blk_eq {w : World} {b : Nat} {t : TypeId} {c d : Array Value} (e : c = d) (h : Blk w b t c) : Blk w b t d := e ▸ h
theorem size_sets {b : Nat} : ∀ (vs : List Value) (o : Nat) (w : World), (w.setCells b o vs).heap.size = w.heap.size
  | [], _, _ => rfl
  | v :: r, o, w => by
    rw [World.setCells, size_sets r (o + 1) _]
    simp [World.setCell]
theorem wpl_sm {ops : Array Oper} {rest : List Oper} {o : Oper} {a : Act} {w : World} {Q : Exit → Act → World → Prop} {x y : Operand} {b : Nat} {cs : Array Value} {t : TypeId} {g : Ga} {s : Gs} (h : Blk w b t cs) (hc : cs.size = 24) (hgd : o.guard = none) (ho : o.op = .store 97 x y) (hx : a.eval x = .pointer (some ⟨b, 0, none⟩)) (hy : a.eval y = mv g s)
    (hp : putRow cs 0 (mrow g s).toList = mrow g s) (hk : ∀ W : World, Wrote w W b t (mrow g s) → wpList Tryz.prog ops Q rest (a.put o.dst undef) W) : wpList Tryz.prog ops Q (o :: rest) a w :=
  wpList_store_mid hgd _ x y ho b 0 (mrow g s) hx hy (Blk.there h (by rw [hc]; show 0 + 24 ≤ 24; omega)) iMachine (by simp [Value.oneCell'])
    (hk _ ⟨blk_eq hp (Blk.sets h (mrow g s).toList 0), fun g' t' cs' hne hb => Blk.fars hb hne _ _, fun B a hB hb => below_sets hb hB _ _, size_sets _ _ _⟩)

def zrow : Array Value := #[.string ByteArray.empty, .int .i64 0, .int .i64 0, .slice none 0 0, .int .i64 0, .int .i64 0, .int .i64 0, .int .i64 0, .int .i64 0, .int .i64 0, .int .i64 0, .int .i64 0, .int .i64 0, .int .i64 0, .int .i64 0, .int .i64 0, .int .i64 0, .int .i64 0, .int .i64 0, .slice none 0 0, .int .i64 0, .int .i64 0, .int .i64 0, .bool false]
theorem put_m (g : Ga) (s : Gs) : putRow zrow 0 (mrow g s).toList = mrow g s := by kernel_rfl
theorem run_alloc_m (w : World) : (Instr.alloc 97 true (.tuple #[])).run Tryz.prog w = .ok (.pointer (some ⟨w.heap.size, 0, none⟩)) (w.alloc (.cells zrow 97)) := by
  kernel_rfl
theorem run_build_m (g : Ga) (s : Gs) (w : World) : (Instr.build 97 #[(0, g.v), (1, s.v)]).run Tryz.prog w = .ok (mv g s) w := by
  kernel_rfl
set_option maxRecDepth 100000 in
set_option maxHeartbeats 1000000 in
theorem machineAt_any (g : Ga) (p : Int) (w : World) :
    Calls Tryz.prog 43 #[g.v, .int .i64 p] w fun e w' => e = .returned (mv g ⟨p, 0, false⟩) ∧ Below w.heap.size w w' := by
  have hbd : ∀ W : World, (Instr.build 97 #[(0, g.v), (1, .agg #[.int .i64 p, .int .i64 0, .bool false])]).run Tryz.prog W = .ok (mv g ⟨p, 0, false⟩) W := fun W => run_build_m g ⟨p, 0, false⟩ W
  have hal := fun W => run_alloc_m W
  go_enter Tryz.func43, Tryz.ntmps43
  go_wp2_with (first | (with_reducible refine wpl_g ((Blk.new w _ _).alloc _) rfl rfl rfl ?_) | (with_reducible refine wpl_sm (cs := zrow) (s := ⟨p, 0, false⟩) (g := g) (Blk.new' (w.alloc _) _ _ (by simp)) rfl rfl rfl rfl rfl (put_m _ _) ?_; intro W hW))
  exact bodyPost_ret (results_cell_row rfl _ _ (w.heap.size + 1) 97 (mrow g ⟨p, 0, false⟩) (0, 0) _ rfl hW.blk uMachine rfl iMachine) rfl ⟨rfl, hW.below _ _ (by omega) (by repeat (first | exact Below.refl _ _ | assumption | (refine Below.setCell ?_ (by first | omega | (simp; done) | (simp; omega)) _) | (refine Below.alloc ?_ (by first | omega | (simp; done) | (simp; omega)) _) | refine Below.drew ?_ | (refine below_thru ?_ (by assumption) (by first | omega | (simp; done) | (simp; omega))) | refine below_drewN ?_ _))⟩
end Go.Proofs.YtmhfnnpbnocafaaGreat

namespace Go.Proofs.YtmhfnnpbnocafaaGreat
open Go.RowKit
set_option linter.unusedSimpArgs false
set_option linter.unusedVariables false

/-- The first position from k on, of n, at which a gate does not fall. -/
def fallsN (g : Ga) (a b : Int) : Nat → Nat → Int
  | _, 0 => -1
  | k, n + 1 => if netF g k a b ≤ rubF g k a b then k else fallsN g a b (k + 1) n
def fallsF (g : Ga) (a b : Int) : Int := fallsN g a b 0 g.travel.toNat
theorem falls_skip (g : Ga) (a b : Int) : ∀ (k i n : Nat), k ≤ n → (∀ j, j < k → ¬ netF g (i + j : Nat) a b ≤ rubF g (i + j : Nat) a b) → fallsN g a b i n = fallsN g a b (i + k) (n - k)
  | 0, i, n, _, _ => rfl
  | k + 1, i, n, h, hz => by
    obtain ⟨m, rfl⟩ : ∃ m, n = m + 1 := ⟨n - 1, by omega⟩
    have h0 := hz 0 (by omega)
    simp only [Nat.add_zero] at h0
    rw [fallsN, if_neg h0, falls_skip g a b k (i + 1) m (by omega) (fun j hj => by have := hz (j + 1) (by omega); rwa [show i + 1 + j = i + (j + 1) by omega]), show i + (k + 1) = i + 1 + k by omega, show m + 1 - (k + 1) = m - k by omega]
def fallsR (g : Ga) (a b : Int) : Int × Int := if (levelsFt g a b).e = 0 then (fallsF g a b, 0) else (0, (levelsFt g a b).e)

set_option maxRecDepth 100000 in
set_option maxHeartbeats 4000000 in
theorem Falls_any (g : Ga) (a b : Int) (w : World) (hg : g.At w w.heap.size) :
    Calls Tryz.prog 17 #[g.v, .int .i64 a, .int .i64 b] w fun e w' => e = .returned (pairV (fallsR g a b)) ∧ Below w.heap.size w w' := by
  have Hg := Lib.hid hg
  have HL := Lib.hid (fun W h => levelsFault_any g a b W h)
  by_cases h0 : (levelsFt g a b).e = 0
  · have hgo : g.Ok := gateF_ok g w _ hg (first0 _ h0 _ (by simp))
    have hlv := need_e (b := levels2B a b) (c := 7) (by omega) (first0 _ h0 (need (levels2B a b) 7) (by simp))
    simp only [levels2B, levelB, betw, Bool.and_eq_true, decide_eq_true_eq] at hlv
    obtain ⟨⟨a0, a1⟩, b0, b1⟩ := hlv
    have hf : fallsR g a b = (fallsF g a b, 0) := by unfold fallsR; rw [if_pos h0]
    rw [hf]
    clear hf
    obtain ⟨fp, fa, fe, hfl⟩ : ∃ fp fa fe, levelsFt g a b = ⟨fp, fa, fe⟩ := ⟨_, _, _, rfl⟩
    rw [hfl] at HL h0
    simp only at h0
    subst h0
    clear hfl
    have ht0 := hgo.t0
    have ht1 := hgo.t1
    have hol := hg.ol
    have HF := Lib.hid (fun (k : Nat) W h (hk : (k : Int) < g.travel) => forces_any g ⟨k, 0, false⟩ a b W h hgo ⟨Int.natCast_nonneg _, Int.le_of_lt hk, Int.le_refl _, hgo.cap0⟩ a0 a1 b0 b1)
    obtain ⟨T, hT⟩ : ∃ T : Nat, g.travel = T := ⟨g.travel.toNat, by omega⟩
    have hfin : fallsF g a b = fallsN g a b 0 T := by unfold fallsF; rw [hT]; rfl
    have Hfin := Lib.hid hfin
    have HT := Lib.hid hT
    clear hfin hgo hg hol hT
    go_enter Tryz.func17, Tryz.ntmps17
    go_wp2_with (with_reducible refine wpl_g (g := g) (Blk.new w _ _) rfl rfl rfl ?_)
    refine (HL.out _ (Hg.out.grow (by repeat (first | exact Below.refl _ _ | assumption | (refine Below.setCell ?_ (by first | omega | (simp; done) | (simp; omega)) _) | (refine Below.alloc ?_ (by first | omega | (simp; done) | (simp; omega)) _) | refine Below.drew ?_ | (refine below_thru ?_ (by assumption) (by first | omega | (simp; done) | (simp; omega))) | refine below_drewN ?_ _)))).mono ?_
    rintro e w1 ⟨rfl, hb1⟩
    obtain ⟨hc1, hf1⟩ := bcell hb1; have hz1 := hb1.size; (try simp at hz1)
    have hB : Blk w1 w.heap.size 25 (grow g) := (Blk.new w _ _).thru hb1 (by simp)
    have k2 : w1.cell? ⟨w.heap.size, 2, none⟩ = some (.int .i64 g.travel) := hB.cell 2
    have hlt := hB.lt
    have HB := Lib.hid hB; clear hB
    go_wp2
    go_loopw [23] (fun i wr => ∃ k : Nat, (k : Int) ≤ g.travel ∧ i = .int .i64 k ∧ Hid (∀ j : Nat, j < k → ¬ netF g j a b ≤ rubF g j a b) ∧ Hid (Blk wr w.heap.size 25 (grow g)) ∧ Below w.heap.size w wr)
      (fun i _ => g.travel.toNat - (intOf i).toNat)
    case atStart => exact ⟨0, by omega, rfl, fun j hj => by omega, HB.out.alloc _, (by repeat (first | exact Below.refl _ _ | assumption | (refine Below.setCell ?_ (by first | omega | (simp; done) | (simp; omega)) _) | (refine Below.alloc ?_ (by first | omega | (simp; done) | (simp; omega)) _) | refine Below.drew ?_ | (refine below_thru ?_ (by assumption) (by first | omega | (simp; done) | (simp; omega))) | refine below_drewN ?_ _))⟩
    case round =>
      obtain ⟨k, hk, rfl, hprev, hbg, hbr⟩ := hrel
      have hzr := hbg.out.lt
      by_cases hlt' : (k : Int) < g.travel
      · have HFk := Lib.hid (fun W h => HF.out k W h hlt')
        go_wp2_with (with_reducible refine wpl_g (g := g) hbg.out rfl rfl rfl ?_)
        refine (machineAt_any g _ _).mono ?_
        rintro e w2 ⟨rfl, hb2⟩
        have hz2 := hb2.size
        go_wp2_with fail
        refine (HFk.out _ (Hg.out.grow (by repeat (first | exact Below.refl _ _ | assumption | (refine Below.setCell ?_ (by first | omega | (simp; done) | (simp; omega)) _) | (refine Below.alloc ?_ (by first | omega | (simp; done) | (simp; omega)) _) | refine Below.drew ?_ | (refine below_thru ?_ (by assumption) (by first | omega | (simp; done) | (simp; omega))) | refine below_drewN ?_ _)))).mono ?_
        rintro e w3 ⟨rfl, hb3⟩
        have hz3 := hb3.size
        have hbg3 : Hid (Blk w3 w.heap.size 25 (grow g)) := (hbg.out.thru hb2 hzr).thru hb3 (by omega)
        simp only [Gs.pos] at *
        by_cases hle : netF g k a b ≤ rubF g k a b
        · have hv : fallsN g a b 0 T = k := by
            rw [falls_skip g a b k 0 T (by have := HT.out; omega) (fun j hj => by rw [Nat.zero_add]; have := hprev.out j hj; omega), Nat.zero_add]
            obtain ⟨m, hm⟩ : ∃ m, T - k = m + 1 := ⟨T - k - 1, by have := HT.out; omega⟩
            rw [hm, fallsN, if_pos hle]
          have Hv := Lib.hid hv; clear hv
          generalize netF g k a b = nt at *
          generalize rubF g k a b = rb at *
          go_wp2
          go_ret2
          exact ⟨by rw [Hfin.out, Hv.out]; rfl, (by repeat (first | exact Below.refl _ _ | assumption | (refine Below.setCell ?_ (by first | omega | (simp; done) | (simp; omega)) _) | (refine Below.alloc ?_ (by first | omega | (simp; done) | (simp; omega)) _) | refine Below.drew ?_ | (refine below_thru ?_ (by assumption) (by first | omega | (simp; done) | (simp; omega))) | refine below_drewN ?_ _))⟩
        · have Hn : Hid (∀ j : Nat, j < k + 1 → ¬ netF g j a b ≤ rubF g j a b) := fun j hj => by
            rcases Nat.lt_or_ge j k with h | h
            · have := hprev.out j h
              omega
            · obtain rfl : j = k := by omega
              exact hle
          generalize netF g k a b = nt at *
          generalize rubF g k a b = rb at *
          go_wp2
          go_roundw
          case rel => exact ⟨k + 1, by omega, by go_num, Hn, hbg3, (by repeat (first | exact Below.refl _ _ | assumption | (refine Below.setCell ?_ (by first | omega | (simp; done) | (simp; omega)) _) | (refine Below.alloc ?_ (by first | omega | (simp; done) | (simp; omega)) _) | refine Below.drew ?_ | (refine below_thru ?_ (by assumption) (by first | omega | (simp; done) | (simp; omega))) | refine below_drewN ?_ _))⟩
          case measure => simp [intOf]; omega
      · have hv : fallsN g a b 0 T = -1 := by
          rw [falls_skip g a b T 0 T (Nat.le_refl _) (fun j hj => by rw [Nat.zero_add]; exact hprev.out j (by have := HT.out; omega)), Nat.sub_self]; rfl
        have Hv := Lib.hid hv; clear hv
        go_wp2
        go_ret2
        exact ⟨by rw [Hfin.out, Hv.out]; rfl, (by repeat (first | exact Below.refl _ _ | assumption | (refine Below.setCell ?_ (by first | omega | (simp; done) | (simp; omega)) _) | (refine Below.alloc ?_ (by first | omega | (simp; done) | (simp; omega)) _) | refine Below.drew ?_ | (refine below_thru ?_ (by assumption) (by first | omega | (simp; done) | (simp; omega))) | refine below_drewN ?_ _))⟩
  · have hf : fallsR g a b = (0, (levelsFt g a b).e) := by unfold fallsR; rw [if_neg h0]
    rw [hf]
    clear hf
    obtain ⟨fp, fa, fe, hfl⟩ : ∃ fp fa fe, levelsFt g a b = ⟨fp, fa, fe⟩ := ⟨_, _, _, rfl⟩
    rw [hfl] at HL h0 ⊢
    simp only at h0
    have h0' : (fe != 0) = true := by rw [bne_iff_ne]; exact h0
    clear hfl h0
    go_enter Tryz.func17, Tryz.ntmps17
    go_wp2_with (with_reducible refine wpl_g (g := g) (Blk.new w _ _) rfl rfl rfl ?_)
    refine (HL.out _ (Hg.out.grow (by repeat (first | exact Below.refl _ _ | assumption | (refine Below.setCell ?_ (by first | omega | (simp; done) | (simp; omega)) _) | (refine Below.alloc ?_ (by first | omega | (simp; done) | (simp; omega)) _) | refine Below.drew ?_ | (refine below_thru ?_ (by assumption) (by first | omega | (simp; done) | (simp; omega))) | refine below_drewN ?_ _)))).mono ?_
    rintro e w1 ⟨rfl, hb1⟩
    obtain ⟨hc1, hf1⟩ := bcell hb1; have hz1 := hb1.size; (try simp at hz1)
    go_wp2_with fail
    go_quiet (fail)
    go_wp2
    go_ret2
    exact ⟨rfl, (by repeat (first | exact Below.refl _ _ | assumption | (refine Below.setCell ?_ (by first | omega | (simp; done) | (simp; omega)) _) | (refine Below.alloc ?_ (by first | omega | (simp; done) | (simp; omega)) _) | refine Below.drew ?_ | (refine below_thru ?_ (by assumption) (by first | omega | (simp; done) | (simp; omega))) | refine below_drewN ?_ _))⟩
end Go.Proofs.YtmhfnnpbnocafaaGreat

namespace Go.Proofs.YtmhfnnpbnocafaaGreat
open Go.RowKit
set_option linter.unusedSimpArgs false
set_option linter.unusedVariables false

/-- The machines lie in one block, one after the other, from its head on. -/
structure Ms (w : World) (b : Nat) (ms : List (Ga × Gs)) : Prop where
  rng : ∀ (i : Nat) (m : Ga × Gs), ms[i]? = some m → w.rangeAt b (i * 24) (mrow m.1 m.2).toList
  fro : ∀ o, w.frozen? ⟨b, o, none⟩ = false
  lt : b < w.heap.size
theorem Ms.same {w w' : World} {b : Nat} {ms : List (Ga × Gs)} (h : Ms w b ms) (hb : w'.heap[b]? = w.heap[b]?) (hs : w.heap.size ≤ w'.heap.size) : Ms w' b ms :=
  ⟨fun i m hm j v hv => (World.cell?_of_block (a := ⟨b, _, none⟩) hb).trans (h.rng i m hm j v hv), fun o => by
    have := h.fro o
    unfold World.frozen? at *
    simpa [hb] using this, by have := h.lt; omega⟩
theorem Ms.below {w w' : World} {b B : Nat} {ms : List (Ga × Gs)} (h : Ms w b ms) (hb : Below B w w') (hB : b < B) : Ms w' b ms := h.same (hb.block b hB) hb.size
theorem Ms.grow {w w' : World} {b : Nat} {ms : List (Ga × Gs)} (h : Ms w b ms) (hb : Below w.heap.size w w') : Ms w' b ms := h.below hb h.lt
theorem Ms.one {w : World} {b : Nat} {g : Ga} {s : Gs} {t : TypeId} (h : Blk w b t (mrow g s)) : Ms w b [(g, s)] :=
  ⟨fun i m hm => by
    match i, hm with
    | 0, hm => cases hm; exact Blk.range h (by rfl)
    | i + 1, hm => simp at hm, fun o => h.frozen o, h.lt⟩
/-- All gates are where they were. -/
def MsAt (w : World) (ms : List (Ga × Gs)) : Prop := ∀ m ∈ ms, m.1.At w w.heap.size
theorem MsAt.grow {w w' : World} {ms : List (Ga × Gs)} (h : MsAt w ms) (hb : Below w.heap.size w w') : MsAt w' ms := fun m hm => (h m hm).grow hb

theorem run_bslice_m (g : Ga) (s : Gs) (w : World) : (Instr.buildSlice 101 1 #[(0, mv g s)]).run Tryz.prog w = .ok (.slice (some ⟨w.heap.size, 0, none⟩) 1 1) (w.alloc (.cells (mrow g s) 97)) := by
  kernel_rfl
/-- What alone and setOf return. -/
abbrev setV (A : Option Addr) (n c : Nat) (rA : Option Addr) (rn rc : Nat) : Value := .agg #[.slice A n c, .slice rA rn rc]

set_option maxRecDepth 100000 in
set_option maxHeartbeats 1000000 in
theorem alone_any (g : Ga) (s : Gs) (w : World) :
    Calls Tryz.prog 46 #[g.v, s.v] w fun e w' => ∃ b, e = .returned (setV (some ⟨b, 0, none⟩) 1 1 none 0 0) ∧ w.heap.size ≤ b ∧ Blk w' b 97 (mrow g s) ∧ Below w.heap.size w w' := by
  have hbd : ∀ W : World, (Instr.build 97 #[(0, g.v), (1, .agg #[.int .i64 s.pos, .int .i64 s.charge, .bool s.bolted])]).run Tryz.prog W = .ok (mv g s) W := fun W => run_build_m g s W
  have hbs := fun W => run_bslice_m g s W
  go_enter Tryz.func46, Tryz.ntmps46
  go_wp2_with (with_reducible refine wpl_g (g := g) (((Blk.new w _ _).alloc _).alloc _) rfl rfl rfl ?_)
  exact bodyPost_ret (v := setV (some ⟨w.heap.size + 1 + 1 + 1, 0, none⟩) 1 1 none 0 0) (by simp [results, Tryz.results46, go_sem] <;> omega) rfl ⟨_, rfl, by omega, by (repeat (first | assumption | exact Blk.new _ _ _ | (refine Blk.new' _ _ _ ?_; (simp; done)) | refine Blk.drew ?_ | refine Blk.alloc ?_ _ | (refine Blk.fars ?_ ?_ _ _; rotate_left; (dsimp only; omega)) | (refine Blk.far ?_ ?_ _; rotate_left; (first | (dsimp only; omega) | (simp; done) | (simp; omega) | omega)))), (by repeat (first | exact Below.refl _ _ | assumption | (refine Below.setCell ?_ (by first | omega | (simp; done) | (simp; omega)) _) | (refine Below.alloc ?_ (by first | omega | (simp; done) | (simp; omega)) _) | refine Below.drew ?_ | (refine below_thru ?_ (by assumption) (by first | omega | (simp; done) | (simp; omega))) | refine below_drewN ?_ _))⟩
end Go.Proofs.YtmhfnnpbnocafaaGreat
