/- The faults of levels, states, orders and steps. -/
import Derived.Test.YtgdomaddjiggaaaGreatGtGf3
import Derived.Test.YtgdomaddjiggaaaGreatGtRow2
namespace Go.Proofs.YtgdomaddjiggaaaGreat
open Go.RowKit
set_option linter.unusedSimpArgs false
set_option linter.unusedVariables false

def levelsFt (g : Ga) (a b : Int) : Ft := firstF [gateF g, need (levels2B a b) 7]
def stateB (g : Ga) (s : Gs) : Bool := betw s.pos 0 g.travel && betw s.charge 0 g.capacity
def stateFt (g : Ga) (s : Gs) : Ft := firstF [gateF g, need (stateB g s) 7]
def orderFt (t : Gt) : Ft := firstF [need (betw t.order 0 2) 2, need (levels2B t.outer t.inner) 7]
def stepFt (g : Ga) (s : Gs) (t : Gt) : Ft := firstF [stateFt g s, orderFt t]

set_option maxHeartbeats 1000000 in
theorem levelsFault1_any (g : Ga) (b : Nat) (w : World) (hg : g.Box w b) :
    Calls Tryz.prog 129 #[.pointer (some ⟨b, 0, none⟩)] w fun e w' => e = .returned (gateF g).v ∧ Below w.heap.size w w' := by
  have hB := Lib.hid hg.blk
  have HA := Lib.hid hg.at_
  have hlt := hg.blk.lt
  clear hg
  go_enter Tryz.func129, Tryz.ntmps129
  go_wp2_with (with_reducible refine wpl_g (hB.out.alloc _) rfl rfl rfl ?_)
  refine (gateFault_any g _ (HA.out.grow (by repeat (first | exact Below.refl _ _ | assumption | (refine Below.setCell ?_ (by first | omega | (simp; done) | (simp; omega)) _) | (refine Below.alloc ?_ (by first | omega | (simp; done) | (simp; omega)) _) | refine Below.drew ?_ | (refine below_thru ?_ (by assumption) (by first | omega | (simp; done) | (simp; omega))) | refine below_drewN ?_ _)))).mono ?_
  rintro e w1 ⟨rfl, hb1⟩
  obtain ⟨hc1, hf1⟩ := bcell hb1; have hz1 := hb1.size; (try simp at hz1)
  go_wp2
  exact bodyPost_ret (v := (gateF g).v) (by simp [results, Tryz.results129, go_sem, hc1] <;> omega) rfl ⟨by rfl, (by repeat (first | exact Below.refl _ _ | assumption | (refine Below.setCell ?_ (by first | omega | (simp; done) | (simp; omega)) _) | (refine Below.alloc ?_ (by first | omega | (simp; done) | (simp; omega)) _) | refine Below.drew ?_ | (refine below_thru ?_ (by assumption) (by first | omega | (simp; done) | (simp; omega))) | refine below_drewN ?_ _))⟩

set_option maxHeartbeats 1000000 in
theorem stateFault1_any (g : Ga) (b : Nat) (w : World) (hg : g.Box w b) :
    Calls Tryz.prog 142 #[.pointer (some ⟨b, 0, none⟩)] w fun e w' => e = .returned (gateF g).v ∧ Below w.heap.size w w' := by
  have hB := Lib.hid hg.blk
  have HA := Lib.hid hg.at_
  have hlt := hg.blk.lt
  clear hg
  go_enter Tryz.func142, Tryz.ntmps142
  go_wp2_with (with_reducible refine wpl_g (hB.out.alloc _) rfl rfl rfl ?_)
  refine (gateFault_any g _ (HA.out.grow (by repeat (first | exact Below.refl _ _ | assumption | (refine Below.setCell ?_ (by first | omega | (simp; done) | (simp; omega)) _) | (refine Below.alloc ?_ (by first | omega | (simp; done) | (simp; omega)) _) | refine Below.drew ?_ | (refine below_thru ?_ (by assumption) (by first | omega | (simp; done) | (simp; omega))) | refine below_drewN ?_ _)))).mono ?_
  rintro e w1 ⟨rfl, hb1⟩
  obtain ⟨hc1, hf1⟩ := bcell hb1; have hz1 := hb1.size; (try simp at hz1)
  go_wp2
  exact bodyPost_ret (v := (gateF g).v) (by simp [results, Tryz.results142, go_sem, hc1] <;> omega) rfl ⟨by rfl, (by repeat (first | exact Below.refl _ _ | assumption | (refine Below.setCell ?_ (by first | omega | (simp; done) | (simp; omega)) _) | (refine Below.alloc ?_ (by first | omega | (simp; done) | (simp; omega)) _) | refine Below.drew ?_ | (refine below_thru ?_ (by assumption) (by first | omega | (simp; done) | (simp; omega))) | refine below_drewN ?_ _))⟩

set_option maxHeartbeats 1000000 in
theorem levelsFault2_any (x y : Int) (b c : Nat) (w : World) (hx : Blk w b 3 #[.int .i64 x]) (hy : Blk w c 3 #[.int .i64 y]) :
    Calls Tryz.prog 130 #[.pointer (some ⟨b, 0, none⟩), .pointer (some ⟨c, 0, none⟩)] w fun e w' => e = .returned (need (levels2B x y) 7).v ∧ Below w.heap.size w w' := by
  have x0 := hx.cell 0
  have y0 := hy.cell 0
  simp only [List.getElem?_toArray, List.getElem?_cons_zero] at x0 y0
  have xl := hx.lt
  have yl := hy.lt
  clear hx hy
  go_enter Tryz.func130, Tryz.ntmps130
  go_wp2_with fail
  refine (areLevels_any _ _ _).mono ?_
  rintro e w' ⟨rfl, rfl⟩
  go_wp2_with fail
  refine (need_any _ 7 _).mono ?_
  rintro e w1 ⟨rfl, hb1⟩
  obtain ⟨hc1, hf1⟩ := bcell hb1; have hz1 := hb1.size; (try simp at hz1)
  go_wp2
  exact bodyPost_ret (v := (need (levels2B x y) 7).v) (by simp [results, Tryz.results130, go_sem, hc1] <;> omega) rfl ⟨by rfl, (by repeat (first | exact Below.refl _ _ | assumption | (refine Below.setCell ?_ (by first | omega | (simp; done) | (simp; omega)) _) | (refine Below.alloc ?_ (by first | omega | (simp; done) | (simp; omega)) _) | refine Below.drew ?_ | (refine below_thru ?_ (by assumption) (by first | omega | (simp; done) | (simp; omega))) | refine below_drewN ?_ _))⟩

set_option maxHeartbeats 1000000 in
theorem stateFault2_any (g : Ga) (s : Gs) (b c : Nat) (w : World) (hs : Blk w b 42 #[.int .i64 s.pos, .int .i64 s.charge, .bool s.bolted]) (hg : g.Box w c) :
    Calls Tryz.prog 143 #[.pointer (some ⟨b, 0, none⟩), .pointer (some ⟨c, 0, none⟩)] w fun e w' => e = .returned (need (stateB g s) 7).v ∧ Below w.heap.size w w' := by
  obtain ⟨s0, s1, s2, _⟩ := hs.three
  have hsl := hs.lt
  obtain ⟨k0, k1, k2, k3, k4, k5, k6, k7, k8, k9, k10, k11, k12, k13, k14, k15, k16, k17, k18, k19, k20⟩ := hg.cells
  have hlt := hg.blk.lt
  clear hs hg
  have h1 := bet_is s.pos 0 g.travel
  have h2 := bet_is s.charge 0 g.capacity
  have hf : stateB g s = (betw s.pos 0 g.travel && betw s.charge 0 g.capacity) := rfl
  rw [hf]
  clear hf
  cases e1 : betw s.pos 0 g.travel
  · have H1 := Lib.hid (h1 _ e1)
    clear h1 h2 e1
    go_enter Tryz.func143, Tryz.ntmps143
    go_wp2_with fail
    refine (H1.out _).mono ?_
    rintro e w' ⟨rfl, rfl⟩
    go_wp2_with fail
    refine (need_any false 7 _).mono ?_
    rintro e w1 ⟨rfl, hb1⟩
    obtain ⟨hc1, hf1⟩ := bcell hb1; have hz1 := hb1.size; (try simp at hz1)
    go_wp2
    exact bodyPost_ret (v := (need false 7).v) (by simp [results, Tryz.results143, go_sem, hc1] <;> omega) rfl ⟨by simp, (by repeat (first | exact Below.refl _ _ | assumption | (refine Below.setCell ?_ (by first | omega | (simp; done) | (simp; omega)) _) | (refine Below.alloc ?_ (by first | omega | (simp; done) | (simp; omega)) _) | refine Below.drew ?_ | (refine below_thru ?_ (by assumption) (by first | omega | (simp; done) | (simp; omega))) | refine below_drewN ?_ _))⟩
  · have H1 := Lib.hid (h1 _ e1)
    have H2 := Lib.hid (h2 _ rfl)
    clear h1 h2 e1
    go_enter Tryz.func143, Tryz.ntmps143
    go_wp2_with fail
    refine (H1.out _).mono ?_
    rintro e w' ⟨rfl, rfl⟩
    go_wp2_with fail
    refine (H2.out _).mono ?_
    rintro e w' ⟨rfl, rfl⟩
    go_wp2_with fail
    refine (need_any _ 7 _).mono ?_
    rintro e w1 ⟨rfl, hb1⟩
    obtain ⟨hc1, hf1⟩ := bcell hb1; have hz1 := hb1.size; (try simp at hz1)
    go_wp2
    exact bodyPost_ret (v := (need (betw s.charge 0 g.capacity) 7).v) (by simp [results, Tryz.results143, go_sem, hc1] <;> omega) rfl ⟨by simp, (by repeat (first | exact Below.refl _ _ | assumption | (refine Below.setCell ?_ (by first | omega | (simp; done) | (simp; omega)) _) | (refine Below.alloc ?_ (by first | omega | (simp; done) | (simp; omega)) _) | refine Below.drew ?_ | (refine below_thru ?_ (by assumption) (by first | omega | (simp; done) | (simp; omega))) | refine below_drewN ?_ _))⟩

set_option maxHeartbeats 1000000 in
theorem orderFault1_any (t : Gt) (b : Nat) (w : World) (ht : Blk w b 49 #[.int .i64 t.order, .bool t.power, .int .i64 t.outer, .int .i64 t.inner]) :
    Calls Tryz.prog 144 #[.pointer (some ⟨b, 0, none⟩)] w fun e w' => e = .returned (need (betw t.order 0 2) 2).v ∧ Below w.heap.size w w' := by
  obtain ⟨t0, t1, t2, t3⟩ := tcells_of ht
  have hlt := ht.lt
  clear ht
  go_enter Tryz.func144, Tryz.ntmps144
  go_wp2_with fail
  refine (between_any _ _ _ _).mono ?_
  rintro e w' ⟨rfl, rfl⟩
  go_wp2_with fail
  refine (need_any _ 2 _).mono ?_
  rintro e w1 ⟨rfl, hb1⟩
  obtain ⟨hc1, hf1⟩ := bcell hb1; have hz1 := hb1.size; (try simp at hz1)
  go_wp2
  exact bodyPost_ret (v := (need (betw t.order 0 2) 2).v) (by simp [results, Tryz.results144, go_sem, hc1] <;> omega) rfl ⟨by rfl, (by repeat (first | exact Below.refl _ _ | assumption | (refine Below.setCell ?_ (by first | omega | (simp; done) | (simp; omega)) _) | (refine Below.alloc ?_ (by first | omega | (simp; done) | (simp; omega)) _) | refine Below.drew ?_ | (refine below_thru ?_ (by assumption) (by first | omega | (simp; done) | (simp; omega))) | refine below_drewN ?_ _))⟩
set_option maxHeartbeats 1000000 in
theorem orderFault2_any (t : Gt) (b : Nat) (w : World) (ht : Blk w b 49 #[.int .i64 t.order, .bool t.power, .int .i64 t.outer, .int .i64 t.inner]) :
    Calls Tryz.prog 145 #[.pointer (some ⟨b, 0, none⟩)] w fun e w' => e = .returned (need (levels2B t.outer t.inner) 7).v ∧ Below w.heap.size w w' := by
  obtain ⟨t0, t1, t2, t3⟩ := tcells_of ht
  have hlt := ht.lt
  clear ht
  go_enter Tryz.func145, Tryz.ntmps145
  go_wp2_with fail
  refine (areLevels_any _ _ _).mono ?_
  rintro e w' ⟨rfl, rfl⟩
  go_wp2_with fail
  refine (need_any _ 7 _).mono ?_
  rintro e w1 ⟨rfl, hb1⟩
  obtain ⟨hc1, hf1⟩ := bcell hb1; have hz1 := hb1.size; (try simp at hz1)
  go_wp2
  exact bodyPost_ret (v := (need (levels2B t.outer t.inner) 7).v) (by simp [results, Tryz.results145, go_sem, hc1] <;> omega) rfl ⟨by rfl, (by repeat (first | exact Below.refl _ _ | assumption | (refine Below.setCell ?_ (by first | omega | (simp; done) | (simp; omega)) _) | (refine Below.alloc ?_ (by first | omega | (simp; done) | (simp; omega)) _) | refine Below.drew ?_ | (refine below_thru ?_ (by assumption) (by first | omega | (simp; done) | (simp; omega))) | refine below_drewN ?_ _))⟩

set_option maxRecDepth 100000 in
set_option maxHeartbeats 1000000 in
theorem levelsFault_any (g : Ga) (x y : Int) (w : World) (hg : g.At w w.heap.size) :
    Calls Tryz.prog 62 #[g.v, .int .i64 x, .int .i64 y] w fun e w' => e = .returned (levelsFt g x y).v ∧ Below w.heap.size w w' := by
  have Hg := Lib.hid hg; clear hg
  have hGood : ∀ (W : World) (b0 b1 b2 : Nat), g.Box W b0 → Blk W b1 3 #[.int .i64 x] → Blk W b2 3 #[.int .i64 y] → Good W [⟨129, #[.pointer (some ⟨b0, 0, none⟩)], gateF g⟩, ⟨130, #[.pointer (some ⟨b1, 0, none⟩), .pointer (some ⟨b2, 0, none⟩)], need (levels2B x y) 7⟩] := by
    intro W b0 b1 b2 h0 h1 h2 k x hk _ W' hW
    match k, hk with
    | 0, hk => cases hk; exact levelsFault1_any g b0 W' (h0.grow hW)
    | 1, hk => cases hk; exact levelsFault2_any x y b1 b2 W' (h1.thru hW h1.lt) (h2.thru hW h2.lt)
    | k + 2, hk => simp at hk
  have HGood := Lib.hid hGood; clear hGood
  go_enter Tryz.func62, Tryz.ntmps62
  go_wp2_with fail
  refine (first_any _ (w.heap.size + 1 + 1 + 1 + 1) 0 2 [⟨129, #[.pointer (some ⟨w.heap.size, 0, none⟩)], gateF g⟩, ⟨130, #[.pointer (some ⟨w.heap.size + 1, 0, none⟩), .pointer (some ⟨w.heap.size + 1 + 1, 0, none⟩)], need (levels2B x y) 7⟩] rfl (by omega) (by simp) ?_ (HGood.out _ _ _ _ ?_ ?_ ?_) ?_).mono ?_
  · intro k c hk
    match k, hk with
    | 0, hk => cases hk; exact (Blk.new' _ _ _ (by simp)).cell 0
    | 1, hk => cases hk; exact (Blk.new' _ _ _ (by simp)).cell 1
    | k + 2, hk => simp at hk
  · exact ⟨((((Blk.new w _ _).alloc _).alloc _).alloc _).alloc _, Hg.out.grow (by repeat (first | exact Below.refl _ _ | assumption | (refine Below.setCell ?_ (by first | omega | (simp; done) | (simp; omega)) _) | (refine Below.alloc ?_ (by first | omega | (simp; done) | (simp; omega)) _) | refine Below.drew ?_ | (refine below_thru ?_ (by assumption) (by first | omega | (simp; done) | (simp; omega))) | refine below_drewN ?_ _))⟩
  · exact (((Blk.new' (w.alloc _) _ _ (by simp)).alloc _).alloc _).alloc _
  · exact ((Blk.new' ((w.alloc _).alloc _) _ _ (by simp)).alloc _).alloc _
  · intro k c hk W
    match k, hk with
    | 0, hk => cases hk; show Sem.run Tryz.prog (callFunc _ _) W = _; kernel_rfl
    | 1, hk => cases hk; show Sem.run Tryz.prog (callFunc _ _) W = _; kernel_rfl
    | k + 2, hk => simp at hk
  · rintro e w1 ⟨he, hb1⟩
    replace he : e = .returned (levelsFt g x y).v := he
    subst he
    obtain ⟨hc1, hf1⟩ := bcell hb1; have hz1 := hb1.size; (try simp at hz1)
    go_wp2
    exact bodyPost_ret (v := (levelsFt g x y).v) (by simp [results, Tryz.results62, go_sem, hc1] <;> omega) rfl ⟨by rfl, (by repeat (first | exact Below.refl _ _ | assumption | (refine Below.setCell ?_ (by first | omega | (simp; done) | (simp; omega)) _) | (refine Below.alloc ?_ (by first | omega | (simp; done) | (simp; omega)) _) | refine Below.drew ?_ | (refine below_thru ?_ (by assumption) (by first | omega | (simp; done) | (simp; omega))) | refine below_drewN ?_ _))⟩

set_option maxRecDepth 100000 in
set_option maxHeartbeats 1000000 in
theorem stateFault_any (g : Ga) (s : Gs) (w : World) (hg : g.At w w.heap.size) :
    Calls Tryz.prog 79 #[g.v, s.v] w fun e w' => e = .returned (stateFt g s).v ∧ Below w.heap.size w w' := by
  have Hg := Lib.hid hg; clear hg
  have hGood : ∀ (W : World) (b0 b1 : Nat), g.Box W b0 → Blk W b1 42 #[.int .i64 s.pos, .int .i64 s.charge, .bool s.bolted] → Good W [⟨142, #[.pointer (some ⟨b0, 0, none⟩)], gateF g⟩, ⟨143, #[.pointer (some ⟨b1, 0, none⟩), .pointer (some ⟨b0, 0, none⟩)], need (stateB g s) 7⟩] := by
    intro W b0 b1 h0 h1 k x hk _ W' hW
    match k, hk with
    | 0, hk => cases hk; exact stateFault1_any g b0 W' (h0.grow hW)
    | 1, hk => cases hk; exact stateFault2_any g s b1 b0 W' (h1.thru hW h1.lt) (h0.grow hW)
    | k + 2, hk => simp at hk
  have HGood := Lib.hid hGood; clear hGood
  go_enter Tryz.func79, Tryz.ntmps79
  go_wp2_with fail
  refine (first_any _ (w.heap.size + 1 + 1 + 1) 0 2 [⟨142, #[.pointer (some ⟨w.heap.size, 0, none⟩)], gateF g⟩, ⟨143, #[.pointer (some ⟨w.heap.size + 1, 0, none⟩), .pointer (some ⟨w.heap.size, 0, none⟩)], need (stateB g s) 7⟩] rfl (by omega) (by simp) ?_ (HGood.out _ _ _ ?_ ?_) ?_).mono ?_
  · intro k c hk
    match k, hk with
    | 0, hk => cases hk; exact (Blk.new' _ _ _ (by simp)).cell 0
    | 1, hk => cases hk; exact (Blk.new' _ _ _ (by simp)).cell 1
    | k + 2, hk => simp at hk
  · exact ⟨(((Blk.new w _ _).alloc _).alloc _).alloc _, Hg.out.grow (by repeat (first | exact Below.refl _ _ | assumption | (refine Below.setCell ?_ (by first | omega | (simp; done) | (simp; omega)) _) | (refine Below.alloc ?_ (by first | omega | (simp; done) | (simp; omega)) _) | refine Below.drew ?_ | (refine below_thru ?_ (by assumption) (by first | omega | (simp; done) | (simp; omega))) | refine below_drewN ?_ _))⟩
  · exact ((Blk.new' (w.alloc _) _ _ (by simp)).alloc _).alloc _
  · intro k c hk W
    match k, hk with
    | 0, hk => cases hk; show Sem.run Tryz.prog (callFunc _ _) W = _; kernel_rfl
    | 1, hk => cases hk; show Sem.run Tryz.prog (callFunc _ _) W = _; kernel_rfl
    | k + 2, hk => simp at hk
  · rintro e w1 ⟨he, hb1⟩
    replace he : e = .returned (stateFt g s).v := he
    subst he
    obtain ⟨hc1, hf1⟩ := bcell hb1; have hz1 := hb1.size; (try simp at hz1)
    go_wp2
    exact bodyPost_ret (v := (stateFt g s).v) (by simp [results, Tryz.results79, go_sem, hc1] <;> omega) rfl ⟨by rfl, (by repeat (first | exact Below.refl _ _ | assumption | (refine Below.setCell ?_ (by first | omega | (simp; done) | (simp; omega)) _) | (refine Below.alloc ?_ (by first | omega | (simp; done) | (simp; omega)) _) | refine Below.drew ?_ | (refine below_thru ?_ (by assumption) (by first | omega | (simp; done) | (simp; omega))) | refine below_drewN ?_ _))⟩

set_option maxRecDepth 100000 in
set_option maxHeartbeats 1000000 in
theorem orderFault_any (t : Gt) (w : World) :
    Calls Tryz.prog 83 #[t.v] w fun e w' => e = .returned (orderFt t).v ∧ Below w.heap.size w w' := by
  have hGood : ∀ (W : World) (b0 : Nat), Blk W b0 49 #[.int .i64 t.order, .bool t.power, .int .i64 t.outer, .int .i64 t.inner] → Good W [⟨144, #[.pointer (some ⟨b0, 0, none⟩)], need (betw t.order 0 2) 2⟩, ⟨145, #[.pointer (some ⟨b0, 0, none⟩)], need (levels2B t.outer t.inner) 7⟩] := by
    intro W b0 h0 k x hk _ W' hW
    match k, hk with
    | 0, hk => cases hk; exact orderFault1_any t b0 W' (h0.thru hW h0.lt)
    | 1, hk => cases hk; exact orderFault2_any t b0 W' (h0.thru hW h0.lt)
    | k + 2, hk => simp at hk
  have HGood := Lib.hid hGood; clear hGood
  go_enter Tryz.func83, Tryz.ntmps83
  go_wp2_with fail
  refine (first_any _ (w.heap.size + 1 + 1) 0 2 [⟨144, #[.pointer (some ⟨w.heap.size, 0, none⟩)], need (betw t.order 0 2) 2⟩, ⟨145, #[.pointer (some ⟨w.heap.size, 0, none⟩)], need (levels2B t.outer t.inner) 7⟩] rfl (by omega) (by simp) ?_ (HGood.out _ _ ?_) ?_).mono ?_
  · intro k c hk
    match k, hk with
    | 0, hk => cases hk; exact (Blk.new' _ _ _ (by simp)).cell 0
    | 1, hk => cases hk; exact (Blk.new' _ _ _ (by simp)).cell 1
    | k + 2, hk => simp at hk
  · exact ((Blk.new w _ _).alloc _).alloc _
  · intro k c hk W
    match k, hk with
    | 0, hk => cases hk; show Sem.run Tryz.prog (callFunc _ _) W = _; kernel_rfl
    | 1, hk => cases hk; show Sem.run Tryz.prog (callFunc _ _) W = _; kernel_rfl
    | k + 2, hk => simp at hk
  · rintro e w1 ⟨he, hb1⟩
    replace he : e = .returned (orderFt t).v := he
    subst he
    obtain ⟨hc1, hf1⟩ := bcell hb1; have hz1 := hb1.size; (try simp at hz1)
    go_wp2
    exact bodyPost_ret (v := (orderFt t).v) (by simp [results, Tryz.results83, go_sem, hc1] <;> omega) rfl ⟨by rfl, (by repeat (first | exact Below.refl _ _ | assumption | (refine Below.setCell ?_ (by first | omega | (simp; done) | (simp; omega)) _) | (refine Below.alloc ?_ (by first | omega | (simp; done) | (simp; omega)) _) | refine Below.drew ?_ | (refine below_thru ?_ (by assumption) (by first | omega | (simp; done) | (simp; omega))) | refine below_drewN ?_ _))⟩

set_option maxHeartbeats 1000000 in
theorem stepFault1_any (g : Ga) (s : Gs) (b c : Nat) (w : World) (hg : g.Box w b) (hs : Blk w c 42 #[.int .i64 s.pos, .int .i64 s.charge, .bool s.bolted]) :
    Calls Tryz.prog 137 #[.pointer (some ⟨b, 0, none⟩), .pointer (some ⟨c, 0, none⟩)] w fun e w' => e = .returned (stateFt g s).v ∧ Below w.heap.size w w' := by
  have hB := Lib.hid hg.blk
  have HA := Lib.hid hg.at_
  have hlt := hg.blk.lt
  obtain ⟨s0, s1, s2, _⟩ := hs.three
  have hsl := hs.lt
  clear hg hs
  go_enter Tryz.func137, Tryz.ntmps137
  go_wp2_with (with_reducible refine wpl_g (hB.out.alloc _) rfl rfl rfl ?_)
  refine (stateFault_any g s _ (HA.out.grow (by repeat (first | exact Below.refl _ _ | assumption | (refine Below.setCell ?_ (by first | omega | (simp; done) | (simp; omega)) _) | (refine Below.alloc ?_ (by first | omega | (simp; done) | (simp; omega)) _) | refine Below.drew ?_ | (refine below_thru ?_ (by assumption) (by first | omega | (simp; done) | (simp; omega))) | refine below_drewN ?_ _)))).mono ?_
  rintro e w1 ⟨rfl, hb1⟩
  obtain ⟨hc1, hf1⟩ := bcell hb1; have hz1 := hb1.size; (try simp at hz1)
  go_wp2
  exact bodyPost_ret (v := (stateFt g s).v) (by simp [results, Tryz.results137, go_sem, hc1] <;> omega) rfl ⟨by rfl, (by repeat (first | exact Below.refl _ _ | assumption | (refine Below.setCell ?_ (by first | omega | (simp; done) | (simp; omega)) _) | (refine Below.alloc ?_ (by first | omega | (simp; done) | (simp; omega)) _) | refine Below.drew ?_ | (refine below_thru ?_ (by assumption) (by first | omega | (simp; done) | (simp; omega))) | refine below_drewN ?_ _))⟩
set_option maxHeartbeats 1000000 in
theorem stepFault2_any (t : Gt) (b : Nat) (w : World) (ht : Blk w b 49 #[.int .i64 t.order, .bool t.power, .int .i64 t.outer, .int .i64 t.inner]) :
    Calls Tryz.prog 138 #[.pointer (some ⟨b, 0, none⟩)] w fun e w' => e = .returned (orderFt t).v ∧ Below w.heap.size w w' := by
  obtain ⟨t0, t1, t2, t3⟩ := tcells_of ht
  have hlt := ht.lt
  clear ht
  go_enter Tryz.func138, Tryz.ntmps138
  go_wp2_with fail
  refine (orderFault_any t _).mono ?_
  rintro e w1 ⟨rfl, hb1⟩
  obtain ⟨hc1, hf1⟩ := bcell hb1; have hz1 := hb1.size; (try simp at hz1)
  go_wp2
  exact bodyPost_ret (v := (orderFt t).v) (by simp [results, Tryz.results138, go_sem, hc1] <;> omega) rfl ⟨by rfl, (by repeat (first | exact Below.refl _ _ | assumption | (refine Below.setCell ?_ (by first | omega | (simp; done) | (simp; omega)) _) | (refine Below.alloc ?_ (by first | omega | (simp; done) | (simp; omega)) _) | refine Below.drew ?_ | (refine below_thru ?_ (by assumption) (by first | omega | (simp; done) | (simp; omega))) | refine below_drewN ?_ _))⟩

set_option maxRecDepth 100000 in
set_option maxHeartbeats 1000000 in
theorem stepFault_any (g : Ga) (s : Gs) (t : Gt) (w : World) (hg : g.At w w.heap.size) :
    Calls Tryz.prog 69 #[g.v, s.v, t.v] w fun e w' => e = .returned (stepFt g s t).v ∧ Below w.heap.size w w' := by
  have Hg := Lib.hid hg; clear hg
  have hGood : ∀ (W : World) (b0 b1 b2 : Nat), g.Box W b0 → Blk W b1 42 #[.int .i64 s.pos, .int .i64 s.charge, .bool s.bolted] → Blk W b2 49 #[.int .i64 t.order, .bool t.power, .int .i64 t.outer, .int .i64 t.inner] → Good W [⟨137, #[.pointer (some ⟨b0, 0, none⟩), .pointer (some ⟨b1, 0, none⟩)], stateFt g s⟩, ⟨138, #[.pointer (some ⟨b2, 0, none⟩)], orderFt t⟩] := by
    intro W b0 b1 b2 h0 h1 h2 k x hk _ W' hW
    match k, hk with
    | 0, hk => cases hk; exact stepFault1_any g s b0 b1 W' (h0.grow hW) (h1.thru hW h1.lt)
    | 1, hk => cases hk; exact stepFault2_any t b2 W' (h2.thru hW h2.lt)
    | k + 2, hk => simp at hk
  have HGood := Lib.hid hGood; clear hGood
  go_enter Tryz.func69, Tryz.ntmps69
  go_wp2_with fail
  refine (first_any _ (w.heap.size + 1 + 1 + 1 + 1) 0 2 [⟨137, #[.pointer (some ⟨w.heap.size, 0, none⟩), .pointer (some ⟨w.heap.size + 1, 0, none⟩)], stateFt g s⟩, ⟨138, #[.pointer (some ⟨w.heap.size + 1 + 1, 0, none⟩)], orderFt t⟩] rfl (by omega) (by simp) ?_ (HGood.out _ _ _ _ ?_ ?_ ?_) ?_).mono ?_
  · intro k c hk
    match k, hk with
    | 0, hk => cases hk; exact (Blk.new' _ _ _ (by simp)).cell 0
    | 1, hk => cases hk; exact (Blk.new' _ _ _ (by simp)).cell 1
    | k + 2, hk => simp at hk
  · exact ⟨((((Blk.new w _ _).alloc _).alloc _).alloc _).alloc _, Hg.out.grow (by repeat (first | exact Below.refl _ _ | assumption | (refine Below.setCell ?_ (by first | omega | (simp; done) | (simp; omega)) _) | (refine Below.alloc ?_ (by first | omega | (simp; done) | (simp; omega)) _) | refine Below.drew ?_ | (refine below_thru ?_ (by assumption) (by first | omega | (simp; done) | (simp; omega))) | refine below_drewN ?_ _))⟩
  · exact (((Blk.new' (w.alloc _) _ _ (by simp)).alloc _).alloc _).alloc _
  · exact ((Blk.new' ((w.alloc _).alloc _) _ _ (by simp)).alloc _).alloc _
  · intro k c hk W
    match k, hk with
    | 0, hk => cases hk; show Sem.run Tryz.prog (callFunc _ _) W = _; kernel_rfl
    | 1, hk => cases hk; show Sem.run Tryz.prog (callFunc _ _) W = _; kernel_rfl
    | k + 2, hk => simp at hk
  · rintro e w1 ⟨he, hb1⟩
    replace he : e = .returned (stepFt g s t).v := he
    subst he
    obtain ⟨hc1, hf1⟩ := bcell hb1; have hz1 := hb1.size; (try simp at hz1)
    go_wp2
    exact bodyPost_ret (v := (stepFt g s t).v) (by simp [results, Tryz.results69, go_sem, hc1] <;> omega) rfl ⟨by rfl, (by repeat (first | exact Below.refl _ _ | assumption | (refine Below.setCell ?_ (by first | omega | (simp; done) | (simp; omega)) _) | (refine Below.alloc ?_ (by first | omega | (simp; done) | (simp; omega)) _) | refine Below.drew ?_ | (refine below_thru ?_ (by assumption) (by first | omega | (simp; done) | (simp; omega))) | refine below_drewN ?_ _))⟩

end Go.Proofs.YtgdomaddjiggaaaGreat
