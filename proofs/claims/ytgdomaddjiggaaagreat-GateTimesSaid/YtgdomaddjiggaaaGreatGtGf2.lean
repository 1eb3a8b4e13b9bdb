/- The faults of own forces, of sensors, of a gate. -/
import Derived.Test.YtgdomaddjiggaaaGreatGtGf
namespace Go.Proofs.YtgdomaddjiggaaaGreat
open Go.RowKit
set_option linter.unusedSimpArgs false
set_option linter.unusedVariables false

set_option maxRecDepth 100000 in
set_option maxHeartbeats 1000000 in
theorem ownFault_any (g : Ga) (i : Nat) (w : World) (hg : g.At w w.heap.size) (hi : i < g.on) :
    Calls Tryz.prog 120 #[g.v, .int .i64 (i : Int)] w fun e w' => e = .returned (ownFt g i).v ∧ Below w.heap.size w w' := by
  have Hg := Lib.hid hg; clear hg
  have hGood : ∀ (W : World) (b c : Nat), g.Box W b → Blk W c 3 #[.int .i64 (i : Int)] → Good W [⟨161, #[.pointer (some ⟨b, 0, none⟩), .pointer (some ⟨c, 0, none⟩)], need (betw (g.os.getD i 0) (-200000) 200000) 7⟩, ⟨162, #[.pointer (some ⟨b, 0, none⟩), .pointer (some ⟨c, 0, none⟩)], need (suitsB (g.os.getD i 0) g.kind) 2⟩] := by
    intro W b c hb hc k x hk _ W' hW
    match k, hk with
    | 0, hk => cases hk; exact own1_any g b c i W' (hb.grow hW) hi (hc.thru hW hc.lt)
    | 1, hk => cases hk; exact own2_any g b c i W' (hb.grow hW) hi (hc.thru hW hc.lt)
    | k + 2, hk => simp at hk
  have HGood := Lib.hid hGood; clear hGood
  go_enter Tryz.func120, Tryz.ntmps120
  go_wp2_with fail
  refine (first_any _ (w.heap.size + 1 + 1 + 1) 0 2 [⟨161, #[.pointer (some ⟨w.heap.size, 0, none⟩), .pointer (some ⟨w.heap.size + 1, 0, none⟩)], need (betw (g.os.getD i 0) (-200000) 200000) 7⟩, ⟨162, #[.pointer (some ⟨w.heap.size, 0, none⟩), .pointer (some ⟨w.heap.size + 1, 0, none⟩)], need (suitsB (g.os.getD i 0) g.kind) 2⟩] rfl (by omega) (by simp) ?_ (HGood.out _ _ _ ⟨?_, ?_⟩ ?_) ?_).mono ?_
  · intro k c hk
    match k, hk with
    | 0, hk => cases hk; exact (Blk.new' _ _ _ (by simp)).cell 0
    | 1, hk => cases hk; exact (Blk.new' _ _ _ (by simp)).cell 1
    | k + 2, hk => simp at hk
  · exact (((Blk.new w _ _).alloc _).alloc _).alloc _
  · exact Hg.out.grow (by repeat (first | exact Below.refl _ _ | assumption | (refine Below.setCell ?_ (by first | omega | (simp; done) | (simp; omega)) _) | (refine Below.alloc ?_ (by first | omega | (simp; done) | (simp; omega)) _) | refine Below.drew ?_ | (refine below_thru ?_ (by assumption) (by first | omega | (simp; done) | (simp; omega))) | refine below_drewN ?_ _))
  · exact ((Blk.new' (w.alloc _) _ _ (by simp)).alloc _).alloc _
  · intro k c hk W
    match k, hk with
    | 0, hk => cases hk; show Sem.run Tryz.prog (callFunc _ _) W = _; kernel_rfl
    | 1, hk => cases hk; show Sem.run Tryz.prog (callFunc _ _) W = _; kernel_rfl
    | k + 2, hk => simp at hk
  · rintro e w1 ⟨he, hb1⟩
    replace he : e = .returned (ownFt g i).v := he
    subst he
    obtain ⟨hc1, hf1⟩ := bcell hb1; have hz1 := hb1.size; (try simp at hz1)
    go_wp2
    exact bodyPost_ret (v := (ownFt g i).v) (by simp [results, Tryz.results120, go_sem, hc1] <;> omega) rfl ⟨by rfl, (by repeat (first | exact Below.refl _ _ | assumption | (refine Below.setCell ?_ (by first | omega | (simp; done) | (simp; omega)) _) | (refine Below.alloc ?_ (by first | omega | (simp; done) | (simp; omega)) _) | refine Below.drew ?_ | (refine below_thru ?_ (by assumption) (by first | omega | (simp; done) | (simp; omega))) | refine below_drewN ?_ _))⟩

abbrev snv (s : Sn) : Value := .agg #[.int .i64 s.kind, .int .i64 s.at_, .int .i64 s.tol]
set_option maxHeartbeats 1000000 in
theorem sens1_any (s : Sn) (b : Nat) (w : World) (hb : Blk w b 136 #[.int .i64 s.kind, .int .i64 s.at_, .int .i64 s.tol]) :
    Calls Tryz.prog 164 #[.pointer (some ⟨b, 0, none⟩)] w fun e w' => e = .returned (need ((decide (s.kind = 1) && decide (s.at_ = 0)) || decide (s.kind = 2)) 2).v ∧ Below w.heap.size w w' := by
  obtain ⟨c0, c1, c2, _⟩ := hb.three
  have hlt := hb.lt
  clear hb
  obtain ⟨k, a, t⟩ := s
  simp only at c0 c1 c2
  rcases (show (k = 1 ∧ a = 0) ∨ (k = 1 ∧ a ≠ 0) ∨ k = 2 ∨ (k ≠ 1 ∧ k ≠ 2) by omega) with ⟨rfl, rfl⟩ | ⟨rfl, h⟩ | rfl | ⟨h, h'⟩
  · go_enter Tryz.func164, Tryz.ntmps164
    go_wp2_with fail
    refine (need_any true 2 _).mono ?_
    rintro e w1 ⟨rfl, hb1⟩
    obtain ⟨hc1, hf1⟩ := bcell hb1; have hz1 := hb1.size; (try simp at hz1)
    go_wp2
    exact bodyPost_ret (v := (need true 2).v) (by simp [results, Tryz.results164, go_sem, hc1] <;> omega) rfl ⟨by simp, (by repeat (first | exact Below.refl _ _ | assumption | (refine Below.setCell ?_ (by first | omega | (simp; done) | (simp; omega)) _) | (refine Below.alloc ?_ (by first | omega | (simp; done) | (simp; omega)) _) | refine Below.drew ?_ | (refine below_thru ?_ (by assumption) (by first | omega | (simp; done) | (simp; omega))) | refine below_drewN ?_ _))⟩
  · have h1 : (a == 0) = false := by rw [beq_eq_false_iff_ne]; exact h
    have hf : decide (a = 0) = false := by simpa using h
    have Hf := Lib.hid hf
    clear hf h
    go_enter Tryz.func164, Tryz.ntmps164
    go_wp2_with fail
    refine (need_any false 2 _).mono ?_
    rintro e w1 ⟨rfl, hb1⟩
    obtain ⟨hc1, hf1⟩ := bcell hb1; have hz1 := hb1.size; (try simp at hz1)
    go_wp2
    exact bodyPost_ret (v := (need false 2).v) (by simp [results, Tryz.results164, go_sem, hc1] <;> omega) rfl ⟨by rw [Hf.out]; simp, (by repeat (first | exact Below.refl _ _ | assumption | (refine Below.setCell ?_ (by first | omega | (simp; done) | (simp; omega)) _) | (refine Below.alloc ?_ (by first | omega | (simp; done) | (simp; omega)) _) | refine Below.drew ?_ | (refine below_thru ?_ (by assumption) (by first | omega | (simp; done) | (simp; omega))) | refine below_drewN ?_ _))⟩
  · go_enter Tryz.func164, Tryz.ntmps164
    go_wp2_with fail
    refine (need_any true 2 _).mono ?_
    rintro e w1 ⟨rfl, hb1⟩
    obtain ⟨hc1, hf1⟩ := bcell hb1; have hz1 := hb1.size; (try simp at hz1)
    go_wp2
    exact bodyPost_ret (v := (need true 2).v) (by simp [results, Tryz.results164, go_sem, hc1] <;> omega) rfl ⟨by simp, (by repeat (first | exact Below.refl _ _ | assumption | (refine Below.setCell ?_ (by first | omega | (simp; done) | (simp; omega)) _) | (refine Below.alloc ?_ (by first | omega | (simp; done) | (simp; omega)) _) | refine Below.drew ?_ | (refine below_thru ?_ (by assumption) (by first | omega | (simp; done) | (simp; omega))) | refine below_drewN ?_ _))⟩
  · have h1 : (k == 1) = false := by rw [beq_eq_false_iff_ne]; exact h
    have h2 : (k == 2) = false := by rw [beq_eq_false_iff_ne]; exact h'
    have hf : ((decide (k = 1) && decide (a = 0)) || decide (k = 2)) = false := by simp [h, h']
    have Hf := Lib.hid hf
    clear hf h h'
    go_enter Tryz.func164, Tryz.ntmps164
    go_wp2_with fail
    refine (need_any false 2 _).mono ?_
    rintro e w1 ⟨rfl, hb1⟩
    obtain ⟨hc1, hf1⟩ := bcell hb1; have hz1 := hb1.size; (try simp at hz1)
    go_wp2
    exact bodyPost_ret (v := (need false 2).v) (by simp [results, Tryz.results164, go_sem, hc1] <;> omega) rfl ⟨by rw [Hf.out], (by repeat (first | exact Below.refl _ _ | assumption | (refine Below.setCell ?_ (by first | omega | (simp; done) | (simp; omega)) _) | (refine Below.alloc ?_ (by first | omega | (simp; done) | (simp; omega)) _) | refine Below.drew ?_ | (refine below_thru ?_ (by assumption) (by first | omega | (simp; done) | (simp; omega))) | refine below_drewN ?_ _))⟩

set_option maxHeartbeats 1000000 in
theorem sens2_any (s : Sn) (b : Nat) (w : World) (hb : Blk w b 136 #[.int .i64 s.kind, .int .i64 s.at_, .int .i64 s.tol]) :
    Calls Tryz.prog 165 #[.pointer (some ⟨b, 0, none⟩)] w fun e w' => e = .returned (need (betw s.at_ 0 5000 && betw s.tol 0 5000) 7).v ∧ Below w.heap.size w w' := by
  obtain ⟨c0, c1, c2, _⟩ := hb.three
  have hlt := hb.lt
  clear hb
  have h1 := bet_is s.at_ 0 5000
  have h2 := bet_is s.tol 0 5000
  cases e1 : betw s.at_ 0 5000
  · have H1 := Lib.hid (h1 _ e1)
    clear h1 h2 e1
    go_enter Tryz.func165, Tryz.ntmps165
    go_wp2_with fail
    refine (H1.out _).mono ?_
    rintro e w' ⟨rfl, rfl⟩
    go_wp2_with fail
    refine (need_any false 7 _).mono ?_
    rintro e w1 ⟨rfl, hb1⟩
    obtain ⟨hc1, hf1⟩ := bcell hb1; have hz1 := hb1.size; (try simp at hz1)
    go_wp2
    exact bodyPost_ret (v := (need false 7).v) (by simp [results, Tryz.results165, go_sem, hc1] <;> omega) rfl ⟨by simp, (by repeat (first | exact Below.refl _ _ | assumption | (refine Below.setCell ?_ (by first | omega | (simp; done) | (simp; omega)) _) | (refine Below.alloc ?_ (by first | omega | (simp; done) | (simp; omega)) _) | refine Below.drew ?_ | (refine below_thru ?_ (by assumption) (by first | omega | (simp; done) | (simp; omega))) | refine below_drewN ?_ _))⟩
  · have H1 := Lib.hid (h1 _ e1)
    have H2 := Lib.hid (h2 _ rfl)
    clear h1 h2 e1
    go_enter Tryz.func165, Tryz.ntmps165
    go_wp2_with fail
    refine (H1.out _).mono ?_
    rintro e w' ⟨rfl, rfl⟩
    go_wp2_with fail
    refine (H2.out _).mono ?_
    rintro e w' ⟨rfl, rfl⟩
    go_wp2_with fail
    refine (need_any _ 7 _).mono ?_
    rintro e w1 ⟨rfl, hb1⟩
    obtain ⟨hc1, hf1⟩ := bcell hb1; have hz1 := hb1.size; (try simp at hz1)
    go_wp2
    exact bodyPost_ret (v := (need (betw s.tol 0 5000) 7).v) (by simp [results, Tryz.results165, go_sem, hc1] <;> omega) rfl ⟨by simp, (by repeat (first | exact Below.refl _ _ | assumption | (refine Below.setCell ?_ (by first | omega | (simp; done) | (simp; omega)) _) | (refine Below.alloc ?_ (by first | omega | (simp; done) | (simp; omega)) _) | refine Below.drew ?_ | (refine below_thru ?_ (by assumption) (by first | omega | (simp; done) | (simp; omega))) | refine below_drewN ?_ _))⟩

set_option maxRecDepth 100000 in
set_option maxHeartbeats 1000000 in
theorem sensorFault_any (s : Sn) (w : World) :
    Calls Tryz.prog 126 #[snv s] w fun e w' => e = .returned (sensFt s).v ∧ Below w.heap.size w w' := by
  have hGood : ∀ (W : World) (b : Nat), Blk W b 136 #[.int .i64 s.kind, .int .i64 s.at_, .int .i64 s.tol] → Good W [⟨164, #[.pointer (some ⟨b, 0, none⟩)], need ((decide (s.kind = 1) && decide (s.at_ = 0)) || decide (s.kind = 2)) 2⟩, ⟨165, #[.pointer (some ⟨b, 0, none⟩)], need (betw s.at_ 0 5000 && betw s.tol 0 5000) 7⟩] := by
    intro W b hb k x hk _ W' hW
    match k, hk with
    | 0, hk => cases hk; exact sens1_any s b W' (hb.thru hW hb.lt)
    | 1, hk => cases hk; exact sens2_any s b W' (hb.thru hW hb.lt)
    | k + 2, hk => simp at hk
  have HGood := Lib.hid hGood; clear hGood
  go_enter Tryz.func126, Tryz.ntmps126
  go_wp2_with fail
  refine (first_any _ (w.heap.size + 1 + 1) 0 2 [⟨164, #[.pointer (some ⟨w.heap.size, 0, none⟩)], need ((decide (s.kind = 1) && decide (s.at_ = 0)) || decide (s.kind = 2)) 2⟩, ⟨165, #[.pointer (some ⟨w.heap.size, 0, none⟩)], need (betw s.at_ 0 5000 && betw s.tol 0 5000) 7⟩] rfl (by omega) (by simp) ?_ (HGood.out _ _ ?_) ?_).mono ?_
  · intro k c hk
    match k, hk with
    | 0, hk => cases hk; exact (Blk.new' _ _ _ (by simp)).cell 0
    | 1, hk => cases hk; exact (Blk.new' _ _ _ (by simp)).cell 1
    | k + 2, hk => simp at hk
  · exact ((Blk.new w _ _).alloc _).alloc _
  · intro k c hk W
    match k, hk with
    | 0, hk => cases hk; show Sem.run Tryz.prog (callFunc _ _) W = _; kernel_rfl
    | 1, hk => cases hk; show Sem.run Tryz.prog (callFunc _ _) W = _; kernel_rfl
    | k + 2, hk => simp at hk
  · rintro e w1 ⟨he, hb1⟩
    replace he : e = .returned (sensFt s).v := he
    subst he
    obtain ⟨hc1, hf1⟩ := bcell hb1; have hz1 := hb1.size; (try simp at hz1)
    go_wp2
    exact bodyPost_ret (v := (sensFt s).v) (by simp [results, Tryz.results126, go_sem, hc1] <;> omega) rfl ⟨by rfl, (by repeat (first | exact Below.refl _ _ | assumption | (refine Below.setCell ?_ (by first | omega | (simp; done) | (simp; omega)) _) | (refine Below.alloc ?_ (by first | omega | (simp; done) | (simp; omega)) _) | refine Below.drew ?_ | (refine below_thru ?_ (by assumption) (by first | omega | (simp; done) | (simp; omega))) | refine below_drewN ?_ _))⟩

theorem isStruct {o : Option TypeDesc} (h : (o.map fun d => match d with | .struct _ => true | _ => false) = some true) : ∃ fs, o = some (.struct fs) := by
  cases o with
  | none => cases h
  | some d => cases d <;> simp_all
theorem uGate : ∃ fs, Tryz.prog.underlying 33 = some (.struct fs) := isStruct (by kernel_rfl)
theorem iGate : (Tryz.prog.info? 33).map (·.size) = some 21 := by kernel_rfl
abbrev grow (g : Ga) : Array Value := #[.string g.name, .int .i64 g.kind, .int .i64 g.travel, .slice g.oA g.on g.oc, .int .i64 g.opn, .int .i64 g.shut, .int .i64 g.height, .int .i64 g.float, .int .i64 g.push, .int .i64 g.slide, .int .i64 g.sealN, .int .i64 g.drive, .int .i64 g.brake, .int .i64 g.speed, .int .i64 g.gravity, .int .i64 g.use, .int .i64 g.pump, .int .i64 g.capacity, .int .i64 g.slack, .slice g.sA g.sn g.sc, .int .i64 g.wrong]
/-- A gate is loaded whole. -/
theorem wpl_g {ops : Array Oper} {rest : List Oper} {o : Oper} {a : Act} {w : World} {Q : Exit → Act → World → Prop} {x : Operand} {b : Nat} {t : TypeId} {g : Ga} (h : Blk w b t (grow g)) (hgd : o.guard = none) (ho : o.op = .load 33 x) (hx : a.eval x = .pointer (some ⟨b, 0, none⟩))
    (hk : wpList Tryz.prog ops Q rest (a.put o.dst g.v) w) : wpList Tryz.prog ops Q (o :: rest) a w := by
  obtain ⟨fs, hu⟩ := uGate
  exact wpList_load_row hgd _ x ho b hx t (grow g) (0, 0) (.struct fs) h hu rfl iGate hk

set_option maxHeartbeats 1000000 in
theorem gf51_any (g : Ga) (b i : Nat) (w : World) (hg : g.Box w b) (hi : i < g.on) :
    Calls Tryz.prog 119 #[.int .i64 (i : Int), .pointer (some ⟨b, 0, none⟩)] w fun e w' => e = .returned (ownFt g i).v ∧ Below w.heap.size w w' := by
  have hB := Lib.hid hg.blk
  have HA := Lib.hid hg.at_
  have hlt := hg.blk.lt
  clear hg
  go_enter Tryz.func119, Tryz.ntmps119
  go_wp2_with (with_reducible refine wpl_g (hB.out.alloc _) rfl rfl rfl ?_)
  refine (ownFault_any g i _ (HA.out.grow (by repeat (first | exact Below.refl _ _ | assumption | (refine Below.setCell ?_ (by first | omega | (simp; done) | (simp; omega)) _) | (refine Below.alloc ?_ (by first | omega | (simp; done) | (simp; omega)) _) | refine Below.drew ?_ | (refine below_thru ?_ (by assumption) (by first | omega | (simp; done) | (simp; omega))) | refine below_drewN ?_ _))) hi).mono ?_
  rintro e w1 ⟨rfl, hb1⟩
  obtain ⟨hc1, hf1⟩ := bcell hb1; have hz1 := hb1.size; (try simp at hz1)
  go_wp2
  exact bodyPost_ret (v := (ownFt g i).v) (by simp [results, Tryz.results119, go_sem, hc1] <;> omega) rfl ⟨by rfl, (by repeat (first | exact Below.refl _ _ | assumption | (refine Below.setCell ?_ (by first | omega | (simp; done) | (simp; omega)) _) | (refine Below.alloc ?_ (by first | omega | (simp; done) | (simp; omega)) _) | refine Below.drew ?_ | (refine below_thru ?_ (by assumption) (by first | omega | (simp; done) | (simp; omega))) | refine below_drewN ?_ _))⟩

set_option maxHeartbeats 1000000 in
theorem gf81_any (g : Ga) (b i : Nat) (w : World) (hg : g.Box w b) (hi : i < g.sn) :
    Calls Tryz.prog 125 #[.int .i64 (i : Int), .pointer (some ⟨b, 0, none⟩)] w fun e w' => e = .returned (sensAt g i).v ∧ Below w.heap.size w w' := by
  have hsl := hg.at_.sl
  have hsn := hg.at_.sn
  unfold maxLen at hsn
  obtain ⟨s, hs⟩ := get_lt hsl hi
  obtain ⟨bs, off, hA, hb, c0, c1, c2⟩ := hg.at_.s.three (k := i) (x := .int .i64 s.kind) (y := .int .i64 s.at_) (z := .int .i64 s.tol) (by simp [hs])
  have hf : sensAt g i = sensFt s := by unfold sensAt; rw [List.getD_eq_getElem?_getD, hs]; rfl
  rw [hf]
  obtain ⟨k0, k1, k2, k3, k4, k5, k6, k7, k8, k9, k10, k11, k12, k13, k14, k15, k16, k17, k18, k19, k20⟩ := hg.cells
  rw [hA] at k19
  have hlt := hg.blk.lt
  have j0 : (0 : Int) ≤ (i : Int) := Int.natCast_nonneg _
  have j1 : (i : Int) < (g.sn : Int) := by omega
  clear hg hA hf hs hsl
  go_enter Tryz.func125, Tryz.ntmps125
  go_wp2_with fail
  refine (sensorFault_any s _).mono ?_
  rintro e w1 ⟨rfl, hb1⟩
  obtain ⟨hc1, hf1⟩ := bcell hb1; have hz1 := hb1.size; (try simp at hz1)
  go_wp2
  exact bodyPost_ret (v := (sensFt s).v) (by simp [results, Tryz.results125, go_sem, hc1] <;> omega) rfl ⟨by rfl, (by repeat (first | exact Below.refl _ _ | assumption | (refine Below.setCell ?_ (by first | omega | (simp; done) | (simp; omega)) _) | (refine Below.alloc ?_ (by first | omega | (simp; done) | (simp; omega)) _) | refine Below.drew ?_ | (refine below_thru ?_ (by assumption) (by first | omega | (simp; done) | (simp; omega))) | refine below_drewN ?_ _))⟩

set_option maxHeartbeats 1000000 in
theorem gf5_any (g : Ga) (b : Nat) (w : World) (hg : g.Box w b) (hn : g.on ≤ 1000) :
    Calls Tryz.prog 118 #[.pointer (some ⟨b, 0, none⟩)] w fun e w' => e = .returned ((eachF (fun i => ownFt g i) 0 g.on).in_ 2).v ∧ Below w.heap.size w w' := by
  have hE : ∀ W, g.Box W b → Calls Tryz.prog 81 #[.int .i64 (g.on : Int), .func (.func 119) #[] #[.pointer (some ⟨b, 0, none⟩)]] W fun e w' => e = .returned (eachF (fun i => ownFt g i) 0 g.on).v ∧ Below W.heap.size W w' := fun W hW =>
    each_any W g.on hn _ _ (fun i => ownFt g i) (fun k W' => by show Sem.run Tryz.prog (callFunc _ _) W' = _; kernel_rfl) (fun k hk _ W' hb => gf51_any g b k W' (hW.grow hb) hk)
  have HE := Lib.hid hE; clear hE
  have Hg := Lib.hid hg
  obtain ⟨k0, k1, k2, k3, k4, k5, k6, k7, k8, k9, k10, k11, k12, k13, k14, k15, k16, k17, k18, k19, k20⟩ := hg.cells
  have hlt := hg.blk.lt
  clear hg
  generalize eachF (fun i => ownFt g i) 0 g.on = ef at *
  go_enter Tryz.func118, Tryz.ntmps118
  go_wp2_with fail
  refine (HE.out _ (Hg.out.grow (by repeat (first | exact Below.refl _ _ | assumption | (refine Below.setCell ?_ (by first | omega | (simp; done) | (simp; omega)) _) | (refine Below.alloc ?_ (by first | omega | (simp; done) | (simp; omega)) _) | refine Below.drew ?_ | (refine below_thru ?_ (by assumption) (by first | omega | (simp; done) | (simp; omega))) | refine below_drewN ?_ _)))).mono ?_
  rintro e w1 ⟨rfl, hb1⟩
  obtain ⟨hc1, hf1⟩ := bcell hb1; have hz1 := hb1.size; (try simp at hz1)
  go_wp2_with fail
  refine (fault_in_any ef 2 _).mono ?_
  rintro e w2 ⟨rfl, hb2⟩
  obtain ⟨hc2, hf2⟩ := bcell hb2; have hz2 := hb2.size; (try simp at hz2)
  have hl1 : w.heap.size < w1.heap.size := by omega
  go_wp2
  exact bodyPost_ret (v := (ef.in_ 2).v) (by simp [results, Tryz.results118, go_sem, hc1, hc2, hl1] <;> omega) rfl ⟨by rfl, (by repeat (first | exact Below.refl _ _ | assumption | (refine Below.setCell ?_ (by first | omega | (simp; done) | (simp; omega)) _) | (refine Below.alloc ?_ (by first | omega | (simp; done) | (simp; omega)) _) | refine Below.drew ?_ | (refine below_thru ?_ (by assumption) (by first | omega | (simp; done) | (simp; omega))) | refine below_drewN ?_ _))⟩

set_option maxHeartbeats 1000000 in
theorem gf8_any (g : Ga) (b : Nat) (w : World) (hg : g.Box w b) (hn : g.sn ≤ 1000) :
    Calls Tryz.prog 124 #[.pointer (some ⟨b, 0, none⟩)] w fun e w' => e = .returned ((eachF (fun i => sensAt g i) 0 g.sn).in_ 4).v ∧ Below w.heap.size w w' := by
  have hE : ∀ W, g.Box W b → Calls Tryz.prog 81 #[.int .i64 (g.sn : Int), .func (.func 125) #[] #[.pointer (some ⟨b, 0, none⟩)]] W fun e w' => e = .returned (eachF (fun i => sensAt g i) 0 g.sn).v ∧ Below W.heap.size W w' := fun W hW =>
    each_any W g.sn hn _ _ (fun i => sensAt g i) (fun k W' => by show Sem.run Tryz.prog (callFunc _ _) W' = _; kernel_rfl) (fun k hk _ W' hb => gf81_any g b k W' (hW.grow hb) hk)
  have HE := Lib.hid hE; clear hE
  have Hg := Lib.hid hg
  obtain ⟨k0, k1, k2, k3, k4, k5, k6, k7, k8, k9, k10, k11, k12, k13, k14, k15, k16, k17, k18, k19, k20⟩ := hg.cells
  have hlt := hg.blk.lt
  clear hg
  generalize eachF (fun i => sensAt g i) 0 g.sn = ef at *
  go_enter Tryz.func124, Tryz.ntmps124
  go_wp2_with fail
  refine (HE.out _ (Hg.out.grow (by repeat (first | exact Below.refl _ _ | assumption | (refine Below.setCell ?_ (by first | omega | (simp; done) | (simp; omega)) _) | (refine Below.alloc ?_ (by first | omega | (simp; done) | (simp; omega)) _) | refine Below.drew ?_ | (refine below_thru ?_ (by assumption) (by first | omega | (simp; done) | (simp; omega))) | refine below_drewN ?_ _)))).mono ?_
  rintro e w1 ⟨rfl, hb1⟩
  obtain ⟨hc1, hf1⟩ := bcell hb1; have hz1 := hb1.size; (try simp at hz1)
  go_wp2_with fail
  refine (fault_in_any ef 4 _).mono ?_
  rintro e w2 ⟨rfl, hb2⟩
  obtain ⟨hc2, hf2⟩ := bcell hb2; have hz2 := hb2.size; (try simp at hz2)
  have hl1 : w.heap.size < w1.heap.size := by omega
  go_wp2
  exact bodyPost_ret (v := (ef.in_ 4).v) (by simp [results, Tryz.results124, go_sem, hc1, hc2, hl1] <;> omega) rfl ⟨by rfl, (by repeat (first | exact Below.refl _ _ | assumption | (refine Below.setCell ?_ (by first | omega | (simp; done) | (simp; omega)) _) | (refine Below.alloc ?_ (by first | omega | (simp; done) | (simp; omega)) _) | refine Below.drew ?_ | (refine below_thru ?_ (by assumption) (by first | omega | (simp; done) | (simp; omega))) | refine below_drewN ?_ _))⟩
end Go.Proofs.YtgdomaddjiggaaaGreat
