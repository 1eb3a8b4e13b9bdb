/- The numbers of a gate. -/
import Derived.Test.YtmhfnnpbnocafaaGreatGtInv
namespace Go.Proofs.YtmhfnnpbnocafaaGreat
open Go.RowKit
set_option linter.unusedSimpArgs false
set_option linter.unusedVariables false

set_option maxRecDepth 100000 in
set_option maxHeartbeats 1000000 in
theorem nums_0 (g : Ga) (w : World) (t0 : 1 ≤ g.travel) (t1 : g.travel ≤ 5000) (e0 : (levels2B g.opn g.shut) = false) :
    Calls Tryz.prog 74 #[g.v] w fun e w' => e = .returned (.bool false) ∧ Below w.heap.size w w' := by
  have H0 := Lib.hid (levels_is _ _ _ e0)
  clear e0
  go_enter Tryz.func74, Tryz.ntmps74
  go_wp2_with fail
  refine (H0.out _).mono ?_
  rintro e w' ⟨rfl, rfl⟩
  go_wp2
  go_ret
  exact ⟨rfl, (by repeat (first | exact Below.refl _ _ | assumption | (refine Below.setCell ?_ (by first | omega | (simp; done) | (simp; omega)) _) | (refine Below.alloc ?_ (by first | omega | (simp; done) | (simp; omega)) _) | refine Below.drew ?_ | (refine below_thru ?_ (by assumption) (by first | omega | (simp; done) | (simp; omega))) | refine below_drewN ?_ _))⟩
set_option maxRecDepth 100000 in
set_option maxHeartbeats 1000000 in
theorem nums_1 (g : Ga) (w : World) (t0 : 1 ≤ g.travel) (t1 : g.travel ≤ 5000) (e0 : (levels2B g.opn g.shut) = true) (e1 : (betw g.height 1 30000) = false) :
    Calls Tryz.prog 74 #[g.v] w fun e w' => e = .returned (.bool false) ∧ Below w.heap.size w w' := by
  have H0 := Lib.hid (levels_is _ _ _ e0)
  have H1 := Lib.hid (bet_is _ _ _ _ e1)
  clear e0 e1
  go_enter Tryz.func74, Tryz.ntmps74
  go_wp2_with fail
  refine (H0.out _).mono ?_
  rintro e w' ⟨rfl, rfl⟩
  go_wp2_with fail
  refine (H1.out _).mono ?_
  rintro e w' ⟨rfl, rfl⟩
  go_wp2
  go_ret
  exact ⟨rfl, (by repeat (first | exact Below.refl _ _ | assumption | (refine Below.setCell ?_ (by first | omega | (simp; done) | (simp; omega)) _) | (refine Below.alloc ?_ (by first | omega | (simp; done) | (simp; omega)) _) | refine Below.drew ?_ | (refine below_thru ?_ (by assumption) (by first | omega | (simp; done) | (simp; omega))) | refine below_drewN ?_ _))⟩
set_option maxRecDepth 100000 in
set_option maxHeartbeats 1000000 in
theorem nums_2 (g : Ga) (w : World) (t0 : 1 ≤ g.travel) (t1 : g.travel ≤ 5000) (e0 : (levels2B g.opn g.shut) = true) (e1 : (betw g.height 1 30000) = true) (e2 : (betw g.float 0 10000) = false) :
    Calls Tryz.prog 74 #[g.v] w fun e w' => e = .returned (.bool false) ∧ Below w.heap.size w w' := by
  have H0 := Lib.hid (levels_is _ _ _ e0)
  have H1 := Lib.hid (bet_is _ _ _ _ e1)
  have H2 := Lib.hid (bet_is _ _ _ _ e2)
  clear e0 e1 e2
  go_enter Tryz.func74, Tryz.ntmps74
  go_wp2_with fail
  refine (H0.out _).mono ?_
  rintro e w' ⟨rfl, rfl⟩
  go_wp2_with fail
  refine (H1.out _).mono ?_
  rintro e w' ⟨rfl, rfl⟩
  go_wp2_with fail
  refine (H2.out _).mono ?_
  rintro e w' ⟨rfl, rfl⟩
  go_wp2
  go_ret
  exact ⟨rfl, (by repeat (first | exact Below.refl _ _ | assumption | (refine Below.setCell ?_ (by first | omega | (simp; done) | (simp; omega)) _) | (refine Below.alloc ?_ (by first | omega | (simp; done) | (simp; omega)) _) | refine Below.drew ?_ | (refine below_thru ?_ (by assumption) (by first | omega | (simp; done) | (simp; omega))) | refine below_drewN ?_ _))⟩
set_option maxRecDepth 100000 in
set_option maxHeartbeats 1000000 in
theorem nums_3 (g : Ga) (w : World) (t0 : 1 ≤ g.travel) (t1 : g.travel ≤ 5000) (e0 : (levels2B g.opn g.shut) = true) (e1 : (betw g.height 1 30000) = true) (e2 : (betw g.float 0 10000) = true) (e3 : (betw g.push (-10000) 10000) = false) :
    Calls Tryz.prog 74 #[g.v] w fun e w' => e = .returned (.bool false) ∧ Below w.heap.size w w' := by
  have H0 := Lib.hid (levels_is _ _ _ e0)
  have H1 := Lib.hid (bet_is _ _ _ _ e1)
  have H2 := Lib.hid (bet_is _ _ _ _ e2)
  have H3 := Lib.hid (bet_is _ _ _ _ e3)
  clear e0 e1 e2 e3
  go_enter Tryz.func74, Tryz.ntmps74
  go_wp2_with fail
  refine (H0.out _).mono ?_
  rintro e w' ⟨rfl, rfl⟩
  go_wp2_with fail
  refine (H1.out _).mono ?_
  rintro e w' ⟨rfl, rfl⟩
  go_wp2_with fail
  refine (H2.out _).mono ?_
  rintro e w' ⟨rfl, rfl⟩
  go_wp2_with fail
  refine (H3.out _).mono ?_
  rintro e w' ⟨rfl, rfl⟩
  go_wp2
  go_ret
  exact ⟨rfl, (by repeat (first | exact Below.refl _ _ | assumption | (refine Below.setCell ?_ (by first | omega | (simp; done) | (simp; omega)) _) | (refine Below.alloc ?_ (by first | omega | (simp; done) | (simp; omega)) _) | refine Below.drew ?_ | (refine below_thru ?_ (by assumption) (by first | omega | (simp; done) | (simp; omega))) | refine below_drewN ?_ _))⟩
set_option maxRecDepth 100000 in
set_option maxHeartbeats 1000000 in
theorem nums_4 (g : Ga) (w : World) (t0 : 1 ≤ g.travel) (t1 : g.travel ≤ 5000) (e0 : (levels2B g.opn g.shut) = true) (e1 : (betw g.height 1 30000) = true) (e2 : (betw g.float 0 10000) = true) (e3 : (betw g.push (-10000) 10000) = true) (e4 : (betw g.slide 0 10000) = false) :
    Calls Tryz.prog 74 #[g.v] w fun e w' => e = .returned (.bool false) ∧ Below w.heap.size w w' := by
  have H0 := Lib.hid (levels_is _ _ _ e0)
  have H1 := Lib.hid (bet_is _ _ _ _ e1)
  have H2 := Lib.hid (bet_is _ _ _ _ e2)
  have H3 := Lib.hid (bet_is _ _ _ _ e3)
  have H4 := Lib.hid (bet_is _ _ _ _ e4)
  clear e0 e1 e2 e3 e4
  go_enter Tryz.func74, Tryz.ntmps74
  go_wp2_with fail
  refine (H0.out _).mono ?_
  rintro e w' ⟨rfl, rfl⟩
  go_wp2_with fail
  refine (H1.out _).mono ?_
  rintro e w' ⟨rfl, rfl⟩
  go_wp2_with fail
  refine (H2.out _).mono ?_
  rintro e w' ⟨rfl, rfl⟩
  go_wp2_with fail
  refine (H3.out _).mono ?_
  rintro e w' ⟨rfl, rfl⟩
  go_wp2_with fail
  refine (H4.out _).mono ?_
  rintro e w' ⟨rfl, rfl⟩
  go_wp2
  go_ret
  exact ⟨rfl, (by repeat (first | exact Below.refl _ _ | assumption | (refine Below.setCell ?_ (by first | omega | (simp; done) | (simp; omega)) _) | (refine Below.alloc ?_ (by first | omega | (simp; done) | (simp; omega)) _) | refine Below.drew ?_ | (refine below_thru ?_ (by assumption) (by first | omega | (simp; done) | (simp; omega))) | refine below_drewN ?_ _))⟩
set_option maxRecDepth 100000 in
set_option maxHeartbeats 1000000 in
theorem nums_5 (g : Ga) (w : World) (t0 : 1 ≤ g.travel) (t1 : g.travel ≤ 5000) (e0 : (levels2B g.opn g.shut) = true) (e1 : (betw g.height 1 30000) = true) (e2 : (betw g.float 0 10000) = true) (e3 : (betw g.push (-10000) 10000) = true) (e4 : (betw g.slide 0 10000) = true) (e5 : (betw g.sealN 0 200000) = false) :
    Calls Tryz.prog 74 #[g.v] w fun e w' => e = .returned (.bool false) ∧ Below w.heap.size w w' := by
  have H0 := Lib.hid (levels_is _ _ _ e0)
  have H1 := Lib.hid (bet_is _ _ _ _ e1)
  have H2 := Lib.hid (bet_is _ _ _ _ e2)
  have H3 := Lib.hid (bet_is _ _ _ _ e3)
  have H4 := Lib.hid (bet_is _ _ _ _ e4)
  have H5 := Lib.hid (bet_is _ _ _ _ e5)
  clear e0 e1 e2 e3 e4 e5
  go_enter Tryz.func74, Tryz.ntmps74
  go_wp2_with fail
  refine (H0.out _).mono ?_
  rintro e w' ⟨rfl, rfl⟩
  go_wp2_with fail
  refine (H1.out _).mono ?_
  rintro e w' ⟨rfl, rfl⟩
  go_wp2_with fail
  refine (H2.out _).mono ?_
  rintro e w' ⟨rfl, rfl⟩
  go_wp2_with fail
  refine (H3.out _).mono ?_
  rintro e w' ⟨rfl, rfl⟩
  go_wp2_with fail
  refine (H4.out _).mono ?_
  rintro e w' ⟨rfl, rfl⟩
  go_wp2_with fail
  refine (H5.out _).mono ?_
  rintro e w' ⟨rfl, rfl⟩
  go_wp2
  go_ret
  exact ⟨rfl, (by repeat (first | exact Below.refl _ _ | assumption | (refine Below.setCell ?_ (by first | omega | (simp; done) | (simp; omega)) _) | (refine Below.alloc ?_ (by first | omega | (simp; done) | (simp; omega)) _) | refine Below.drew ?_ | (refine below_thru ?_ (by assumption) (by first | omega | (simp; done) | (simp; omega))) | refine below_drewN ?_ _))⟩
set_option maxRecDepth 100000 in
set_option maxHeartbeats 1000000 in
theorem nums_6 (g : Ga) (w : World) (t0 : 1 ≤ g.travel) (t1 : g.travel ≤ 5000) (e0 : (levels2B g.opn g.shut) = true) (e1 : (betw g.height 1 30000) = true) (e2 : (betw g.float 0 10000) = true) (e3 : (betw g.push (-10000) 10000) = true) (e4 : (betw g.slide 0 10000) = true) (e5 : (betw g.sealN 0 200000) = true) (e6 : (betw g.drive 0 200000) = false) :
    Calls Tryz.prog 74 #[g.v] w fun e w' => e = .returned (.bool false) ∧ Below w.heap.size w w' := by
  have H0 := Lib.hid (levels_is _ _ _ e0)
  have H1 := Lib.hid (bet_is _ _ _ _ e1)
  have H2 := Lib.hid (bet_is _ _ _ _ e2)
  have H3 := Lib.hid (bet_is _ _ _ _ e3)
  have H4 := Lib.hid (bet_is _ _ _ _ e4)
  have H5 := Lib.hid (bet_is _ _ _ _ e5)
  have H6 := Lib.hid (bet_is _ _ _ _ e6)
  clear e0 e1 e2 e3 e4 e5 e6
  go_enter Tryz.func74, Tryz.ntmps74
  go_wp2_with fail
  refine (H0.out _).mono ?_
  rintro e w' ⟨rfl, rfl⟩
  go_wp2_with fail
  refine (H1.out _).mono ?_
  rintro e w' ⟨rfl, rfl⟩
  go_wp2_with fail
  refine (H2.out _).mono ?_
  rintro e w' ⟨rfl, rfl⟩
  go_wp2_with fail
  refine (H3.out _).mono ?_
  rintro e w' ⟨rfl, rfl⟩
  go_wp2_with fail
  refine (H4.out _).mono ?_
  rintro e w' ⟨rfl, rfl⟩
  go_wp2_with fail
  refine (H5.out _).mono ?_
  rintro e w' ⟨rfl, rfl⟩
  go_wp2_with fail
  refine (H6.out _).mono ?_
  rintro e w' ⟨rfl, rfl⟩
  go_wp2
  go_ret
  exact ⟨rfl, (by repeat (first | exact Below.refl _ _ | assumption | (refine Below.setCell ?_ (by first | omega | (simp; done) | (simp; omega)) _) | (refine Below.alloc ?_ (by first | omega | (simp; done) | (simp; omega)) _) | refine Below.drew ?_ | (refine below_thru ?_ (by assumption) (by first | omega | (simp; done) | (simp; omega))) | refine below_drewN ?_ _))⟩
set_option maxRecDepth 100000 in
set_option maxHeartbeats 1000000 in
theorem nums_7 (g : Ga) (w : World) (t0 : 1 ≤ g.travel) (t1 : g.travel ≤ 5000) (e0 : (levels2B g.opn g.shut) = true) (e1 : (betw g.height 1 30000) = true) (e2 : (betw g.float 0 10000) = true) (e3 : (betw g.push (-10000) 10000) = true) (e4 : (betw g.slide 0 10000) = true) (e5 : (betw g.sealN 0 200000) = true) (e6 : (betw g.drive 0 200000) = true) (e7 : (betw g.brake 0 200000) = false) :
    Calls Tryz.prog 74 #[g.v] w fun e w' => e = .returned (.bool false) ∧ Below w.heap.size w w' := by
  have H0 := Lib.hid (levels_is _ _ _ e0)
  have H1 := Lib.hid (bet_is _ _ _ _ e1)
  have H2 := Lib.hid (bet_is _ _ _ _ e2)
  have H3 := Lib.hid (bet_is _ _ _ _ e3)
  have H4 := Lib.hid (bet_is _ _ _ _ e4)
  have H5 := Lib.hid (bet_is _ _ _ _ e5)
  have H6 := Lib.hid (bet_is _ _ _ _ e6)
  have H7 := Lib.hid (bet_is _ _ _ _ e7)
  clear e0 e1 e2 e3 e4 e5 e6 e7
  go_enter Tryz.func74, Tryz.ntmps74
  go_wp2_with fail
  refine (H0.out _).mono ?_
  rintro e w' ⟨rfl, rfl⟩
  go_wp2_with fail
  refine (H1.out _).mono ?_
  rintro e w' ⟨rfl, rfl⟩
  go_wp2_with fail
  refine (H2.out _).mono ?_
  rintro e w' ⟨rfl, rfl⟩
  go_wp2_with fail
  refine (H3.out _).mono ?_
  rintro e w' ⟨rfl, rfl⟩
  go_wp2_with fail
  refine (H4.out _).mono ?_
  rintro e w' ⟨rfl, rfl⟩
  go_wp2_with fail
  refine (H5.out _).mono ?_
  rintro e w' ⟨rfl, rfl⟩
  go_wp2_with fail
  refine (H6.out _).mono ?_
  rintro e w' ⟨rfl, rfl⟩
  go_wp2_with fail
  refine (H7.out _).mono ?_
  rintro e w' ⟨rfl, rfl⟩
  go_wp2
  go_ret
  exact ⟨rfl, (by repeat (first | exact Below.refl _ _ | assumption | (refine Below.setCell ?_ (by first | omega | (simp; done) | (simp; omega)) _) | (refine Below.alloc ?_ (by first | omega | (simp; done) | (simp; omega)) _) | refine Below.drew ?_ | (refine below_thru ?_ (by assumption) (by first | omega | (simp; done) | (simp; omega))) | refine below_drewN ?_ _))⟩
set_option maxRecDepth 100000 in
set_option maxHeartbeats 1000000 in
theorem nums_8 (g : Ga) (w : World) (t0 : 1 ≤ g.travel) (t1 : g.travel ≤ 5000) (e0 : (levels2B g.opn g.shut) = true) (e1 : (betw g.height 1 30000) = true) (e2 : (betw g.float 0 10000) = true) (e3 : (betw g.push (-10000) 10000) = true) (e4 : (betw g.slide 0 10000) = true) (e5 : (betw g.sealN 0 200000) = true) (e6 : (betw g.drive 0 200000) = true) (e7 : (betw g.brake 0 200000) = true) (e8 : (betw g.speed 1 100) = false) :
    Calls Tryz.prog 74 #[g.v] w fun e w' => e = .returned (.bool false) ∧ Below w.heap.size w w' := by
  have H0 := Lib.hid (levels_is _ _ _ e0)
  have H1 := Lib.hid (bet_is _ _ _ _ e1)
  have H2 := Lib.hid (bet_is _ _ _ _ e2)
  have H3 := Lib.hid (bet_is _ _ _ _ e3)
  have H4 := Lib.hid (bet_is _ _ _ _ e4)
  have H5 := Lib.hid (bet_is _ _ _ _ e5)
  have H6 := Lib.hid (bet_is _ _ _ _ e6)
  have H7 := Lib.hid (bet_is _ _ _ _ e7)
  have H8 := Lib.hid (bet_is _ _ _ _ e8)
  clear e0 e1 e2 e3 e4 e5 e6 e7 e8
  go_enter Tryz.func74, Tryz.ntmps74
  go_wp2_with fail
  refine (H0.out _).mono ?_
  rintro e w' ⟨rfl, rfl⟩
  go_wp2_with fail
  refine (H1.out _).mono ?_
  rintro e w' ⟨rfl, rfl⟩
  go_wp2_with fail
  refine (H2.out _).mono ?_
  rintro e w' ⟨rfl, rfl⟩
  go_wp2_with fail
  refine (H3.out _).mono ?_
  rintro e w' ⟨rfl, rfl⟩
  go_wp2_with fail
  refine (H4.out _).mono ?_
  rintro e w' ⟨rfl, rfl⟩
  go_wp2_with fail
  refine (H5.out _).mono ?_
  rintro e w' ⟨rfl, rfl⟩
  go_wp2_with fail
  refine (H6.out _).mono ?_
  rintro e w' ⟨rfl, rfl⟩
  go_wp2_with fail
  refine (H7.out _).mono ?_
  rintro e w' ⟨rfl, rfl⟩
  go_wp2_with fail
  refine (H8.out _).mono ?_
  rintro e w' ⟨rfl, rfl⟩
  go_wp2
  go_ret
  exact ⟨rfl, (by repeat (first | exact Below.refl _ _ | assumption | (refine Below.setCell ?_ (by first | omega | (simp; done) | (simp; omega)) _) | (refine Below.alloc ?_ (by first | omega | (simp; done) | (simp; omega)) _) | refine Below.drew ?_ | (refine below_thru ?_ (by assumption) (by first | omega | (simp; done) | (simp; omega))) | refine below_drewN ?_ _))⟩
set_option maxRecDepth 100000 in
set_option maxHeartbeats 1000000 in
theorem nums_9 (g : Ga) (w : World) (t0 : 1 ≤ g.travel) (t1 : g.travel ≤ 5000) (e0 : (levels2B g.opn g.shut) = true) (e1 : (betw g.height 1 30000) = true) (e2 : (betw g.float 0 10000) = true) (e3 : (betw g.push (-10000) 10000) = true) (e4 : (betw g.slide 0 10000) = true) (e5 : (betw g.sealN 0 200000) = true) (e6 : (betw g.drive 0 200000) = true) (e7 : (betw g.brake 0 200000) = true) (e8 : (betw g.speed 1 100) = true) (e9 : (betw g.gravity 1 100) = false) :
    Calls Tryz.prog 74 #[g.v] w fun e w' => e = .returned (.bool false) ∧ Below w.heap.size w w' := by
  have H0 := Lib.hid (levels_is _ _ _ e0)
  have H1 := Lib.hid (bet_is _ _ _ _ e1)
  have H2 := Lib.hid (bet_is _ _ _ _ e2)
  have H3 := Lib.hid (bet_is _ _ _ _ e3)
  have H4 := Lib.hid (bet_is _ _ _ _ e4)
  have H5 := Lib.hid (bet_is _ _ _ _ e5)
  have H6 := Lib.hid (bet_is _ _ _ _ e6)
  have H7 := Lib.hid (bet_is _ _ _ _ e7)
  have H8 := Lib.hid (bet_is _ _ _ _ e8)
  have H9 := Lib.hid (bet_is _ _ _ _ e9)
  clear e0 e1 e2 e3 e4 e5 e6 e7 e8 e9
  go_enter Tryz.func74, Tryz.ntmps74
  go_wp2_with fail
  refine (H0.out _).mono ?_
  rintro e w' ⟨rfl, rfl⟩
  go_wp2_with fail
  refine (H1.out _).mono ?_
  rintro e w' ⟨rfl, rfl⟩
  go_wp2_with fail
  refine (H2.out _).mono ?_
  rintro e w' ⟨rfl, rfl⟩
  go_wp2_with fail
  refine (H3.out _).mono ?_
  rintro e w' ⟨rfl, rfl⟩
  go_wp2_with fail
  refine (H4.out _).mono ?_
  rintro e w' ⟨rfl, rfl⟩
  go_wp2_with fail
  refine (H5.out _).mono ?_
  rintro e w' ⟨rfl, rfl⟩
  go_wp2_with fail
  refine (H6.out _).mono ?_
  rintro e w' ⟨rfl, rfl⟩
  go_wp2_with fail
  refine (H7.out _).mono ?_
  rintro e w' ⟨rfl, rfl⟩
  go_wp2_with fail
  refine (H8.out _).mono ?_
  rintro e w' ⟨rfl, rfl⟩
  go_wp2_with fail
  refine (H9.out _).mono ?_
  rintro e w' ⟨rfl, rfl⟩
  go_wp2
  go_ret
  exact ⟨rfl, (by repeat (first | exact Below.refl _ _ | assumption | (refine Below.setCell ?_ (by first | omega | (simp; done) | (simp; omega)) _) | (refine Below.alloc ?_ (by first | omega | (simp; done) | (simp; omega)) _) | refine Below.drew ?_ | (refine below_thru ?_ (by assumption) (by first | omega | (simp; done) | (simp; omega))) | refine below_drewN ?_ _))⟩
set_option maxRecDepth 100000 in
set_option maxHeartbeats 1000000 in
theorem nums_10 (g : Ga) (w : World) (t0 : 1 ≤ g.travel) (t1 : g.travel ≤ 5000) (e0 : (levels2B g.opn g.shut) = true) (e1 : (betw g.height 1 30000) = true) (e2 : (betw g.float 0 10000) = true) (e3 : (betw g.push (-10000) 10000) = true) (e4 : (betw g.slide 0 10000) = true) (e5 : (betw g.sealN 0 200000) = true) (e6 : (betw g.drive 0 200000) = true) (e7 : (betw g.brake 0 200000) = true) (e8 : (betw g.speed 1 100) = true) (e9 : (betw g.gravity 1 100) = true) (e10 : (betw g.use 0 100000) = false) :
    Calls Tryz.prog 74 #[g.v] w fun e w' => e = .returned (.bool false) ∧ Below w.heap.size w w' := by
  have H0 := Lib.hid (levels_is _ _ _ e0)
  have H1 := Lib.hid (bet_is _ _ _ _ e1)
  have H2 := Lib.hid (bet_is _ _ _ _ e2)
  have H3 := Lib.hid (bet_is _ _ _ _ e3)
  have H4 := Lib.hid (bet_is _ _ _ _ e4)
  have H5 := Lib.hid (bet_is _ _ _ _ e5)
  have H6 := Lib.hid (bet_is _ _ _ _ e6)
  have H7 := Lib.hid (bet_is _ _ _ _ e7)
  have H8 := Lib.hid (bet_is _ _ _ _ e8)
  have H9 := Lib.hid (bet_is _ _ _ _ e9)
  have H10 := Lib.hid (bet_is _ _ _ _ e10)
  clear e0 e1 e2 e3 e4 e5 e6 e7 e8 e9 e10
  go_enter Tryz.func74, Tryz.ntmps74
  go_wp2_with fail
  refine (H0.out _).mono ?_
  rintro e w' ⟨rfl, rfl⟩
  go_wp2_with fail
  refine (H1.out _).mono ?_
  rintro e w' ⟨rfl, rfl⟩
  go_wp2_with fail
  refine (H2.out _).mono ?_
  rintro e w' ⟨rfl, rfl⟩
  go_wp2_with fail
  refine (H3.out _).mono ?_
  rintro e w' ⟨rfl, rfl⟩
  go_wp2_with fail
  refine (H4.out _).mono ?_
  rintro e w' ⟨rfl, rfl⟩
  go_wp2_with fail
  refine (H5.out _).mono ?_
  rintro e w' ⟨rfl, rfl⟩
  go_wp2_with fail
  refine (H6.out _).mono ?_
  rintro e w' ⟨rfl, rfl⟩
  go_wp2_with fail
  refine (H7.out _).mono ?_
  rintro e w' ⟨rfl, rfl⟩
  go_wp2_with fail
  refine (H8.out _).mono ?_
  rintro e w' ⟨rfl, rfl⟩
  go_wp2_with fail
  refine (H9.out _).mono ?_
  rintro e w' ⟨rfl, rfl⟩
  go_wp2_with fail
  refine (H10.out _).mono ?_
  rintro e w' ⟨rfl, rfl⟩
  go_wp2
  go_ret
  exact ⟨rfl, (by repeat (first | exact Below.refl _ _ | assumption | (refine Below.setCell ?_ (by first | omega | (simp; done) | (simp; omega)) _) | (refine Below.alloc ?_ (by first | omega | (simp; done) | (simp; omega)) _) | refine Below.drew ?_ | (refine below_thru ?_ (by assumption) (by first | omega | (simp; done) | (simp; omega))) | refine below_drewN ?_ _))⟩
set_option maxRecDepth 100000 in
set_option maxHeartbeats 1000000 in
theorem nums_11 (g : Ga) (w : World) (t0 : 1 ≤ g.travel) (t1 : g.travel ≤ 5000) (e0 : (levels2B g.opn g.shut) = true) (e1 : (betw g.height 1 30000) = true) (e2 : (betw g.float 0 10000) = true) (e3 : (betw g.push (-10000) 10000) = true) (e4 : (betw g.slide 0 10000) = true) (e5 : (betw g.sealN 0 200000) = true) (e6 : (betw g.drive 0 200000) = true) (e7 : (betw g.brake 0 200000) = true) (e8 : (betw g.speed 1 100) = true) (e9 : (betw g.gravity 1 100) = true) (e10 : (betw g.use 0 100000) = true) (e11 : (betw g.pump 0 100000) = false) :
    Calls Tryz.prog 74 #[g.v] w fun e w' => e = .returned (.bool false) ∧ Below w.heap.size w w' := by
  have H0 := Lib.hid (levels_is _ _ _ e0)
  have H1 := Lib.hid (bet_is _ _ _ _ e1)
  have H2 := Lib.hid (bet_is _ _ _ _ e2)
  have H3 := Lib.hid (bet_is _ _ _ _ e3)
  have H4 := Lib.hid (bet_is _ _ _ _ e4)
  have H5 := Lib.hid (bet_is _ _ _ _ e5)
  have H6 := Lib.hid (bet_is _ _ _ _ e6)
  have H7 := Lib.hid (bet_is _ _ _ _ e7)
  have H8 := Lib.hid (bet_is _ _ _ _ e8)
  have H9 := Lib.hid (bet_is _ _ _ _ e9)
  have H10 := Lib.hid (bet_is _ _ _ _ e10)
  have H11 := Lib.hid (bet_is _ _ _ _ e11)
  clear e0 e1 e2 e3 e4 e5 e6 e7 e8 e9 e10 e11
  go_enter Tryz.func74, Tryz.ntmps74
  go_wp2_with fail
  refine (H0.out _).mono ?_
  rintro e w' ⟨rfl, rfl⟩
  go_wp2_with fail
  refine (H1.out _).mono ?_
  rintro e w' ⟨rfl, rfl⟩
  go_wp2_with fail
  refine (H2.out _).mono ?_
  rintro e w' ⟨rfl, rfl⟩
  go_wp2_with fail
  refine (H3.out _).mono ?_
  rintro e w' ⟨rfl, rfl⟩
  go_wp2_with fail
  refine (H4.out _).mono ?_
  rintro e w' ⟨rfl, rfl⟩
  go_wp2_with fail
  refine (H5.out _).mono ?_
  rintro e w' ⟨rfl, rfl⟩
  go_wp2_with fail
  refine (H6.out _).mono ?_
  rintro e w' ⟨rfl, rfl⟩
  go_wp2_with fail
  refine (H7.out _).mono ?_
  rintro e w' ⟨rfl, rfl⟩
  go_wp2_with fail
  refine (H8.out _).mono ?_
  rintro e w' ⟨rfl, rfl⟩
  go_wp2_with fail
  refine (H9.out _).mono ?_
  rintro e w' ⟨rfl, rfl⟩
  go_wp2_with fail
  refine (H10.out _).mono ?_
  rintro e w' ⟨rfl, rfl⟩
  go_wp2_with fail
  refine (H11.out _).mono ?_
  rintro e w' ⟨rfl, rfl⟩
  go_wp2
  go_ret
  exact ⟨rfl, (by repeat (first | exact Below.refl _ _ | assumption | (refine Below.setCell ?_ (by first | omega | (simp; done) | (simp; omega)) _) | (refine Below.alloc ?_ (by first | omega | (simp; done) | (simp; omega)) _) | refine Below.drew ?_ | (refine below_thru ?_ (by assumption) (by first | omega | (simp; done) | (simp; omega))) | refine below_drewN ?_ _))⟩
set_option maxRecDepth 100000 in
set_option maxHeartbeats 1000000 in
theorem nums_12 (g : Ga) (w : World) (t0 : 1 ≤ g.travel) (t1 : g.travel ≤ 5000) (e0 : (levels2B g.opn g.shut) = true) (e1 : (betw g.height 1 30000) = true) (e2 : (betw g.float 0 10000) = true) (e3 : (betw g.push (-10000) 10000) = true) (e4 : (betw g.slide 0 10000) = true) (e5 : (betw g.sealN 0 200000) = true) (e6 : (betw g.drive 0 200000) = true) (e7 : (betw g.brake 0 200000) = true) (e8 : (betw g.speed 1 100) = true) (e9 : (betw g.gravity 1 100) = true) (e10 : (betw g.use 0 100000) = true) (e11 : (betw g.pump 0 100000) = true) (e12 : (betw g.capacity 0 100000) = false) :
    Calls Tryz.prog 74 #[g.v] w fun e w' => e = .returned (.bool false) ∧ Below w.heap.size w w' := by
  have H0 := Lib.hid (levels_is _ _ _ e0)
  have H1 := Lib.hid (bet_is _ _ _ _ e1)
  have H2 := Lib.hid (bet_is _ _ _ _ e2)
  have H3 := Lib.hid (bet_is _ _ _ _ e3)
  have H4 := Lib.hid (bet_is _ _ _ _ e4)
  have H5 := Lib.hid (bet_is _ _ _ _ e5)
  have H6 := Lib.hid (bet_is _ _ _ _ e6)
  have H7 := Lib.hid (bet_is _ _ _ _ e7)
  have H8 := Lib.hid (bet_is _ _ _ _ e8)
  have H9 := Lib.hid (bet_is _ _ _ _ e9)
  have H10 := Lib.hid (bet_is _ _ _ _ e10)
  have H11 := Lib.hid (bet_is _ _ _ _ e11)
  have H12 := Lib.hid (bet_is _ _ _ _ e12)
  clear e0 e1 e2 e3 e4 e5 e6 e7 e8 e9 e10 e11 e12
  go_enter Tryz.func74, Tryz.ntmps74
  go_wp2_with fail
  refine (H0.out _).mono ?_
  rintro e w' ⟨rfl, rfl⟩
  go_wp2_with fail
  refine (H1.out _).mono ?_
  rintro e w' ⟨rfl, rfl⟩
  go_wp2_with fail
  refine (H2.out _).mono ?_
  rintro e w' ⟨rfl, rfl⟩
  go_wp2_with fail
  refine (H3.out _).mono ?_
  rintro e w' ⟨rfl, rfl⟩
  go_wp2_with fail
  refine (H4.out _).mono ?_
  rintro e w' ⟨rfl, rfl⟩
  go_wp2_with fail
  refine (H5.out _).mono ?_
  rintro e w' ⟨rfl, rfl⟩
  go_wp2_with fail
  refine (H6.out _).mono ?_
  rintro e w' ⟨rfl, rfl⟩
  go_wp2_with fail
  refine (H7.out _).mono ?_
  rintro e w' ⟨rfl, rfl⟩
  go_wp2_with fail
  refine (H8.out _).mono ?_
  rintro e w' ⟨rfl, rfl⟩
  go_wp2_with fail
  refine (H9.out _).mono ?_
  rintro e w' ⟨rfl, rfl⟩
  go_wp2_with fail
  refine (H10.out _).mono ?_
  rintro e w' ⟨rfl, rfl⟩
  go_wp2_with fail
  refine (H11.out _).mono ?_
  rintro e w' ⟨rfl, rfl⟩
  go_wp2_with fail
  refine (H12.out _).mono ?_
  rintro e w' ⟨rfl, rfl⟩
  go_wp2
  go_ret
  exact ⟨rfl, (by repeat (first | exact Below.refl _ _ | assumption | (refine Below.setCell ?_ (by first | omega | (simp; done) | (simp; omega)) _) | (refine Below.alloc ?_ (by first | omega | (simp; done) | (simp; omega)) _) | refine Below.drew ?_ | (refine below_thru ?_ (by assumption) (by first | omega | (simp; done) | (simp; omega))) | refine below_drewN ?_ _))⟩
set_option maxRecDepth 100000 in
set_option maxHeartbeats 1000000 in
theorem nums_13 (g : Ga) (w : World) (t0 : 1 ≤ g.travel) (t1 : g.travel ≤ 5000) (e0 : (levels2B g.opn g.shut) = true) (e1 : (betw g.height 1 30000) = true) (e2 : (betw g.float 0 10000) = true) (e3 : (betw g.push (-10000) 10000) = true) (e4 : (betw g.slide 0 10000) = true) (e5 : (betw g.sealN 0 200000) = true) (e6 : (betw g.drive 0 200000) = true) (e7 : (betw g.brake 0 200000) = true) (e8 : (betw g.speed 1 100) = true) (e9 : (betw g.gravity 1 100) = true) (e10 : (betw g.use 0 100000) = true) (e11 : (betw g.pump 0 100000) = true) (e12 : (betw g.capacity 0 100000) = true) (e13 : (betw g.slack 0 ((g.travel - 1) / 2)) = false) :
    Calls Tryz.prog 74 #[g.v] w fun e w' => e = .returned (.bool false) ∧ Below w.heap.size w w' := by
  have H0 := Lib.hid (levels_is _ _ _ e0)
  have H1 := Lib.hid (bet_is _ _ _ _ e1)
  have H2 := Lib.hid (bet_is _ _ _ _ e2)
  have H3 := Lib.hid (bet_is _ _ _ _ e3)
  have H4 := Lib.hid (bet_is _ _ _ _ e4)
  have H5 := Lib.hid (bet_is _ _ _ _ e5)
  have H6 := Lib.hid (bet_is _ _ _ _ e6)
  have H7 := Lib.hid (bet_is _ _ _ _ e7)
  have H8 := Lib.hid (bet_is _ _ _ _ e8)
  have H9 := Lib.hid (bet_is _ _ _ _ e9)
  have H10 := Lib.hid (bet_is _ _ _ _ e10)
  have H11 := Lib.hid (bet_is _ _ _ _ e11)
  have H12 := Lib.hid (bet_is _ _ _ _ e12)
  have H13 := Lib.hid (bet_is _ _ _ _ e13)
  clear e0 e1 e2 e3 e4 e5 e6 e7 e8 e9 e10 e11 e12 e13
  go_enter Tryz.func74, Tryz.ntmps74
  go_wp2_with fail
  refine (H0.out _).mono ?_
  rintro e w' ⟨rfl, rfl⟩
  go_wp2_with fail
  refine (H1.out _).mono ?_
  rintro e w' ⟨rfl, rfl⟩
  go_wp2_with fail
  refine (H2.out _).mono ?_
  rintro e w' ⟨rfl, rfl⟩
  go_wp2_with fail
  refine (H3.out _).mono ?_
  rintro e w' ⟨rfl, rfl⟩
  go_wp2_with fail
  refine (H4.out _).mono ?_
  rintro e w' ⟨rfl, rfl⟩
  go_wp2_with fail
  refine (H5.out _).mono ?_
  rintro e w' ⟨rfl, rfl⟩
  go_wp2_with fail
  refine (H6.out _).mono ?_
  rintro e w' ⟨rfl, rfl⟩
  go_wp2_with fail
  refine (H7.out _).mono ?_
  rintro e w' ⟨rfl, rfl⟩
  go_wp2_with fail
  refine (H8.out _).mono ?_
  rintro e w' ⟨rfl, rfl⟩
  go_wp2_with fail
  refine (H9.out _).mono ?_
  rintro e w' ⟨rfl, rfl⟩
  go_wp2_with fail
  refine (H10.out _).mono ?_
  rintro e w' ⟨rfl, rfl⟩
  go_wp2_with fail
  refine (H11.out _).mono ?_
  rintro e w' ⟨rfl, rfl⟩
  go_wp2_with fail
  refine (H12.out _).mono ?_
  rintro e w' ⟨rfl, rfl⟩
  go_wp2_with fail
  refine (H13.out _).mono ?_
  rintro e w' ⟨rfl, rfl⟩
  go_wp2
  go_ret
  exact ⟨rfl, (by repeat (first | exact Below.refl _ _ | assumption | (refine Below.setCell ?_ (by first | omega | (simp; done) | (simp; omega)) _) | (refine Below.alloc ?_ (by first | omega | (simp; done) | (simp; omega)) _) | refine Below.drew ?_ | (refine below_thru ?_ (by assumption) (by first | omega | (simp; done) | (simp; omega))) | refine below_drewN ?_ _))⟩
set_option maxRecDepth 100000 in
set_option maxHeartbeats 1000000 in
theorem nums_14 (g : Ga) (w : World) (t0 : 1 ≤ g.travel) (t1 : g.travel ≤ 5000) (e0 : (levels2B g.opn g.shut) = true) (e1 : (betw g.height 1 30000) = true) (e2 : (betw g.float 0 10000) = true) (e3 : (betw g.push (-10000) 10000) = true) (e4 : (betw g.slide 0 10000) = true) (e5 : (betw g.sealN 0 200000) = true) (e6 : (betw g.drive 0 200000) = true) (e7 : (betw g.brake 0 200000) = true) (e8 : (betw g.speed 1 100) = true) (e9 : (betw g.gravity 1 100) = true) (e10 : (betw g.use 0 100000) = true) (e11 : (betw g.pump 0 100000) = true) (e12 : (betw g.capacity 0 100000) = true) (e13 : (betw g.slack 0 ((g.travel - 1) / 2)) = true) :
    Calls Tryz.prog 74 #[g.v] w fun e w' => e = .returned (.bool true) ∧ Below w.heap.size w w' := by
  have H0 := Lib.hid (levels_is _ _ _ e0)
  have H1 := Lib.hid (bet_is _ _ _ _ e1)
  have H2 := Lib.hid (bet_is _ _ _ _ e2)
  have H3 := Lib.hid (bet_is _ _ _ _ e3)
  have H4 := Lib.hid (bet_is _ _ _ _ e4)
  have H5 := Lib.hid (bet_is _ _ _ _ e5)
  have H6 := Lib.hid (bet_is _ _ _ _ e6)
  have H7 := Lib.hid (bet_is _ _ _ _ e7)
  have H8 := Lib.hid (bet_is _ _ _ _ e8)
  have H9 := Lib.hid (bet_is _ _ _ _ e9)
  have H10 := Lib.hid (bet_is _ _ _ _ e10)
  have H11 := Lib.hid (bet_is _ _ _ _ e11)
  have H12 := Lib.hid (bet_is _ _ _ _ e12)
  have H13 := Lib.hid (bet_is _ _ _ _ e13)
  clear e0 e1 e2 e3 e4 e5 e6 e7 e8 e9 e10 e11 e12 e13
  go_enter Tryz.func74, Tryz.ntmps74
  go_wp2_with fail
  refine (H0.out _).mono ?_
  rintro e w' ⟨rfl, rfl⟩
  go_wp2_with fail
  refine (H1.out _).mono ?_
  rintro e w' ⟨rfl, rfl⟩
  go_wp2_with fail
  refine (H2.out _).mono ?_
  rintro e w' ⟨rfl, rfl⟩
  go_wp2_with fail
  refine (H3.out _).mono ?_
  rintro e w' ⟨rfl, rfl⟩
  go_wp2_with fail
  refine (H4.out _).mono ?_
  rintro e w' ⟨rfl, rfl⟩
  go_wp2_with fail
  refine (H5.out _).mono ?_
  rintro e w' ⟨rfl, rfl⟩
  go_wp2_with fail
  refine (H6.out _).mono ?_
  rintro e w' ⟨rfl, rfl⟩
  go_wp2_with fail
  refine (H7.out _).mono ?_
  rintro e w' ⟨rfl, rfl⟩
  go_wp2_with fail
  refine (H8.out _).mono ?_
  rintro e w' ⟨rfl, rfl⟩
  go_wp2_with fail
  refine (H9.out _).mono ?_
  rintro e w' ⟨rfl, rfl⟩
  go_wp2_with fail
  refine (H10.out _).mono ?_
  rintro e w' ⟨rfl, rfl⟩
  go_wp2_with fail
  refine (H11.out _).mono ?_
  rintro e w' ⟨rfl, rfl⟩
  go_wp2_with fail
  refine (H12.out _).mono ?_
  rintro e w' ⟨rfl, rfl⟩
  go_wp2_with fail
  refine (H13.out _).mono ?_
  rintro e w' ⟨rfl, rfl⟩
  go_wp2
  go_ret
  exact ⟨rfl, (by repeat (first | exact Below.refl _ _ | assumption | (refine Below.setCell ?_ (by first | omega | (simp; done) | (simp; omega)) _) | (refine Below.alloc ?_ (by first | omega | (simp; done) | (simp; omega)) _) | refine Below.drew ?_ | (refine below_thru ?_ (by assumption) (by first | omega | (simp; done) | (simp; omega))) | refine below_drewN ?_ _))⟩
theorem nums_any (g : Ga) (w : World) (t0 : 1 ≤ g.travel) (t1 : g.travel ≤ 5000) :
    Calls Tryz.prog 74 #[g.v] w fun e w' => e = .returned (.bool (numsB g)) ∧ Below w.heap.size w w' := by
  cases e0 : (levels2B g.opn g.shut)
  · rw [show numsB g = false by simp [numsB, e0]]
    exact nums_0 g w t0 t1 e0
 
  · skip
    cases e1 : (betw g.height 1 30000)
    · rw [show numsB g = false by simp [numsB, e1]]
      exact nums_1 g w t0 t1 e0 e1
   
    · skip
      cases e2 : (betw g.float 0 10000)
      · rw [show numsB g = false by simp [numsB, e2]]
        exact nums_2 g w t0 t1 e0 e1 e2
     
      · skip
        cases e3 : (betw g.push (-10000) 10000)
        · rw [show numsB g = false by simp [numsB, e3]]
          exact nums_3 g w t0 t1 e0 e1 e2 e3
       
        · skip
          cases e4 : (betw g.slide 0 10000)
          · rw [show numsB g = false by simp [numsB, e4]]
            exact nums_4 g w t0 t1 e0 e1 e2 e3 e4
         
          · skip
            cases e5 : (betw g.sealN 0 200000)
            · rw [show numsB g = false by simp [numsB, e5]]
              exact nums_5 g w t0 t1 e0 e1 e2 e3 e4 e5
           
            · skip
              cases e6 : (betw g.drive 0 200000)
              · rw [show numsB g = false by simp [numsB, e6]]
                exact nums_6 g w t0 t1 e0 e1 e2 e3 e4 e5 e6
             
              · skip
                cases e7 : (betw g.brake 0 200000)
                · rw [show numsB g = false by simp [numsB, e7]]
                  exact nums_7 g w t0 t1 e0 e1 e2 e3 e4 e5 e6 e7
               
                · skip
                  cases e8 : (betw g.speed 1 100)
                  · rw [show numsB g = false by simp [numsB, e8]]
                    exact nums_8 g w t0 t1 e0 e1 e2 e3 e4 e5 e6 e7 e8
                 
                  · skip
                    cases e9 : (betw g.gravity 1 100)
                    · rw [show numsB g = false by simp [numsB, e9]]
                      exact nums_9 g w t0 t1 e0 e1 e2 e3 e4 e5 e6 e7 e8 e9
                   
                    · skip
                      cases e10 : (betw g.use 0 100000)
                      · rw [show numsB g = false by simp [numsB, e10]]
                        exact nums_10 g w t0 t1 e0 e1 e2 e3 e4 e5 e6 e7 e8 e9 e10
                     
                      · skip
                        cases e11 : (betw g.pump 0 100000)
                        · rw [show numsB g = false by simp [numsB, e11]]
                          exact nums_11 g w t0 t1 e0 e1 e2 e3 e4 e5 e6 e7 e8 e9 e10 e11
                       
                        · skip
                          cases e12 : (betw g.capacity 0 100000)
                          · rw [show numsB g = false by simp [numsB, e12]]
                            exact nums_12 g w t0 t1 e0 e1 e2 e3 e4 e5 e6 e7 e8 e9 e10 e11 e12
                         
                          · skip
                            cases e13 : (betw g.slack 0 ((g.travel - 1) / 2))
                            · rw [show numsB g = false by simp [numsB, e13]]
                              exact nums_13 g w t0 t1 e0 e1 e2 e3 e4 e5 e6 e7 e8 e9 e10 e11 e12 e13
                            · rw [show numsB g = true by simp [numsB, e0, e1, e2, e3, e4, e5, e6, e7, e8, e9, e10, e11, e12, e13]]
                              exact nums_14 g w t0 t1 e0 e1 e2 e3 e4 e5 e6 e7 e8 e9 e10 e11 e12 e13
end Go.Proofs.YtmhfnnpbnocafaaGreat
