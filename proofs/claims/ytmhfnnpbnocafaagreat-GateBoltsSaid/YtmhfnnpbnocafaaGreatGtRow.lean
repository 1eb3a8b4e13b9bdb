/- How further arguments of the gate laws read: the levels on both sides, small numbers. Arguments read: what a gate, a state, a step, lists of them are in memory, out of their reading as data. What the rows of the gate laws share: the row's last step. -/
import Derived.Test.YtmhfnnpbnocafaaGreatGtInv
import Derived.ProofKit
import Derived.OpenShut
import Derived.Deep.Slices
import Derived.Below
import Derived.Carry
import Derived.ChangeSame
import Derived.Test.YtmhfnnpbnocafaaGreatRows
namespace Go.Proofs.YtmhfnnpbnocafaaGreat
open Go.ChangeShapes Go.WideShapes Go.ChangeAt Go.RowKit Go.Deep
set_option linter.unusedSimpArgs false
set_option linter.unusedVariables false

theorem len2 {α : Type} {l : List α} (h : l.length = 2) : ∃ a b, l = [a, b] := by
  match l, h with
  | [a, b], _ => exact ⟨a, b, rfl⟩
theorem len3 {α : Type} {l : List α} (h : l.length = 3) : ∃ a b c, l = [a, b, c] := by
  match l, h with
  | [a, b, c], _ => exact ⟨a, b, c, rfl⟩
theorem len4 {α : Type} {l : List α} (h : l.length = 4) : ∃ a b c d, l = [a, b, c, d] := by
  match l, h with
  | [a, b, c, d], _ => exact ⟨a, b, c, d, rfl⟩
theorem len7 {α : Type} {l : List α} {n : Nat} (h : l.length = n + 7) : ∃ a b c d e f g t, l = a :: b :: c :: d :: e :: f :: g :: t ∧ t.length = n := by
  match l, h with
  | a :: b :: c :: d :: e :: f :: g :: t, h => exact ⟨a, b, c, d, e, f, g, t, rfl, by simpa using h⟩
theorem len21 {α : Type} {l : List α} (h : l.length = 21) : ∃ a b c d e f g a1 b1 c1 d1 e1 f1 g1 a2 b2 c2 d2 e2 f2 g2, l = [a, b, c, d, e, f, g, a1, b1, c1, d1, e1, f1, g1, a2, b2, c2, d2, e2, f2, g2] := by
  obtain ⟨a, b, c, d, e, f, g, t, rfl, h1⟩ := len7 (n := 14) h
  obtain ⟨a1, b1, c1, d1, e1, f1, g1, t, rfl, h2⟩ := len7 (n := 7) h1
  obtain ⟨a2, b2, c2, d2, e2, f2, g2, t, rfl, h3⟩ := len7 (n := 0) h2
  obtain rfl := List.eq_nil_of_length_eq_zero h3
  exact ⟨a, b, c, d, e, f, g, a1, b1, c1, d1, e1, f1, g1, a2, b2, c2, d2, e2, f2, g2, rfl⟩
theorem uInt : Tryz.prog.underlying 3 = some (.int .i64) := by kernel_rfl
theorem uBool : Tryz.prog.underlying 4 = some .bool := by kernel_rfl
theorem uString : Tryz.prog.underlying 9 = some .string := by kernel_rfl
theorem uInts : Tryz.prog.underlying 22 = some (.slice 3) := by kernel_rfl
theorem uSensor : Tryz.prog.underlying 92 = some (.struct #[Field.mk "Kind" 3 0 false "" "" 0, Field.mk "At" 3 1 false "" "" 8, Field.mk "Tol" 3 2 false "" "" 16]) := by kernel_rfl
theorem uSensors : Tryz.prog.underlying 23 = some (.slice 92) := by kernel_rfl
theorem uGateS : Tryz.prog.underlying 25 = some (.struct #[Field.mk "Name" 9 0 false "" "" 0, Field.mk "Kind" 3 1 false "" "" 16, Field.mk "Travel" 3 2 false "" "" 24, Field.mk "Own" 22 3 false "" "" 32, Field.mk "Open" 3 4 false "" "" 56, Field.mk "Shut" 3 5 false "" "" 64, Field.mk "Height" 3 6 false "" "" 72, Field.mk "Float" 3 7 false "" "" 80, Field.mk "Push" 3 8 false "" "" 88, Field.mk "Slide" 3 9 false "" "" 96, Field.mk "Seal" 3 10 false "" "" 104, Field.mk "Drive" 3 11 false "" "" 112, Field.mk "Brake" 3 12 false "" "" 120, Field.mk "Speed" 3 13 false "" "" 128, Field.mk "Gravity" 3 14 false "" "" 136, Field.mk "Use" 3 15 false "" "" 144, Field.mk "Pump" 3 16 false "" "" 152, Field.mk "Capacity" 3 17 false "" "" 160, Field.mk "Slack" 3 18 false "" "" 168, Field.mk "Sensors" 23 19 false "" "" 176, Field.mk "Wrong" 3 20 false "" "" 200]) := by kernel_rfl
theorem uStateR : Tryz.prog.underlying 27 = some (.struct #[Field.mk "Pos" 3 0 false "" "" 0, Field.mk "Charge" 3 1 false "" "" 8, Field.mk "Bolted" 4 2 false "" "" 16]) := by kernel_rfl
theorem uStepS : Tryz.prog.underlying 51 = some (.struct #[Field.mk "Order" 3 0 false "" "" 0, Field.mk "Power" 4 1 false "" "" 8, Field.mk "Outer" 3 2 false "" "" 16, Field.mk "Inner" 3 3 false "" "" 24]) := by kernel_rfl
theorem cInt : Tryz.prog.cellsOf 3 = 1 := by kernel_rfl
theorem cBool : Tryz.prog.cellsOf 4 = 1 := by kernel_rfl
theorem cString : Tryz.prog.cellsOf 9 = 1 := by kernel_rfl
theorem cInts : Tryz.prog.cellsOf 22 = 1 := by kernel_rfl
theorem cSensor : Tryz.prog.cellsOf 92 = 3 := by kernel_rfl
theorem cSensors : Tryz.prog.cellsOf 23 = 1 := by kernel_rfl
theorem cGate : Tryz.prog.cellsOf 25 = 21 := by kernel_rfl
theorem cState : Tryz.prog.cellsOf 27 = 3 := by kernel_rfl
theorem cStep : Tryz.prog.cellsOf 51 = 4 := by kernel_rfl

section
variable {H : Type} {enc : TypeId × Value → H} {w : World} {spare : Nat → Bool} {held : Bool}
theorem read_int1 {base fuel : Nat} {cs : List Value} {x : DataW H × List MemPlace} (h : DataW.trod enc Tryz.prog w base spare held fuel 3 cs = some x) : ∃ z : Int, cs = [.int .i64 z] := by
  obtain ⟨n, e, _⟩ := DataW.trod_int uInt h
  exact ⟨n, e⟩
/-- A slice whose elements read as rows of cells. -/
theorem read_slice {α : Type} [Inhabited α] (row : α → List Value) (Ok : α → Prop) (size : Nat) (hsz : 0 < size) {t e : TypeId} (ht : Tryz.prog.underlying t = some (.slice e)) (hc : Tryz.prog.cellsOf e = size)
    (hrow : ∀ (n : Nat) (cs : List Value) (x : DataW H × List MemPlace), DataW.trod enc Tryz.prog w 0 spare held n e cs = some x → ∃ r : α, cs = row r ∧ Ok r)
    {fuel : Nat} {v : Value} {x : DataW H × List MemPlace} (h : DataW.trod enc Tryz.prog w 0 spare held fuel t [v] = some x) :
    ∃ (A : Option Addr) (n c : Nat) (l : List α), v = .slice A n c ∧ Tab w w.heap.size A n size (l.map row) ∧ n ≤ maxLen ∧ n ≤ c ∧ ∀ r ∈ l, Ok r := by
  rcases open_slice ht h with ⟨hv, _⟩ | ⟨a, len, cap, m, n, D, Pl, hv, _, hlc, hcap, hm, _, hi⟩
  · cases hv
    exact ⟨none, 0, 0, [], rfl, ⟨rfl, fun h => absurd h (by omega)⟩, Nat.zero_le _, Nat.le_refl _, by intro r hr; cases hr⟩
  · cases hv
    have hlm : len ≤ m := by rw [hm]; split <;> omega
    rw [hc] at hi
    obtain ⟨R, hR⟩ := choose_lt (α := α) (n := len) (p := fun i r => Ok r ∧ w.cells? 0 (a.add (i * size)) size = some (row r)) (fun i hil => by
      obtain ⟨cs', h1, h2⟩ := hi i (by omega)
      obtain ⟨r, rfl, hok⟩ := hrow _ _ _ h2
      exact ⟨r, hok, h1⟩)
    refine ⟨some a, len, cap, (List.range len).map R, rfl, ⟨by simp, fun h0 => ?_⟩, by omega, hlc, fun r hr => ?_⟩
    · obtain ⟨b, off, spot⟩ := a
      have hz := World.cells?_some (hR 0 h0).2
      have hz0 := hz.2.2 0 hsz
      obtain ⟨u0, hget⟩ : ∃ u, (row (R 0))[0]? = some u := ⟨(row (R 0))[0]'(by rw [hz.2.1]; exact hsz), List.getElem?_eq_getElem _⟩
      rw [hget] at hz0
      simp only [Nat.zero_mul] at hz0
      have hspot : spot = none := by
        have := World.cell?_spot hz0
        simpa [Addr.add] using this
      subst hspot
      have hlt := World.block_lt_of_cell? w _ hz0
      refine ⟨b, off, rfl, by simpa [Addr.add] using hlt, fun k r hr j u hj => ?_⟩
      have hk : k < len := by have := (List.getElem?_eq_some_iff.1 hr).1; simpa using this
      have hr' : r = row (R k) := by simpa [hk] using hr.symm
      subst hr'
      have hc' := World.cells?_some (hR k hk).2
      have hjl : j < size := by have := (List.getElem?_eq_some_iff.1 hj).1; rw [hc'.2.1] at this; exact this
      have := hc'.2.2 j hjl
      rw [hj, Go.Proofs.YtmhfnnpbnocafaaGreat.add_of_add, add_plain] at this
      rw [show off + (k * size + j) = off + k * size + j by omega] at this
      exact this
    · obtain ⟨i, hi', rfl⟩ := List.mem_map.1 hr
      exact (hR i (by simpa using hi')).1
instance : Inhabited Sn := ⟨⟨0, 0, 0⟩⟩
instance : Inhabited Gs := ⟨⟨0, 0, false⟩⟩
instance : Inhabited Gt := ⟨⟨0, false, 0, 0⟩⟩
instance : Inhabited Ga := ⟨⟨⟨#[]⟩, 0, 0, none, 0, 0, [], 0, 0, 0, 0, 0, 0, 0, 0, 0, 0, 0, 0, 0, 0, 0, none, 0, 0, [], 0⟩⟩
theorem read_sensor {base fuel : Nat} {cs : List Value} {x : DataW H × List MemPlace} (h : DataW.trod enc Tryz.prog w base spare held fuel 92 cs = some x) : ∃ s : Sn, cs = s.cells := by
  obtain ⟨xs, n, _, _, hlen, hxl, hf⟩ := DataW.trod_struct uSensor h
  rw [cSensor] at hlen
  obtain ⟨a, b, c, rfl⟩ := len3 hlen
  obtain ⟨y0, y1, y2, rfl⟩ := len3 hxl
  have h0 : DataW.trod enc Tryz.prog w base spare held n 3 [a] = some y0 := by simpa [cInt] using hf 0 _ rfl
  have h1 : DataW.trod enc Tryz.prog w base spare held n 3 [b] = some y1 := by simpa [cInt] using hf 1 _ rfl
  have h2 : DataW.trod enc Tryz.prog w base spare held n 3 [c] = some y2 := by simpa [cInt] using hf 2 _ rfl
  obtain ⟨p, e0⟩ := read_int1 h0
  obtain ⟨q, e1⟩ := read_int1 h1
  obtain ⟨r, e2⟩ := read_int1 h2
  cases e0
  cases e1
  cases e2
  exact ⟨⟨p, q, r⟩, rfl⟩
theorem read_state {base fuel : Nat} {cs : List Value} {x : DataW H × List MemPlace} (h : DataW.trod enc Tryz.prog w base spare held fuel 27 cs = some x) : ∃ s : Gs, cs = s.cells := by
  obtain ⟨xs, n, _, _, hlen, hxl, hf⟩ := DataW.trod_struct uStateR h
  rw [cState] at hlen
  obtain ⟨a, b, c, rfl⟩ := len3 hlen
  obtain ⟨y0, y1, y2, rfl⟩ := len3 hxl
  have h0 : DataW.trod enc Tryz.prog w base spare held n 3 [a] = some y0 := by simpa [cInt] using hf 0 _ rfl
  have h1 : DataW.trod enc Tryz.prog w base spare held n 3 [b] = some y1 := by simpa [cInt] using hf 1 _ rfl
  have h2 : DataW.trod enc Tryz.prog w base spare held n 4 [c] = some y2 := by simpa [cBool] using hf 2 _ rfl
  obtain ⟨p, e0⟩ := read_int1 h0
  obtain ⟨q, e1⟩ := read_int1 h1
  obtain ⟨r, e2, _⟩ := DataW.trod_bool uBool h2
  cases e0
  cases e1
  cases e2
  exact ⟨⟨p, q, r⟩, rfl⟩
theorem read_step {base fuel : Nat} {cs : List Value} {x : DataW H × List MemPlace} (h : DataW.trod enc Tryz.prog w base spare held fuel 51 cs = some x) : ∃ t : Gt, cs = t.cells := by
  obtain ⟨xs, n, _, _, hlen, hxl, hf⟩ := DataW.trod_struct uStepS h
  rw [cStep] at hlen
  obtain ⟨a, b, c, d, rfl⟩ := len4 hlen
  obtain ⟨y0, y1, y2, y3, rfl⟩ := len4 hxl
  have h0 : DataW.trod enc Tryz.prog w base spare held n 3 [a] = some y0 := by simpa [cInt] using hf 0 _ rfl
  have h1 : DataW.trod enc Tryz.prog w base spare held n 4 [b] = some y1 := by simpa [cBool] using hf 1 _ rfl
  have h2 : DataW.trod enc Tryz.prog w base spare held n 3 [c] = some y2 := by simpa [cInt] using hf 2 _ rfl
  have h3 : DataW.trod enc Tryz.prog w base spare held n 3 [d] = some y3 := by simpa [cInt] using hf 3 _ rfl
  obtain ⟨p, e0⟩ := read_int1 h0
  obtain ⟨r, e1, _⟩ := DataW.trod_bool uBool h1
  obtain ⟨q, e2⟩ := read_int1 h2
  obtain ⟨u, e3⟩ := read_int1 h3
  cases e0
  cases e1
  cases e2
  cases e3
  exact ⟨⟨p, r, q, u⟩, rfl⟩

set_option maxHeartbeats 2000000 in
theorem read_gate {fuel : Nat} {cs : List Value} {x : DataW H × List MemPlace} (h : DataW.trod enc Tryz.prog w 0 spare held fuel 25 cs = some x) : ∃ g : Ga, cs = g.cells ∧ g.At w w.heap.size := by
  obtain ⟨xs, n, _, _, hlen, hxl, hf⟩ := DataW.trod_struct uGateS h
  rw [cGate] at hlen
  obtain ⟨v0, v1, v2, v3, v4, v5, v6, v7, v8, v9, v10, v11, v12, v13, v14, v15, v16, v17, v18, v19, v20, rfl⟩ := len21 hlen
  obtain ⟨y0, y1, y2, y3, y4, y5, y6, y7, y8, y9, y10, y11, y12, y13, y14, y15, y16, y17, y18, y19, y20, rfl⟩ := len21 hxl
  have h0 : DataW.trod enc Tryz.prog w 0 spare held n 9 [v0] = some y0 := by simpa [cString] using hf 0 _ rfl
  have h1 : DataW.trod enc Tryz.prog w 0 spare held n 3 [v1] = some y1 := by simpa [cInt] using hf 1 _ rfl
  have h2 : DataW.trod enc Tryz.prog w 0 spare held n 3 [v2] = some y2 := by simpa [cInt] using hf 2 _ rfl
  have h4 : DataW.trod enc Tryz.prog w 0 spare held n 3 [v4] = some y4 := by simpa [cInt] using hf 4 _ rfl
  have h5 : DataW.trod enc Tryz.prog w 0 spare held n 3 [v5] = some y5 := by simpa [cInt] using hf 5 _ rfl
  have h6 : DataW.trod enc Tryz.prog w 0 spare held n 3 [v6] = some y6 := by simpa [cInt] using hf 6 _ rfl
  have h7 : DataW.trod enc Tryz.prog w 0 spare held n 3 [v7] = some y7 := by simpa [cInt] using hf 7 _ rfl
  have h8 : DataW.trod enc Tryz.prog w 0 spare held n 3 [v8] = some y8 := by simpa [cInt] using hf 8 _ rfl
  have h9 : DataW.trod enc Tryz.prog w 0 spare held n 3 [v9] = some y9 := by simpa [cInt] using hf 9 _ rfl
  have h10 : DataW.trod enc Tryz.prog w 0 spare held n 3 [v10] = some y10 := by simpa [cInt] using hf 10 _ rfl
  have h11 : DataW.trod enc Tryz.prog w 0 spare held n 3 [v11] = some y11 := by simpa [cInt] using hf 11 _ rfl
  have h12 : DataW.trod enc Tryz.prog w 0 spare held n 3 [v12] = some y12 := by simpa [cInt] using hf 12 _ rfl
  have h13 : DataW.trod enc Tryz.prog w 0 spare held n 3 [v13] = some y13 := by simpa [cInt] using hf 13 _ rfl
  have h14 : DataW.trod enc Tryz.prog w 0 spare held n 3 [v14] = some y14 := by simpa [cInt] using hf 14 _ rfl
  have h15 : DataW.trod enc Tryz.prog w 0 spare held n 3 [v15] = some y15 := by simpa [cInt] using hf 15 _ rfl
  have h16 : DataW.trod enc Tryz.prog w 0 spare held n 3 [v16] = some y16 := by simpa [cInt] using hf 16 _ rfl
  have h17 : DataW.trod enc Tryz.prog w 0 spare held n 3 [v17] = some y17 := by simpa [cInt] using hf 17 _ rfl
  have h18 : DataW.trod enc Tryz.prog w 0 spare held n 3 [v18] = some y18 := by simpa [cInt] using hf 18 _ rfl
  have h20 : DataW.trod enc Tryz.prog w 0 spare held n 3 [v20] = some y20 := by simpa [cInt] using hf 20 _ rfl
  have h3 : DataW.trod enc Tryz.prog w 0 spare held n 22 [v3] = some y3 := by simpa [cInts] using hf 3 _ rfl
  have h19 : DataW.trod enc Tryz.prog w 0 spare held n 23 [v19] = some y19 := by simpa [cSensors] using hf 19 _ rfl
  clear hf hlen hxl h
  obtain ⟨s, e0, _, hs⟩ := DataW.trod_string uString h0
  cases e0
  obtain ⟨z1, e1⟩ := read_int1 h1
  cases e1
  obtain ⟨z2, e2⟩ := read_int1 h2
  cases e2
  obtain ⟨z4, e4⟩ := read_int1 h4
  cases e4
  obtain ⟨z5, e5⟩ := read_int1 h5
  cases e5
  obtain ⟨z6, e6⟩ := read_int1 h6
  cases e6
  obtain ⟨z7, e7⟩ := read_int1 h7
  cases e7
  obtain ⟨z8, e8⟩ := read_int1 h8
  cases e8
  obtain ⟨z9, e9⟩ := read_int1 h9
  cases e9
  obtain ⟨z10, e10⟩ := read_int1 h10
  cases e10
  obtain ⟨z11, e11⟩ := read_int1 h11
  cases e11
  obtain ⟨z12, e12⟩ := read_int1 h12
  cases e12
  obtain ⟨z13, e13⟩ := read_int1 h13
  cases e13
  obtain ⟨z14, e14⟩ := read_int1 h14
  cases e14
  obtain ⟨z15, e15⟩ := read_int1 h15
  cases e15
  obtain ⟨z16, e16⟩ := read_int1 h16
  cases e16
  obtain ⟨z17, e17⟩ := read_int1 h17
  cases e17
  obtain ⟨z18, e18⟩ := read_int1 h18
  cases e18
  obtain ⟨z20, e20⟩ := read_int1 h20
  cases e20
  obtain ⟨oA, on, oc, os, rfl, ho, hon, _, _⟩ := read_slice (fun i : Int => [Value.int .i64 i]) (fun _ => True) 1 (by omega) uInts cInt (fun n cs x h => by obtain ⟨z, e⟩ := read_int1 h; exact ⟨z, e, trivial⟩) h3
  obtain ⟨sA, sn, sc, ss, rfl, hsn, hsl, _, _⟩ := read_slice Sn.cells (fun _ => True) 3 (by omega) uSensors cSensor (fun n cs x h => by obtain ⟨z, e⟩ := read_sensor h; exact ⟨z, e, trivial⟩) h19
  exact ⟨⟨s, z1, z2, oA, on, oc, os, z4, z5, z6, z7, z8, z9, z10, z11, z12, z13, z14, z15, z16, z17, z18, sA, sn, sc, ss, z20⟩, rfl, ⟨ho, hsn, hs, hon, hsl⟩⟩
end
end Go.Proofs.YtmhfnnpbnocafaaGreat

namespace Go.Proofs.YtmhfnnpbnocafaaGreat
open Go.ChangeShapes Go.WideShapes Go.ChangeAt Go.RowKit Go.Deep
set_option linter.unusedSimpArgs false
set_option linter.unusedVariables false

section
variable {H : Type} {enc : TypeId × Value → H} {w : World} {spare : Nat → Bool} {held : Bool}
end
end Go.Proofs.YtmhfnnpbnocafaaGreat

namespace Go.Proofs.YtmhfnnpbnocafaaGreat
open Go.ChangeShapes Go.WideShapes Go.ChangeAt Go.RowKit
set_option linter.unusedVariables false
set_option linter.unusedSimpArgs false

theorem own : ownKnob Tryz.prog.godebug = none := by kernel_rfl
theorem laidOut : laidOutB Tryz.prog = true := by kernel_rfl

section
variable {H : Type} {enc : TypeId × Value → H} {P : Program}
/-- The row's last step of a call that left 'Below'. -/
theorem post_below {f : Func} {s : ChangeSpec} {apart fresh handsOn again : Bool} {W W' : World} {args : Array Value} {v : Value} {ds gs : List (DataW H)} {before pa pv : List MemPlace}
    (hW : DataW.Whole enc P f.params.toList s.vars apart W args.toList ds gs before)
    (hres : ∀ (b : Nat) (sp : Nat → Bool) (hd : Bool), DataW.TrodAll enc P W' b sp hd f.resultTypes.toList (v.resultList f.resultTypes.size) (s.fn H (ds ++ gs)).results [])
    (hargs : ∀ sp : Nat → Bool, (∀ p ∈ before, sp p.block = true) → DataW.TrodAll enc P W' 0 sp true f.params.toList args.toList (s.fn H (ds ++ gs)).args pa)
    (hvars : ∀ sp : Nat → Bool, (∀ p ∈ before, sp p.block = true) → DataW.TrodVars enc P W' sp s.vars (s.fn H (ds ++ gs)).vars pv)
    (hps : before = pa ++ pv) (hb : Below W.heap.size W W')
    (hok : ∀ (j : Nat) (t : TypeId) (r : Value), f.resultTypes[j]? = some t → (v.resultList f.resultTypes.size)[j]? = some r → Value.okWide P W' .any 0 t r) :
    s.post enc P f apart fresh handsOn again W args v W' := by
  have hlt : ∀ p ∈ before, p.block < W.heap.size := fun p hp => hW.lt p hp
  have hold : ∀ p ∈ before, (fun b => decide (b < W.heap.size)) p.block = true := fun p hp => by simpa using hlt p hp
  refine ⟨ds, gs, before, [], pa, pv, hW, hres _ _ _, hargs _ hold, hvars _ hold, World.keptBut_mono (fun p hp => ⟨hp, ?_⟩) (hb.frame (· ∈ before)), fun _ => ?_⟩
  · rw [hps, List.mem_append] at hp
    exact Or.inr hp
  · obtain ⟨_, _, _, _, _, hz, hn⟩ := hW
    refine ⟨hok, _, _, ([] ++ pa) ++ pv, ⟨[] ++ pa, pv, trodAll_append (hargs _ (fun _ _ => rfl)) (hres _ _ _), hvars _ (fun _ _ => rfl), rfl, ?_, ?_⟩, ?_⟩
    · intro b off hp
      have hin : MemPlace.cell b off ∈ before := by rw [hps]; simpa using hp
      rw [hb.frozen (hlt _ hin)]
      exact hz b off hin
    · intro ha
      have := hn ha
      rw [hps] at this
      simpa using this
    · intro p hp _
      rw [hps]
      simpa using hp
end

set_option maxRecDepth 100000 in
theorem okWide_arr_ {t e : TypeId} {n m : Nat} (ht : Tryz.prog.underlying t = some (.array n e)) (hc : Tryz.prog.cellsOf t = m) {w : World} {r : Reach} {base : Nat} {v : Value} (h : Value.okWide Tryz.prog w r base t v) : ∃ cs, v = .agg cs ∧ cs.size = m := by
  simp only [Value.okWide, ht] at h
  obtain ⟨cs, h1, h2, _⟩ := h
  exact ⟨cs, h1, by rw [h2, hc]⟩

end Go.Proofs.YtmhfnnpbnocafaaGreat
