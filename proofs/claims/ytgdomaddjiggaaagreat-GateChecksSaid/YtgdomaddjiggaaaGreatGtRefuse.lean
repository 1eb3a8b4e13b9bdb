/- Why an order is refused; whether all gates are shut. -/
import Derived.Test.YtgdomaddjiggaaaGreatGtKept
import Derived.Test.YtgdomaddjiggaaaGreatGtStates
namespace Go.Proofs.YtgdomaddjiggaaaGreat
open Go.RowKit
set_option linter.unusedSimpArgs false
set_option linter.unusedVariables false

set_option maxHeartbeats 1000000 in
theorem containsR_any (rs : List Gr) (p : Nat → Bool) (rA : Option Addr) (rn rc : Nat) (f : FuncId) (c1 c2 : Value) (w : World) (ht : Tab w w.heap.size rA rn 4 (rs.map Gr.cells)) (hn : rn ≤ 1000)
    (hp : ∀ (r : Value) (W : World), Sem.run Tryz.prog (callFunc f #[r, c1, c2]) W = .ok (.enter f #[r, c1, c2]) W)
    (hc : ∀ (k : Nat) (r : Gr) (W : World), rs[k]? = some r → Below w.heap.size w W → Calls Tryz.prog f #[r.v, c1, c2] W fun e w' => e = .returned (.bool (p k)) ∧ Below W.heap.size W w') :
    Calls Tryz.prog 181 #[.slice rA rn rc, .func (.func f) #[] #[c1, c2]] w fun e w' => e = .returned (.bool ((List.range rn).any p)) ∧ Below w.heap.size w w' := by
  have HI := Lib.hid (indexR_any rs p rA rn rc f c1 c2 w ht hn hp hc)
  have hx := idx_any p 0 rn
  simp only [Nat.zero_add] at hx
  have hx' : (List.range rn).any p = decide (0 ≤ idxF p 0 rn) := hx.symm
  rw [hx']
  generalize idxF p 0 rn = ix at *
  clear ht hp hc hx hx'
  go_enter Tryz.func181, Tryz.ntmps181
  go_wp2_with fail
  refine HI.out.mono ?_
  rintro e w1 ⟨rfl, hb1⟩
  go_wp2
  go_ret
  exact ⟨rfl, (by repeat (first | exact Below.refl _ _ | assumption | (refine Below.setCell ?_ (by first | omega | (simp; done) | (simp; omega)) _) | (refine Below.alloc ?_ (by first | omega | (simp; done) | (simp; omega)) _) | refine Below.drew ?_ | (refine below_thru ?_ (by assumption) (by first | omega | (simp; done) | (simp; omega))) | refine below_drewN ?_ _))⟩

/-- The rules for a gate are kept. -/
def keptB (ms : List (Ga × Gs)) (rs : List Gr) (rn : Nat) (i : Int) : Bool := !(List.range rn).any fun k => brokenB ms i (rs.getD k ⟨0, 0, 0, 0⟩)

set_option maxRecDepth 100000 in
set_option maxHeartbeats 1000000 in
theorem kept_any (ms : List (Ga × Gs)) (rs : List Gr) (i : Int) (b n c : Nat) (rA : Option Addr) (rn rc : Nat) (w : World) (hm : Ms w b ms) (hl : ms.length = n) (hn : n ≤ 1000) (ht : Tab w w.heap.size rA rn 4 (rs.map Gr.cells)) (hrn : rn ≤ 1000) (hr : ∀ r ∈ rs, 0 ≤ r.other ∧ r.other < n) :
    Calls Tryz.prog 168 #[setV (some ⟨b, 0, none⟩) n c rA rn rc, .int .i64 i] w fun e w' => e = .returned (.bool (keptB ms rs rn i)) ∧ Below w.heap.size w w' := by
  have HC := Lib.hid (fun (W : World) (bs bg : Nat) (hW : Below w.heap.size w W) (h1 : Blk W bg 3 #[.int .i64 i]) (h2 : Blk W bs 114 #[.slice (some ⟨b, 0, none⟩) n c, .slice rA rn rc]) =>
    containsR_any rs (fun k => brokenB ms i (rs.getD k ⟨0, 0, 0, 0⟩)) rA rn rc 180 (.pointer (some ⟨bg, 0, none⟩)) (.pointer (some ⟨bs, 0, none⟩)) W ((ht.below hW).more hW.size) hrn
      (fun r W' => by show Sem.run Tryz.prog (callFunc _ _) W' = _; kernel_rfl)
      (fun k r W' hk hb => by
        have hmem := List.mem_of_getElem? hk
        have e : rs.getD k ⟨0, 0, 0, 0⟩ = r := by rw [List.getD_eq_getElem?_getD, hk]; rfl
        simp only [e]
        exact kept1_any ms r i b n c bg bs rA rn rc W' ((hm.below hW hm.lt).grow hb) hl hn (hr r hmem).1 (hr r hmem).2 (h1.thru hb h1.lt) (h2.thru hb h2.lt)))
  have hf : keptB ms rs rn i = !(List.range rn).any fun k => brokenB ms i (rs.getD k ⟨0, 0, 0, 0⟩) := rfl
  rw [hf]
  clear hf
  generalize (List.range rn).any (fun k => brokenB ms i (rs.getD k ⟨0, 0, 0, 0⟩)) = bb at *
  clear hm hl ht hr
  go_enter Tryz.func168, Tryz.ntmps168
  go_wp2_with fail
  refine (HC.out _ w.heap.size (w.heap.size + 1) (by repeat (first | exact Below.refl _ _ | assumption | (refine Below.setCell ?_ (by first | omega | (simp; done) | (simp; omega)) _) | (refine Below.alloc ?_ (by first | omega | (simp; done) | (simp; omega)) _) | refine Below.drew ?_ | (refine below_thru ?_ (by assumption) (by first | omega | (simp; done) | (simp; omega))) | refine below_drewN ?_ _)) (Blk.new' (w.alloc _) _ _ (by simp)) ((Blk.new w _ _).alloc _)).mono ?_
  rintro e w1 ⟨rfl, hb1⟩
  go_wp2
  go_ret
  exact ⟨rfl, (by repeat (first | exact Below.refl _ _ | assumption | (refine Below.setCell ?_ (by first | omega | (simp; done) | (simp; omega)) _) | (refine Below.alloc ?_ (by first | omega | (simp; done) | (simp; omega)) _) | refine Below.drew ?_ | (refine below_thru ?_ (by assumption) (by first | omega | (simp; done) | (simp; omega))) | refine below_drewN ?_ _))⟩

def boltAt (ms : List (Ga × Gs)) (i : Nat) : Bool := ((ms[i]?).map fun m => m.2.bolted).getD false
def refusalF (ms : List (Ga × Gs)) (rs : List Gr) (rn i : Nat) (order : Int) (ship : Bool) : Int :=
  if order = 0 then 0 else if boltAt ms i = true then 130 else if ship = true then 131 else if keptB ms rs rn i = true then 0 else 132

set_option maxRecDepth 100000 in
set_option maxHeartbeats 2000000 in
theorem refusal_any (ms : List (Ga × Gs)) (rs : List Gr) (i : Nat) (order : Int) (ship : Bool) (b n c : Nat) (rA : Option Addr) (rn rc : Nat) (w : World) (hm : Ms w b ms) (hl : ms.length = n) (hn : n ≤ 1000) (hi : i < n) (ht : Tab w w.heap.size rA rn 4 (rs.map Gr.cells)) (hrn : rn ≤ 1000) (hr : ∀ r ∈ rs, 0 ≤ r.other ∧ r.other < n) :
    Calls Tryz.prog 140 #[setV (some ⟨b, 0, none⟩) n c rA rn rc, .int .i64 (i : Int), .int .i64 order, .bool ship] w fun e w' => e = .returned (.int .i64 (refusalF ms rs rn i order ship)) ∧ Below w.heap.size w w' := by
  have HK := Lib.hid (fun (W : World) (hW : Below w.heap.size w W) => kept_any ms rs i b n c rA rn rc W (hm.below hW hm.lt) hl hn ((ht.below hW).more hW.size) hrn hr)
  obtain ⟨m, hmi⟩ : ∃ m, ms[i]? = some m := ⟨_, List.getElem?_eq_getElem (by omega)⟩
  have hc : w.cell? ⟨b, i * 24 + 23, none⟩ = some (.bool (boltAt ms i)) := by
    have := hm.rng i m hmi 23 (.bool m.2.bolted) rfl
    unfold boltAt
    rw [hmi]
    exact this
  have hbl := hm.lt
  have hf : refusalF ms rs rn i order ship = if order = 0 then 0 else if boltAt ms i = true then 130 else if ship = true then 131 else if keptB ms rs rn i = true then 0 else 132 := rfl
  rw [hf]
  clear hf
  have j0 : (0 : Int) ≤ (i : Int) := Int.natCast_nonneg _
  have j1 : (i : Int) < (n : Int) := by omega
  generalize keptB ms rs rn i = kb at *
  generalize boltAt ms i = bo at *
  clear hm hl ht hr hmi
  by_cases h0 : order = 0
  · subst h0
    go_enter Tryz.func140, Tryz.ntmps140
    go_wp2
    go_ret
    exact ⟨by simp, (by repeat (first | exact Below.refl _ _ | assumption | (refine Below.setCell ?_ (by first | omega | (simp; done) | (simp; omega)) _) | (refine Below.alloc ?_ (by first | omega | (simp; done) | (simp; omega)) _) | refine Below.drew ?_ | (refine below_thru ?_ (by assumption) (by first | omega | (simp; done) | (simp; omega))) | refine below_drewN ?_ _))⟩
  · have h0' : (order == 0) = false := by rw [beq_eq_false_iff_ne]; exact h0
    rw [if_neg h0]
    clear h0
    cases bo
    · cases ship
      · cases kb
        all_goals
          go_enter Tryz.func140, Tryz.ntmps140
          go_wp2_with fail
          refine (HK.out _ (by repeat (first | exact Below.refl _ _ | assumption | (refine Below.setCell ?_ (by first | omega | (simp; done) | (simp; omega)) _) | (refine Below.alloc ?_ (by first | omega | (simp; done) | (simp; omega)) _) | refine Below.drew ?_ | (refine below_thru ?_ (by assumption) (by first | omega | (simp; done) | (simp; omega))) | refine below_drewN ?_ _))).mono ?_
          rintro e w1 ⟨rfl, hb1⟩
          go_wp2
          go_ret
          exact ⟨by simp, (by repeat (first | exact Below.refl _ _ | assumption | (refine Below.setCell ?_ (by first | omega | (simp; done) | (simp; omega)) _) | (refine Below.alloc ?_ (by first | omega | (simp; done) | (simp; omega)) _) | refine Below.drew ?_ | (refine below_thru ?_ (by assumption) (by first | omega | (simp; done) | (simp; omega))) | refine below_drewN ?_ _))⟩
      · go_enter Tryz.func140, Tryz.ntmps140
        go_wp2
        go_ret
        exact ⟨by simp, (by repeat (first | exact Below.refl _ _ | assumption | (refine Below.setCell ?_ (by first | omega | (simp; done) | (simp; omega)) _) | (refine Below.alloc ?_ (by first | omega | (simp; done) | (simp; omega)) _) | refine Below.drew ?_ | (refine below_thru ?_ (by assumption) (by first | omega | (simp; done) | (simp; omega))) | refine below_drewN ?_ _))⟩
    · go_enter Tryz.func140, Tryz.ntmps140
      go_wp2
      go_ret
      exact ⟨by simp, (by repeat (first | exact Below.refl _ _ | assumption | (refine Below.setCell ?_ (by first | omega | (simp; done) | (simp; omega)) _) | (refine Below.alloc ?_ (by first | omega | (simp; done) | (simp; omega)) _) | refine Below.drew ?_ | (refine below_thru ?_ (by assumption) (by first | omega | (simp; done) | (simp; omega))) | refine below_drewN ?_ _))⟩
end Go.Proofs.YtgdomaddjiggaaaGreat
