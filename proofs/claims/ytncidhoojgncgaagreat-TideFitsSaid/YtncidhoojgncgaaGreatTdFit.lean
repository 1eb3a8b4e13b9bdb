/- Fit: the part of a datum's shift that the readings at known levels leave. -/
import Derived.Test.YtncidhoojgncgaaGreatTdCheck
namespace Go.Proofs.YtncidhoojgncgaaGreat
open Go.RowKit
set_option linter.unusedSimpArgs false
set_option linter.unusedVariables false

def areTicksB (a n : Int) : Bool := n == 0 || (tickB a && tickB (a + n - 1))

theorem areTicks_any (a n : Int) (w : World) (h0 : 0 ≤ n) (h1 : n ≤ 1000000000000) :
    Calls Tryz.prog 71 #[.int .i64 a, .int .i64 n] w fun e w' => e = .returned (.bool (areTicksB a n)) ∧ w = w' := by
  by_cases hn : n = 0
  · subst hn
    go_enter Tryz.func71, Tryz.ntmps71
    go_wp2
    go_ret
    exact ⟨rfl, rfl⟩
  · have hn' : (n == 0) = false := by simpa using hn
    cases ht : tickB a
    · go_enter Tryz.func71, Tryz.ntmps71
      go_wp2_with (go_at_call 64; refine (isTick_any _ _).mono ?_; rintro e w1 ⟨rfl, rfl⟩)
      all_goals go_ret
      all_goals exact ⟨by simp [areTicksB, hn', ht], rfl⟩
    · have hb : 0 ≤ a ∧ a ≤ 200000 := by simpa [tickB, betw] using ht
      have hw : IntKind.i64.wrap (IntKind.i64.wrap (a + n) - 1) = a + n - 1 := by rw [IntWalk.i64_in (a + n) (by omega)]; exact IntWalk.i64_in _ (by omega)
      go_enter Tryz.func71, Tryz.ntmps71
      go_wp2_with (go_at_call 64; refine (isTick_any _ _).mono ?_; rintro e w1 ⟨rfl, rfl⟩)
      all_goals go_ret
      all_goals exact ⟨by simp [areTicksB, hn', ht], rfl⟩

abbrev Sp.cells (s : Sp) : List Value := [.int .i64 s.lo, .int .i64 s.hi]
/-- The levels that Fit is given: a slice of spans, in memory. -/
structure LvAt (w : World) (B : Nat) (A : Option Addr) (n : Nat) (l : List Sp) : Prop where
  t : Tab w B A n 2 (l.map Sp.cells)
  n : n ≤ maxLen
theorem LvAt.grow {w w' : World} {A : Option Addr} {n : Nat} {l : List Sp} (h : LvAt w w.heap.size A n l) (hb : Below w.heap.size w w') : LvAt w' w'.heap.size A n l := ⟨h.t.grow hb, h.n⟩
theorem LvAt.len {w : World} {B : Nat} {A : Option Addr} {n : Nat} {l : List Sp} (h : LvAt w B A n l) : l.length = n := by have := h.t.1; simpa using this

def fitB (g : Gg) (d from_ n : Int) (r : Rd) : Bool := betw (r.tick - from_) 0 (n - 1) && ((datFrom g.ds r.tick 0 0 : Nat) : Int) == d
def fitS (g : Gg) (from_ : Int) (l : List Sp) (r : Rd) : Sp := ⟨r.value - g.err - (l.getD (r.tick - from_).toNat ⟨0, 0⟩).hi, r.value + g.err - (l.getD (r.tick - from_).toNat ⟨0, 0⟩).lo⟩
def fitStep (g : Gg) (d from_ : Int) (l : List Sp) (s : Sp) (r : Rd) : Sp := if fitB g d from_ l.length r = true then s.meet (fitS g from_ l r) else s
def fitFold (g : Gg) (d : Nat) (from_ : Int) (l : List Sp) (rs : List Rd) : Sp := rs.foldl (fitStep g d from_ l) ⟨(g.ds.getD d ⟨0, 0, 0⟩).lo, (g.ds.getD d ⟨0, 0, 0⟩).hi⟩

theorem fitFold_take {g : Gg} {d : Nat} {f : Int} {l : List Sp} {rs : List Rd} {k : Nat} {r : Rd} (h : rs[k]? = some r) : fitFold g d f l (rs.take (k + 1)) = fitStep g d f l (fitFold g d f l (rs.take k)) r := by
  have h' := List.getElem?_eq_some_iff.1 h
  unfold fitFold
  rw [List.take_succ_eq_append_getElem h'.1, List.foldl_append, h'.2]; rfl
end Go.Proofs.YtncidhoojgncgaaGreat
