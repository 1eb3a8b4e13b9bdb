/- Arguments read: what a gauge, a table, a list of them are in memory, out of their reading as data. -/
import Derived.Test.YtncidhoojgncgaaGreatTdKnows
import Derived.ProofKit
import Derived.OpenShut
import Derived.Deep.Slices
namespace Go.Proofs.YtncidhoojgncgaaGreat
open Go.ChangeShapes Go.WideShapes Go.ChangeAt Go.RowKit Go.Deep
set_option linter.unusedSimpArgs false
set_option linter.unusedVariables false

theorem len2 {α : Type} {l : List α} (h : l.length = 2) : ∃ a b, l = [a, b] := by
  match l, h with
  | [a, b], _ => exact ⟨a, b, rfl⟩
theorem len3 {α : Type} {l : List α} (h : l.length = 3) : ∃ a b c, l = [a, b, c] := by
  match l, h with
  | [a, b, c], _ => exact ⟨a, b, c, rfl⟩
theorem len5 {α : Type} {l : List α} (h : l.length = 5) : ∃ a b c d e, l = [a, b, c, d, e] := by
  match l, h with
  | [a, b, c, d, e], _ => exact ⟨a, b, c, d, e, rfl⟩
theorem uInt : Tryz.prog.underlying 3 = some (.int .i64) := by kernel_rfl
theorem uString : Tryz.prog.underlying 9 = some .string := by kernel_rfl
theorem uSpan : Tryz.prog.underlying 32 = some (.struct #[Field.mk "Lo" 3 0 false "" "" 0, Field.mk "Hi" 3 1 false "" "" 8]) := by kernel_rfl
theorem uDatum : Tryz.prog.underlying 94 = some (.struct #[Field.mk "From" 3 0 false "" "" 0, Field.mk "Shift" 32 1 false "" "" 8]) := by kernel_rfl
theorem uReading : Tryz.prog.underlying 117 = some (.struct #[Field.mk "Tick" 3 0 false "" "" 0, Field.mk "Value" 3 1 false "" "" 8]) := by kernel_rfl
theorem uGauge : Tryz.prog.underlying 47 = some (.struct #[Field.mk "Name" 9 0 false "" "" 0, Field.mk "Error" 3 1 false "" "" 16, Field.mk "Rate" 3 2 false "" "" 24, Field.mk "Datums" 44 3 false "" "" 32, Field.mk "Readings" 45 4 false "" "" 56]) := by kernel_rfl
theorem uDatums : Tryz.prog.underlying 44 = some (.slice 94) := by kernel_rfl
theorem uReadings : Tryz.prog.underlying 45 = some (.slice 117) := by kernel_rfl
theorem cInt : Tryz.prog.cellsOf 3 = 1 := by kernel_rfl
theorem cSpan : Tryz.prog.cellsOf 32 = 2 := by kernel_rfl
theorem cDatum : Tryz.prog.cellsOf 94 = 3 := by kernel_rfl
theorem cReading : Tryz.prog.cellsOf 117 = 2 := by kernel_rfl
theorem cGauge : Tryz.prog.cellsOf 47 = 5 := by kernel_rfl
theorem cString : Tryz.prog.cellsOf 9 = 1 := by kernel_rfl
theorem cDatums : Tryz.prog.cellsOf 44 = 1 := by kernel_rfl
theorem cReadings : Tryz.prog.cellsOf 45 = 1 := by kernel_rfl

section
variable {H : Type} {enc : TypeId × Value → H} {w : World} {spare : Nat → Bool} {held : Bool}

theorem read_span {base fuel : Nat} {cs : List Value} {x : DataW H × List MemPlace} (h : DataW.trod enc Tryz.prog w base spare held fuel 32 cs = some x) : ∃ lo hi : Int, cs = [.int .i64 lo, .int .i64 hi] := by
  obtain ⟨xs, n, _, _, hlen, hxl, hf⟩ := DataW.trod_struct uSpan h
  rw [cSpan] at hlen
  obtain ⟨a, b, rfl⟩ := len2 hlen
  · skip
    obtain ⟨y0, y1, rfl⟩ := len2 hxl
    · have h0 : DataW.trod enc Tryz.prog w base spare held n 3 [a] = some y0 := by simpa [cInt] using hf 0 _ rfl
      have h1 : DataW.trod enc Tryz.prog w base spare held n 3 [b] = some y1 := by simpa [cInt] using hf 1 _ rfl
      obtain ⟨p, e0, _, _⟩ := DataW.trod_int uInt h0
      obtain ⟨q, e1, _, _⟩ := DataW.trod_int uInt h1
      cases e0
      cases e1
      exact ⟨p, q, rfl⟩
theorem read_datum {base fuel : Nat} {cs : List Value} {x : DataW H × List MemPlace} (h : DataW.trod enc Tryz.prog w base spare held fuel 94 cs = some x) : ∃ d : Dat, cs = d.cells := by
  obtain ⟨xs, n, _, _, hlen, hxl, hf⟩ := DataW.trod_struct uDatum h
  rw [cDatum] at hlen
  obtain ⟨a, b, c, rfl⟩ := len3 hlen
  · skip
    obtain ⟨y0, y1, rfl⟩ := len2 hxl
    · have h0 : DataW.trod enc Tryz.prog w base spare held n 3 [a] = some y0 := by simpa [cInt] using hf 0 _ rfl
      have h1 : DataW.trod enc Tryz.prog w base spare held n 32 [b, c] = some y1 := by simpa [cSpan] using hf 1 _ rfl
      obtain ⟨p, e0, _, _⟩ := DataW.trod_int uInt h0
      obtain ⟨lo, hi, e1⟩ := read_span h1
      cases e0
      cases e1
      exact ⟨⟨p, lo, hi⟩, rfl⟩
theorem read_reading {base fuel : Nat} {cs : List Value} {x : DataW H × List MemPlace} (h : DataW.trod enc Tryz.prog w base spare held fuel 117 cs = some x) : ∃ d : Rd, cs = d.cells := by
  obtain ⟨xs, n, _, _, hlen, hxl, hf⟩ := DataW.trod_struct uReading h
  rw [cReading] at hlen
  obtain ⟨a, b, rfl⟩ := len2 hlen
  · skip
    obtain ⟨y0, y1, rfl⟩ := len2 hxl
    · have h0 : DataW.trod enc Tryz.prog w base spare held n 3 [a] = some y0 := by simpa [cInt] using hf 0 _ rfl
      have h1 : DataW.trod enc Tryz.prog w base spare held n 3 [b] = some y1 := by simpa [cInt] using hf 1 _ rfl
      obtain ⟨p, e0, _, _⟩ := DataW.trod_int uInt h0
      obtain ⟨q, e1, _, _⟩ := DataW.trod_int uInt h1
      cases e0
      cases e1
      exact ⟨⟨p, q⟩, rfl⟩

/-- A slice whose elements read as rows of cells. -/
theorem read_slice {α : Type} [Inhabited α] (row : α → List Value) (Ok : α → Prop) (size : Nat) (hsz : 0 < size) {t e : TypeId} (ht : Tryz.prog.underlying t = some (.slice e)) (hc : Tryz.prog.cellsOf e = size)
    (hrow : ∀ (n : Nat) (cs : List Value) (x : DataW H × List MemPlace), DataW.trod enc Tryz.prog w 0 spare held n e cs = some x → ∃ r : α, cs = row r ∧ Ok r)
    {fuel : Nat} {v : Value} {x : DataW H × List MemPlace} (h : DataW.trod enc Tryz.prog w 0 spare held fuel t [v] = some x) :
    ∃ (A : Option Addr) (n c : Nat) (l : List α), v = .slice A n c ∧ Tab w w.heap.size A n size (l.map row) ∧ n ≤ maxLen ∧ n ≤ c ∧ ∀ r ∈ l, Ok r := by
  rcases open_slice ht h with ⟨hv, _⟩ | ⟨a, len, cap, m, n, D, Pl, hv, _, hlc, hcap, hm, _, hi⟩
  · cases hv
    exact ⟨none, 0, 0, [], rfl, ⟨rfl, fun h => absurd h (by omega)⟩, Nat.zero_le _, Nat.le_refl _, by intro r hr; cases hr⟩
  · cases hv
    have hlm : len ≤ m := by rw [hm]; split <;> omega
    rw [hc] at hi
    obtain ⟨R, hR⟩ := choose_lt (α := α) (n := len) (p := fun i r => Ok r ∧ w.cells? 0 (a.add (i * size)) size = some (row r)) (fun i hil => by
      obtain ⟨cs', h1, h2⟩ := hi i (by omega)
      obtain ⟨r, rfl, hok⟩ := hrow _ _ _ h2
      exact ⟨r, hok, h1⟩)
    refine ⟨some a, len, cap, (List.range len).map R, rfl, ⟨by simp, fun h0 => ?_⟩, by omega, hlc, fun r hr => ?_⟩
    · obtain ⟨b, off, spot⟩ := a
      have hz := World.cells?_some (hR 0 h0).2
      have hz0 := hz.2.2 0 hsz
      obtain ⟨u0, hget⟩ : ∃ u, (row (R 0))[0]? = some u := ⟨(row (R 0))[0]'(by rw [hz.2.1]; exact hsz), List.getElem?_eq_getElem _⟩
      rw [hget] at hz0
      simp only [Nat.zero_mul] at hz0
      have hspot : spot = none := by
        have := World.cell?_spot hz0
        simpa [Addr.add] using this
      subst hspot
      have hlt := World.block_lt_of_cell? w _ hz0
      refine ⟨b, off, rfl, by simpa [Addr.add] using hlt, fun k r hr j u hj => ?_⟩
      have hk : k < len := by have := (List.getElem?_eq_some_iff.1 hr).1; simpa using this
      have hr' : r = row (R k) := by simpa [hk] using hr.symm
      subst hr'
      have hc' := World.cells?_some (hR k hk).2
      have hjl : j < size := by have := (List.getElem?_eq_some_iff.1 hj).1; rw [hc'.2.1] at this; exact this
      have := hc'.2.2 j hjl
      rw [hj, Go.Proofs.YtncidhoojgncgaaGreat.add_of_add, add_plain] at this
      rw [show off + (k * size + j) = off + k * size + j by omega] at this
      exact this
    · obtain ⟨i, hi', rfl⟩ := List.mem_map.1 hr
      exact (hR i (by simpa using hi')).1

instance : Inhabited Dat := ⟨⟨0, 0, 0⟩⟩
instance : Inhabited Rd := ⟨⟨0, 0⟩⟩

theorem read_gauge {fuel : Nat} {cs : List Value} {x : DataW H × List MemPlace} (h : DataW.trod enc Tryz.prog w 0 spare held fuel 47 cs = some x) : ∃ g : Gg, Value.agg cs.toArray = g.v ∧ g.At w w.heap.size := by
  obtain ⟨xs, n, _, _, hlen, hxl, hf⟩ := DataW.trod_struct uGauge h
  rw [cGauge] at hlen
  obtain ⟨a, b, c, d, e, rfl⟩ := len5 hlen
  · skip
    obtain ⟨y0, y1, y2, y3, y4, rfl⟩ := len5 hxl
    · have h0 : DataW.trod enc Tryz.prog w 0 spare held n 9 [a] = some y0 := by simpa [cString] using hf 0 _ rfl
      have h1 : DataW.trod enc Tryz.prog w 0 spare held n 3 [b] = some y1 := by simpa [cInt] using hf 1 _ rfl
      have h2 : DataW.trod enc Tryz.prog w 0 spare held n 3 [c] = some y2 := by simpa [cInt] using hf 2 _ rfl
      have h3 : DataW.trod enc Tryz.prog w 0 spare held n 44 [d] = some y3 := by simpa [cDatums] using hf 3 _ rfl
      have h4 : DataW.trod enc Tryz.prog w 0 spare held n 45 [e] = some y4 := by simpa [cReadings] using hf 4 _ rfl
      obtain ⟨s, e0, _, hs⟩ := DataW.trod_string uString h0
      obtain ⟨p, e1, _, _⟩ := DataW.trod_int uInt h1
      obtain ⟨q, e2, _, _⟩ := DataW.trod_int uInt h2
      obtain ⟨dA, dn, dc, ds, rfl, hd, hdn, _, _⟩ := read_slice Dat.cells (fun _ => True) 3 (by omega) uDatums cDatum (fun n cs x h => by obtain ⟨r, hr⟩ := read_datum h; exact ⟨r, hr, trivial⟩) h3
      obtain ⟨rA, rn, rc, rs, rfl, hr, hrn, _, _⟩ := read_slice Rd.cells (fun _ => True) 2 (by omega) uReadings cReading (fun n cs x h => by obtain ⟨r, hr⟩ := read_reading h; exact ⟨r, hr, trivial⟩) h4
      cases e0
      cases e1
      cases e2
      exact ⟨⟨s, p, q, dA, dn, dc, ds, rA, rn, rc, rs⟩, rfl, ⟨hd, hr, hs, hdn, hrn⟩⟩
end
end Go.Proofs.YtncidhoojgncgaaGreat
