/- What the rows of all laws share: the row's last step, and how arguments read. -/
import Derived.Test.YtncidhoojgncgaaGreatTdRead
import Derived.Test.YtncidhoojgncgaaGreatRows
import Derived.Below
import Derived.Carry
import Derived.ChangeSame
namespace Go.Proofs.YtncidhoojgncgaaGreat
open Go.ChangeShapes Go.WideShapes Go.ChangeAt Go.RowKit
set_option linter.unusedVariables false
set_option linter.unusedSimpArgs false

theorem own : ownKnob Tryz.prog.godebug = none := by kernel_rfl
theorem laidOut : laidOutB Tryz.prog = true := by kernel_rfl

section
variable {H : Type} {enc : TypeId × Value → H} {P : Program}
/-- The row's last step of a call that left 'Below'. -/
theorem post_below {f : Func} {s : ChangeSpec} {apart fresh handsOn again : Bool} {W W' : World} {args : Array Value} {v : Value} {ds gs : List (DataW H)} {before pa pv : List MemPlace}
    (hW : DataW.Whole enc P f.params.toList s.vars apart W args.toList ds gs before)
    (hres : ∀ (b : Nat) (sp : Nat → Bool) (hd : Bool), DataW.TrodAll enc P W' b sp hd f.resultTypes.toList (v.resultList f.resultTypes.size) (s.fn H (ds ++ gs)).results [])
    (hargs : ∀ sp : Nat → Bool, (∀ p ∈ before, sp p.block = true) → DataW.TrodAll enc P W' 0 sp true f.params.toList args.toList (s.fn H (ds ++ gs)).args pa)
    (hvars : ∀ sp : Nat → Bool, (∀ p ∈ before, sp p.block = true) → DataW.TrodVars enc P W' sp s.vars (s.fn H (ds ++ gs)).vars pv)
    (hps : before = pa ++ pv) (hb : Below W.heap.size W W')
    (hok : ∀ (j : Nat) (t : TypeId) (r : Value), f.resultTypes[j]? = some t → (v.resultList f.resultTypes.size)[j]? = some r → Value.okWide P W' .any 0 t r) :
    s.post enc P f apart fresh handsOn again W args v W' := by
  have hlt : ∀ p ∈ before, p.block < W.heap.size := fun p hp => hW.lt p hp
  have hold : ∀ p ∈ before, (fun b => decide (b < W.heap.size)) p.block = true := fun p hp => by simpa using hlt p hp
  refine ⟨ds, gs, before, [], pa, pv, hW, hres _ _ _, hargs _ hold, hvars _ hold, World.keptBut_mono (fun p hp => ⟨hp, ?_⟩) (hb.frame (· ∈ before)), fun _ => ?_⟩
  · rw [hps, List.mem_append] at hp
    exact Or.inr hp
  · obtain ⟨_, _, _, _, _, hz, hn⟩ := hW
    refine ⟨hok, _, _, ([] ++ pa) ++ pv, ⟨[] ++ pa, pv, trodAll_append (hargs _ (fun _ _ => rfl)) (hres _ _ _), hvars _ (fun _ _ => rfl), rfl, ?_, ?_⟩, ?_⟩
    · intro b off hp
      have hin : MemPlace.cell b off ∈ before := by rw [hps]; simpa using hp
      rw [hb.frozen (hlt _ hin)]
      exact hz b off hin
    · intro ha
      have := hn ha
      rw [hps] at this
      simpa using this
    · intro p hp _
      rw [hps]
      simpa using hp
end

theorem uThree : Tryz.prog.underlying 85 = some (.array 3 3) := by kernel_rfl
theorem cThree : Tryz.prog.cellsOf 85 = 3 := by kernel_rfl

set_option maxRecDepth 100000 in
theorem okWide_arr_ {t e : TypeId} {n m : Nat} (ht : Tryz.prog.underlying t = some (.array n e)) (hc : Tryz.prog.cellsOf t = m) {w : World} {r : Reach} {base : Nat} {v : Value} (h : Value.okWide Tryz.prog w r base t v) : ∃ cs, v = .agg cs ∧ cs.size = m := by
  simp only [Value.okWide, ht] at h
  obtain ⟨cs, h1, h2, _⟩ := h
  exact ⟨cs, h1, by rw [h2, hc]⟩

theorem read_three {H : Type} {enc : TypeId × Value → H} {w : World} {base : Nat} {spare : Nat → Bool} {held : Bool} {fuel : Nat} {cs : List Value} {x : DataW H × List MemPlace} (h : DataW.trod enc Tryz.prog w base spare held fuel 85 cs = some x) :
    ∃ a b c : Int, cs = [.int .i64 a, .int .i64 b, .int .i64 c] := by
  obtain ⟨xs, n, _, _, hlen, hxl, hf⟩ := DataW.trod_array uThree h
  rw [cThree] at hlen
  obtain ⟨a, b, c, rfl⟩ := len3 hlen
  obtain ⟨y0, y1, y2, rfl⟩ := len3 hxl
  have h0 : DataW.trod enc Tryz.prog w base spare held n 3 [a] = some y0 := by simpa [cInt] using hf 0 (by omega)
  have h1 : DataW.trod enc Tryz.prog w base spare held n 3 [b] = some y1 := by simpa [cInt] using hf 1 (by omega)
  have h2 : DataW.trod enc Tryz.prog w base spare held n 3 [c] = some y2 := by simpa [cInt] using hf 2 (by omega)
  obtain ⟨p, e0, _⟩ := DataW.trod_int uInt h0
  obtain ⟨q, e1, _⟩ := DataW.trod_int uInt h1
  obtain ⟨r, e2, _⟩ := DataW.trod_int uInt h2
  cases e0
  cases e1
  cases e2
  exact ⟨p, q, r, rfl⟩


theorem len6 {α : Type} {l : List α} (h : l.length = 6) : ∃ a b c d e f, l = [a, b, c, d, e, f] := by
  match l, h with
  | [a, b, c, d, e, f], _ => exact ⟨a, b, c, d, e, f, rfl⟩
theorem uConst : Tryz.prog.underlying 70 = some (.struct #[Field.mk "Name" 9 0 false "" "" 0, Field.mk "Heights" 40 1 false "" "" 16, Field.mk "Offset" 3 2 false "" "" 40, Field.mk "Step" 3 3 false "" "" 48, Field.mk "Den" 3 4 false "" "" 56, Field.mk "Slack" 3 5 false "" "" 64]) := by kernel_rfl
theorem uTable : Tryz.prog.underlying 24 = some (.struct #[Field.mk "Mean" 3 0 false "" "" 0, Field.mk "Consts" 22 1 false "" "" 8]) := by kernel_rfl
theorem uInts : Tryz.prog.underlying 40 = some (.slice 3) := by kernel_rfl
theorem uConsts : Tryz.prog.underlying 22 = some (.slice 70) := by kernel_rfl
theorem cConst : Tryz.prog.cellsOf 70 = 6 := by kernel_rfl
theorem cTable : Tryz.prog.cellsOf 24 = 2 := by kernel_rfl
theorem cInts : Tryz.prog.cellsOf 40 = 1 := by kernel_rfl
theorem cConsts : Tryz.prog.cellsOf 22 = 1 := by kernel_rfl
section
variable {H : Type} {enc : TypeId × Value → H} {w : World} {spare : Nat → Bool} {held : Bool}
theorem read_int1 {base fuel : Nat} {cs : List Value} {x : DataW H × List MemPlace} (h : DataW.trod enc Tryz.prog w base spare held fuel 3 cs = some x) : ∃ z : Int, cs = [.int .i64 z] := by
  obtain ⟨n, e, _⟩ := DataW.trod_int uInt h
  exact ⟨n, e⟩
instance : Inhabited Cn := ⟨⟨⟨#[]⟩, none, 0, 0, [], 0, 0, 0, 0⟩⟩
theorem read_const {fuel : Nat} {cs : List Value} {x : DataW H × List MemPlace} (h : DataW.trod enc Tryz.prog w 0 spare held fuel 70 cs = some x) : ∃ c : Cn, cs = c.cells ∧ c.At w w.heap.size := by
  obtain ⟨xs, n, _, _, hlen, hxl, hf⟩ := DataW.trod_struct uConst h
  rw [cConst] at hlen
  obtain ⟨a, b, c, d, e, f, rfl⟩ := len6 hlen
  obtain ⟨y0, y1, y2, y3, y4, y5, rfl⟩ := len6 hxl
  have h0 : DataW.trod enc Tryz.prog w 0 spare held n 9 [a] = some y0 := by simpa [cString] using hf 0 _ rfl
  have h1 : DataW.trod enc Tryz.prog w 0 spare held n 40 [b] = some y1 := by simpa [cInts] using hf 1 _ rfl
  have h2 : DataW.trod enc Tryz.prog w 0 spare held n 3 [c] = some y2 := by simpa [cInt] using hf 2 _ rfl
  have h3 : DataW.trod enc Tryz.prog w 0 spare held n 3 [d] = some y3 := by simpa [cInt] using hf 3 _ rfl
  have h4 : DataW.trod enc Tryz.prog w 0 spare held n 3 [e] = some y4 := by simpa [cInt] using hf 4 _ rfl
  have h5 : DataW.trod enc Tryz.prog w 0 spare held n 3 [f] = some y5 := by simpa [cInt] using hf 5 _ rfl
  obtain ⟨s, e0, _, hs⟩ := DataW.trod_string uString h0
  obtain ⟨hA, hn, hc, hl, rfl, hd, hdn, _, _⟩ := read_slice (fun i : Int => [Value.int .i64 i]) (fun _ => True) 1 (by omega) uInts cInt (fun n cs x h => by
    obtain ⟨z, rfl⟩ := read_int1 h
    exact ⟨z, rfl, trivial⟩) h1
  obtain ⟨p, e2, _, _⟩ := DataW.trod_int uInt h2
  obtain ⟨q, e3, _, _⟩ := DataW.trod_int uInt h3
  obtain ⟨r, e4, _, _⟩ := DataW.trod_int uInt h4
  obtain ⟨t, e5, _, _⟩ := DataW.trod_int uInt h5
  cases e0
  cases e2
  cases e3
  cases e4
  cases e5
  exact ⟨⟨s, hA, hn, hc, hl, p, q, r, t⟩, rfl, ⟨hd, hs, hdn⟩⟩
theorem read_table {fuel : Nat} {cs : List Value} {x : DataW H × List MemPlace} (h : DataW.trod enc Tryz.prog w 0 spare held fuel 24 cs = some x) : ∃ t : Tb, Value.agg cs.toArray = t.v ∧ t.At w w.heap.size := by
  obtain ⟨xs, n, _, _, hlen, hxl, hf⟩ := DataW.trod_struct uTable h
  rw [cTable] at hlen
  obtain ⟨a, b, rfl⟩ := len2 hlen
  obtain ⟨y0, y1, rfl⟩ := len2 hxl
  have h0 : DataW.trod enc Tryz.prog w 0 spare held n 3 [a] = some y0 := by simpa [cInt] using hf 0 _ rfl
  have h1 : DataW.trod enc Tryz.prog w 0 spare held n 22 [b] = some y1 := by simpa [cConsts] using hf 1 _ rfl
  obtain ⟨p, e0, _, _⟩ := DataW.trod_int uInt h0
  obtain ⟨cA, cn, cc, cs, rfl, hc, hcn, hcc, he⟩ := read_slice Cn.cells (fun c => c.At w w.heap.size) 6 (by omega) uConsts cConst (fun n cs x h => read_const h) h1
  cases e0
  exact ⟨⟨p, cA, cn, cc, cs⟩, rfl, ⟨hc, he, hcn, hcc⟩⟩
end
end Go.Proofs.YtncidhoojgncgaaGreat
