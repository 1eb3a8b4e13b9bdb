/- A region that draws its order, and whose last operations wait for all the others: the first ones in whatever order, then the last ones one after the other. -/
import Derived.Test.YtgdomaddjiggaaaGreatGtOwn
import Derived.StillTail
namespace Go.Proofs.YtgdomaddjiggaaaGreat
open Go.RowKit
set_option linter.unusedSimpArgs false
set_option linter.unusedVariables false

section
variable {P : Program} {md : Region.Mode} {Q : Exit → Act → World → Prop}

/-- What is left behind the first operations: the last ones in their order. -/
def tailPost (P : Program) (ops : Array Oper) (Q : Exit → Act → World → Prop) (tail : List Oper) : Exit → Act → World → Prop
  | .normal, a, w => wpList P ops Q tail a w
  | e, a, w => Q e a w

theorem wpAny_more {ops : Array Oper} : ∀ (n : Nat) (listed : Array Bool) (a : Act) (w : World), wpAny P md ops Q n listed a w → wpAny P md ops Q (n + 1) listed a w
  | 0, listed, a, w, h => ⟨fun _ => h.2, by rw [h.1]; simp⟩
  | n + 1, listed, a, w, h => ⟨h.1, fun i hi => wpOp_mono (fun a' w' h' => wpAny_more n _ a' w' h') (h.2 i hi)⟩
theorem wpAny_plus {ops : Array Oper} {n : Nat} {listed : Array Bool} {a : Act} {w : World} (h : wpAny P md ops Q n listed a w) : ∀ m, wpAny P md ops Q (n + m) listed a w
  | 0 => h
  | m + 1 => wpAny_more _ _ _ _ (wpAny_plus h m)

theorem Oper.wp_tail {ops : Array Oper} {tail : List Oper} {o : Oper} {a : Act} {w : World} {K : Act → World → Prop} (h : o.wp P a w K (tailPost P ops Q tail)) : o.wp P a w K Q := by
  unfold Oper.wp at *
  generalize (execOp a.eval o).run P w = r at *
  cases r with
  | ok n w' => cases n <;> exact h
  | halt x w' => cases x <;> exact h

/-- The region's form, looked at by program: the first N operations lean on earlier ones alone; each of the last ones waits for all of the first. -/
def headB (l : List Oper) (N : Nat) : Bool :=
  (List.range N).all fun i => match l[i]? with
    | some o => o.after.all (fun e => decide (e.on < i)) && (match o.guard with | some (g, _) => decide (g < N) | none => true)
    | none => false
def waitB (md : Region.Mode) (l : List Oper) (N : Nat) : Bool :=
  (List.range l.length).all fun i => decide (i < N) || (List.range N).all fun j => match l[i]? with
    | some o => o.after.any fun e => decide (e.on = j) && Region.binds md e
    | none => false
def splitB (md : Region.Mode) (l : List Oper) (N : Nat) : Bool :=
  decide (N ≤ l.length) && headB l N && waitB md l N && Region.seqB md l.toArray (l.length - N) N (Array.replicate N true ++ Array.replicate (l.length - N) false)

theorem headB_spec {l : List Oper} {N i : Nat} {o : Oper} (h : headB l N = true) (hi : i < N) (ho : l[i]? = some o) :
    (∀ e ∈ o.after, e.on < i) ∧ (∀ g b, o.guard = some (g, b) → g < N) := by
  have := List.all_eq_true.1 h i (by simpa using hi)
  rw [ho] at this
  simp only [Bool.and_eq_true, Array.all_eq_true'] at this
  refine ⟨fun e he => by simpa using this.1 e he, fun g b hg => ?_⟩
  have h2 := this.2
  rw [hg] at h2
  simpa using h2
theorem waitB_spec {l : List Oper} {N i j : Nat} {o : Oper} (h : waitB md l N = true) (hi : N ≤ i) (ho : l[i]? = some o) (hj : j < N) : ∃ e ∈ o.after, e.on = j ∧ Region.binds md e = true := by
  have hlt := (List.getElem?_eq_some_iff.1 ho).1
  have := List.all_eq_true.1 h i (by simpa using hlt)
  simp only [Bool.or_eq_true, decide_eq_true_eq] at this
  rcases this with h1 | h1
  · omega
  · have := List.all_eq_true.1 h1 j (by simpa using hj)
    rw [ho] at this
    simp only [Array.any_eq_true', Bool.and_eq_true, decide_eq_true_eq] at this
    obtain ⟨e, he, h2, h3⟩ := this
    exact ⟨e, he, h2, h3⟩

/-- 'listed' with the last operations not listed. -/
def ext (listed : Array Bool) (T : Nat) : Array Bool := listed ++ Array.replicate T false
theorem ext_get_lt {listed : Array Bool} {T i : Nat} (d : Bool) (h : i < listed.size) : (ext listed T).getD i d = listed.getD i d := by
  unfold ext
  simp [Array.getD_eq_getD_getElem?, Array.getElem?_append_left h]
theorem ext_get_ge {listed : Array Bool} {T i : Nat} (h : listed.size ≤ i) (hi : i < listed.size + T) (d : Bool) : (ext listed T).getD i d = false := by
  unfold ext
  rw [Array.getD_eq_getD_getElem?, Array.getElem?_append_right h]
  rw [Array.getElem?_replicate, if_pos (by omega)]; rfl
theorem ext_set {listed : Array Bool} {T i : Nat} (h : i < listed.size) : (ext listed T).setIfInBounds i true = ext (listed.setIfInBounds i true) T := by
  unfold ext
  apply Array.ext_getElem?
  intro j
  simp only [Array.getElem?_setIfInBounds, Array.getElem?_append, Array.size_append, Array.size_setIfInBounds]
  repeat' split
  all_goals first | rfl | omega | simp_all

theorem mem_ready {ops : Array Oper} {listed : Array Bool} {i : Nat} : i ∈ Region.ready md ops listed ↔ i < ops.size ∧ listed.getD i true = false ∧ ∃ o, ops[i]? = some o ∧ ∀ e ∈ o.after, Region.binds md e = true → listed.getD e.on false = true := by
  unfold Region.ready
  simp only [List.mem_filter, List.mem_range, Bool.and_eq_true, Bool.not_eq_true']
  constructor
  · rintro ⟨h1, h2, h3⟩
    refine ⟨h1, h2, ops[i], Array.getElem?_eq_getElem h1, fun e he hb => ?_⟩
    rw [Array.getElem?_eq_getElem h1] at h3
    simp only [Option.map_some, Option.getD_some, Array.all_eq_true'] at h3
    have := h3 e he
    simpa [hb] using this
  · rintro ⟨h1, h2, o, ho, h3⟩
    refine ⟨h1, h2, ?_⟩
    rw [ho]
    simp only [Option.map_some, Option.getD_some, Array.all_eq_true']
    intro e he
    cases hb : Region.binds md e
    · simp
    · simpa using h3 e he hb

section
variable {l : List Oper} {N : Nat}
/-- The first N operations as a region of their own. -/
abbrev headOf (l : List Oper) (N : Nat) : Array Oper := (l.take N).toArray

theorem head_get {i : Nat} (h : i < N) : (headOf l N)[i]? = l.toArray[i]? := by
  simp [headOf, List.getElem?_take, h]

theorem all_listed (hH : headB l N = true) (hN : N ≤ l.length) {listed : Array Bool} (hs : listed.size = N) (hr : Region.ready md (headOf l N) listed = []) : listed = Array.replicate N true := by
  have key : ∀ i, i < N → listed.getD i true = true := by
    intro i
    induction i using Nat.strongRecOn with
    | _ i ih =>
      intro hi
      cases hg : listed.getD i true
      · exfalso
        have ho : (headOf l N)[i]? = some (l[i]'(by omega)) := by rw [head_get hi]; simp
        have hm : i ∈ Region.ready md (headOf l N) listed := by
          rw [mem_ready]
          refine ⟨by simp [headOf]; omega, hg, _, ho, fun e he _ => ?_⟩
          have he' := (headB_spec (o := l[i]'(by omega)) hH hi (List.getElem?_eq_getElem _)).1 e he
          have := ih e.on he' (by omega)
          rw [Array.getD_eq_getD_getElem?] at this ⊢
          rw [Array.getElem?_eq_getElem (by omega)] at this ⊢
          simpa using this
        rw [hr] at hm
        cases hm
      · rfl
  apply Array.ext
  · simp [hs]
  · intro i h1 h2
    have := key i (by omega)
    rw [Array.getD_eq_getD_getElem?, Array.getElem?_eq_getElem h1] at this
    simpa using this

theorem yielded_head {tmps : Array Value} {g : Nat} (h : g < N) : yielded (headOf l N) tmps g = yielded l.toArray tmps g := by
  unfold yielded; rw [head_get h]

theorem wanted_head (hH : headB l N = true) {i : Nat} (hi : i < N) {o : Oper} (ho : l[i]? = some o) (tmps : Array Value) :
    Region.wanted o (yielded (headOf l N) tmps) = Region.wanted o (yielded l.toArray tmps) := by
  unfold Region.wanted
  cases hg : o.guard with
  | none => rfl
  | some p =>
    obtain ⟨g, b⟩ := p
    simp only
    rw [yielded_head ((headB_spec hH hi ho).2 g b hg)]

theorem wpOp_head {ops : Array Oper} {tail : List Oper} (hH : headB l N = true) (hN : N ≤ l.length) {i : Nat} (hi : i < N) {a : Act} {w : World} {K K' : Act → World → Prop} (hK : ∀ a w, K a w → K' a w)
    (h : wpOp P (headOf l N) (tailPost P ops Q tail) i K a w) : wpOp P l.toArray Q i K' a w := by
  have ho : l[i]? = some (l[i]'(by omega)) := List.getElem?_eq_getElem _
  refine wpOp_mono hK ?_
  unfold wpOp at h ⊢
  rw [head_get hi] at h
  rw [List.getElem?_toArray, ho] at h ⊢
  simp only at h ⊢
  rw [wanted_head hH hi ho] at h
  split
  · rename_i hw
    rw [if_pos hw] at h
    rcases h with h | ⟨hasks, a0, w0, hq⟩
    · exact .inl (Oper.wp_tail h)
    · exact .inr ⟨hasks, a0, w0, hq⟩
  · rename_i hw
    rw [if_neg hw] at h
    exact h

theorem split_any (hB : splitB md l N = true) : ∀ (n : Nat) (listed : Array Bool) (a : Act) (w : World), listed.size = N →
    wpAny P md (headOf l N) (tailPost P l.toArray Q (l.drop N)) n listed a w → wpAny P md l.toArray Q (n + (l.length - N)) (ext listed (l.length - N)) a w := by
  simp only [splitB, Bool.and_eq_true, decide_eq_true_eq] at hB
  obtain ⟨⟨⟨hN, hH⟩, hW⟩, hS⟩ := hB
  have tail : ∀ (listed : Array Bool) (a : Act) (w : World), listed.size = N → Region.ready md (headOf l N) listed = [] → wpList P l.toArray Q (l.drop N) a w →
      wpAny P md l.toArray Q (l.length - N) (ext listed (l.length - N)) a w := by
    intro listed a w hs hr h
    have hl := all_listed hH hN hs hr
    have hseq := wpAny_of_seq (P := P) (md := md) (ops := l.toArray) (Q' := Q) (l.drop N) N (ext listed (l.length - N)) a w (fun j => by simp) (by rw [List.length_drop, hl]; exact hS) h
    rwa [List.length_drop] at hseq
  intro n
  induction n with
  | zero =>
    intro listed a w hs h
    rw [Nat.zero_add]
    exact tail listed a w hs h.1 h.2
  | succ n ih =>
    intro listed a w hs h
    by_cases hr : Region.ready md (headOf l N) listed = []
    · have := wpAny_plus (tail listed a w hs hr (h.1 hr)) (n + 1)
      rwa [Nat.add_comm] at this
    · rw [show n + 1 + (l.length - N) = (n + (l.length - N)) + 1 by omega]
      have hmem : ∀ i, i ∈ Region.ready md l.toArray (ext listed (l.length - N)) ↔ i ∈ Region.ready md (headOf l N) listed := by
        intro i
        rw [mem_ready, mem_ready]
        constructor
        · rintro ⟨h1, h2, o, ho, h3⟩
          have h1' : i < l.length := by simpa using h1
          have ho' : l[i]? = some o := by simpa using ho
          by_cases hi : i < N
          · refine ⟨by simp [headOf]; omega, by rwa [ext_get_lt _ (by omega)] at h2, o, by rw [head_get hi]; exact ho, fun e he hb => ?_⟩
            have := h3 e he hb
            rwa [ext_get_lt _ (by have := (headB_spec hH hi ho').1 e he; omega)] at this
          · exfalso
            -- one of the first is not listed: it can't have been waited for
            apply hr
            apply List.eq_nil_iff_forall_not_mem.2
            intro j hj
            rw [mem_ready] at hj
            have hjN : j < N := by have := hj.1; simp [headOf] at this; omega
            obtain ⟨e, he, hej, hb⟩ := waitB_spec (md := md) hW (by omega) ho' hjN
            have := h3 e he hb
            rw [hej, ext_get_lt _ (by omega)] at this
            have h4 := hj.2.1
            rw [Array.getD_eq_getD_getElem?, Array.getElem?_eq_getElem (by omega)] at this h4
            simp at this h4
            rw [this] at h4; cases h4
        · rintro ⟨h1, h2, o, ho, h3⟩
          have hi : i < N := by simp [headOf] at h1; omega
          have ho' : l[i]? = some o := by rw [head_get hi] at ho; simpa using ho
          refine ⟨by simp; omega, by rw [ext_get_lt _ (by omega)]; exact h2, o, by simpa using ho', fun e he hb => ?_⟩
          rw [ext_get_lt _ (by have := (headB_spec hH hi ho').1 e he; omega)]
          exact h3 e he hb
      refine ⟨fun h0 => ?_, fun i hi => ?_⟩
      · exact absurd (List.eq_nil_iff_forall_not_mem.2 fun i hi => by have := (hmem i).2 hi; rw [h0] at this; cases this) hr
      · have hi' := (hmem i).1 hi
        have hiN : i < N := by have := (mem_ready.1 hi').1; simp [headOf] at this; omega
        refine wpOp_head hH hN hiN (fun a' w' h' => ?_) (h.2 i hi')
        rw [ext_set (by omega)]
        exact ih _ a' w' (by simpa using hs) h'

/-- **A region that draws its order, cut before its last operations**: the first N in whatever order, with S behind each; then the others one after the other. -/
theorem wp_region_split {id : Nat} {a : Act} {w : World} {S : World → Prop} (N : Nat) (hm : P.follows .mixedOrders = true) (hB : splitB .any l N = true) (hS : S w.drew)
    (h : S w.drew → wpAnyH P .any (headOf l N) (tailPost P l.toArray Q (l.drop N)) S N (Array.replicate N false) a w.drew) : (Code.region id l.toArray true).wp P Q a w := by
  refine wp_region_any hm ?_
  have hN : N ≤ l.length := by
    simp only [splitB, Bool.and_eq_true, decide_eq_true_eq] at hB
    exact hB.1.1.1
  have h1 := split_any hB N (Array.replicate N false) a w.drew (by simp) (wpAny_of_held _ _ _ _ (h hS))
  have e1 : N + (l.length - N) = l.toArray.size := by simp; omega
  have e2 : ext (Array.replicate N false) (l.length - N) = Array.replicate l.toArray.size false := by
    unfold ext
    rw [Array.replicate_append_replicate, e1]
  rw [e1, e2] at h1
  exact h1
end
end

section
variable {P : Program} {md : Region.Mode} {Q : Exit → Act → World → Prop} {S : World → Prop}
/-- A way through a region: which operation comes next, and whether it is taken first ('true') or comes up alone. -/
def planB (md : Region.Mode) (ops : Array Oper) : List (Nat × Bool) → Array Bool → Bool
  | [], listed => (Region.ready md ops listed).isEmpty
  | (i, true) :: r, listed => (Region.ready md ops listed).contains i && Region.free md ops listed i && planB md ops r (listed.setIfInBounds i true)
  | (i, false) :: r, listed => decide (Region.ready md ops listed = [i]) && planB md ops r (listed.setIfInBounds i true)
def wpPlan (P : Program) (L : List Oper) (Q : Exit → Act → World → Prop) (S : World → Prop) : List (Nat × Bool) → Act → World → Prop
  | [], a, w => Q .normal a w
  | (i, true) :: r, a, w => ∃ o v, L[i]? = some o ∧ YieldsIf P L.toArray S o v a ∧ wpPlan P L Q S r (a.put o.dst v) w
  | (i, false) :: r, a, w => ∃ o, L[i]? = some o ∧ ∀ K : Act → World → Prop, Shut (∀ a w, S w → (S w → wpPlan P L Q S r a w) → K a w) → if Region.wanted o (yielded L.toArray a.tmps) = true then Oper.wp P o a w K Q else K (a.put o.dst undef) w
theorem wpPlan_sound {L : List Oper} (hs : Region.noSelect L.toArray = true) (hQ : ∀ c a d v w, Q (.panic c) (Act.put a d v) w → Q (.panic c) a w) : ∀ (pl : List (Nat × Bool)) (listed : Array Bool) (a : Act) (w : World),
    planB md L.toArray pl listed = true → S w → wpPlan P L Q S pl a w → wpAnyH P md L.toArray Q S pl.length listed a w
  | [], listed, a, w, hB, _, h => wpAnyH_done (by simpa [planB] using hB) h _
  | (i, true) :: r, listed, a, w, hB, hS, h => by
    simp only [planB, Bool.and_eq_true] at hB
    obtain ⟨o, v, ho, hy, h⟩ := h
    exact wpAnyH_take (by simpa using ho) hs hB.1.2 hB.1.1 (fun c a w => hQ c a _ _ w) hy hS (wpPlan_sound hs hQ r _ _ _ hB.2 hS h)
  | (i, false) :: r, listed, a, w, hB, hS, h => by
    simp only [planB, Bool.and_eq_true, decide_eq_true_eq] at hB
    obtain ⟨o, ho, h⟩ := h
    refine wpAnyH_all hB.1 (by simp) (fun j hj => ?_)
    have hj : j = i := by simpa using hj
    subst hj
    refine wpOp_step (by simpa using ho) (fun K hK => h K (fun a' w' hS' h' => hK a' w' ⟨hS', wpPlan_sound hs hQ r _ _ _ hB.2 hS' (h' hS')⟩))
theorem wpPlan_take {L : List Oper} {i : Nat} {o : Oper} {v : Value} {r : List (Nat × Bool)} {a : Act} {w : World} (ho : L[i]? = some o) (hy : YieldsIf P L.toArray S o v a) (h : wpPlan P L Q S r (a.put o.dst v) w) : wpPlan P L Q S ((i, true) :: r) a w := ⟨o, v, ho, hy, h⟩
theorem wpPlan_step {L : List Oper} {i : Nat} {o : Oper} {r : List (Nat × Bool)} {a : Act} {w : World} (ho : L[i]? = some o)
    (h : ∀ K : Act → World → Prop, Shut (∀ a w, S w → (S w → wpPlan P L Q S r a w) → K a w) → if Region.wanted o (yielded L.toArray a.tmps) = true then Oper.wp P o a w K Q else K (a.put o.dst undef) w) : wpPlan P L Q S ((i, false) :: r) a w := ⟨o, ho, h⟩

/-- **A region that draws its order, by a plan**: the first N operations by the plan, with S behind each; then the others one after the other. -/
theorem wp_region_plan {l : List Oper} {id : Nat} {a : Act} {w : World} (N : Nat) (pl : List (Nat × Bool)) (hm : P.follows .mixedOrders = true) (hB : splitB .any l N = true) (hs : Region.noSelect (headOf l N) = true) (hl : pl.length = N)
    (hp : planB .any (headOf l N) pl (Array.replicate N false) = true) (hQ : ∀ c a d v w, Q (.panic c) (Act.put a d v) w → Q (.panic c) a w) (hS : S w.drew)
    (h : S w.drew → wpPlan P (l.take N) (tailPost P l.toArray Q (l.drop N)) S pl a w.drew) : (Code.region id l.toArray true).wp P Q a w :=
  wp_region_split N hm hB hS fun hS' => by
    have := wpPlan_sound (P := P) (md := .any) (Q := tailPost P l.toArray Q (l.drop N)) hs (fun c a d v w => hQ c a d v w) pl (Array.replicate N false) a w.drew hp hS' (h hS')
    rwa [hl] at this
end
end Go.Proofs.YtgdomaddjiggaaaGreat
