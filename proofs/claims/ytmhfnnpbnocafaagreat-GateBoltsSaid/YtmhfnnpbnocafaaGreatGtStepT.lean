/- Rows of cells that a call owns, read as a table; copies of several cells an element. What a step of one gate is, in plain numbers: the mathematics of the laws about steps. Step: what a gate alone does in a step. -/
import Derived.Test.YtmhfnnpbnocafaaGreatGtSetStep
import Derived.Laws.IdiomCopy
import Derived.Test.YtmhfnnpbnocafaaGreatGtStep
namespace Go.Proofs.YtmhfnnpbnocafaaGreat
open Go.RowKit
set_option linter.unusedSimpArgs false
set_option linter.unusedVariables false

theorem flat_get {α : Type} (size : Nat) : ∀ (rows : List (List α)) (h : ∀ r ∈ rows, r.length = size) (k : Nat) (r : List α) (j : Nat) (v : α), rows[k]? = some r → r[j]? = some v → rows.flatten[k * size + j]? = some v
  | [], _, k, r, j, v, hr, _ => by simp at hr
  | a :: rows, h, 0, r, j, v, hr, hv => by
    simp at hr
    subst hr
    have := (List.getElem?_eq_some_iff.1 hv).1
    rw [List.flatten_cons, Nat.zero_mul, Nat.zero_add, List.getElem?_append_left this]
    exact hv
  | a :: rows, h, k + 1, r, j, v, hr, hv => by
    have ha := h a (by simp)
    rw [List.flatten_cons, List.getElem?_append_right (by rw [ha, Nat.add_mul]; omega), ha, show (k + 1) * size + j - size = k * size + j by rw [Nat.add_mul]; omega]
    exact flat_get size rows (fun r hr => h r (by simp [hr])) k r j v (by simpa using hr) hv
theorem flat_len {α : Type} (size : Nat) : ∀ (rows : List (List α)) (h : ∀ r ∈ rows, r.length = size), rows.flatten.length = rows.length * size
  | [], _ => by simp
  | a :: rows, h => by
    rw [List.flatten_cons, List.length_append, h a (by simp), flat_len size rows (fun r hr => h r (by simp [hr])), List.length_cons, Nat.add_mul]
    omega
theorem Tab.of_blk {w : World} {g : Nat} {t : TypeId} {cs : Array Value} (hb : Blk w g t cs) {B n size : Nat} {rows : List (List Value)} (hg : g < B) (hn : rows.length = n)
    (hc : ∀ (k : Nat) (r : List Value), rows[k]? = some r → ∀ (j : Nat) (v : Value), r[j]? = some v → cs[k * size + j]? = some v) : Tab w B (some ⟨g, 0, none⟩) n size rows :=
  ⟨hn, fun _ => ⟨g, 0, rfl, hg, fun k r hr j v hv => by
    have := hb.cell (k * size + j)
    rw [show (0 + k * size + j) = k * size + j by omega, this]
    exact hc k r hr j v hv⟩⟩
theorem Tab.of_flat {w : World} {g : Nat} {t : TypeId} {cs : Array Value} (hb : Blk w g t cs) {B n size : Nat} {rows : List (List Value)} (hg : g < B) (hn : rows.length = n) (hs : ∀ r ∈ rows, r.length = size) (hc : cs = rows.flatten.toArray) : Tab w B (some ⟨g, 0, none⟩) n size rows :=
  Tab.of_blk hb hg hn fun k r hr j v hv => by rw [hc, List.getElem?_toArray]; exact flat_get size rows hs k r j v hr hv
/-- A row that a call owns reads as a table. -/
theorem owns_tabN {w : World} {base : Nat} {e : TypeId} {v : Value} {size n : Nat} {rows : List (List Value)} (h : w.ownsRow base e size v n rows.flatten) (hs : ∀ r ∈ rows, r.length = size) (h0 : 0 < size) :
    ∃ A c, v = .slice A n c ∧ Tab w w.heap.size A n size rows ∧ n ≤ c ∧ c ≤ maxLen ∧ (0 < n → ∃ g, A = some ⟨g, 0, none⟩ ∧ base ≤ g ∧ g < w.heap.size) := by
  have hlen := h.1
  rw [flat_len size rows hs] at hlen
  have hrl : rows.length = n := Nat.eq_of_mul_eq_mul_right h0 hlen
  rcases h.2 with ⟨rfl, rfl⟩ | ⟨g, cap, cur, rfl, hb, hg, hn, hc, hsz, ht⟩
  · exact ⟨none, 0, rfl, ⟨hrl, fun h => absurd h (by omega)⟩, Nat.le_refl _, by unfold maxLen; omega, fun h => absurd h (by omega)⟩
  · have hblk : Blk w g e cur := hg
    refine ⟨_, _, rfl, Tab.of_blk hblk hblk.lt hrl fun k r hr j u hu => ?_, hn, hc, fun _ => ⟨g, rfl, hb, hblk.lt⟩⟩
    have hf := flat_get size rows hs k r j u hr hu
    rw [← ht, List.getElem?_take] at hf
    split at hf
    · simpa using hf
    · cases hf
/-- The first cells of a row that a call owns. -/
theorem owns_cells {w : World} {base : Nat} {e : TypeId} {A : Option Addr} {vn vc size n : Nat} {xs : List Value} (h : w.ownsRow base e size (.slice A vn vc) n xs) (h0 : 0 < n) : ∃ g, A = some ⟨g, 0, none⟩ ∧ vn = n ∧ base ≤ g ∧ g < w.heap.size ∧ w.rangeAt g 0 xs := by
  rcases h.2 with ⟨_, rfl⟩ | ⟨g, cap, cur, h1, hb, hg, hn, hc, hsz, ht⟩
  · omega
  · cases h1
    have hblk : Blk w g e cur := hg
    refine ⟨g, rfl, rfl, hb, hblk.lt, fun j v hv => ?_⟩
    rw [← ht, List.getElem?_take] at hv
    split at hv
    · rw [Nat.zero_add, hblk.cell]; simpa using hv
    · cases hv

/-- copy between slices of elements of several cells: all is read before anything is written. -/
theorem run_copy_cellsN {P : Program} (w : World) (dT sT ty elem : TypeId) (b o dLen dCap : Nat) (a : Addr) (sLen sCap sz : Nat) (cs : List Value)
    (hu : P.underlying dT = some (.slice elem)) (hs : (P.info? elem).map (·.size) = some sz) (hn : cs.length = Nat.min sLen dLen * sz)
    (hsrc : ∀ j v, cs[j]? = some v → w.cell? (a.add j) = some v) (hc : ∀ j, j < cs.length → (w.cell? ⟨b, o + j, none⟩).isSome = true) (hf : ∀ j, j < cs.length → w.frozen? ⟨b, o + j, none⟩ = false) (h1 : ∀ v ∈ cs, v.oneCell' = true) :
    (Builtin.copy_ #[dT, sT] ty #[.slice (some ⟨b, o, none⟩) dLen dCap, .slice (some a) sLen sCap]).run P w = .ok (goInt (Nat.min sLen dLen)) (w.setCells b o cs) := by
  have hl := run_loadCells_list (P := P) w a cs hsrc
  have hst := run_storeCells_cells (P := P) b o cs 0 w (by simpa using hc) (by simpa using hf) h1
  cases hq : P.info? elem with
  | none => simp [hq] at hs
  | some i =>
    have hi : i.size = sz := by simpa [hq] using hs
    simp [Builtin.copy_, run_underlying hu, Builtin.lenOf, Builtin.firstCells, sizeOf, typeInfo, hq, hi, ← hn, hl, hst]
theorem wpList_copy_cellsN {P : Program} {w : World} {ops : Array Oper} {rest : List Oper} {o : Oper} {a : Act} {Q : Exit → Act → World → Prop} (hgd : o.guard = none) (d s : Operand) (dT sT : TypeId)
    (ho : o.op = .call { callee := .builtin .copy, args := #[d, s], argTypes := #[dT, sT] }) (elem : TypeId) (sz : Nat) (hu : P.underlying dT = some (.slice elem)) (hsz : (P.info? elem).map (·.size) = some sz)
    (g off dLen dCap : Nat) (ad : Addr) (sLen sCap : Nat) (hd : a.eval d = .slice (some ⟨g, off, none⟩) dLen dCap) (hs : a.eval s = .slice (some ad) sLen sCap) (cs : List Value) (m : Nat) (hm : Nat.min sLen dLen = m) (hn : cs.length = m * sz)
    (hsrc : ∀ j v, cs[j]? = some v → w.cell? (ad.add j) = some v) (hth : w.there g off cs.length) (h1 : ∀ v ∈ cs, v.oneCell' = true)
    (h : wpList P ops Q rest (a.put o.dst (goInt m)) (w.setCells g off cs)) : wpList P ops Q (o :: rest) a w := by
  subst hm
  refine wpList_plain hgd fun K hK => ?_
  have hrun := run_copy_cellsN (P := P) w dT sT o.type elem g off dLen dCap ad sLen sCap sz cs hu hsz hn hsrc (fun j hj => (hth j hj).1) (fun j hj => (hth j hj).2) h1
  unfold Oper.wp
  simp [execOp, ho, resolve, invoke, builtin, hd, hs, hrun, Result.andThen]
  exact hK _ _ h
theorem src_of {w : World} {b : Nat} {l : List Value} (h : w.rangeAt b 0 l) : ∀ j v, l[j]? = some v → w.cell? ((⟨b, 0, none⟩ : Addr).add j) = some v := fun j v hv => by
  have e : (⟨b, 0, none⟩ : Addr).add j = ⟨b, 0 + j, none⟩ := by unfold Addr.add; split <;> simp_all
  rw [e]
  exact h j v hv
end Go.Proofs.YtmhfnnpbnocafaaGreat

namespace Go.Proofs.YtmhfnnpbnocafaaGreat
open Go.RowKit
set_option linter.unusedSimpArgs false
set_option linter.unusedVariables false

/-- Why the order to a gate alone is refused. -/
def lockF (s : Gs) (t : Gt) : Int := if t.order = 0 then 0 else if s.bolted = true then 130 else 0
theorem lock_is (s : Gs) (t : Gt) : lockF s t = 0 ∨ (lockF s t = 130 ∧ s.bolted = true ∧ t.order ≠ 0) := by
  unfold lockF
  by_cases h : t.order = 0
  · rw [if_pos h]; exact .inl rfl
  · rw [if_neg h]
    by_cases h' : s.bolted = true
    · rw [if_pos h']; exact .inr ⟨rfl, h', h⟩
    · rw [if_neg h']; exact .inl rfl
/-- What a gate alone does in a step. -/
theorem done_alone (g : Ga) (s : Gs) (t : Gt) : doneF g s t (lockF s t) = if s.bolted = true then (0, 0) else orderF g s t := by
  unfold doneF
  by_cases h : s.bolted = true
  · rw [if_pos h, if_pos h]
  · rw [if_neg h, if_neg h]
    have : lockF s t = 0 := by
      rcases lock_is s t with h1 | ⟨_, h1, _⟩
      · exact h1
      · exact absurd h1 h
    rw [this, if_pos rfl]
theorem ceil100 (a : Int) : -(-a / 100) = (a + 99) / 100 := by omega
def absI (n : Int) : Int := max n (-n)
theorem adv_oil {g : Ga} {s : Gs} (hg : g.Ok) (hs : s.Ok g) (f r : Int) {left : Int} (h0 : 0 ≤ left) (p : Bool) (h : 0 < (advF g s f r left p).2) :
    p = true ∧ (advF g s f r left p).1 ≤ g.speed ∧ (advF g s f r left p).2 = ((advF g s f r left p).1 * g.use + 99) / 100 := by
  have d := drive_in hg hs h0
  unfold advF at *
  split at h
  · simp at h
  · rename_i h1
    split at h
    · rename_i h2
      rw [if_neg h1, if_pos h2]
      exact ⟨h2.1, d.2.2.2.1, ceil100 _⟩
    · simp at h

structure Limits (g : Ga) (s : Gs) (t : Gt) (moved oil after : Int) : Prop where
  p0 : 0 ≤ s.pos + moved
  p1 : s.pos + moved ≤ g.travel
  c0 : 0 ≤ after
  c1 : after ≤ g.capacity
  m0 : absI moved ≤ max g.speed g.gravity
  b0 : -100 ≤ moved
  b1 : moved ≤ 100
  o0 : 0 ≤ oil
  o1 : oil ≤ s.charge
  ch : after = min (s.charge - oil + (if t.power = true then g.pump else 0)) g.capacity
  use : 0 < oil → t.power = true ∧ t.order ≠ 0 ∧ absI moved ≤ g.speed ∧ oil = (absI moved * g.use + 99) / 100
  dir1 : t.order = 1 → 0 ≤ moved
  dir2 : t.order = 2 → moved ≤ 0
theorem limits_any {g : Ga} {s : Gs} (hg : g.Ok) (hs : s.Ok g) (t : Gt) : Limits g s t (doneF g s t (lockF s t)).1 (doneF g s t (lockF s t)).2 (afterF g s t (lockF s t)).charge := by
  obtain ⟨a, b, c, d, e, f⟩ := done_in hg hs t (lockF s t)
  obtain ⟨_, _, q0, q1⟩ := after_ok hg hs t (lockF s t)
  have hsp := hg.speed1
  have hgv := hg.gravity1
  have hc1 := hs.c1
  have hdn := done_alone g s t
  have p0 := hs.p0
  have p1 := hs.p1
  refine ⟨a, b, q0, q1, by unfold absI; omega, by omega, by omega, e, f, ?_, ?_, ?_, ?_⟩
  · unfold afterF
    simp only
    split
    · rfl
    · omega
  · intro h
    rw [hdn] at h ⊢
    by_cases hb : s.bolted = true
    · rw [if_pos hb] at h; simp at h
    · rw [if_neg hb] at h ⊢
      unfold orderF at h ⊢
      split at h
      · rename_i h1
        rw [if_pos h1]
        unfold closeF at h ⊢
        have x := adv_in hg hs (netF g s.pos t.outer t.inner) (rubF g s.pos t.outer t.inner) (show 0 ≤ g.travel - s.pos by omega) t.power
        obtain ⟨y1, y2, y3⟩ := adv_oil hg hs _ _ (show 0 ≤ g.travel - s.pos by omega) _ h
        have hab : absI (advF g s (netF g s.pos t.outer t.inner) (rubF g s.pos t.outer t.inner) (g.travel - s.pos) t.power).1 = (advF g s (netF g s.pos t.outer t.inner) (rubF g s.pos t.outer t.inner) (g.travel - s.pos) t.power).1 := by unfold absI; omega
        rw [hab]
        exact ⟨y1, by omega, y2, y3⟩
      · rename_i h1
        split at h
        · rename_i h2
          rw [if_neg h1, if_pos h2]
          unfold openF at h ⊢
          simp only at h ⊢
          have x := adv_in hg hs (-netF g s.pos t.outer t.inner) (rubF g s.pos t.outer t.inner) p0 t.power
          obtain ⟨y1, y2, y3⟩ := adv_oil hg hs _ _ p0 _ h
          have hab : absI (-(advF g s (-netF g s.pos t.outer t.inner) (rubF g s.pos t.outer t.inner) s.pos t.power).1) = (advF g s (-netF g s.pos t.outer t.inner) (rubF g s.pos t.outer t.inner) s.pos t.power).1 := by unfold absI; omega
          rw [hab]
          exact ⟨y1, by omega, y2, y3⟩
        · unfold holdF at h
          split at h
          · simp at h
          · split at h
            · simp at h
            · simp at h
  · intro ho
    rw [hdn]
    split
    · exact Int.le_refl _
    · unfold orderF
      rw [if_pos ho]
      exact (adv_in hg hs (netF g s.pos t.outer t.inner) (rubF g s.pos t.outer t.inner) (show 0 ≤ g.travel - s.pos by omega) t.power).1
  · intro ho
    rw [hdn]
    split
    · exact Int.le_refl _
    · unfold orderF
      rw [if_neg (by omega), if_pos ho]
      have := (adv_in hg hs (-netF g s.pos t.outer t.inner) (rubF g s.pos t.outer t.inner) p0 t.power).1
      unfold openF
      simp only
      omega
/-- What a gate that is held, or bolted, does. -/
theorem held_any {g : Ga} {s : Gs} (hg : g.Ok) (hs : s.Ok g) (t : Gt) :
    (s.bolted = true → (doneF g s t (lockF s t)).1 = 0) ∧
    (s.bolted = false → t.order = 0 → absI (netF g s.pos t.outer t.inner) ≤ g.brake + rubF g s.pos t.outer t.inner → (doneF g s t (lockF s t)).1 = 0) ∧
    (s.bolted = false → t.order = 0 → g.brake + rubF g s.pos t.outer t.inner < absI (netF g s.pos t.outer t.inner) → 0 < netF g s.pos t.outer t.inner → (doneF g s t (lockF s t)).1 = min g.gravity (g.travel - s.pos)) ∧
    (s.bolted = false → t.order = 0 → 0 ≤ rubF g s.pos t.outer t.inner → g.brake + rubF g s.pos t.outer t.inner < absI (netF g s.pos t.outer t.inner) → ¬ 0 < netF g s.pos t.outer t.inner → (doneF g s t (lockF s t)).1 = -min g.gravity s.pos) := by
  have hdn := done_alone g s t
  have hb0 := hg.brake0
  rw [hdn]
  refine ⟨fun h => by rw [if_pos h], fun h ho ha => ?_, fun h ho ha hp => ?_, fun h ho hr ha hp => ?_⟩
  all_goals
    rw [if_neg (by rw [h]; decide)]
    unfold orderF
    rw [if_neg (by omega), if_neg (by omega)]
    unfold holdF
    unfold absI at ha
    generalize netF g s.pos t.outer t.inner = nt at *
    generalize rubF g s.pos t.outer t.inner = rb at *
  · rw [if_neg (by omega), if_neg (by omega)]
  · rw [if_pos (by omega)]
  · rw [if_neg (by omega), if_pos (by omega)]
end Go.Proofs.YtmhfnnpbnocafaaGreat

namespace Go.Proofs.YtmhfnnpbnocafaaGreat
open Go.RowKit
set_option linter.unusedSimpArgs false
set_option linter.unusedVariables false

theorem state_ok {g : Ga} {s : Gs} {w : World} {B : Nat} (hg : g.At w B) (h : (stateFt g s).e = 0) : g.Ok ∧ s.Ok g := by
  have h1 := first0 _ h _ (by simp : gateF g ∈ [gateF g, need (stateB g s) 7])
  have h2 := need_e (b := stateB g s) (c := 7) (by omega) (first0 _ h (need (stateB g s) 7) (by simp))
  simp only [stateB, betw, Bool.and_eq_true, decide_eq_true_eq] at h2
  exact ⟨gateF_ok g w _ hg h1, ⟨h2.1.1, h2.1.2, h2.2.1, h2.2.2⟩⟩
theorem order_ok {t : Gt} (h : (orderFt t).e = 0) : t.Ok := by
  have h1 := need_e (b := betw t.order 0 2) (c := 2) (by omega) (first0 _ h (need (betw t.order 0 2) 2) (by simp))
  have h2 := need_e (b := levels2B t.outer t.inner) (c := 7) (by omega) (first0 _ h (need (levels2B t.outer t.inner) 7) (by simp))
  simp only [levels2B, levelB, betw, Bool.and_eq_true, decide_eq_true_eq] at h1 h2
  exact ⟨h1.1, h1.2, h2.1.1, h2.1.2, h2.2.1, h2.2.2⟩
theorem step_ok {g : Ga} {s : Gs} {t : Gt} {w : World} {B : Nat} (hg : g.At w B) (h : (stepFt g s t).e = 0) : g.Ok ∧ s.Ok g ∧ t.Ok := by
  have h1 := first0 _ h _ (by simp : stateFt g s ∈ [stateFt g s, orderFt t])
  have h2 := first0 _ h _ (by simp : orderFt t ∈ [stateFt g s, orderFt t])
  exact ⟨(state_ok hg h1).1, (state_ok hg h1).2, order_ok h2⟩

/-- What Step returns. -/
def stepU (g : Ga) (s : Gs) (t : Gt) : Gs := if (stepFt g s t).e = 0 then afterF g s t (lockF s t) else ⟨0, 0, false⟩
def stepD (g : Ga) (s : Gs) (t : Gt) : Gm := if (stepFt g s t).e = 0 then cameF g s t (lockF s t) else ⟨0, 0, 0⟩
def stepV3 (u : Gs) (d : Gm) (e : Int) : Value := .tuple #[u.v, d.v, .int .i64 e]
theorem refusal_alone (g : Ga) (s : Gs) (t : Gt) : refusalF [(g, s)] [] 0 0 t.order false = lockF s t := by
  unfold refusalF lockF boltAt keptB
  simp
theorem aft_alone (g : Ga) (s : Gs) (t : Gt) : aftF [(g, s)] [] 0 [t] [false] 0 = afterF g s t (lockF s t) := by
  show afterF g s t (refusalF [(g, s)] [] 0 0 t.order false) = _
  rw [refusal_alone]
theorem cam_alone (g : Ga) (s : Gs) (t : Gt) : camF [(g, s)] [] 0 [t] [false] 0 = cameF g s t (lockF s t) := by
  show cameF g s t (refusalF [(g, s)] [] 0 0 t.order false) = _
  rw [refusal_alone]

/-- A step of a gate alone, in a set of its own. -/
theorem lone_any (g : Ga) (s : Gs) (t : Gt) (b tb pb tc pc : Nat) (w : World) (hg : g.Ok) (hs : s.Ok g) (ht : t.Ok) (hat : g.At w w.heap.size) (hb : Ms w b [(g, s)])
    (hT : Blk w tb 51 #[.int .i64 t.order, .bool t.power, .int .i64 t.outer, .int .i64 t.inner]) (hP : Blk w pb 4 #[.bool false]) :
    Calls Tryz.prog 48 #[setV (some ⟨b, 0, none⟩) 1 1 none 0 0, .slice (some ⟨tb, 0, none⟩) 1 tc, .slice (some ⟨pb, 0, none⟩) 1 pc] w fun e w' =>
      ∃ gd, e = .returned (.slice (some ⟨gd, 0, none⟩) 1 1) ∧ w.heap.size ≤ gd ∧ gd < w'.heap.size ∧ w'.rangeAt gd 0 (cameF g s t (lockF s t)).cells ∧ Ms w' b [(g, afterF g s t (lockF s t))] ∧ w.grownBy w' (some b) := by
  refine (sstep_any [(g, s)] [] [t] [false] b 1 1 none 0 0 (some ⟨tb, 0, none⟩) tc (some ⟨pb, 0, none⟩) pc w hb (fun m hm => ?_) (fun m hm => ?_) rfl (by omega) (by omega) ⟨rfl, fun h => absurd h (by omega)⟩ (by omega) (fun r hr => by cases hr) ?_ (fun t' ht' => ?_) ?_).mono ?_
  · simp only [List.mem_singleton] at hm; subst hm; exact hat
  · simp only [List.mem_singleton] at hm; subst hm; exact ⟨hg, hs⟩
  · exact Tab.of_flat hT hT.lt rfl (fun r hr => by simp at hr; subst hr; rfl) rfl
  · simp only [List.mem_singleton] at ht'; subst ht'; exact ht
  · exact Tab.of_flat hP hP.lt rfl (fun r hr => by simp at hr; subst hr; rfl) rfl
  · rintro e w1 ⟨gd, he, h0, h1, h2, h3, h4⟩
    have h2' := h2 0 (by omega)
    rw [cam_alone, Nat.zero_mul] at h2'
    refine ⟨gd, he, h0, h1, h2', ?_, h4⟩
    have : newMs [(g, s)] (aftF [(g, s)] [] 0 [t] [false]) 1 = [(g, afterF g s t (lockF s t))] := by
      show [(g, aftF [(g, s)] [] 0 [t] [false] 0)] = _
      rw [aft_alone]
    rwa [this] at h3
theorem results_rows3 {P : Program} {fn : Func} {p q r : Tmp} {ty1 ty2 : TypeId} (h : fn.results = #[.cell p ty1, .cell q ty2, .tmp r]) (tmps : Array Value) {w : World} {g1 g2 : Nat} {t1 t2 : TypeId} {c1 c2 : Array Value} {f1 f2 : Array Field} {v : Value}
    (hp : tmps.getD p undef = .pointer (some ⟨g1, 0, none⟩)) (hq : tmps.getD q undef = .pointer (some ⟨g2, 0, none⟩)) (hr : tmps.getD r undef = v) (h1 : Blk w g1 t1 c1) (h2 : Blk w g2 t2 c2)
    (u1 : P.underlying ty1 = some (.struct f1)) (i1 : (P.info? ty1).map (·.size) = some c1.size) (u2 : P.underlying ty2 = some (.struct f2)) (i2 : (P.info? ty2).map (·.size) = some c2.size) :
    (results fn tmps).run P w = .ok (.tuple #[.agg c1, .agg c2, v]) w := by
  have hp' : tmps[p]?.getD undef = .pointer (some ⟨g1, 0, none⟩) := by simpa using hp
  have hq' : tmps[q]?.getD undef = .pointer (some ⟨g2, 0, none⟩) := by simpa using hq
  have hr' : tmps[r]?.getD undef = v := by simpa using hr
  simp [results, h, hp', hq', hr', asAddr, ld_row h1 u1 i1, ld_row h2 u2 i2]

/-- What the end of Step reads. -/
structure StR (W : World) (sb : Nat) (sv rv : Value) (gd : Nat) (c : Gm) : Prop where
  st : Blk W sb 103 #[sv, rv]
  d0 : W.cell? ⟨gd, 0, none⟩ = some (.int .i64 c.refused)
  d1 : W.cell? ⟨gd, 1, none⟩ = some (.int .i64 c.moved)
  d2 : W.cell? ⟨gd, 2, none⟩ = some (.int .i64 c.oil)
theorem StR.below {W W' : World} {sb gd : Nat} {sv rv : Value} {c : Gm} (h : StR W sb sv rv gd c) (hb : Below W.heap.size W W') : StR W' sb sv rv gd c := by
  have k : ∀ (q : Addr) (v : Value), W.cell? q = some v → W'.cell? q = some v := fun q v hq => (hb.cell (World.block_lt_of_cell? W q hq)).trans hq
  exact ⟨h.st.thru hb h.st.lt, k _ _ h.d0, k _ _ h.d1, k _ _ h.d2⟩
theorem StR.drew {W : World} {sb gd : Nat} {sv rv : Value} {c : Gm} (h : StR W sb sv rv gd c) : StR W.drew sb sv rv gd c := ⟨h.st, h.d0, h.d1, h.d2⟩
theorem StR.sets {W : World} {sb gd : Nat} {sv rv : Value} {c : Gm} (h : StR W sb sv rv gd c) {b : Nat} (h1 : sb ≠ b) (h2 : gd ≠ b) (vs : List Value) (o : Nat) : StR (W.setCells b o vs) sb sv rv gd c := by
  have k : ∀ (q : Addr) (v : Value), q.block ≠ b → W.cell? q = some v → (W.setCells b o vs).cell? q = some v := fun q v hq h => (World.cell?_setCells_out b vs o W q (fun hb _ => absurd hb hq)).trans h
  exact ⟨h.st.fars h1 _ _, k _ _ h2 h.d0, k _ _ h2 h.d1, k _ _ h2 h.d2⟩

set_option maxRecDepth 100000 in
set_option maxHeartbeats 8000000 in
theorem Step_any (g : Ga) (s : Gs) (t : Gt) (w : World) (hg : g.At w w.heap.size) :
    Calls Tryz.prog 19 #[g.v, s.v, t.v] w fun e w' => e = .returned (stepV3 (stepU g s t) (stepD g s t) (stepFt g s t).e) ∧ Below w.heap.size w w' := by
  have Hg := Lib.hid hg
  have HS := Lib.hid (fun W h => stepFault_any g s t W h)
  by_cases h0 : (stepFt g s t).e = 0
  · obtain ⟨hgo, hso, hto⟩ := step_ok hg h0
    have hu : stepU g s t = afterF g s t (lockF s t) := by unfold stepU; rw [if_pos h0]
    have hd : stepD g s t = cameF g s t (lockF s t) := by unfold stepD; rw [if_pos h0]
    rw [hu, hd]
    have HL := Lib.hid (fun b tb pb tc pc W => lone_any g s t b tb pb tc pc W hgo hso hto)
    have Hao := Lib.hid (after_ok hgo hso t (lockF s t))
    clear hu hd hgo hso hto hg
    obtain ⟨fp, fa, fe, hfl⟩ : ∃ fp fa fe, stepFt g s t = ⟨fp, fa, fe⟩ := ⟨_, _, _, rfl⟩
    rw [hfl] at HS h0 ⊢
    simp only at h0
    subst h0
    clear hfl
    generalize afterF g s t (lockF s t) = af at *
    generalize cameF g s t (lockF s t) = cm at *
    go_enter Tryz.func19, Tryz.ntmps19
    go_wp2_with (with_reducible refine wpl_g (g := g) (((((Blk.new w _ _).alloc _).alloc _).alloc _).alloc _) rfl rfl rfl ?_)
    refine (HS.out _ (Hg.out.grow (by repeat (first | exact Below.refl _ _ | assumption | (refine Below.setCell ?_ (by first | omega | (simp; done) | (simp; omega)) _) | (refine Below.alloc ?_ (by first | omega | (simp; done) | (simp; omega)) _) | refine Below.drew ?_ | (refine below_thru ?_ (by assumption) (by first | omega | (simp; done) | (simp; omega))) | refine below_drewN ?_ _)))).mono ?_
    rintro e w1 ⟨rfl, hb1⟩
    obtain ⟨hc1, hf1⟩ := bcell hb1; have hz1 := hb1.size; (try simp at hz1)
    have hB1 : Blk w1 w.heap.size 25 (grow g) := Blk.thru (by (repeat (first | assumption | exact Blk.new _ _ _ | (refine Blk.new' _ _ _ ?_; (simp; done)) | refine Blk.drew ?_ | refine Blk.alloc ?_ _ | (refine Blk.fars ?_ ?_ _ _; rotate_left; (dsimp only; omega)) | (refine Blk.far ?_ ?_ _; rotate_left; (first | (dsimp only; omega) | (simp; done) | (simp; omega) | omega))))) hb1 (by simp <;> omega)
    have hS1 : Blk w1 (w.heap.size + 1) 27 #[.int .i64 s.pos, .int .i64 s.charge, .bool s.bolted] := Blk.thru (by (repeat (first | assumption | exact Blk.new _ _ _ | (refine Blk.new' _ _ _ ?_; (simp; done)) | refine Blk.drew ?_ | refine Blk.alloc ?_ _ | (refine Blk.fars ?_ ?_ _ _; rotate_left; (dsimp only; omega)) | (refine Blk.far ?_ ?_ _; rotate_left; (first | (dsimp only; omega) | (simp; done) | (simp; omega) | omega))))) hb1 (by simp <;> omega)
    have hT1 : Blk w1 (w.heap.size + 1 + 1) 51 #[.int .i64 t.order, .bool t.power, .int .i64 t.outer, .int .i64 t.inner] := Blk.thru (by (repeat (first | assumption | exact Blk.new _ _ _ | (refine Blk.new' _ _ _ ?_; (simp; done)) | refine Blk.drew ?_ | refine Blk.alloc ?_ _ | (refine Blk.fars ?_ ?_ _ _; rotate_left; (dsimp only; omega)) | (refine Blk.far ?_ ?_ _; rotate_left; (first | (dsimp only; omega) | (simp; done) | (simp; omega) | omega))))) hb1 (by simp <;> omega)
    have hR1 : Blk w1 (w.heap.size + 1 + 1 + 1) 27 #[.int .i64 0, .int .i64 0, .bool false] := Blk.thru (by (repeat (first | assumption | exact Blk.new _ _ _ | (refine Blk.new' _ _ _ ?_; (simp; done)) | refine Blk.drew ?_ | refine Blk.alloc ?_ _ | (refine Blk.fars ?_ ?_ _ _; rotate_left; (dsimp only; omega)) | (refine Blk.far ?_ ?_ _; rotate_left; (first | (dsimp only; omega) | (simp; done) | (simp; omega) | omega))))) hb1 (by simp <;> omega)
    have hQ1 : Blk w1 (w.heap.size + 1 + 1 + 1 + 1) 47 #[.int .i64 0, .int .i64 0, .int .i64 0] := Blk.thru (by (repeat (first | assumption | exact Blk.new _ _ _ | (refine Blk.new' _ _ _ ?_; (simp; done)) | refine Blk.drew ?_ | refine Blk.alloc ?_ _ | (refine Blk.fars ?_ ?_ _ _; rotate_left; (dsimp only; omega)) | (refine Blk.far ?_ ?_ _; rotate_left; (first | (dsimp only; omega) | (simp; done) | (simp; omega) | omega))))) hb1 (by simp <;> omega)
    obtain ⟨s0, s1, s2, _⟩ := hS1.three
    obtain ⟨t0, t1, t2, t3⟩ := tcells_of hT1
    have hl0 : w.heap.size < w1.heap.size := by omega
    have hl1 : w.heap.size + 1 < w1.heap.size := by omega
    have hl2 : w.heap.size + 1 + 1 < w1.heap.size := by omega
    go_wp2_with (with_reducible refine wpl_g (g := g) (b := w.heap.size) (t := 25) (by (repeat (first | assumption | exact Blk.new _ _ _ | (refine Blk.new' _ _ _ ?_; (simp; done)) | refine Blk.drew ?_ | refine Blk.alloc ?_ _ | (refine Blk.fars ?_ ?_ _ _; rotate_left; (dsimp only; omega)) | (refine Blk.far ?_ ?_ _; rotate_left; (first | (dsimp only; omega) | (simp; done) | (simp; omega) | omega))))) rfl rfl rfl ?_)
    refine (alone_any g s _).mono ?_
    rintro e w2 ⟨b, rfl, hbl, hbm, hb2⟩
    obtain ⟨hc2, hf2⟩ := bcell hb2; have hz2 := hb2.size; (try simp at hz2)
    have hT2 : Blk w2 (w.heap.size + 1 + 1) 51 #[.int .i64 t.order, .bool t.power, .int .i64 t.outer, .int .i64 t.inner] := Blk.thru (by (repeat (first | assumption | exact Blk.new _ _ _ | (refine Blk.new' _ _ _ ?_; (simp; done)) | refine Blk.drew ?_ | refine Blk.alloc ?_ _ | (refine Blk.fars ?_ ?_ _ _; rotate_left; (dsimp only; omega)) | (refine Blk.far ?_ ?_ _; rotate_left; (first | (dsimp only; omega) | (simp; done) | (simp; omega) | omega))))) hb2 (by simp <;> omega)
    have hR2 : Blk w2 (w.heap.size + 1 + 1 + 1) 27 #[.int .i64 0, .int .i64 0, .bool false] := Blk.thru (by (repeat (first | assumption | exact Blk.new _ _ _ | (refine Blk.new' _ _ _ ?_; (simp; done)) | refine Blk.drew ?_ | refine Blk.alloc ?_ _ | (refine Blk.fars ?_ ?_ _ _; rotate_left; (dsimp only; omega)) | (refine Blk.far ?_ ?_ _; rotate_left; (first | (dsimp only; omega) | (simp; done) | (simp; omega) | omega))))) hb2 (by simp <;> omega)
    have hQ2 : Blk w2 (w.heap.size + 1 + 1 + 1 + 1) 47 #[.int .i64 0, .int .i64 0, .int .i64 0] := Blk.thru (by (repeat (first | assumption | exact Blk.new _ _ _ | (refine Blk.new' _ _ _ ?_; (simp; done)) | refine Blk.drew ?_ | refine Blk.alloc ?_ _ | (refine Blk.fars ?_ ?_ _ _; rotate_left; (dsimp only; omega)) | (refine Blk.far ?_ ?_ _; rotate_left; (first | (dsimp only; omega) | (simp; done) | (simp; omega) | omega))))) hb2 (by simp <;> omega)
    have hB2 : Below w.heap.size w w2 := (by repeat (first | exact Below.refl _ _ | assumption | (refine Below.setCell ?_ (by first | omega | (simp; done) | (simp; omega)) _) | (refine Below.alloc ?_ (by first | omega | (simp; done) | (simp; omega)) _) | refine Below.drew ?_ | (refine below_thru ?_ (by assumption) (by first | omega | (simp; done) | (simp; omega))) | refine below_drewN ?_ _))
    clear hB1 hS1 hT1 hR1 hQ1 s0 s1 s2 t0 t1 t2 t3 hl0 hl1 hl2 hb1 hb2 hc1 hf1
    obtain ⟨t0, t1, t2, t3⟩ := tcells_of hT2
    have hl2 : w.heap.size + 1 + 1 < w2.heap.size := by omega
    have hms : Ms (((w2.alloc (.cells #[.slice (some ⟨b, 0, none⟩) 1 1, .slice none 0 0] 103)).alloc (.cells #[.int .i64 t.order, .bool t.power, .int .i64 t.outer, .int .i64 t.inner] 51)).alloc (.cells #[.bool false] 4)) b [(g, s)] := (Ms.one hbm).grow (by repeat (first | exact Below.refl _ _ | assumption | (refine Below.setCell ?_ (by first | omega | (simp; done) | (simp; omega)) _) | (refine Below.alloc ?_ (by first | omega | (simp; done) | (simp; omega)) _) | refine Below.drew ?_ | (refine below_thru ?_ (by assumption) (by first | omega | (simp; done) | (simp; omega))) | refine below_drewN ?_ _))
    have Hms := Lib.hid hms
    have hblt := hbm.lt
    clear hms hbm
    go_wp2_with fail
    refine (HL.out b (w2.heap.size + 1) (w2.heap.size + 1 + 1) 1 1 _ (Hg.out.grow (by repeat (first | exact Below.refl _ _ | assumption | (refine Below.setCell ?_ (by first | omega | (simp; done) | (simp; omega)) _) | (refine Below.alloc ?_ (by first | omega | (simp; done) | (simp; omega)) _) | refine Below.drew ?_ | (refine below_thru ?_ (by assumption) (by first | omega | (simp; done) | (simp; omega))) | refine below_drewN ?_ _))) Hms.out ((Blk.new' (w2.alloc _) _ _ (by simp)).alloc _) (Blk.new' ((w2.alloc _).alloc _) _ _ (by simp))).mono ?_
    rintro e w3 ⟨gd, rfl, hgd0, hgd1, hrc, hms3, hgr⟩
    have hB3 : Below w.heap.size w w3 := by
      have h1 : Below w.heap.size w (((w2.alloc (.cells #[.slice (some ⟨b, 0, none⟩) 1 1, .slice none 0 0] 103)).alloc (.cells #[.int .i64 t.order, .bool t.power, .int .i64 t.outer, .int .i64 t.inner] 51)).alloc (.cells #[.bool false] 4)) := (by repeat (first | exact Below.refl _ _ | assumption | (refine Below.setCell ?_ (by first | omega | (simp; done) | (simp; omega)) _) | (refine Below.alloc ?_ (by first | omega | (simp; done) | (simp; omega)) _) | refine Below.drew ?_ | (refine below_thru ?_ (by assumption) (by first | omega | (simp; done) | (simp; omega))) | refine below_drewN ?_ _))
      exact h1.trans (grown_below hgr (fun k hk => by cases hk; (try simp at hbl); omega) (by simp; omega))
    have hS3 : Blk w3 w2.heap.size 103 #[.slice (some ⟨b, 0, none⟩) 1 1, .slice none 0 0] := (hgr.block _ (by simp; omega) (by simp; omega)).trans (((Blk.new w2 _ _).alloc _).alloc _)
    have hR3 : Blk w3 (w.heap.size + 1 + 1 + 1) 27 #[.int .i64 0, .int .i64 0, .bool false] := (hgr.block _ (by simp; omega) (by simp; (try simp at hbl); omega)).trans (((hR2.alloc _).alloc _).alloc _)
    have hQ3 : Blk w3 (w.heap.size + 1 + 1 + 1 + 1) 47 #[.int .i64 0, .int .i64 0, .int .i64 0] := (hgr.block _ (by simp; omega) (by simp; (try simp at hbl); omega)).trans (((hQ2.alloc _).alloc _).alloc _)
    have hz3 := hgr.size
    (try simp at hz3 hgd0 hbl)
    have hSR : StR w3 w2.heap.size (.slice (some ⟨b, 0, none⟩) 1 1) (.slice none 0 0) gd cm := ⟨hS3, hrc 0 _ rfl, hrc 1 _ rfl, hrc 2 _ rfl⟩
    obtain ⟨s0, s1, _, _⟩ := hS3.two
    have hmd : Ms w3.drew b [(g, af)] := hms3.same rfl (Nat.le_refl _)
    have Hmd := Lib.hid hmd
    clear hS3 hrc hms3 hmd hgr hT2 hR2 hQ2 t0 t1 t2 t3 hl2 HL HS Hms hc2 hf2 hB2
    go_wp2_with fail
    refine wp_region_held (S := fun W' => StR W' w2.heap.size (.slice (some ⟨b, 0, none⟩) 1 1) (.slice none 0 0) gd cm) (by kernel_rfl) (by exact hSR.drew) (fun hHeld => ?_)
    refine wpAnyH_take (i := 0) (v := ?_) rfl (by kernel_rfl) (by kernel_rfl) (by kernel_rfl) (fun _ _ _ h => h) (Or.inl ⟨by kernel_rfl, ?_⟩) hHeld ?_
    rotate_left
    · intro w hSw; (try dsimp only at hSw); obtain ⟨st, y0, y1, y2⟩ := hSw; have s0 := st.cell 0; have s1 := st.cell 1; simp only [List.getElem?_toArray, List.getElem?_cons_zero, List.getElem?_cons_succ] at s0 s1; go_simp; (try with_reducible rfl)
    (try simp only [Act.put, List.setIfInBounds_toArray, List.set_cons_zero, List.set_cons_succ])
    refine wpAnyH_take (i := 4) (v := ?_) rfl (by kernel_rfl) (by kernel_rfl) (by kernel_rfl) (fun _ _ _ h => h) (Or.inl ⟨by kernel_rfl, ?_⟩) hHeld ?_
    rotate_left
    · intro w hSw; (try dsimp only at hSw); obtain ⟨st, y0, y1, y2⟩ := hSw; have s0 := st.cell 0; have s1 := st.cell 1; simp only [List.getElem?_toArray, List.getElem?_cons_zero, List.getElem?_cons_succ] at s0 s1; go_simp; (try with_reducible rfl)
    (try simp only [Act.put, List.setIfInBounds_toArray, List.set_cons_zero, List.set_cons_succ])
    refine wpAnyH_take (i := 5) (v := ?_) rfl (by kernel_rfl) (by kernel_rfl) (by kernel_rfl) (fun _ _ _ h => h) (Or.inl ⟨by kernel_rfl, ?_⟩) hHeld ?_
    rotate_left
    · intro w hSw; (try dsimp only at hSw); obtain ⟨st, y0, y1, y2⟩ := hSw; have s0 := st.cell 0; have s1 := st.cell 1; simp only [List.getElem?_toArray, List.getElem?_cons_zero, List.getElem?_cons_succ] at s0 s1; go_simp; (try with_reducible rfl)
    (try simp only [Act.put, List.setIfInBounds_toArray, List.set_cons_zero, List.set_cons_succ])
    refine wpAnyH_take (i := 6) (v := ?_) rfl (by kernel_rfl) (by kernel_rfl) (by kernel_rfl) (fun _ _ _ h => h) (Or.inl ⟨by kernel_rfl, ?_⟩) hHeld ?_
    rotate_left
    · intro w hSw; (try dsimp only at hSw); obtain ⟨st, y0, y1, y2⟩ := hSw; have s0 := st.cell 0; have s1 := st.cell 1; simp only [List.getElem?_toArray, List.getElem?_cons_zero, List.getElem?_cons_succ] at s0 s1; go_simp; (try with_reducible rfl)
    (try simp only [Act.put, List.setIfInBounds_toArray, List.set_cons_zero, List.set_cons_succ])
    refine wpAnyH_ready (rs := [1]) (by kernel_rfl) (by simp) ?_
    refine AllReadyH.cons rfl (fun K hK => ?_) AllReadyH.nil
    go_simp
    refine (states_any [(g, af)] b 1 1 none 0 0 _ Hmd.out rfl (by omega)).mono ?_
    rintro e w4 ⟨v, rfl, hown, hb4⟩; have hz4 := hb4.size; (try simp at hz4)
    (try dsimp only)
    refine hK.out _ _ (by exact hHeld.below hb4) (fun hHeld => ?_)
    clear hK K
    (try simp only [Act.put, List.setIfInBounds_toArray, List.set_cons_zero, List.set_cons_succ])
    obtain ⟨A, vn, vc, rfl⟩ := owns_slice hown
    obtain ⟨g2, rfl, rfl, hg20, hg21, hrg⟩ := owns_cells hown (by omega)
    have e0 : stCells [(g, af)] = af.cells := by simp [stCells]
    rw [e0] at hrg
    have u0 := hrg 0 _ rfl
    have u1 := hrg 1 _ rfl
    have u2 := hrg 2 _ rfl
    simp only [Nat.zero_add] at u0 u1 u2
    have hR4 : Blk w4 (w.heap.size + 1 + 1 + 1) 27 #[.int .i64 0, .int .i64 0, .bool false] := (hR3.drew).thru hb4 (by simp; omega)
    have hQ4 : Blk w4 (w.heap.size + 1 + 1 + 1 + 1) 47 #[.int .i64 0, .int .i64 0, .int .i64 0] := (hQ3.drew).thru hb4 (by simp; omega)
    have hB4 : Below w.heap.size w w4 := (hB3.drew).trans (hb4.mono (by simp; omega))
    clear hR3 hQ3 hown hrg hb4 hB3
    refine wpAnyH_take (i := 2) (v := ?_) rfl (by kernel_rfl) (by kernel_rfl) (by kernel_rfl) (fun _ _ _ h => h) (Or.inl ⟨by kernel_rfl, ?_⟩) hHeld ?_
    rotate_left
    · intro w hSw; (try dsimp only at hSw); skip; go_simp; (try with_reducible rfl)
    (try simp only [Act.put, List.setIfInBounds_toArray, List.set_cons_zero, List.set_cons_succ])
    refine wpAnyH_ready (rs := [3]) (by kernel_rfl) (by simp) ?_
    refine AllReadyH.cons rfl (fun K hK => ?_) AllReadyH.nil
    go_simp
    (try dsimp only)
    refine hK.out _ _ (by exact hHeld) (fun hHeld => ?_)
    clear hK K
    (try simp only [Act.put, List.setIfInBounds_toArray, List.set_cons_zero, List.set_cons_succ])
    (try simp only [List.getElem_toArray, List.getElem_cons_zero, List.getElem_cons_succ, Act.put, List.setIfInBounds_toArray, List.set_cons_zero, List.set_cons_succ])
    refine wpAnyH_ready (rs := [7]) (by kernel_rfl) (by simp) ?_
    refine AllReadyH.cons rfl (fun K hK => ?_) AllReadyH.nil
    refine wanted_of (by rfl) (wp_store_mid (P := Tryz.prog) 27 _ _ rfl (w.heap.size + 1 + 1 + 1) 0 #[.int .i64 af.pos, .int .i64 af.charge, .bool af.bolted] rfl rfl (Blk.there hR4 (by show 0 + 3 ≤ 3; omega)) (by kernel_rfl) (by simp [Value.oneCell']) ?_)
    refine hK.out _ _ (by exact hHeld.sets (by omega) (by omega) _ _) (fun hHeld => ?_)
    clear hK K
    (try simp only [Act.put, List.setIfInBounds_toArray, List.set_cons_zero, List.set_cons_succ])
    (try simp only [List.getElem_toArray, List.getElem_cons_zero, List.getElem_cons_succ, Act.put, List.setIfInBounds_toArray, List.set_cons_zero, List.set_cons_succ])
    refine wpAnyH_ready (rs := [8]) (by kernel_rfl) (by simp) ?_
    refine AllReadyH.cons rfl (fun K hK => ?_) AllReadyH.nil
    refine wanted_of (by rfl) (wp_store_mid (P := Tryz.prog) 47 _ _ rfl (w.heap.size + 1 + 1 + 1 + 1) 0 #[.int .i64 cm.refused, .int .i64 cm.moved, .int .i64 cm.oil] rfl rfl (Blk.there (Blk.fars hQ4 (by omega) _ _) (by show 0 + 3 ≤ 3; omega)) (by kernel_rfl) (by simp [Value.oneCell']) ?_)
    refine hK.out _ _ (by exact hHeld.sets (by omega) (by omega) _ _) (fun hHeld => ?_)
    clear hK K
    (try simp only [Act.put, List.setIfInBounds_toArray, List.set_cons_zero, List.set_cons_succ])
    refine wpAnyH_take (i := 9) (v := ?_) rfl (by kernel_rfl) (by kernel_rfl) (by kernel_rfl) (fun _ _ _ h => h) (Or.inl ⟨by kernel_rfl, ?_⟩) hHeld ?_
    rotate_left
    · intro w hSw; (try dsimp only at hSw); skip; go_simp; (try with_reducible rfl)
    (try simp only [Act.put, List.setIfInBounds_toArray, List.set_cons_zero, List.set_cons_succ])
    refine wpAnyH_done (by kernel_rfl) ?_ _
    (try simp only [List.getElem_toArray, List.getElem_cons_zero, List.getElem_cons_succ, Act.put, List.setIfInBounds_toArray, List.set_cons_zero, List.set_cons_succ])
    have hRe : Blk ((w4.setCells (w.heap.size + 1 + 1 + 1) 0 (#[.int .i64 af.pos, .int .i64 af.charge, .bool af.bolted] : Array Value).toList).setCells (w.heap.size + 1 + 1 + 1 + 1) 0 (#[.int .i64 cm.refused, .int .i64 cm.moved, .int .i64 cm.oil] : Array Value).toList) (w.heap.size + 1 + 1 + 1) 27 #[.int .i64 af.pos, .int .i64 af.charge, .bool af.bolted] := Blk.fars (Blk.sets hR4 _ _) (by omega) _ _
    have hQe : Blk ((w4.setCells (w.heap.size + 1 + 1 + 1) 0 (#[.int .i64 af.pos, .int .i64 af.charge, .bool af.bolted] : Array Value).toList).setCells (w.heap.size + 1 + 1 + 1 + 1) 0 (#[.int .i64 cm.refused, .int .i64 cm.moved, .int .i64 cm.oil] : Array Value).toList) (w.heap.size + 1 + 1 + 1 + 1) 47 #[.int .i64 cm.refused, .int .i64 cm.moved, .int .i64 cm.oil] := Blk.sets (Blk.fars hQ4 (by omega) _ _) _ _
    have hBe : Below w.heap.size w ((w4.setCells (w.heap.size + 1 + 1 + 1) 0 (#[.int .i64 af.pos, .int .i64 af.charge, .bool af.bolted] : Array Value).toList).setCells (w.heap.size + 1 + 1 + 1 + 1) 0 (#[.int .i64 cm.refused, .int .i64 cm.moved, .int .i64 cm.oil] : Array Value).toList) := below_sets (below_sets hB4 (by omega) _ _) (by omega) _ _
    go_wp2
    exact bodyPost_ret (results_rows3 rfl _ rfl rfl rfl hRe hQe uState iState uMoved iMoved) rfl ⟨rfl, hBe⟩
  · have hu : stepU g s t = ⟨0, 0, false⟩ := by unfold stepU; rw [if_neg h0]
    have hd : stepD g s t = ⟨0, 0, 0⟩ := by unfold stepD; rw [if_neg h0]
    rw [hu, hd]
    clear hu hd hg
    obtain ⟨fp, fa, fe, hfl⟩ : ∃ fp fa fe, stepFt g s t = ⟨fp, fa, fe⟩ := ⟨_, _, _, rfl⟩
    rw [hfl] at HS h0 ⊢
    simp only at h0
    have h0' : (fe != 0) = true := by rw [bne_iff_ne]; exact h0
    clear hfl h0
    go_enter Tryz.func19, Tryz.ntmps19
    go_wp2_with (with_reducible refine wpl_g (g := g) (((((Blk.new w _ _).alloc _).alloc _).alloc _).alloc _) rfl rfl rfl ?_)
    refine (HS.out _ (Hg.out.grow (by repeat (first | exact Below.refl _ _ | assumption | (refine Below.setCell ?_ (by first | omega | (simp; done) | (simp; omega)) _) | (refine Below.alloc ?_ (by first | omega | (simp; done) | (simp; omega)) _) | refine Below.drew ?_ | (refine below_thru ?_ (by assumption) (by first | omega | (simp; done) | (simp; omega))) | refine below_drewN ?_ _)))).mono ?_
    rintro e w1 ⟨rfl, hb1⟩
    obtain ⟨hc1, hf1⟩ := bcell hb1; have hz1 := hb1.size; (try simp at hz1)
    have hR1 : Blk w1 (w.heap.size + 1 + 1 + 1) 27 #[.int .i64 0, .int .i64 0, .bool false] := Blk.thru (by (repeat (first | assumption | exact Blk.new _ _ _ | (refine Blk.new' _ _ _ ?_; (simp; done)) | refine Blk.drew ?_ | refine Blk.alloc ?_ _ | (refine Blk.fars ?_ ?_ _ _; rotate_left; (dsimp only; omega)) | (refine Blk.far ?_ ?_ _; rotate_left; (first | (dsimp only; omega) | (simp; done) | (simp; omega) | omega))))) hb1 (by simp <;> omega)
    have hQ1 : Blk w1 (w.heap.size + 1 + 1 + 1 + 1) 47 #[.int .i64 0, .int .i64 0, .int .i64 0] := Blk.thru (by (repeat (first | assumption | exact Blk.new _ _ _ | (refine Blk.new' _ _ _ ?_; (simp; done)) | refine Blk.drew ?_ | refine Blk.alloc ?_ _ | (refine Blk.fars ?_ ?_ _ _; rotate_left; (dsimp only; omega)) | (refine Blk.far ?_ ?_ _; rotate_left; (first | (dsimp only; omega) | (simp; done) | (simp; omega) | omega))))) hb1 (by simp <;> omega)
    obtain ⟨r0, r1, r2, x0, x1, x2⟩ := hR1.three
    obtain ⟨q0, q1, q2, y0, y1, y2⟩ := hQ1.three
    have hl3 : w.heap.size + 1 + 1 + 1 < w1.heap.size := by omega
    have hl4 : w.heap.size + 1 + 1 + 1 + 1 < w1.heap.size := by omega
    have hF1 : (w1.alloc (.cells #[.int .i64 fp, .int .i64 fa, .int .i64 fe] 80)).drew.cell? ⟨w1.heap.size, 2, none⟩ = some (.int .i64 fe) := (Blk.new w1 _ _).cell 2
    have hR2 : Blk (w1.alloc (.cells #[.int .i64 fp, .int .i64 fa, .int .i64 fe] 80)).drew (w.heap.size + 1 + 1 + 1) 27 #[.int .i64 0, .int .i64 0, .bool false] := hR1.alloc _
    have hQ2 : Blk (w1.alloc (.cells #[.int .i64 fp, .int .i64 fa, .int .i64 fe] 80)).drew (w.heap.size + 1 + 1 + 1 + 1) 47 #[.int .i64 0, .int .i64 0, .int .i64 0] := hQ1.alloc _
    have hB2 : Below w.heap.size w (w1.alloc (.cells #[.int .i64 fp, .int .i64 fa, .int .i64 fe] 80)).drew := (by repeat (first | exact Below.refl _ _ | assumption | (refine Below.setCell ?_ (by first | omega | (simp; done) | (simp; omega)) _) | (refine Below.alloc ?_ (by first | omega | (simp; done) | (simp; omega)) _) | refine Below.drew ?_ | (refine below_thru ?_ (by assumption) (by first | omega | (simp; done) | (simp; omega))) | refine below_drewN ?_ _))
    clear hR1 hQ1 r0 r1 r2 x0 x1 x2 q0 q1 q2 y0 y1 y2
    go_wp2_with fail
    generalize hw2 : (w1.alloc (.cells #[.int .i64 fp, .int .i64 fa, .int .i64 fe] 80)) = w2 at *
    clear hw2
    refine wp_region_held (S := fun W' => W'.cell? ⟨w1.heap.size, 2, none⟩ = some (.int .i64 fe)) (by kernel_rfl) (by exact hF1) (fun hHeld => ?_)
    refine wpAnyH_take (i := 0) (v := ?_) rfl (by kernel_rfl) (by kernel_rfl) (by kernel_rfl) (fun _ _ _ h => h) (Or.inl ⟨by kernel_rfl, ?_⟩) hHeld ?_
    rotate_left
    · intro w hSw; (try dsimp only at hSw); skip; go_simp; (try with_reducible rfl)
    (try simp only [Act.put, List.setIfInBounds_toArray, List.set_cons_zero, List.set_cons_succ])
    refine wpAnyH_take (i := 1) (v := ?_) rfl (by kernel_rfl) (by kernel_rfl) (by kernel_rfl) (fun _ _ _ h => h) (Or.inl ⟨by kernel_rfl, ?_⟩) hHeld ?_
    rotate_left
    · intro w hSw; (try dsimp only at hSw); skip; go_simp; (try with_reducible rfl)
    (try simp only [Act.put, List.setIfInBounds_toArray, List.set_cons_zero, List.set_cons_succ])
    refine wpAnyH_take (i := 2) (v := ?_) rfl (by kernel_rfl) (by kernel_rfl) (by kernel_rfl) (fun _ _ _ h => h) (Or.inl ⟨by kernel_rfl, ?_⟩) hHeld ?_
    rotate_left
    · intro w hSw; (try dsimp only at hSw); skip; go_simp; (try with_reducible rfl)
    (try simp only [Act.put, List.setIfInBounds_toArray, List.set_cons_zero, List.set_cons_succ])
    refine wpAnyH_take (i := 3) (v := ?_) rfl (by kernel_rfl) (by kernel_rfl) (by kernel_rfl) (fun _ _ _ h => h) (Or.inl ⟨by kernel_rfl, ?_⟩) hHeld ?_
    rotate_left
    · intro w hSw; (try dsimp only at hSw); skip; go_simp; (try with_reducible rfl)
    (try simp only [Act.put, List.setIfInBounds_toArray, List.set_cons_zero, List.set_cons_succ])
    (try simp only [List.getElem_toArray, List.getElem_cons_zero, List.getElem_cons_succ, Act.put, List.setIfInBounds_toArray, List.set_cons_zero, List.set_cons_succ])
    refine wpAnyH_ready (rs := [4]) (by kernel_rfl) (by simp) ?_
    refine AllReadyH.cons rfl (fun K hK => ?_) AllReadyH.nil
    refine wanted_of (by rfl) (wp_store_mid (P := Tryz.prog) 27 _ _ rfl (w.heap.size + 1 + 1 + 1) 0 #[.int .i64 0, .int .i64 0, .bool false] rfl rfl (Blk.there hR2 (by show 0 + 3 ≤ 3; omega)) (by kernel_rfl) (by simp [Value.oneCell']) ?_)
    refine hK.out _ _ (by exact (World.cell?_setCells_out _ _ _ _ _ (fun hb _ => absurd hb (by simp; omega))).trans hHeld) (fun hHeld => ?_)
    clear hK K
    (try simp only [Act.put, List.setIfInBounds_toArray, List.set_cons_zero, List.set_cons_succ])
    (try simp only [List.getElem_toArray, List.getElem_cons_zero, List.getElem_cons_succ, Act.put, List.setIfInBounds_toArray, List.set_cons_zero, List.set_cons_succ])
    refine wpAnyH_ready (rs := [5]) (by kernel_rfl) (by simp) ?_
    refine AllReadyH.cons rfl (fun K hK => ?_) AllReadyH.nil
    refine wanted_of (by rfl) (wp_store_mid (P := Tryz.prog) 47 _ _ rfl (w.heap.size + 1 + 1 + 1 + 1) 0 #[.int .i64 0, .int .i64 0, .int .i64 0] rfl rfl (Blk.there (Blk.fars hQ2 (by omega) _ _) (by show 0 + 3 ≤ 3; omega)) (by kernel_rfl) (by simp [Value.oneCell']) ?_)
    refine hK.out _ _ (by exact (World.cell?_setCells_out _ _ _ _ _ (fun hb _ => absurd hb (by simp; omega))).trans hHeld) (fun hHeld => ?_)
    clear hK K
    (try simp only [Act.put, List.setIfInBounds_toArray, List.set_cons_zero, List.set_cons_succ])
    refine wpAnyH_take (i := 6) (v := ?_) rfl (by kernel_rfl) (by kernel_rfl) (by kernel_rfl) (fun _ _ _ h => h) (Or.inl ⟨by kernel_rfl, ?_⟩) hHeld ?_
    rotate_left
    · intro w hSw; (try dsimp only at hSw); skip; go_simp; (try with_reducible rfl)
    (try simp only [Act.put, List.setIfInBounds_toArray, List.set_cons_zero, List.set_cons_succ])
    refine wpAnyH_done (by kernel_rfl) ?_ _
    (try simp only [List.getElem_toArray, List.getElem_cons_zero, List.getElem_cons_succ, Act.put, List.setIfInBounds_toArray, List.set_cons_zero, List.set_cons_succ])
    have hRe : Blk ((w2.drew.setCells (w.heap.size + 1 + 1 + 1) 0 (#[.int .i64 0, .int .i64 0, .bool false] : Array Value).toList).setCells (w.heap.size + 1 + 1 + 1 + 1) 0 (#[.int .i64 0, .int .i64 0, .int .i64 0] : Array Value).toList) (w.heap.size + 1 + 1 + 1) 27 #[.int .i64 0, .int .i64 0, .bool false] := Blk.fars (Blk.sets hR2 _ _) (by omega) _ _
    have hQe : Blk ((w2.drew.setCells (w.heap.size + 1 + 1 + 1) 0 (#[.int .i64 0, .int .i64 0, .bool false] : Array Value).toList).setCells (w.heap.size + 1 + 1 + 1 + 1) 0 (#[.int .i64 0, .int .i64 0, .int .i64 0] : Array Value).toList) (w.heap.size + 1 + 1 + 1 + 1) 47 #[.int .i64 0, .int .i64 0, .int .i64 0] := Blk.sets (Blk.fars hQ2 (by omega) _ _) _ _
    have hBe : Below w.heap.size w ((w2.drew.setCells (w.heap.size + 1 + 1 + 1) 0 (#[.int .i64 0, .int .i64 0, .bool false] : Array Value).toList).setCells (w.heap.size + 1 + 1 + 1 + 1) 0 (#[.int .i64 0, .int .i64 0, .int .i64 0] : Array Value).toList) := below_sets (below_sets hB2 (by omega) _ _) (by omega) _ _
    go_wp2
    exact bodyPost_ret (results_rows3 rfl _ rfl rfl rfl hRe hQe uState iState uMoved iMoved) rfl ⟨rfl, hBe⟩
end Go.Proofs.YtmhfnnpbnocafaaGreat
