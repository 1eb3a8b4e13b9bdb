/- The calls whose answers are told. -/
import Derived.Test.YtncidhoojgncgaaGreatTdLevel
import Derived.Test.YtncidhoojgncgaaGreatTdSays
namespace Go.Proofs.YtncidhoojgncgaaGreat
open Go.RowKit
set_option linter.unusedSimpArgs false
set_option linter.unusedVariables false

def moonName : ByteArray := ⟨#[109, 111, 111, 110]⟩
def pierName : ByteArray := ⟨#[112, 105, 101, 114]⟩
def tabT (g1 g2 : Nat) : Tb := ⟨100, some ⟨g2, 0, none⟩, 1, 1, [⟨moonName, some ⟨g1, 0, none⟩, 4, 4, [0, 1000, 0, -1000], 0, 2, 37, 10⟩]⟩
def gaugeG (g1 g2 : Nat) : Gg := ⟨pierName, 20, 50, some ⟨g1, 0, none⟩, 2, 2, [⟨0, 0, 0⟩, ⟨100, 30, 40⟩], some ⟨g2, 0, none⟩, 2, 2, [⟨90, 500⟩, ⟨110, 640⟩]⟩
theorem tabT_level (g1 g2 : Nat) : levelF (tabT g1 g2) 1 = (⟨144, 165⟩, 0) := by kernel_rfl
theorem gaugeG_says1 (g1 g2 : Nat) : saysF (gaugeG g1 g2) 92 100 = (⟨380, 620⟩, 0) := by kernel_rfl
theorem gaugeG_says2 (g1 g2 : Nat) : saysF (gaugeG g1 g2) 89 89 = (⟨0, 0⟩, 4) := by kernel_rfl

theorem Tab.of_blk {w : World} {g : Nat} {t : TypeId} {cs : Array Value} (hb : Blk w g t cs) {B n size : Nat} {rows : List (List Value)} (hg : g < B) (hn : rows.length = n)
    (hc : ∀ (k : Nat) (r : List Value), rows[k]? = some r → ∀ (j : Nat) (v : Value), r[j]? = some v → cs[k * size + j]? = some v) : Tab w B (some ⟨g, 0, none⟩) n size rows :=
  ⟨hn, fun _ => ⟨g, 0, rfl, hg, fun k r hr j v hv => by
    have := hb.cell (k * size + j)
    rw [show (0 + k * size + j) = k * size + j by omega, this]
    exact hc k r hr j v hv⟩⟩

theorem flat_get {α : Type} (size : Nat) : ∀ (rows : List (List α)) (h : ∀ r ∈ rows, r.length = size) (k : Nat) (r : List α) (j : Nat) (v : α), rows[k]? = some r → r[j]? = some v → rows.flatten[k * size + j]? = some v
  | [], _, k, r, j, v, hr, _ => by simp at hr
  | a :: rows, h, 0, r, j, v, hr, hv => by
    simp at hr
    subst hr
    have := (List.getElem?_eq_some_iff.1 hv).1
    rw [List.flatten_cons, Nat.zero_mul, Nat.zero_add, List.getElem?_append_left this]
    exact hv
  | a :: rows, h, k + 1, r, j, v, hr, hv => by
    have ha := h a (by simp)
    rw [List.flatten_cons, List.getElem?_append_right (by rw [ha, Nat.add_mul]; omega), ha, show (k + 1) * size + j - size = k * size + j by rw [Nat.add_mul]; omega]
    exact flat_get size rows (fun r hr => h r (by simp [hr])) k r j v (by simpa using hr) hv
theorem Tab.of_flat {w : World} {g : Nat} {t : TypeId} {cs : Array Value} (hb : Blk w g t cs) {B n size : Nat} {rows : List (List Value)} (hg : g < B) (hn : rows.length = n) (hs : ∀ r ∈ rows, r.length = size) (hc : cs = rows.flatten.toArray) : Tab w B (some ⟨g, 0, none⟩) n size rows :=
  Tab.of_blk hb hg hn fun k r hr j v hv => by rw [hc, List.getElem?_toArray]; exact flat_get size rows hs k r j v hr hv

def TableAt (w : World) (e : Ending) (w' : World) : Prop := ∃ g1 g2, e = .returned (tabT g1 g2).v ∧ (tabT g1 g2).At w' w'.heap.size ∧ Below w.heap.size w w'
def GaugeAt (w : World) (e : Ending) (w' : World) : Prop := ∃ g1 g2, e = .returned (gaugeG g1 g2).v ∧ (gaugeG g1 g2).At w' w'.heap.size ∧ Below w.heap.size w w'

set_option maxHeartbeats 1000000 in
theorem Table_any (w : World) : Calls Tryz.prog 47 #[] w (TableAt w) := by
  go_enter Tryz.func47, Tryz.ntmps47
  go_wp2
  refine bodyPost_ret (v := (tabT (w.heap.size + 1) (w.heap.size + 1 + 1)).v) (by simp [results, Tryz.results47, go_sem]; exact ⟨rfl, rfl, rfl, rfl⟩) rfl ⟨w.heap.size + 1, w.heap.size + 1 + 1, rfl, ⟨?_, ?_, ?_, ?_⟩, (by repeat (first | exact Below.refl _ _ | assumption | (refine Below.setCell ?_ (by first | omega | (simp; done) | (simp; omega)) _) | (refine Below.alloc ?_ (by first | omega | (simp; done) | (simp; omega)) _) | refine Below.drew ?_ | (refine below_thru ?_ (by assumption) (by first | omega | (simp; done) | (simp; omega))) | refine below_drewN ?_ _))⟩
  · exact Tab.of_flat (Blk.new' _ _ _ (by simp)) (by simp) rfl (by intro r hr; simp [tabT] at hr; subst hr; rfl) rfl
  · intro c hc
    simp [tabT] at hc
    subst hc
    exact ⟨Tab.of_flat ((Blk.new' (w.alloc _) _ _ (by simp)).alloc _) (by simp) rfl (by intro r hr; simp [ints] at hr; rcases hr with rfl | rfl | rfl | rfl <;> rfl) rfl, by simp only [maxLen]; decide, by simp only [maxLen]; decide⟩
  · simp only [tabT, maxLen]; decide
  · simp [tabT]

set_option maxHeartbeats 1000000 in
theorem Gauge_any (w : World) : Calls Tryz.prog 48 #[] w (GaugeAt w) := by
  go_enter Tryz.func48, Tryz.ntmps48
  go_wp2
  refine bodyPost_ret (v := (gaugeG (w.heap.size + 1) (w.heap.size + 1 + 1)).v) (by simp [results, Tryz.results48, go_sem]; exact ⟨rfl, rfl, rfl, ⟨rfl, rfl, rfl⟩, rfl, rfl, rfl⟩) rfl ⟨w.heap.size + 1, w.heap.size + 1 + 1, rfl, ⟨?_, ?_, ?_, ?_, ?_⟩, (by repeat (first | exact Below.refl _ _ | assumption | (refine Below.setCell ?_ (by first | omega | (simp; done) | (simp; omega)) _) | (refine Below.alloc ?_ (by first | omega | (simp; done) | (simp; omega)) _) | refine Below.drew ?_ | (refine below_thru ?_ (by assumption) (by first | omega | (simp; done) | (simp; omega))) | refine below_drewN ?_ _))⟩
  · exact Tab.of_flat ((Blk.new' (w.alloc _) _ _ (by simp)).alloc _) (by simp) rfl (by intro r hr; simp [gaugeG] at hr; rcases hr with rfl | rfl <;> rfl) rfl
  · exact Tab.of_flat (Blk.new' _ _ _ (by simp)) (by simp) rfl (by intro r hr; simp [gaugeG] at hr; rcases hr with rfl | rfl <;> rfl) rfl
  · simp only [gaugeG, maxLen]; decide
  · simp only [gaugeG, maxLen]; decide
  · simp only [gaugeG, maxLen]; decide
end Go.Proofs.YtncidhoojgncgaaGreat
