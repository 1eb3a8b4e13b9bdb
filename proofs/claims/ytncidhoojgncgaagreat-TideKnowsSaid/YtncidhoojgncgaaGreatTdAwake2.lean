/- Awake returns true. -/
import Derived.Test.YtncidhoojgncgaaGreatTdAwake
namespace Go.Proofs.YtncidhoojgncgaaGreat
open Go.RowKit
set_option linter.unusedSimpArgs false
set_option linter.unusedVariables false

set_option maxHeartbeats 1000000 in
theorem ggf1_any (A : Option Addr) (n c b : Nat) (w : World) (hb : Blk w b 52 #[.slice A n c]) (hn : n ≤ maxLen) :
    Calls Tryz.prog 136 #[.pointer (some ⟨b, 0, none⟩)] w fun e w' => e = .returned (need (decide ((n : Int) ≤ 8)) 3).v ∧ Below w.heap.size w w' := by
  have x0 := hb.cell 0
  simp only [List.getElem?_toArray, List.getElem?_cons_zero] at x0
  have xl := hb.lt
  clear hb
  unfold maxLen at hn
  go_enter Tryz.func136, Tryz.ntmps136
  go_wp2_with fail
  refine (need_any (decide ((n : Int) ≤ 8)) 3 _).mono ?_
  rintro e w1 ⟨rfl, hb1⟩
  obtain ⟨hc1, hf1⟩ := bcell hb1; have hz1 := hb1.size; (try simp at hz1)
  go_wp2
  exact bodyPost_ret (v := (need (decide ((n : Int) ≤ 8)) 3).v) (by simp [results, Tryz.results136, go_sem, hc1] <;> omega) rfl ⟨by rfl, (by repeat (first | exact Below.refl _ _ | assumption | (refine Below.setCell ?_ (by first | omega | (simp; done) | (simp; omega)) _) | (refine Below.alloc ?_ (by first | omega | (simp; done) | (simp; omega)) _) | refine Below.drew ?_ | (refine below_thru ?_ (by assumption) (by first | omega | (simp; done) | (simp; omega))) | refine below_drewN ?_ _))⟩

def longC (p q r : Value) : List Chk := [⟨136, #[p], ⟨0, 0, 3⟩⟩, ⟨137, #[p], ⟨0, 0, 0⟩⟩, ⟨139, #[p], ⟨0, 0, 0⟩⟩, ⟨141, #[q, r], ⟨0, 0, 0⟩⟩]
theorem longC_plain (p q r : Value) : ∀ (k : Nat) (c : Chk), (longC p q r)[k]? = some c → Plain c.f c.caps := by
  intro k c hk W
  match k, hk with
  | 0, hk => cases hk; show Sem.run Tryz.prog (callFunc _ _) W = _; kernel_rfl
  | 1, hk => cases hk; show Sem.run Tryz.prog (callFunc _ _) W = _; kernel_rfl
  | 2, hk => cases hk; show Sem.run Tryz.prog (callFunc _ _) W = _; kernel_rfl
  | 3, hk => cases hk; show Sem.run Tryz.prog (callFunc _ _) W = _; kernel_rfl
  | k + 4, hk => simp [longC] at hk
theorem longC_good (A : Option Addr) (n c b : Nat) (q r : Value) (w : World) (hb : Blk w b 52 #[.slice A n c]) (hn : n ≤ maxLen) (h8 : 8 < n) : Good w (longC (.pointer (some ⟨b, 0, none⟩)) q r) := by
  intro k x hk hprev W hW
  match k, hk with
  | 0, hk =>
    cases hk
    have := ggf1_any A n c b W (hb.thru hW hb.lt) hn
    rwa [show decide ((n : Int) ≤ 8) = false by simp; omega] at this
  | k + 1, hk => exact absurd (hprev 0 _ (by omega) rfl) (by simp)

set_option maxHeartbeats 1000000 in
theorem gaugesLong_any (A : Option Addr) (n c : Nat) (x y : Int) (w : World) (hn : n ≤ maxLen) (h8 : 8 < n) :
    Calls Tryz.prog 82 #[.slice A n c, .int .i64 x, .int .i64 y] w fun e w' => e = .returned (Ft.v ⟨0, 0, 3⟩) ∧ Below w.heap.size w w' := by
  have HG := Lib.hid (fun b q r W h => longC_good A n c b q r W h hn h8)
  go_enter Tryz.func82, Tryz.ntmps82
  go_wp2_with fail
  refine (first_any _ (w.heap.size + 1 + 1 + 1 + 1) 0 4 (longC (.pointer (some ⟨w.heap.size, 0, none⟩)) (.pointer (some ⟨w.heap.size + 1, 0, none⟩)) (.pointer (some ⟨w.heap.size + 1 + 1, 0, none⟩))) rfl (by omega) (by simp) ?_ (HG.out _ _ _ _ ?_) (longC_plain _ _ _)).mono ?_
  · intro k x hk
    match k, hk with
    | 0, hk => cases hk; exact (Blk.new' _ _ _ (by simp)).cell 0
    | 1, hk => cases hk; exact (Blk.new' _ _ _ (by simp)).cell 1
    | 2, hk => cases hk; exact (Blk.new' _ _ _ (by simp)).cell 2
    | 3, hk => cases hk; exact (Blk.new' _ _ _ (by simp)).cell 3
    | k + 4, hk => simp [longC] at hk
  · exact ((((Blk.new w _ _).alloc _).alloc _).alloc _).alloc _
  · rintro e w1 ⟨rfl, hb1⟩
    obtain ⟨hc1, hf1⟩ := bcell hb1; have hz1 := hb1.size; (try simp at hz1)
    have hl1 : w.heap.size + 1 + 1 + 1 < w1.heap.size := by omega
    go_wp2
    exact bodyPost_ret (v := (firstF ((longC (.pointer (some ⟨w.heap.size, 0, none⟩)) (.pointer (some ⟨w.heap.size + 1, 0, none⟩)) (.pointer (some ⟨w.heap.size + 1 + 1, 0, none⟩))).map (·.r))).v) (by simp [results, Tryz.results82, go_sem, hc1, hl1] <;> omega) rfl ⟨by rfl, (by repeat (first | exact Below.refl _ _ | assumption | (refine Below.setCell ?_ (by first | omega | (simp; done) | (simp; omega)) _) | (refine Below.alloc ?_ (by first | omega | (simp; done) | (simp; omega)) _) | refine Below.drew ?_ | (refine below_thru ?_ (by assumption) (by first | omega | (simp; done) | (simp; omega))) | refine below_drewN ?_ _))⟩

set_option maxHeartbeats 1000000 in
theorem AgreeLong_any (A : Option Addr) (n c : Nat) (x y : Int) (w : World) (hn : n ≤ maxLen) (h8 : 8 < n) :
    Calls Tryz.prog 41 #[.slice A n c, .int .i64 x, .int .i64 y] w fun e w' => e = .returned (.tuple #[.int .i64 0, .slice none 0 0, .int .i64 3]) ∧ Below w.heap.size w w' := by
  go_enter Tryz.func41, Tryz.ntmps41
  go_wp2_with fail
  refine (gaugesLong_any A n c x y _ hn h8).mono ?_
  rintro e w1 ⟨rfl, hb1⟩
  obtain ⟨hc1, hf1⟩ := bcell hb1; have hz1 := hb1.size; (try simp at hz1)
  have hl1 : w.heap.size < w1.heap.size := by omega
  go_wp2_with fail
  go_region
  all_goals go_wp2
  all_goals exact bodyPost_ret (v := .tuple #[.int .i64 0, .slice none 0 0, .int .i64 3]) (by simp [results, Tryz.results41, go_sem, hc1, hl1] <;> omega) rfl ⟨by rfl, (by repeat (first | exact Below.refl _ _ | assumption | (refine Below.setCell ?_ (by first | omega | (simp; done) | (simp; omega)) _) | (refine Below.alloc ?_ (by first | omega | (simp; done) | (simp; omega)) _) | refine Below.drew ?_ | (refine below_thru ?_ (by assumption) (by first | omega | (simp; done) | (simp; omega))) | refine below_drewN ?_ _))⟩
end Go.Proofs.YtncidhoojgncgaaGreat
