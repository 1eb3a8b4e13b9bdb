/- The checks of a gauge. -/
import Derived.Test.YtncidhoojgncgaaGreatTdName
namespace Go.Proofs.YtncidhoojgncgaaGreat
open Go.RowKit
set_option linter.unusedSimpArgs false
set_option linter.unusedVariables false

/-- A gauge lies in a block of its own (a variable that closures have captured). -/
structure Gg.Box (g : Gg) (w : World) (b : Nat) : Prop where
  blk : Blk w b 47 #[.string g.name, .int .i64 g.err, .int .i64 g.rate, .slice g.dA g.dn g.dc, .slice g.rA g.rn g.rc]
  at_ : g.At w w.heap.size
theorem Gg.Box.grow {g : Gg} {w w' : World} {b : Nat} (h : g.Box w b) (hb : Below w.heap.size w w') : g.Box w' b := ⟨h.blk.thru hb h.blk.lt, h.at_.grow hb⟩

set_option maxHeartbeats 1000000 in
theorem gf1_any (g : Gg) (b : Nat) (w : World) (hg : g.Box w b) :
    Calls Tryz.prog 120 #[.pointer (some ⟨b, 0, none⟩)] w fun e w' => e = .returned ((need (nameB g.name) 6).in_ 1).v ∧ Below w.heap.size w w' := by
  obtain ⟨g0, g1, g2, g3, g4⟩ := hg.blk.five
  have hlt := hg.blk.lt
  have hnm := hg.at_.name
  clear hg
  go_enter Tryz.func120, Tryz.ntmps120
  go_wp2_with fail
  refine (Name_any _ _ hnm).mono ?_
  rintro e w1 ⟨rfl, rfl⟩
  go_wp2_with fail
  refine (need_any _ _ _).mono ?_
  rintro e w1 ⟨rfl, hb1⟩
  obtain ⟨hc1, hf1⟩ := bcell hb1; have hz1 := hb1.size; (try simp at hz1)
  go_wp2_with fail
  refine (fault_in_any (need (nameB g.name) 6) 1 _).mono ?_
  rintro e w2 ⟨rfl, hb2⟩
  obtain ⟨hc2, hf2⟩ := bcell hb2; have hz2 := hb2.size; (try simp at hz2)
  have hl1 : w.heap.size < w1.heap.size := by omega
  go_wp2
  exact bodyPost_ret (v := ((need (nameB g.name) 6).in_ 1).v) (by simp [results, Tryz.results120, go_sem, hc1, hc2, hl1] <;> omega) rfl ⟨rfl, (by repeat (first | exact Below.refl _ _ | assumption | (refine Below.setCell ?_ (by first | omega | (simp; done) | (simp; omega)) _) | (refine Below.alloc ?_ (by first | omega | (simp; done) | (simp; omega)) _) | refine Below.drew ?_ | (refine below_thru ?_ (by assumption) (by first | omega | (simp; done) | (simp; omega))) | refine below_drewN ?_ _))⟩

set_option maxHeartbeats 1000000 in
theorem gf2_any (g : Gg) (b : Nat) (w : World) (hg : g.Box w b) :
    Calls Tryz.prog 122 #[.pointer (some ⟨b, 0, none⟩)] w fun e w' => e = .returned ((need (betw g.err 0 5000 && betw g.rate 0 5000) 7).in_ 1).v ∧ Below w.heap.size w w' := by
  obtain ⟨g0, g1, g2, g3, g4⟩ := hg.blk.five
  have hlt := hg.blk.lt
  clear hg
  have h1 := bet_is g.err 0 5000
  have h2 := bet_is g.rate 0 5000
  cases e1 : betw g.err 0 5000
  · have H1 := Lib.hid (h1 _ e1)
    clear h1 h2 e1
    go_enter Tryz.func122, Tryz.ntmps122
    go_wp2_with fail
    refine (H1.out _).mono ?_
    rintro e w1 ⟨rfl, rfl⟩
    go_wp2_with fail
    refine (need_any _ _ _).mono ?_
    rintro e w1 ⟨rfl, hb1⟩
    obtain ⟨hc1, hf1⟩ := bcell hb1; have hz1 := hb1.size; (try simp at hz1)
    go_wp2_with fail
    refine (fault_in_any (need false 7) 1 _).mono ?_
    rintro e w2 ⟨rfl, hb2⟩
    obtain ⟨hc2, hf2⟩ := bcell hb2; have hz2 := hb2.size; (try simp at hz2)
    have hl1 : w.heap.size < w1.heap.size := by omega
    go_wp2
    exact bodyPost_ret (v := ((need false 7).in_ 1).v) (by simp [results, Tryz.results122, go_sem, hc1, hc2, hl1] <;> omega) rfl ⟨by rfl, (by repeat (first | exact Below.refl _ _ | assumption | (refine Below.setCell ?_ (by first | omega | (simp; done) | (simp; omega)) _) | (refine Below.alloc ?_ (by first | omega | (simp; done) | (simp; omega)) _) | refine Below.drew ?_ | (refine below_thru ?_ (by assumption) (by first | omega | (simp; done) | (simp; omega))) | refine below_drewN ?_ _))⟩
  · have H1 := Lib.hid (h1 _ e1)
    clear h1 e1
    go_enter Tryz.func122, Tryz.ntmps122
    go_wp2_with fail
    refine (H1.out _).mono ?_
    rintro e w1 ⟨rfl, rfl⟩
    go_wp2_with fail
    refine (h2 _ rfl _).mono ?_
    rintro e w1 ⟨rfl, rfl⟩
    go_wp2_with fail
    refine (need_any _ _ _).mono ?_
    rintro e w1 ⟨rfl, hb1⟩
    obtain ⟨hc1, hf1⟩ := bcell hb1; have hz1 := hb1.size; (try simp at hz1)
    go_wp2_with fail
    refine (fault_in_any (need (betw g.rate 0 5000) 7) 1 _).mono ?_
    rintro e w2 ⟨rfl, hb2⟩
    obtain ⟨hc2, hf2⟩ := bcell hb2; have hz2 := hb2.size; (try simp at hz2)
    have hl1 : w.heap.size < w1.heap.size := by omega
    go_wp2
    exact bodyPost_ret (v := ((need (betw g.rate 0 5000) 7).in_ 1).v) (by simp [results, Tryz.results122, go_sem, hc1, hc2, hl1] <;> omega) rfl ⟨by rfl, (by repeat (first | exact Below.refl _ _ | assumption | (refine Below.setCell ?_ (by first | omega | (simp; done) | (simp; omega)) _) | (refine Below.alloc ?_ (by first | omega | (simp; done) | (simp; omega)) _) | refine Below.drew ?_ | (refine below_thru ?_ (by assumption) (by first | omega | (simp; done) | (simp; omega))) | refine below_drewN ?_ _))⟩

set_option maxHeartbeats 1000000 in
theorem gf3_any (g : Gg) (b : Nat) (w : World) (hg : g.Box w b) :
    Calls Tryz.prog 123 #[.pointer (some ⟨b, 0, none⟩)] w fun e w' => e = .returned ((need (betw g.dn 1 8) 3).in_ 2).v ∧ Below w.heap.size w w' := by
  obtain ⟨g0, g1, g2, g3, g4⟩ := hg.blk.five
  have hlt := hg.blk.lt
  clear hg
  go_enter Tryz.func123, Tryz.ntmps123
  go_wp2_with fail
  refine (bet_is _ _ _ _ rfl _).mono ?_
  rintro e w1 ⟨rfl, rfl⟩
  go_wp2_with fail
  refine (need_any _ _ _).mono ?_
  rintro e w1 ⟨rfl, hb1⟩
  obtain ⟨hc1, hf1⟩ := bcell hb1; have hz1 := hb1.size; (try simp at hz1)
  go_wp2_with fail
  refine (fault_in_any (need (betw g.dn 1 8) 3) 2 _).mono ?_
  rintro e w2 ⟨rfl, hb2⟩
  obtain ⟨hc2, hf2⟩ := bcell hb2; have hz2 := hb2.size; (try simp at hz2)
  have hl1 : w.heap.size < w1.heap.size := by omega
  go_wp2
  exact bodyPost_ret (v := ((need (betw g.dn 1 8) 3).in_ 2).v) (by simp [results, Tryz.results123, go_sem, hc1, hc2, hl1] <;> omega) rfl ⟨rfl, (by repeat (first | exact Below.refl _ _ | assumption | (refine Below.setCell ?_ (by first | omega | (simp; done) | (simp; omega)) _) | (refine Below.alloc ?_ (by first | omega | (simp; done) | (simp; omega)) _) | refine Below.drew ?_ | (refine below_thru ?_ (by assumption) (by first | omega | (simp; done) | (simp; omega))) | refine below_drewN ?_ _))⟩

set_option maxHeartbeats 1000000 in
theorem gf5_any (g : Gg) (b : Nat) (w : World) (hg : g.Box w b) :
    Calls Tryz.prog 127 #[.pointer (some ⟨b, 0, none⟩)] w fun e w' => e = .returned ((need (decide ((g.rn : Int) ≤ 60)) 3).in_ 3).v ∧ Below w.heap.size w w' := by
  obtain ⟨g0, g1, g2, g3, g4⟩ := hg.blk.five
  have hlt := hg.blk.lt
  have hrn := hg.at_.rn
  unfold maxLen at hrn
  clear hg
  go_enter Tryz.func127, Tryz.ntmps127
  go_wp2_with fail
  refine (need_any (decide ((g.rn : Int) ≤ 60)) 3 _).mono ?_
  rintro e w1 ⟨rfl, hb1⟩
  obtain ⟨hc1, hf1⟩ := bcell hb1; have hz1 := hb1.size; (try simp at hz1)
  go_wp2_with fail
  refine (fault_in_any (need (decide ((g.rn : Int) ≤ 60)) 3) 3 _).mono ?_
  rintro e w2 ⟨rfl, hb2⟩
  obtain ⟨hc2, hf2⟩ := bcell hb2; have hz2 := hb2.size; (try simp at hz2)
  have hl1 : w.heap.size < w1.heap.size := by omega
  go_wp2
  exact bodyPost_ret (v := ((need (decide ((g.rn : Int) ≤ 60)) 3).in_ 3).v) (by simp [results, Tryz.results127, go_sem, hc1, hc2, hl1] <;> omega) rfl ⟨by rfl, (by repeat (first | exact Below.refl _ _ | assumption | (refine Below.setCell ?_ (by first | omega | (simp; done) | (simp; omega)) _) | (refine Below.alloc ?_ (by first | omega | (simp; done) | (simp; omega)) _) | refine Below.drew ?_ | (refine below_thru ?_ (by assumption) (by first | omega | (simp; done) | (simp; omega))) | refine below_drewN ?_ _))⟩

set_option maxHeartbeats 1000000 in
theorem gf41_any (g : Gg) (b : Nat) (i : Nat) (w : World) (hg : g.Box w b) (hn : g.dn ≤ 1000) (hi : i < g.dn) :
    Calls Tryz.prog 125 #[.int .i64 i, .pointer (some ⟨b, 0, none⟩)] w fun e w' => e = .returned (need (datB g.ds i) 7).v ∧ Below w.heap.size w w' := by
  obtain ⟨g0, g1, g2, g3, g4⟩ := hg.blk.five
  have hlt := hg.blk.lt
  have Hd := Lib.hid hg.at_.d
  clear hg
  go_enter Tryz.func125, Tryz.ntmps125
  go_wp2_with fail
  refine (datumRight_any _ _ _ _ _ _ (Hd.out.grow (by repeat (first | exact Below.refl _ _ | assumption | (refine Below.setCell ?_ (by first | omega | (simp; done) | (simp; omega)) _) | (refine Below.alloc ?_ (by first | omega | (simp; done) | (simp; omega)) _) | refine Below.drew ?_ | (refine below_thru ?_ (by assumption) (by first | omega | (simp; done) | (simp; omega))) | refine below_drewN ?_ _))) hn hi).mono ?_
  rintro e w1 ⟨rfl, hb1⟩
  obtain ⟨hc1, hf1⟩ := bcell hb1; have hz1 := hb1.size; (try simp at hz1)
  go_wp2_with fail
  refine (need_any _ _ _).mono ?_
  rintro e w2 ⟨rfl, hb2⟩
  obtain ⟨hc2, hf2⟩ := bcell hb2; have hz2 := hb2.size; (try simp at hz2)
  have hl1 : w.heap.size < w1.heap.size := by omega
  go_wp2
  exact bodyPost_ret (v := (need (datB g.ds i) 7).v) (by simp [results, Tryz.results125, go_sem, hc1, hc2, hl1] <;> omega) rfl ⟨rfl, (by repeat (first | exact Below.refl _ _ | assumption | (refine Below.setCell ?_ (by first | omega | (simp; done) | (simp; omega)) _) | (refine Below.alloc ?_ (by first | omega | (simp; done) | (simp; omega)) _) | refine Below.drew ?_ | (refine below_thru ?_ (by assumption) (by first | omega | (simp; done) | (simp; omega))) | refine below_drewN ?_ _))⟩

set_option maxHeartbeats 1000000 in
theorem gf61_any (g : Gg) (b : Nat) (i : Nat) (w : World) (hg : g.Box w b) (hn : g.rn ≤ 1000) (hi : i < g.rn) :
    Calls Tryz.prog 129 #[.int .i64 i, .pointer (some ⟨b, 0, none⟩)] w fun e w' => e = .returned (need (rdB g.rs i) 7).v ∧ Below w.heap.size w w' := by
  obtain ⟨g0, g1, g2, g3, g4⟩ := hg.blk.five
  have hlt := hg.blk.lt
  have Hd := Lib.hid hg.at_.r
  clear hg
  go_enter Tryz.func129, Tryz.ntmps129
  go_wp2_with fail
  refine (readingRight_any _ _ _ _ _ _ (Hd.out.grow (by repeat (first | exact Below.refl _ _ | assumption | (refine Below.setCell ?_ (by first | omega | (simp; done) | (simp; omega)) _) | (refine Below.alloc ?_ (by first | omega | (simp; done) | (simp; omega)) _) | refine Below.drew ?_ | (refine below_thru ?_ (by assumption) (by first | omega | (simp; done) | (simp; omega))) | refine below_drewN ?_ _))) hn hi).mono ?_
  rintro e w1 ⟨rfl, hb1⟩
  obtain ⟨hc1, hf1⟩ := bcell hb1; have hz1 := hb1.size; (try simp at hz1)
  go_wp2_with fail
  refine (need_any _ _ _).mono ?_
  rintro e w2 ⟨rfl, hb2⟩
  obtain ⟨hc2, hf2⟩ := bcell hb2; have hz2 := hb2.size; (try simp at hz2)
  have hl1 : w.heap.size < w1.heap.size := by omega
  go_wp2
  exact bodyPost_ret (v := (need (rdB g.rs i) 7).v) (by simp [results, Tryz.results129, go_sem, hc1, hc2, hl1] <;> omega) rfl ⟨rfl, (by repeat (first | exact Below.refl _ _ | assumption | (refine Below.setCell ?_ (by first | omega | (simp; done) | (simp; omega)) _) | (refine Below.alloc ?_ (by first | omega | (simp; done) | (simp; omega)) _) | refine Below.drew ?_ | (refine below_thru ?_ (by assumption) (by first | omega | (simp; done) | (simp; omega))) | refine below_drewN ?_ _))⟩

set_option maxHeartbeats 1000000 in
theorem gf4_any (g : Gg) (b : Nat) (w : World) (hg : g.Box w b) (hn : g.dn ≤ 1000) :
    Calls Tryz.prog 124 #[.pointer (some ⟨b, 0, none⟩)] w fun e w' => e = .returned ((eachF (fun i => need (datB g.ds i) 7) 0 g.dn).in_ 2).v ∧ Below w.heap.size w w' := by
  obtain ⟨g0, g1, g2, g3, g4⟩ := hg.blk.five
  have hlt := hg.blk.lt
  have Hg := Lib.hid hg
  clear hg
  go_enter Tryz.func124, Tryz.ntmps124
  go_wp2_with fail
  refine (each_any _ g.dn hn 125 _ (fun i => need (datB g.ds i) 7) (fun _ _ => by kernel_rfl) (fun k hk _ W hW => gf41_any g b k W ((Hg.out.grow (by repeat (first | exact Below.refl _ _ | assumption | (refine Below.setCell ?_ (by first | omega | (simp; done) | (simp; omega)) _) | (refine Below.alloc ?_ (by first | omega | (simp; done) | (simp; omega)) _) | refine Below.drew ?_ | (refine below_thru ?_ (by assumption) (by first | omega | (simp; done) | (simp; omega))) | refine below_drewN ?_ _))).grow hW) hn hk)).mono ?_
  rintro e w1 ⟨rfl, hb1⟩
  obtain ⟨hc1, hf1⟩ := bcell hb1; have hz1 := hb1.size; (try simp at hz1)
  go_wp2_with fail
  refine (fault_in_any (eachF (fun i => need (datB g.ds i) 7) 0 g.dn) 2 _).mono ?_
  rintro e w2 ⟨rfl, hb2⟩
  obtain ⟨hc2, hf2⟩ := bcell hb2; have hz2 := hb2.size; (try simp at hz2)
  have hl1 : w.heap.size < w1.heap.size := by omega
  go_wp2
  exact bodyPost_ret (v := ((eachF (fun i => need (datB g.ds i) 7) 0 g.dn).in_ 2).v) (by simp [results, Tryz.results124, go_sem, hc1, hc2, hl1] <;> omega) rfl ⟨rfl, (by repeat (first | exact Below.refl _ _ | assumption | (refine Below.setCell ?_ (by first | omega | (simp; done) | (simp; omega)) _) | (refine Below.alloc ?_ (by first | omega | (simp; done) | (simp; omega)) _) | refine Below.drew ?_ | (refine below_thru ?_ (by assumption) (by first | omega | (simp; done) | (simp; omega))) | refine below_drewN ?_ _))⟩

set_option maxHeartbeats 1000000 in
theorem gf6_any (g : Gg) (b : Nat) (w : World) (hg : g.Box w b) (hn : g.rn ≤ 1000) :
    Calls Tryz.prog 128 #[.pointer (some ⟨b, 0, none⟩)] w fun e w' => e = .returned ((eachF (fun i => need (rdB g.rs i) 7) 0 g.rn).in_ 3).v ∧ Below w.heap.size w w' := by
  obtain ⟨g0, g1, g2, g3, g4⟩ := hg.blk.five
  have hlt := hg.blk.lt
  have Hg := Lib.hid hg
  clear hg
  go_enter Tryz.func128, Tryz.ntmps128
  go_wp2_with fail
  refine (each_any _ g.rn hn 129 _ (fun i => need (rdB g.rs i) 7) (fun _ _ => by kernel_rfl) (fun k hk _ W hW => gf61_any g b k W ((Hg.out.grow (by repeat (first | exact Below.refl _ _ | assumption | (refine Below.setCell ?_ (by first | omega | (simp; done) | (simp; omega)) _) | (refine Below.alloc ?_ (by first | omega | (simp; done) | (simp; omega)) _) | refine Below.drew ?_ | (refine below_thru ?_ (by assumption) (by first | omega | (simp; done) | (simp; omega))) | refine below_drewN ?_ _))).grow hW) hn hk)).mono ?_
  rintro e w1 ⟨rfl, hb1⟩
  obtain ⟨hc1, hf1⟩ := bcell hb1; have hz1 := hb1.size; (try simp at hz1)
  go_wp2_with fail
  refine (fault_in_any (eachF (fun i => need (rdB g.rs i) 7) 0 g.rn) 3 _).mono ?_
  rintro e w2 ⟨rfl, hb2⟩
  obtain ⟨hc2, hf2⟩ := bcell hb2; have hz2 := hb2.size; (try simp at hz2)
  have hl1 : w.heap.size < w1.heap.size := by omega
  go_wp2
  exact bodyPost_ret (v := ((eachF (fun i => need (rdB g.rs i) 7) 0 g.rn).in_ 3).v) (by simp [results, Tryz.results128, go_sem, hc1, hc2, hl1] <;> omega) rfl ⟨rfl, (by repeat (first | exact Below.refl _ _ | assumption | (refine Below.setCell ?_ (by first | omega | (simp; done) | (simp; omega)) _) | (refine Below.alloc ?_ (by first | omega | (simp; done) | (simp; omega)) _) | refine Below.drew ?_ | (refine below_thru ?_ (by assumption) (by first | omega | (simp; done) | (simp; omega))) | refine below_drewN ?_ _))⟩
end Go.Proofs.YtncidhoojgncgaaGreat
