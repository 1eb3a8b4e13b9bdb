/- A step of a set. -/
import Derived.Test.YtmhfnnpbnocafaaGreatGtSetM
namespace Go.Proofs.YtmhfnnpbnocafaaGreat
open Go.RowKit
set_option linter.unusedSimpArgs false
set_option linter.unusedVariables false

/-- What a step of a set returns, and leaves. -/
def SStep (ms : List (Ga × Gs)) (rs : List Gr) (rn : Nat) (ts : List Gt) (ps : List Bool) (b n : Nat) (w : World) (e : Ending) (w' : World) : Prop :=
  ∃ gd, e = .returned (.slice (some ⟨gd, 0, none⟩) n n) ∧ w.heap.size ≤ gd ∧ gd < w'.heap.size ∧ (∀ j, j < n → w'.rangeAt gd (j * 3) (camF ms rs rn ts ps j).cells) ∧ Ms w' b (newMs ms (aftF ms rs rn ts ps) n) ∧ w.grownBy w' (some b)

set_option maxRecDepth 100000 in
set_option maxHeartbeats 8000000 in
theorem sstep_any (ms : List (Ga × Gs)) (rs : List Gr) (ts : List Gt) (ps : List Bool) (b n c : Nat) (rA : Option Addr) (rn rc : Nat) (tA : Option Addr) (tc : Nat) (pA : Option Addr) (pc : Nat) (w : World)
    (hm : Ms w b ms) (hat : MsAt w ms) (hok : ∀ m ∈ ms, m.1.Ok ∧ m.2.Ok m.1) (hl : ms.length = n) (h0 : 0 < n) (hn : n ≤ 6) (hr : Tab w w.heap.size rA rn 4 (rs.map Gr.cells)) (hrn : rn ≤ 1000) (hro : ∀ r ∈ rs, 0 ≤ r.other ∧ r.other < n)
    (ht : Tab w w.heap.size tA n 4 (ts.map Gt.cells)) (hto : ∀ t ∈ ts, t.Ok) (hp : Tab w w.heap.size pA n 1 (ps.map fun p => [Value.bool p])) :
    Calls Tryz.prog 48 #[setV (some ⟨b, 0, none⟩) n c rA rn rc, .slice tA n tc, .slice pA n pc] w (SStep ms rs rn ts ps b n w) := by
  obtain ⟨i0, hi, hz0, hz1, hz2⟩ := info_parts infoMoved
  have hmk : ∃ o, ∀ W : World, (Instr.makeSlice 55 (.int .i64 (n : Int)) (.int .i64 (n : Int))).run Tryz.prog W = .ok (.slice (some ⟨W.heap.size, 0, none⟩) n n) (W.alloc (.cells o 47)) ∧ o.size = n * 3 := by
    refine ⟨madeCells (Value.agg #[.int .i64 0, .int .i64 0, .int .i64 0]).cells (n * i0.size), fun W => ⟨?_, ?_⟩⟩
    · have := run_make (P := Tryz.prog) W 55 47 i0 _ undMoveds hi hz0 .i64 .i64 n n (by omega) (by omega) (by rw [hz2]; omega) (by omega)
      simpa using this
    · rw [hz1]; simp [madeCells]
  obtain ⟨o9, hmk⟩ := hmk
  have ho9 := (hmk w).2
  have hmk1 := fun W => (hmk W).1
  clear hmk hi hz0 hz1 hz2
  have Hm := Lib.hid hm
  have Hat := Lib.hid hat
  have Hok := Lib.hid hok
  have Hl := Lib.hid hl
  have Hr := Lib.hid hr
  have Hro := Lib.hid hro
  have Ht := Lib.hid ht
  have Hto := Lib.hid hto
  have Hp := Lib.hid hp
  have Ho9 := Lib.hid ho9
  have hbl := hm.lt
  clear hm hat hok hl hr hro ht hto hp ho9
  have hal := fun W => run_alloc_m W
  go_enter Tryz.func48, Tryz.ntmps48
  go_wp2_with fail
  refine (states_any ms b n c rA rn rc _ (Hm.out.grow (by repeat (first | exact Below.refl _ _ | assumption | (refine Below.setCell ?_ (by first | omega | (simp; done) | (simp; omega)) _) | (refine Below.alloc ?_ (by first | omega | (simp; done) | (simp; omega)) _) | refine Below.drew ?_ | (refine below_thru ?_ (by assumption) (by first | omega | (simp; done) | (simp; omega))) | refine below_drewN ?_ _))) Hl.out hn).mono ?_
  rintro e w1 ⟨v, rfl, hown, hb1⟩
  have hz1 := hb1.size
  (try simp at hz1)
  simp at hown
  obtain ⟨aA, an, ac, rfl⟩ := owns_slice hown
  have hB1 : Blk w1 w.heap.size 103 #[.slice (some ⟨b, 0, none⟩) n c, .slice rA rn rc] := (Blk.new w _ _).thru hb1 (by simp)
  obtain ⟨ga, rfl⟩ : ∃ ga, aA = some ⟨ga, 0, none⟩ := by
    rcases hown.2 with h | ⟨g, _, _, h, _⟩
    · omega
    · cases h; exact ⟨g, rfl⟩
  obtain ⟨han, hga0, hga1, htha⟩ := owns_there hown
  obtain rfl : n = an := han.symm
  have c0 := hB1.cell 0
  have c1 := hB1.cell 1
  simp only [List.getElem?_toArray, List.getElem?_cons_zero, List.getElem?_cons_succ] at c0 c1
  have hlt1 := hB1.lt
  have HB1 := Lib.hid hB1
  have Htha := Lib.hid htha
  clear hB1 hown htha
  go_wp2
  have hgaw : w.heap.size + 1 ≤ ga := by have := hga0; (try simp at this); omega
  go_loopw [21] (fun i wr => ∃ k : Nat, k ≤ n ∧ i = .int .i64 k ∧ Hid (∀ j, j < k → wr.rangeAt ga (j * 3) (aftF ms rs rn ts ps j).cells) ∧ Hid (∀ j, j < n → wr.there ga (j * 3) 3) ∧ Hid (∀ j, j < k → wr.rangeAt w1.heap.size (j * 3) (camF ms rs rn ts ps j).cells) ∧ Hid (∀ j, j < n → wr.there w1.heap.size (j * 3) 3)
      ∧ Hid (Blk wr w.heap.size 103 #[.slice (some ⟨b, 0, none⟩) n c, .slice rA rn rc]) ∧ Below w.heap.size w wr ∧ w1.heap.size + 1 ≤ wr.heap.size)
    (fun i _ => n - (intOf i).toNat)
  case atStart =>
    refine ⟨0, Nat.zero_le _, rfl, fun j hj => by omega, fun j hj => World.there_alloc (Htha.out j hj) _, fun j hj => by omega, fun j hj => ?_, HB1.out.alloc _, (by repeat (first | exact Below.refl _ _ | assumption | (refine Below.setCell ?_ (by first | omega | (simp; done) | (simp; omega)) _) | (refine Below.alloc ?_ (by first | omega | (simp; done) | (simp; omega)) _) | refine Below.drew ?_ | (refine below_thru ?_ (by assumption) (by first | omega | (simp; done) | (simp; omega))) | refine below_drewN ?_ _)), by simp⟩
    exact (Blk.new w1 _ _).there (by have := Ho9.out; omega)
  case round =>
    obtain ⟨k, hk, rfl, hra, hta, hrd, htd, hbs, hbr, hzr⟩ := hrel
    by_cases hkn : k < n
    · obtain ⟨⟨g, s⟩, hgs⟩ := get_lt Hl.out hkn
      have htl : ts.length = n := by have := Ht.out.1; simpa using this
      have hpl : ps.length = n := by have := Hp.out.1; simpa using this
      obtain ⟨t, htk⟩ := get_lt htl hkn
      obtain ⟨p, hpk⟩ := get_lt hpl hkn
      obtain ⟨tb, to, htA, htb, t0, t1, t2, t3⟩ := Ht.out.four (k := k) (x := .int .i64 t.order) (y := .bool t.power) (z := .int .i64 t.outer) (u := .int .i64 t.inner) (by simp [htk])
      obtain ⟨pb, po, hpA, hpb, p0⟩ := Hp.out.one (k := k) (x := .bool p) (by simp [hpk])
      have haf : aftF ms rs rn ts ps k = afterF g s t (refusalF ms rs rn k t.order p) := by unfold aftF; rw [hgs, htk, hpk]
      have hcf : camF ms rs rn ts ps k = cameF g s t (refusalF ms rs rn k t.order p) := by unfold camF; rw [hgs, htk, hpk]
      have hgok := Hok.out (g, s) (List.mem_of_getElem? hgs)
      have htok := Hto.out t (List.mem_of_getElem? htk)
      have hgat := Hat.out (g, s) (List.mem_of_getElem? hgs)
      have HR := Lib.hid (fun (W : World) (hW : Below w.heap.size w W) => refusal_any ms rs k t.order p b n c rA rn rc W (Hm.out.below hW hbl) Hl.out (by omega) hkn ((Hr.out.below hW).more hW.size) hrn Hro.out)
      have HM := Lib.hid (fun (W : World) (hW : Below w.heap.size w W) => (show Calls Tryz.prog 107 #[mv g s, t.v, .int .i64 (refusalF ms rs rn k t.order p)] W fun e w' => e = .returned (.tuple #[(afterF g s t (refusalF ms rs rn k t.order p)).v, (cameF g s t (refusalF ms rs rn k t.order p)).v]) ∧ Below W.heap.size W w' from mstep_any g s t (refusalF ms rs rn k t.order p) W (hgat.grow hW) hgok.1 hgok.2 htok))
      have hrg := (Hm.out.below hbr hbl).rng k _ hgs
      have Hrg := Lib.hid hrg
      generalize refusalF ms rs rn k t.order p = rf at *
      generalize afterF g s t rf = af at *
      generalize cameF g s t rf = cm at *
      have Haf := Lib.hid haf
      have Hcf := Lib.hid hcf
      have Ht0 := Lib.hid t0
      have Ht1 := Lib.hid t1
      have Ht2 := Lib.hid t2
      have Ht3 := Lib.hid t3
      have Hp0 := Lib.hid p0
      clear haf hcf hgs htk hpk htl hpl hgok htok hgat hrg t0 t1 t2 t3 p0
      subst htA
      subst hpA
      have j0 : (0 : Int) ≤ (k : Int) := Int.natCast_nonneg _
      have j1 : (k : Int) < (n : Int) := by omega
      go_wp2_with (first | (with_reducible refine wpl_mm (g := g) (s := s) Hrg.out rfl rfl rfl ?_) | (with_reducible refine wpl_sm (cs := zrow) (g := g) (s := s) (Blk.new wr _ _) rfl rfl rfl rfl rfl (put_m _ _) ?_; intro W hW))
      have hsz := hW.size
      simp at hsz
      have hbW : Below w.heap.size w W := hW.below _ _ (by omega) (hbr.alloc (by omega) _)
      have hbV : Below wr.heap.size wr W := hW.below _ _ (Nat.le_refl _) ((Below.refl _ _).alloc (Nat.le_refl _) _)
      have hRS : RS W wr.heap.size w.heap.size tb pb g s (.slice (some ⟨b, 0, none⟩) n c) (.slice rA rn rc) (to + k * 4) t (po + k) p :=
        ⟨hW.blk, hW.far _ _ _ (by omega) (hbs.out.alloc _), (hbW.cell (p := ⟨tb, to + k * 4, none⟩) htb).trans Ht0.out, (hbW.cell (p := ⟨tb, to + k * 4 + 1, none⟩) htb).trans Ht1.out, (hbW.cell (p := ⟨tb, to + k * 4 + 2, none⟩) htb).trans Ht2.out, (hbW.cell (p := ⟨tb, to + k * 4 + 3, none⟩) htb).trans Ht3.out, (hbW.cell (p := ⟨pb, po + k, none⟩) hpb).trans Hp0.out⟩
      clear hW
      refine wp_region_held (S := fun W' => RS W' wr.heap.size w.heap.size tb pb g s (.slice (some ⟨b, 0, none⟩) n c) (.slice rA rn rc) (to + k * 4) t (po + k) p) (by kernel_rfl) (by exact hRS.drew) (fun hHeld => ?_)
      refine wpAnyH_take (i := 4) (v := mv g s) rfl (by kernel_rfl) (by kernel_rfl) (by kernel_rfl) (fun _ _ _ h => h) (Or.inl ⟨by rfl, fun w hSw => ld_m rfl rfl hSw.m⟩) hHeld ?_
      (try simp only [Act.put, List.setIfInBounds_toArray, List.set_cons_zero, List.set_cons_succ])
      refine wpAnyH_take (i := 0) (v := ?_) rfl (by kernel_rfl) (by kernel_rfl) (by kernel_rfl) (fun _ _ _ h => h) (Or.inl ⟨by kernel_rfl, ?_⟩) hHeld ?_
      rotate_left
      · intro w hSw; (try dsimp only at hSw); skip; go_simp; (try with_reducible rfl)
      (try simp only [Act.put, List.setIfInBounds_toArray, List.set_cons_zero, List.set_cons_succ])
      refine wpAnyH_take (i := 1) (v := ?_) rfl (by kernel_rfl) (by kernel_rfl) (by kernel_rfl) (fun _ _ _ h => h) (Or.inl ⟨by kernel_rfl, ?_⟩) hHeld ?_
      rotate_left
      · intro w hSw; (try dsimp only at hSw); skip; go_simp; (try with_reducible rfl)
      (try simp only [Act.put, List.setIfInBounds_toArray, List.set_cons_zero, List.set_cons_succ])
      refine wpAnyH_take (i := 2) (v := ?_) rfl (by kernel_rfl) (by kernel_rfl) (by kernel_rfl) (fun _ _ _ h => h) (Or.inl ⟨by kernel_rfl, ?_⟩) hHeld ?_
      rotate_left
      · intro w hSw; (try dsimp only at hSw); skip; go_simp; (try with_reducible rfl)
      (try simp only [Act.put, List.setIfInBounds_toArray, List.set_cons_zero, List.set_cons_succ])
      refine wpAnyH_take (i := 3) (v := ?_) rfl (by kernel_rfl) (by kernel_rfl) (by kernel_rfl) (fun _ _ _ h => h) (Or.inl ⟨by kernel_rfl, ?_⟩) hHeld ?_
      rotate_left
      · intro w hSw; (try dsimp only at hSw); skip; go_simp; (try with_reducible rfl)
      (try simp only [Act.put, List.setIfInBounds_toArray, List.set_cons_zero, List.set_cons_succ])
      refine wpAnyH_take (i := 5) (v := ?_) rfl (by kernel_rfl) (by kernel_rfl) (by kernel_rfl) (fun _ _ _ h => h) (Or.inl ⟨by kernel_rfl, ?_⟩) hHeld ?_
      rotate_left
      · intro w hSw; (try dsimp only at hSw); skip; go_simp; (try with_reducible rfl)
      (try simp only [Act.put, List.setIfInBounds_toArray, List.set_cons_zero, List.set_cons_succ])
      refine wpAnyH_take (i := 6) (v := ?_) rfl (by kernel_rfl) (by kernel_rfl) (by kernel_rfl) (fun _ _ _ h => h) (Or.inl ⟨by kernel_rfl, ?_⟩) hHeld ?_
      rotate_left
      · intro w hSw; (try dsimp only at hSw); skip; go_simp; (try with_reducible rfl)
      (try simp only [Act.put, List.setIfInBounds_toArray, List.set_cons_zero, List.set_cons_succ])
      refine wpAnyH_take (i := 10) (v := ?_) rfl (by kernel_rfl) (by kernel_rfl) (by kernel_rfl) (fun _ _ _ h => h) (Or.inl ⟨by kernel_rfl, ?_⟩) hHeld ?_
      rotate_left
      · intro w hSw; (try dsimp only at hSw); skip; go_simp; (try with_reducible rfl)
      (try simp only [Act.put, List.setIfInBounds_toArray, List.set_cons_zero, List.set_cons_succ])
      refine wpAnyH_take (i := 11) (v := ?_) rfl (by kernel_rfl) (by kernel_rfl) (by kernel_rfl) (fun _ _ _ h => h) (Or.inl ⟨by kernel_rfl, ?_⟩) hHeld ?_
      rotate_left
      · intro w hSw; (try dsimp only at hSw); skip; go_simp; (try with_reducible rfl)
      (try simp only [Act.put, List.setIfInBounds_toArray, List.set_cons_zero, List.set_cons_succ])
      refine wpAnyH_take (i := 12) (v := ?_) rfl (by kernel_rfl) (by kernel_rfl) (by kernel_rfl) (fun _ _ _ h => h) (Or.inl ⟨by kernel_rfl, ?_⟩) hHeld ?_
      rotate_left
      · intro w hSw; (try dsimp only at hSw); skip; go_simp; (try with_reducible rfl)
      (try simp only [Act.put, List.setIfInBounds_toArray, List.set_cons_zero, List.set_cons_succ])
      refine wpAnyH_take (i := 16) (v := ?_) rfl (by kernel_rfl) (by kernel_rfl) (by kernel_rfl) (fun _ _ _ h => h) (Or.inl ⟨by kernel_rfl, ?_⟩) hHeld ?_
      rotate_left
      · intro w hSw; (try dsimp only at hSw); skip; go_simp; (try with_reducible rfl)
      (try simp only [Act.put, List.setIfInBounds_toArray, List.set_cons_zero, List.set_cons_succ])
      refine wpAnyH_take (i := 17) (v := ?_) rfl (by kernel_rfl) (by kernel_rfl) (by kernel_rfl) (fun _ _ _ h => h) (Or.inl ⟨by kernel_rfl, ?_⟩) hHeld ?_
      rotate_left
      · intro w hSw; (try dsimp only at hSw); skip; go_simp; (try with_reducible rfl)
      (try simp only [Act.put, List.setIfInBounds_toArray, List.set_cons_zero, List.set_cons_succ])
      refine wpAnyH_take (i := 7) (v := ?_) rfl (by kernel_rfl) (by kernel_rfl) (by kernel_rfl) (fun _ _ _ h => h) (Or.inl ⟨by kernel_rfl, ?_⟩) hHeld ?_
      rotate_left
      · intro w hSw; (try dsimp only at hSw); skip; go_simp; (try with_reducible rfl)
      (try simp only [Act.put, List.setIfInBounds_toArray, List.set_cons_zero, List.set_cons_succ])
      refine wpAnyH_take (i := 13) (v := ?_) rfl (by kernel_rfl) (by kernel_rfl) (by kernel_rfl) (fun _ _ _ h => h) (Or.inl ⟨by kernel_rfl, ?_⟩) hHeld ?_
      rotate_left
      · intro w hSw; (try dsimp only at hSw); skip; go_simp; (try with_reducible rfl)
      (try simp only [Act.put, List.setIfInBounds_toArray, List.set_cons_zero, List.set_cons_succ])
      refine wpAnyH_take (i := 18) (v := ?_) rfl (by kernel_rfl) (by kernel_rfl) (by kernel_rfl) (fun _ _ _ h => h) (Or.inl ⟨by kernel_rfl, ?_⟩) hHeld ?_
      rotate_left
      · intro w hSw; (try dsimp only at hSw); skip; go_simp; (try with_reducible rfl)
      (try simp only [Act.put, List.setIfInBounds_toArray, List.set_cons_zero, List.set_cons_succ])
      refine wpAnyH_take (i := 8) (v := ?_) rfl (by kernel_rfl) (by kernel_rfl) (by kernel_rfl) (fun _ _ _ h => h) (Or.inl ⟨by kernel_rfl, ?_⟩) hHeld ?_
      rotate_left
      · intro w hSw; (try dsimp only at hSw); obtain ⟨hm', st, t0, t1, t2, t3, p0⟩ := hSw; have s0 := st.cell 0; have s1 := st.cell 1; simp only [List.getElem?_toArray, List.getElem?_cons_zero, List.getElem?_cons_succ] at s0 s1; go_simp; (try with_reducible rfl)
      (try simp only [Act.put, List.setIfInBounds_toArray, List.set_cons_zero, List.set_cons_succ])
      refine wpAnyH_take (i := 9) (v := ?_) rfl (by kernel_rfl) (by kernel_rfl) (by kernel_rfl) (fun _ _ _ h => h) (Or.inl ⟨by kernel_rfl, ?_⟩) hHeld ?_
      rotate_left
      · intro w hSw; (try dsimp only at hSw); obtain ⟨hm', st, t0, t1, t2, t3, p0⟩ := hSw; have s0 := st.cell 0; have s1 := st.cell 1; simp only [List.getElem?_toArray, List.getElem?_cons_zero, List.getElem?_cons_succ] at s0 s1; go_simp; (try with_reducible rfl)
      (try simp only [Act.put, List.setIfInBounds_toArray, List.set_cons_zero, List.set_cons_succ])
      refine wpAnyH_take (i := 14) (v := ?_) rfl (by kernel_rfl) (by kernel_rfl) (by kernel_rfl) (fun _ _ _ h => h) (Or.inl ⟨by kernel_rfl, ?_⟩) hHeld ?_
      rotate_left
      · intro w hSw; (try dsimp only at hSw); obtain ⟨hm', st, t0, t1, t2, t3, p0⟩ := hSw; have s0 := st.cell 0; have s1 := st.cell 1; simp only [List.getElem?_toArray, List.getElem?_cons_zero, List.getElem?_cons_succ] at s0 s1; go_simp; (try with_reducible rfl)
      (try simp only [Act.put, List.setIfInBounds_toArray, List.set_cons_zero, List.set_cons_succ])
      refine wpAnyH_take (i := 15) (v := ?_) rfl (by kernel_rfl) (by kernel_rfl) (by kernel_rfl) (fun _ _ _ h => h) (Or.inl ⟨by kernel_rfl, ?_⟩) hHeld ?_
      rotate_left
      · intro w hSw; (try dsimp only at hSw); obtain ⟨hm', st, t0, t1, t2, t3, p0⟩ := hSw; have s0 := st.cell 0; have s1 := st.cell 1; simp only [List.getElem?_toArray, List.getElem?_cons_zero, List.getElem?_cons_succ] at s0 s1; go_simp; (try with_reducible rfl)
      (try simp only [Act.put, List.setIfInBounds_toArray, List.set_cons_zero, List.set_cons_succ])
      refine wpAnyH_take (i := 19) (v := ?_) rfl (by kernel_rfl) (by kernel_rfl) (by kernel_rfl) (fun _ _ _ h => h) (Or.inl ⟨by kernel_rfl, ?_⟩) hHeld ?_
      rotate_left
      · intro w hSw; (try dsimp only at hSw); obtain ⟨hm', st, t0, t1, t2, t3, p0⟩ := hSw; have s0 := st.cell 0; have s1 := st.cell 1; simp only [List.getElem?_toArray, List.getElem?_cons_zero, List.getElem?_cons_succ] at s0 s1; go_simp; (try with_reducible rfl)
      (try simp only [Act.put, List.setIfInBounds_toArray, List.set_cons_zero, List.set_cons_succ])
      refine wpAnyH_ready (rs := [20]) (by kernel_rfl) (by simp) ?_
      refine AllReadyH.cons rfl (fun K hK => ?_) AllReadyH.nil
      go_simp
      refine (HR.out _ (Below.drew hbW)).mono ?_
      rintro e w2 ⟨rfl, hb2⟩; have hz2 := hb2.size; (try simp at hz2)
      (try dsimp only)
      refine hK.out _ _ (by exact hHeld.below hb2) (fun hHeld => ?_)
      clear hK K
      (try simp only [Act.put, List.setIfInBounds_toArray, List.set_cons_zero, List.set_cons_succ])
      have hbW2 : Below w.heap.size w w2 := (Below.drew hbW).trans (hb2.mono (by simp; omega))
      have hbV2 : Below wr.heap.size wr w2 := (Below.drew hbV).trans (hb2.mono (by simp; omega))
      refine wpAnyH_ready (rs := [21]) (by kernel_rfl) (by simp) ?_
      refine AllReadyH.cons rfl (fun K hK => ?_) AllReadyH.nil
      go_simp
      refine (HM.out _ hbW2).mono ?_
      rintro e w3 ⟨rfl, hb3⟩; have hz3 := hb3.size
      (try dsimp only)
      refine hK.out _ _ (by exact hHeld.below hb3) (fun hHeld => ?_)
      clear hK K
      (try simp only [Act.put, List.setIfInBounds_toArray, List.set_cons_zero, List.set_cons_succ])
      have hbW3 : Below w.heap.size w w3 := hbW2.trans (hb3.mono (by omega))
      have hbV3 : Below wr.heap.size wr w3 := hbV2.trans (hb3.mono (by omega))
      refine wpAnyH_take (i := 22) (v := ?_) rfl (by kernel_rfl) (by kernel_rfl) (by kernel_rfl) (fun _ _ _ h => h) (Or.inl ⟨by kernel_rfl, ?_⟩) hHeld ?_
      rotate_left
      · intro w hSw; (try dsimp only at hSw); skip; go_simp; (try with_reducible rfl)
      (try simp only [Act.put, List.setIfInBounds_toArray, List.set_cons_zero, List.set_cons_succ])
      refine wpAnyH_take (i := 23) (v := ?_) rfl (by kernel_rfl) (by kernel_rfl) (by kernel_rfl) (fun _ _ _ h => h) (Or.inl ⟨by kernel_rfl, ?_⟩) hHeld ?_
      rotate_left
      · intro w hSw; (try dsimp only at hSw); skip; go_simp; (try with_reducible rfl)
      (try simp only [Act.put, List.setIfInBounds_toArray, List.set_cons_zero, List.set_cons_succ])
      refine wpAnyH_take (i := 24) (v := ?_) rfl (by kernel_rfl) (by kernel_rfl) (by kernel_rfl) (fun _ _ _ h => h) (Or.inl ⟨by kernel_rfl, ?_⟩) hHeld ?_
      rotate_left
      · intro w hSw; (try dsimp only at hSw); skip; go_simp; (try with_reducible rfl)
      (try simp only [Act.put, List.setIfInBounds_toArray, List.set_cons_zero, List.set_cons_succ])
      refine wpAnyH_take (i := 25) (v := ?_) rfl (by kernel_rfl) (by kernel_rfl) (by kernel_rfl) (fun _ _ _ h => h) (Or.inl ⟨by kernel_rfl, ?_⟩) hHeld ?_
      rotate_left
      · intro w hSw; (try dsimp only at hSw); skip; go_simp; (try with_reducible rfl)
      (try simp only [Act.put, List.setIfInBounds_toArray, List.set_cons_zero, List.set_cons_succ])
      (try simp only [List.getElem_toArray, List.getElem_cons_zero, List.getElem_cons_succ, Act.put, List.setIfInBounds_toArray, List.set_cons_zero, List.set_cons_succ])
      refine wpAnyH_ready (rs := [26]) (by kernel_rfl) (by simp) ?_
      refine AllReadyH.cons rfl (fun K hK => ?_) AllReadyH.nil
      refine wanted_of (by rfl) (wp_store_mid (P := Tryz.prog) 27 _ _ rfl (ga) (k * 3) #[.int .i64 af.pos, .int .i64 af.charge, .bool af.bolted] rfl rfl (there_below (hta.out k hkn) hbV3 (by omega)) (by kernel_rfl) (by simp [Value.oneCell']) ?_)
      refine hK.out _ _ (by exact hHeld.sets (by omega) (by omega) (by omega) (by omega) _ _) (fun hHeld => ?_)
      clear hK K
      (try simp only [Act.put, List.setIfInBounds_toArray, List.set_cons_zero, List.set_cons_succ])
      refine wpAnyH_take (i := 27) (v := ?_) rfl (by kernel_rfl) (by kernel_rfl) (by kernel_rfl) (fun _ _ _ h => h) (Or.inl ⟨by kernel_rfl, ?_⟩) hHeld ?_
      rotate_left
      · intro w hSw; (try dsimp only at hSw); skip; go_simp; (try with_reducible rfl)
      (try simp only [Act.put, List.setIfInBounds_toArray, List.set_cons_zero, List.set_cons_succ])
      (try simp only [List.getElem_toArray, List.getElem_cons_zero, List.getElem_cons_succ, Act.put, List.setIfInBounds_toArray, List.set_cons_zero, List.set_cons_succ])
      refine wpAnyH_ready (rs := [28]) (by kernel_rfl) (by simp) ?_
      refine AllReadyH.cons rfl (fun K hK => ?_) AllReadyH.nil
      refine wanted_of (by rfl) (wp_store_mid (P := Tryz.prog) 47 _ _ rfl (w1.heap.size) (k * 3) #[.int .i64 cm.refused, .int .i64 cm.moved, .int .i64 cm.oil] rfl rfl (World.there_setCells (there_below (htd.out k hkn) hbV3 (by omega)) _ _ _) (by kernel_rfl) (by simp [Value.oneCell']) ?_)
      refine hK.out _ _ (by exact hHeld.sets (by omega) (by omega) (by omega) (by omega) _ _) (fun hHeld => ?_)
      clear hK K
      (try simp only [Act.put, List.setIfInBounds_toArray, List.set_cons_zero, List.set_cons_succ])
      refine wpAnyH_done (by kernel_rfl) ?_ _
      (try simp only [List.getElem_toArray, List.getElem_cons_zero, List.getElem_cons_succ, Act.put, List.setIfInBounds_toArray, List.set_cons_zero, List.set_cons_succ])
      obtain ⟨w4, hw4⟩ : ∃ w4, (w3.setCells ga (k * 3) [Value.int .i64 af.pos, .int .i64 af.charge, .bool af.bolted]).setCells w1.heap.size (k * 3) [Value.int .i64 cm.refused, .int .i64 cm.moved, .int .i64 cm.oil] = w4 := ⟨_, rfl⟩
      have ra4 : Hid (∀ j, j < k + 1 → w4.rangeAt ga (j * 3) (aftF ms rs rn ts ps j).cells) := fun j hj => by
        rw [← hw4]
        refine World.rangeAt_setCells_apart ?_ _ _ _ (.inl (by omega))
        rcases Nat.lt_or_ge j k with h | h
        · exact World.rangeAt_setCells_apart (range_below (hra.out j h) hbV3 (by omega)) _ _ _ (.inr (.inl (by show j * 3 + 3 ≤ k * 3; omega)))
        · obtain rfl : j = k := by omega
          rw [Haf.out]
          exact World.rangeAt_setCells_same _ _ _ _ (there_below (hta.out j hkn) hbV3 (by omega))
      have rd4 : Hid (∀ j, j < k + 1 → w4.rangeAt w1.heap.size (j * 3) (camF ms rs rn ts ps j).cells) := fun j hj => by
        rw [← hw4]
        rcases Nat.lt_or_ge j k with h | h
        · exact World.rangeAt_setCells_apart (World.rangeAt_setCells_apart (range_below (hrd.out j h) hbV3 (by omega)) _ _ _ (.inl (by omega))) _ _ _ (.inr (.inl (by show j * 3 + 3 ≤ k * 3; omega)))
        · obtain rfl : j = k := by omega
          rw [Hcf.out]
          exact World.rangeAt_setCells_same _ _ _ _ (World.there_setCells (there_below (htd.out j hkn) hbV3 (by omega)) _ _ _)
      have ta4 : Hid (∀ j, j < n → w4.there ga (j * 3) 3) := fun j hj => by
        rw [← hw4]
        exact World.there_setCells (World.there_setCells (there_below (hta.out j hj) hbV3 (by omega)) _ _ _) _ _ _
      have td4 : Hid (∀ j, j < n → w4.there w1.heap.size (j * 3) 3) := fun j hj => by
        rw [← hw4]
        exact World.there_setCells (World.there_setCells (there_below (htd.out j hj) hbV3 (by omega)) _ _ _) _ _ _
      have hbs4 : Hid (Blk w4 w.heap.size 103 #[.slice (some ⟨b, 0, none⟩) n c, .slice rA rn rc]) := by
        rw [← hw4]
        exact ((hbs.out.thru hbV3 (by omega)).fars (by omega) _ _).fars (by omega) _ _
      have hb4 : Below w.heap.size w w4 := by
        rw [← hw4]
        exact below_sets (below_sets hbW3 (by omega) _ _) (by omega) _ _
      have hz4 : w1.heap.size + 1 ≤ w4.heap.size := by
        rw [← hw4, size_sets, size_sets]
        have := hbV3.size
        omega
      rw [hw4]
      clear hw4 hra hrd hta htd hbs hHeld hRS hbW hbV hbW2 hbV2 hbW3 hbV3 hb2 hb3 HR HM
      go_wp2
      go_roundw
      case rel => exact ⟨k + 1, by omega, by go_num, ra4, ta4, rd4, td4, hbs4, hb4, hz4⟩
      case measure => simp [intOf]; omega
    · obtain rfl : k = n := by omega
      obtain ⟨wo, rfl⟩ : ∃ wo : World, wo = wr := ⟨_, rfl⟩
      have s0 := hbs.out.cell 0
      simp only [List.getElem?_toArray, List.getElem?_cons_zero] at s0
      have hm0 : Hid (Ms wo b ms) := Hm.out.below hbr hbl
      clear hta htd
      go_wp2
      go_loopw [57] (fun i wz => ∃ q : Nat, q ≤ k ∧ i = .int .i64 q ∧ Hid (wo.grownBy wz (some b)) ∧ Hid (Ms wz b (newMs ms (aftF ms rs rn ts ps) q))) (fun i _ => k - (intOf i).toNat)
      case atStart => exact ⟨0, Nat.zero_le _, rfl, grownBy_refl _ _, hm0.out⟩
      case round =>
        obtain ⟨q, hq, rfl, hgr, hmz⟩ := hrel
        have hsz := hgr.out.size
        by_cases hqk : q < k
        · obtain ⟨⟨g, s⟩, hgs⟩ := get_lt Hl.out hqk
          have hgq : (newMs ms (aftF ms rs rn ts ps) q)[q]? = some (g, s) := by rw [newMs_get _ _ _ _ (Nat.le_refl _)]; exact hgs
          have hlen := newMs_len ms (aftF ms rs rn ts ps) q
          have hth : Hid (wr.there b (q * 24 + 21) 3) := hmz.out.there (by rw [hlen]; have := Hl.out; omega)
          have hput := (show Ms wr.drew b _ from hmz.out.same rfl (Nat.le_refl _)).put hgq (aftF ms rs rn ts ps q)
          have hnew : newMs ms (aftF ms rs rn ts ps) (q + 1) = (newMs ms (aftF ms rs rn ts ps) q).set q (g, aftF ms rs rn ts ps q) := by rw [newMs, hgs]
          rw [← hnew] at hput
          have Hput := Lib.hid hput
          have hra2 := range_kept (hra.out q hqk) hgr.out (by omega)
          have a0 := hra2 0 _ rfl
          have a1 := hra2 1 _ rfl
          have a2 := hra2 2 _ rfl
          have z0 : wr.cell? ⟨w.heap.size, 0, none⟩ = some (.slice (some ⟨b, 0, none⟩) k c) := hgr.out.cell (a := ⟨w.heap.size, 0, none⟩) s0 (by simp; omega)
          have hlz := hbs.out.lt
          have j0 : (0 : Int) ≤ (q : Int) := Int.natCast_nonneg _
          have j1 : (q : Int) < (k : Int) := by omega
          simp only [Nat.add_zero] at a0
          generalize aftF ms rs rn ts ps q = af at *
          clear hput hnew hgq hlen hgs hra2
          go_wp2_with fail
          refine wp_region_split (S := fun W' => W'.cell? ⟨w.heap.size, 0, none⟩ = some (.slice (some ⟨b, 0, none⟩) k c) ∧ W'.cell? ⟨ga, q * 3, none⟩ = some (.int .i64 af.pos) ∧ W'.cell? ⟨ga, q * 3 + 1, none⟩ = some (.int .i64 af.charge) ∧ W'.cell? ⟨ga, q * 3 + 2, none⟩ = some (.bool af.bolted)) 7 (by kernel_rfl) (by kernel_rfl) (by exact ⟨z0, a0, a1, a2⟩) (fun hHeld => ?_)
          refine wpAnyH_take (i := 0) (v := ?_) rfl (by kernel_rfl) (by kernel_rfl) (by kernel_rfl) (fun _ _ _ h => h) (Or.inl ⟨by kernel_rfl, ?_⟩) hHeld ?_
          rotate_left
          · intro w hSw; (try dsimp only at hSw); obtain ⟨y0, y1, y2, y3⟩ := hSw; go_simp; (try with_reducible rfl)
          (try simp only [Act.put, List.setIfInBounds_toArray, List.set_cons_zero, List.set_cons_succ])
          refine wpAnyH_take (i := 1) (v := ?_) rfl (by kernel_rfl) (by kernel_rfl) (by kernel_rfl) (fun _ _ _ h => h) (Or.inl ⟨by kernel_rfl, ?_⟩) hHeld ?_
          rotate_left
          · intro w hSw; (try dsimp only at hSw); obtain ⟨y0, y1, y2, y3⟩ := hSw; go_simp; (try with_reducible rfl)
          (try simp only [Act.put, List.setIfInBounds_toArray, List.set_cons_zero, List.set_cons_succ])
          refine wpAnyH_take (i := 2) (v := ?_) rfl (by kernel_rfl) (by kernel_rfl) (by kernel_rfl) (fun _ _ _ h => h) (Or.inl ⟨by kernel_rfl, ?_⟩) hHeld ?_
          rotate_left
          · intro w hSw; (try dsimp only at hSw); obtain ⟨y0, y1, y2, y3⟩ := hSw; go_simp; (try with_reducible rfl)
          (try simp only [Act.put, List.setIfInBounds_toArray, List.set_cons_zero, List.set_cons_succ])
          refine wpAnyH_take (i := 3) (v := ?_) rfl (by kernel_rfl) (by kernel_rfl) (by kernel_rfl) (fun _ _ _ h => h) (Or.inl ⟨by kernel_rfl, ?_⟩) hHeld ?_
          rotate_left
          · intro w hSw; (try dsimp only at hSw); obtain ⟨y0, y1, y2, y3⟩ := hSw; go_simp; (try with_reducible rfl)
          (try simp only [Act.put, List.setIfInBounds_toArray, List.set_cons_zero, List.set_cons_succ])
          refine wpAnyH_take (i := 4) (v := ?_) rfl (by kernel_rfl) (by kernel_rfl) (by kernel_rfl) (fun _ _ _ h => h) (Or.inl ⟨by kernel_rfl, ?_⟩) hHeld ?_
          rotate_left
          · intro w hSw; (try dsimp only at hSw); obtain ⟨y0, y1, y2, y3⟩ := hSw; go_simp; (try with_reducible rfl)
          (try simp only [Act.put, List.setIfInBounds_toArray, List.set_cons_zero, List.set_cons_succ])
          refine wpAnyH_take (i := 5) (v := ?_) rfl (by kernel_rfl) (by kernel_rfl) (by kernel_rfl) (fun _ _ _ h => h) (Or.inl ⟨by kernel_rfl, ?_⟩) hHeld ?_
          rotate_left
          · intro w hSw; (try dsimp only at hSw); obtain ⟨y0, y1, y2, y3⟩ := hSw; go_simp; (try with_reducible rfl)
          (try simp only [Act.put, List.setIfInBounds_toArray, List.set_cons_zero, List.set_cons_succ])
          refine wpAnyH_take (i := 6) (v := ?_) rfl (by kernel_rfl) (by kernel_rfl) (by kernel_rfl) (fun _ _ _ h => h) (Or.inl ⟨by kernel_rfl, ?_⟩) hHeld ?_
          rotate_left
          · intro w hSw; (try dsimp only at hSw); obtain ⟨y0, y1, y2, y3⟩ := hSw; go_simp; (try with_reducible rfl)
          (try simp only [Act.put, List.setIfInBounds_toArray, List.set_cons_zero, List.set_cons_succ])
          refine wpAnyH_done (by kernel_rfl) ?_ _
          simp only [tailPost, List.drop_succ_cons, List.drop_zero]
          go_wp2_with (refine wpList_store_mid rfl 27 _ _ rfl b (q * 24 + 21) #[.int .i64 af.pos, .int .i64 af.charge, .bool af.bolted] rfl rfl ((World.there_drew _ _ _ _).2 hth.out) (by kernel_rfl) (by simp [Value.oneCell']) ?_)
          have hg5 : Hid (wo.grownBy (wr.drew.setCells b (q * 24 + 21) [Value.int .i64 af.pos, .int .i64 af.charge, .bool af.bolted]) (some b)) := grownBy_sets (grownBy_drew hgr.out) _ _
          refine ⟨⟨q + 1, by omega, by go_num, hg5, Hput⟩, ?_⟩
          simp [intOf]; omega
        · obtain rfl : q = k := by omega
          have hgw : w.grownBy wr (some b) := ⟨hgr.out.os.trans hbr.os, hgr.out.tape.trans hbr.tape, hgr.out.output.trans hbr.output, by have := hbr.size; omega, fun i hi hne => (hgr.out.block i (by have := hbr.size; omega) hne).trans (hbr.block i hi)⟩
          have hfin : SStep ms rs rn ts ps b q w (.returned (.slice (some ⟨w1.heap.size, 0, none⟩) q q)) wr := ⟨_, rfl, by omega, by omega, fun j hj => range_kept (hrd.out j hj) hgr.out (by omega), hmz.out, hgw⟩
          have Hfin := Lib.hid hfin
          clear hgw hfin
          go_wp2
          go_ret
          exact Hfin.out
end Go.Proofs.YtmhfnnpbnocafaaGreat
