/- GateSteps: Step and Run return what the document says. -/
import Derived.Test.YtgdomaddjiggaaaGreatGtAwake
import Derived.Test.YtgdomaddjiggaaaGreatGtRefR
import Derived.Test.YtgdomaddjiggaaaGreatGtStatesR
namespace Go.Proofs.YtgdomaddjiggaaaGreat
open Go.RowKit
set_option linter.unusedSimpArgs false
set_option linter.unusedVariables false

/-- What a round reads. -/
structure RnS (W : World) (gb : Nat) (g : Ga) (sb : Nat) (s : Gs) (tb tp : Nat) (t : Gt) : Prop where
  r : RnR W gb g tb tp t
  s : Blk W sb 42 #[.int .i64 s.pos, .int .i64 s.charge, .bool s.bolted]
section
variable {W W' : World} {gb sb tb tp : Nat} {t : Gt} {g : Ga} {s : Gs}
theorem RnS.below (h : RnS W gb g sb s tb tp t) (hb : Below W.heap.size W W') : RnS W' gb g sb s tb tp t := ⟨h.r.below hb, h.s.thru hb h.s.lt⟩
theorem RnS.drew (h : RnS W gb g sb s tb tp t) : RnS W.drew gb g sb s tb tp t := ⟨h.r.drew, h.s⟩
theorem RnS.sets (h : RnS W gb g sb s tb tp t) {d : Nat} (h1 : gb ≠ d) (h2 : tb ≠ d) (h3 : sb ≠ d) (vs : List Value) (o : Nat) : RnS (W.setCells d o vs) gb g sb s tb tp t := ⟨h.r.sets h1 h2 vs o, h.s.fars h3 _ _⟩
end

set_option maxRecDepth 100000 in
set_option maxHeartbeats 16000000 in
theorem GateSteps_any (g : Ga) (s : Gs) (ts : List Gt) (A : Option Addr) (n c : Nat) (w : World) (hg : g.At w w.heap.size) (ht : Tab w w.heap.size A n 4 (ts.map Gt.cells)) (hn : n ≤ maxLen) :
    Calls Tryz.prog 5 #[g.v, s.v, .slice A n c] w fun e w' => e = .returned (.bool true) ∧ Below w.heap.size w w' := by
  have Hl := Lib.hid (show ts.length = n by have := ht.1; simpa using this)
  have Hg := Lib.hid hg
  have Ht := Lib.hid ht
  have HRun := Lib.hid (fun W h1 h2 (h0 : (runFt g s n ts).e = 0) => Run_ok g s ts A n c W h1 h2 hn h0)
  have HRunB := Lib.hid (fun W h1 h2 (h0 : (runFt g s n ts).e ≠ 0) => Run_bad g s ts A n c W h1 h2 hn h0)
  have HRef := Lib.hid (fun W h1 h2 => rRun_any g s ts A n c W h1 h2 hn)
  have Hn := Lib.hid hn
  have hn' := hn
  unfold maxLen at hn'
  clear hg ht hn
  go_enter Tryz.func5, Tryz.ntmps5
  go_wp2
  go_loopw [7] (fun i wr => ∃ k : Nat, k ≤ n ∧ k ≤ 20 ∧ i = .int .i64 k ∧ Hid (Blk wr w.heap.size 33 (grow g)) ∧ Hid (Blk wr (w.heap.size + 1) 42 #[.int .i64 s.pos, .int .i64 s.charge, .bool s.bolted]) ∧ Hid (Below w.heap.size w wr))
    (fun i _ => n - (intOf i).toNat)
  case atStart => exact ⟨0, Nat.zero_le _, by omega, rfl, (Blk.new w _ _).alloc _, Blk.new' _ _ _ (by simp), (by repeat (first | exact Below.refl _ _ | assumption | (refine Below.setCell ?_ (by first | omega | (simp; done) | (simp; omega)) _) | (refine Below.alloc ?_ (by first | omega | (simp; done) | (simp; omega)) _) | refine Below.drew ?_ | (refine below_thru ?_ (by assumption) (by first | omega | (simp; done) | (simp; omega))) | refine below_drewN ?_ _))⟩
  case round =>
    obtain ⟨k, hk, hk20, rfl, hG, hS, hbr⟩ := hrel
    have hzs := hS.out.lt
    have hzg := hG.out.lt
    by_cases hlt : k < n ∧ k < 20
    · obtain ⟨hlt, hlt2⟩ := hlt
      obtain ⟨t, htk⟩ := get_lt Hl.out hlt
      obtain ⟨tb, off, hA, htb, d0, d1, d2, d3⟩ := Ht.out.four (k := k) (x := .int .i64 t.order) (y := .bool t.power) (z := .int .i64 t.outer) (u := .int .i64 t.inner) (by simp [htk])
      have hRn : RnS wr w.heap.size g (w.heap.size + 1) s tb (off + k * 4) t := ⟨⟨hG.out, (hbr.out.cell (p := ⟨tb, off + k * 4, none⟩) htb).trans d0, (hbr.out.cell (p := ⟨tb, off + k * 4 + 1, none⟩) htb).trans d1, (hbr.out.cell (p := ⟨tb, off + k * 4 + 2, none⟩) htb).trans d2, (hbr.out.cell (p := ⟨tb, off + k * 4 + 3, none⟩) htb).trans d3⟩, hS.out⟩
      have HRwr := Lib.hid hRn
      have Hbwr := hbr
      have HS1 := Lib.hid (fun W h => Step_any g s t W h)
      have HS2 := Lib.hid (fun W h => rStep_any g s t W h)
      generalize stepU g s t = u at *
      generalize stepD g s t = d at *
      generalize (stepFt g s t).e = fe at *
      have HS1 : Hid (∀ W : World, g.At W W.heap.size → Calls Tryz.prog 29 #[g.v, .agg #[.int .i64 s.pos, .int .i64 s.charge, .bool s.bolted], .agg #[.int .i64 t.order, .bool t.power, .int .i64 t.outer, .int .i64 t.inner]] W fun e w' => e = .returned (.tuple #[.agg #[.int .i64 u.pos, .int .i64 u.charge, .bool u.bolted], .agg #[.int .i64 d.refused, .int .i64 d.moved, .int .i64 d.oil], .int .i64 fe]) ∧ Below W.heap.size W w') := HS1.out
      have HS2 : Hid (∀ W : World, g.At W W.heap.size → Calls Tryz.prog 30 #[g.v, .agg #[.int .i64 s.pos, .int .i64 s.charge, .bool s.bolted], .agg #[.int .i64 t.order, .bool t.power, .int .i64 t.outer, .int .i64 t.inner]] W fun e w' => e = .returned (.tuple #[.agg #[.int .i64 u.pos, .int .i64 u.charge, .bool u.bolted], .agg #[.int .i64 d.refused, .int .i64 d.moved, .int .i64 d.oil], .int .i64 fe]) ∧ Below W.heap.size W w') := HS2.out
      have j0 : (0 : Int) ≤ (k : Int) := Int.natCast_nonneg _
      have j1 : (k : Int) < (n : Int) := by omega
      have j2 : (k : Int) < 20 := by omega
      have htb' : tb < wr.heap.size := by have := hbr.out.size; omega
      have hww : w.heap.size + 1 < wr.heap.size := by omega
      subst hA
      clear d0 d1 d2 d3 hRn hS hG hbr htk
      go_wp2_with fail
      refine wp_region_held (S := fun W' => RnS W' w.heap.size g (w.heap.size + 1) s tb (off + k * 4) t) (by kernel_rfl) (by exact HRwr.out.drew) (fun hHeld => ?_)
      refine wpAnyH_take (i := 0) (v := g.v) rfl (by kernel_rfl) (by kernel_rfl) (by kernel_rfl) (fun _ _ _ h => h) (Or.inl ⟨by rfl, fun w hSw => ld_g rfl rfl hSw.r.g⟩) hHeld ?_
      (try simp only [Act.put, List.setIfInBounds_toArray, List.set_cons_zero, List.set_cons_succ])
      refine wpAnyH_take (i := 1) (v := ?_) rfl (by kernel_rfl) (by kernel_rfl) (by kernel_rfl) (fun _ _ _ h => h) (Or.inl ⟨by rfl, ?_⟩) hHeld ?_
      rotate_left
      · intro w hSw; (try dsimp only at hSw); obtain ⟨_, d0, d1, d2, d3⟩ := hSw.r; obtain ⟨s0, s1, s2, _⟩ := hSw.s.three; go_simp; (try with_reducible rfl)
      (try simp only [Act.put, List.setIfInBounds_toArray, List.set_cons_zero, List.set_cons_succ])
      refine wpAnyH_take (i := 2) (v := ?_) rfl (by kernel_rfl) (by kernel_rfl) (by kernel_rfl) (fun _ _ _ h => h) (Or.inl ⟨by rfl, ?_⟩) hHeld ?_
      rotate_left
      · intro w hSw; (try dsimp only at hSw); obtain ⟨_, d0, d1, d2, d3⟩ := hSw.r; obtain ⟨s0, s1, s2, _⟩ := hSw.s.three; go_simp; (try with_reducible rfl)
      (try simp only [Act.put, List.setIfInBounds_toArray, List.set_cons_zero, List.set_cons_succ])
      refine wpAnyH_take (i := 3) (v := ?_) rfl (by kernel_rfl) (by kernel_rfl) (by kernel_rfl) (fun _ _ _ h => h) (Or.inl ⟨by rfl, ?_⟩) hHeld ?_
      rotate_left
      · intro w hSw; (try dsimp only at hSw); obtain ⟨_, d0, d1, d2, d3⟩ := hSw.r; obtain ⟨s0, s1, s2, _⟩ := hSw.s.three; go_simp; (try with_reducible rfl)
      (try simp only [Act.put, List.setIfInBounds_toArray, List.set_cons_zero, List.set_cons_succ])
      refine wpAnyH_take (i := 4) (v := ?_) rfl (by kernel_rfl) (by kernel_rfl) (by kernel_rfl) (fun _ _ _ h => h) (Or.inl ⟨by rfl, ?_⟩) hHeld ?_
      rotate_left
      · intro w hSw; (try dsimp only at hSw); obtain ⟨_, d0, d1, d2, d3⟩ := hSw.r; obtain ⟨s0, s1, s2, _⟩ := hSw.s.three; go_simp; (try with_reducible rfl)
      (try simp only [Act.put, List.setIfInBounds_toArray, List.set_cons_zero, List.set_cons_succ])
      refine wpAnyH_take (i := 5) (v := ?_) rfl (by kernel_rfl) (by kernel_rfl) (by kernel_rfl) (fun _ _ _ h => h) (Or.inl ⟨by rfl, ?_⟩) hHeld ?_
      rotate_left
      · intro w hSw; (try dsimp only at hSw); obtain ⟨_, d0, d1, d2, d3⟩ := hSw.r; obtain ⟨s0, s1, s2, _⟩ := hSw.s.three; go_simp; (try with_reducible rfl)
      (try simp only [Act.put, List.setIfInBounds_toArray, List.set_cons_zero, List.set_cons_succ])
      (try simp only [List.getElem_toArray, List.getElem_cons_zero, List.getElem_cons_succ, Act.put, List.setIfInBounds_toArray, List.set_cons_zero, List.set_cons_succ])
      have hwwrd : Below w.heap.size w wr.drew := Hbwr.out.drew
      refine wpAnyH_each [(6, 35, Kind.val (.tuple #[.agg #[.int .i64 u.pos, .int .i64 u.charge, .bool u.bolted], .agg #[.int .i64 d.refused, .int .i64 d.moved, .int .i64 d.oil], .int .i64 fe])), (7, 28, Kind.val (.tuple #[.agg #[.int .i64 u.pos, .int .i64 u.charge, .bool u.bolted], .agg #[.int .i64 d.refused, .int .i64 d.moved, .int .i64 d.oil], .int .i64 fe])), (8, 36, Kind.val (.agg #[.int .i64 u.pos, .int .i64 u.charge, .bool u.bolted])), (9, 37, Kind.val (.agg #[.int .i64 d.refused, .int .i64 d.moved, .int .i64 d.oil])), (10, 38, Kind.val (.int .i64 fe)), (11, 8, Kind.new (wr.heap.size) 42 #[.int .i64 0, .int .i64 0, .bool false]), (12, 9, Kind.new (wr.heap.size) 45 #[.int .i64 0, .int .i64 0, .int .i64 0])] [7, 8, 9, 10] 3 (by kernel_rfl) (by simp [idxs]) (by simp) (fun _ _ d _ _ h => by cases d <;> exact h) (fun W hW => hHeld.below hW) ?_ ?_
      · refine Eachs.cons ?_ (Eachs.cons ?_ (Eachs.cons ?_ (Eachs.cons ?_ (Eachs.cons ?_ (Eachs.cons ?_ (Eachs.cons ?_ (Eachs.nil)))))))
        · refine each_op [] rfl rfl (by kernel_rfl) (fun p hp => by cases hp) rfl ?_
          intro uF w' hw' hps a ha K hK
          simp only [puts, Act.put, List.setIfInBounds_toArray, List.set_cons_zero, List.set_cons_succ] at ha
          subst ha
          have hz' := hw'.size
          (try simp at hz')
          go_simp
          refine (HS1.out _ (Hg.out.grow (hwwrd.trans (hw'.mono hwwrd.size)))).mono ?_
          rintro e wq ⟨rfl, hq⟩
          (try dsimp only)
          exact hK.out _ (.tuple #[.agg #[.int .i64 u.pos, .int .i64 u.charge, .bool u.bolted], .agg #[.int .i64 d.refused, .int .i64 d.moved, .int .i64 d.oil], .int .i64 fe]) wq rfl hq rfl (fun h => by cases h)
        · refine each_take [(6, 35, Kind.val (.tuple #[.agg #[.int .i64 u.pos, .int .i64 u.charge, .bool u.bolted], .agg #[.int .i64 d.refused, .int .i64 d.moved, .int .i64 d.oil], .int .i64 fe]))] rfl rfl (by kernel_rfl) (fun p hp => by simp only [List.mem_cons, List.not_mem_nil, or_false] at hp; rcases hp with rfl <;> simp only [List.mem_cons, true_or, or_true]) rfl ?_
          refine ⟨rfl, ?_⟩
          intro uF w' hw' hps a ha
          obtain ⟨q6, _⟩ := hps
          have e6 : uF 6 = .tuple #[.agg #[.int .i64 u.pos, .int .i64 u.charge, .bool u.bolted], .agg #[.int .i64 d.refused, .int .i64 d.moved, .int .i64 d.oil], .int .i64 fe] := q6
          simp only [puts, Act.put, List.setIfInBounds_toArray, List.set_cons_zero, List.set_cons_succ, e6] at ha
          subst ha
          exact ⟨.tuple #[.agg #[.int .i64 u.pos, .int .i64 u.charge, .bool u.bolted], .agg #[.int .i64 d.refused, .int .i64 d.moved, .int .i64 d.oil], .int .i64 fe], rfl, Or.inl ⟨by rfl, fun W => by go_simp <;> (try with_reducible rfl)⟩⟩
        · refine each_take [(7, 28, Kind.val (.tuple #[.agg #[.int .i64 u.pos, .int .i64 u.charge, .bool u.bolted], .agg #[.int .i64 d.refused, .int .i64 d.moved, .int .i64 d.oil], .int .i64 fe]))] rfl rfl (by kernel_rfl) (fun p hp => by simp only [List.mem_cons, List.not_mem_nil, or_false] at hp; rcases hp with rfl <;> simp only [List.mem_cons, true_or, or_true]) rfl ?_
          refine ⟨rfl, ?_⟩
          intro uF w' hw' hps a ha
          obtain ⟨q7, _⟩ := hps
          have e7 : uF 7 = .tuple #[.agg #[.int .i64 u.pos, .int .i64 u.charge, .bool u.bolted], .agg #[.int .i64 d.refused, .int .i64 d.moved, .int .i64 d.oil], .int .i64 fe] := q7
          simp only [puts, Act.put, List.setIfInBounds_toArray, List.set_cons_zero, List.set_cons_succ, e7] at ha
          subst ha
          exact ⟨.agg #[.int .i64 u.pos, .int .i64 u.charge, .bool u.bolted], rfl, Or.inl ⟨by rfl, fun W => by go_simp <;> (try with_reducible rfl)⟩⟩
        · refine each_take [(7, 28, Kind.val (.tuple #[.agg #[.int .i64 u.pos, .int .i64 u.charge, .bool u.bolted], .agg #[.int .i64 d.refused, .int .i64 d.moved, .int .i64 d.oil], .int .i64 fe]))] rfl rfl (by kernel_rfl) (fun p hp => by simp only [List.mem_cons, List.not_mem_nil, or_false] at hp; rcases hp with rfl <;> simp only [List.mem_cons, true_or, or_true]) rfl ?_
          refine ⟨rfl, ?_⟩
          intro uF w' hw' hps a ha
          obtain ⟨q7, _⟩ := hps
          have e7 : uF 7 = .tuple #[.agg #[.int .i64 u.pos, .int .i64 u.charge, .bool u.bolted], .agg #[.int .i64 d.refused, .int .i64 d.moved, .int .i64 d.oil], .int .i64 fe] := q7
          simp only [puts, Act.put, List.setIfInBounds_toArray, List.set_cons_zero, List.set_cons_succ, e7] at ha
          subst ha
          exact ⟨.agg #[.int .i64 d.refused, .int .i64 d.moved, .int .i64 d.oil], rfl, Or.inl ⟨by rfl, fun W => by go_simp <;> (try with_reducible rfl)⟩⟩
        · refine each_take [(7, 28, Kind.val (.tuple #[.agg #[.int .i64 u.pos, .int .i64 u.charge, .bool u.bolted], .agg #[.int .i64 d.refused, .int .i64 d.moved, .int .i64 d.oil], .int .i64 fe]))] rfl rfl (by kernel_rfl) (fun p hp => by simp only [List.mem_cons, List.not_mem_nil, or_false] at hp; rcases hp with rfl <;> simp only [List.mem_cons, true_or, or_true]) rfl ?_
          refine ⟨rfl, ?_⟩
          intro uF w' hw' hps a ha
          obtain ⟨q7, _⟩ := hps
          have e7 : uF 7 = .tuple #[.agg #[.int .i64 u.pos, .int .i64 u.charge, .bool u.bolted], .agg #[.int .i64 d.refused, .int .i64 d.moved, .int .i64 d.oil], .int .i64 fe] := q7
          simp only [puts, Act.put, List.setIfInBounds_toArray, List.set_cons_zero, List.set_cons_succ, e7] at ha
          subst ha
          exact ⟨.int .i64 fe, rfl, Or.inl ⟨by rfl, fun W => by go_simp <;> (try with_reducible rfl)⟩⟩
        · refine each_op [] rfl rfl (by kernel_rfl) (fun p hp => by cases hp) rfl ?_
          intro uF w' hw' hps a ha K hK
          simp only [puts, Act.put, List.setIfInBounds_toArray, List.set_cons_zero, List.set_cons_succ] at ha
          subst ha
          have hz' := hw'.size
          (try simp at hz')
          go_simp
          exact hK.out _ (.pointer (some ⟨w'.heap.size, 0, none⟩)) _ rfl ((Below.refl _ _).alloc (Nat.le_refl _) _) ⟨_, rfl, (by omega), Blk.new _ _ _⟩ (fun _ => rfl)
        · refine each_op [] rfl rfl (by kernel_rfl) (fun p hp => by cases hp) rfl ?_
          intro uF w' hw' hps a ha K hK
          simp only [puts, Act.put, List.setIfInBounds_toArray, List.set_cons_zero, List.set_cons_succ] at ha
          subst ha
          have hz' := hw'.size
          (try simp at hz')
          go_simp
          exact hK.out _ (.pointer (some ⟨w'.heap.size, 0, none⟩)) _ rfl ((Below.refl _ _).alloc (Nat.le_refl _) _) ⟨_, rfl, (by omega), Blk.new _ _ _⟩ (fun _ => rfl)
      intro uF wz hwz hps hD a ha
      obtain ⟨q6, q7, q8, q9, q10, q11, q12, _⟩ := hps
      have e6 : uF 6 = .tuple #[.agg #[.int .i64 u.pos, .int .i64 u.charge, .bool u.bolted], .agg #[.int .i64 d.refused, .int .i64 d.moved, .int .i64 d.oil], .int .i64 fe] := q6
      have e7 : uF 7 = .tuple #[.agg #[.int .i64 u.pos, .int .i64 u.charge, .bool u.bolted], .agg #[.int .i64 d.refused, .int .i64 d.moved, .int .i64 d.oil], .int .i64 fe] := q7
      have e8 : uF 8 = .agg #[.int .i64 u.pos, .int .i64 u.charge, .bool u.bolted] := q8
      have e9 : uF 9 = .agg #[.int .i64 d.refused, .int .i64 d.moved, .int .i64 d.oil] := q9
      have e10 : uF 10 = .int .i64 fe := q10
      obtain ⟨b11, e11, hB11, hb11⟩ := (show ∃ b, uF 11 = .pointer (some ⟨b, 0, none⟩) ∧ (wr.heap.size) ≤ b ∧ Blk wz b 42 #[.int .i64 0, .int .i64 0, .bool false] from q11)
      obtain ⟨b12, e12, hB12, hb12⟩ := (show ∃ b, uF 12 = .pointer (some ⟨b, 0, none⟩) ∧ (wr.heap.size) ≤ b ∧ Blk wz b 45 #[.int .i64 0, .int .i64 0, .int .i64 0] from q12)
      have hne11_12 : b11 ≠ b12 := fun hc => hD (11, 8, Kind.new (wr.heap.size) 42 #[.int .i64 0, .int .i64 0, .bool false]) (.tail _ (.tail _ (.tail _ (.tail _ (.tail _ (.head _)))))) (12, 9, Kind.new (wr.heap.size) 45 #[.int .i64 0, .int .i64 0, .int .i64 0]) (.tail _ (.tail _ (.tail _ (.tail _ (.tail _ (.tail _ (.head _))))))) (show (11 : Nat) ≠ 12 by decide) rfl rfl (show uF 11 = uF 12 by rw [e11, e12, hc])
      simp only [puts, Act.put, List.setIfInBounds_toArray, List.set_cons_zero, List.set_cons_succ, e6, e7, e8, e9, e10, e11, e12] at ha
      subst ha
      clear hD q6 q7 q8 q9 q10 q11 q12 e6 e7 e8 e9 e10 e11 e12
      have hBz : Below w.heap.size w wz := hwwrd.trans (hwz.mono hwwrd.size)
      have hRz := hHeld.below hwz
      have hl10 := hb11.lt
      have hl11 := hb12.lt
      
      clear hHeld hwwrd HRwr Hbwr
      (try simp only [List.getElem_toArray, List.getElem_cons_zero, List.getElem_cons_succ, Act.put, List.setIfInBounds_toArray, List.set_cons_zero, List.set_cons_succ])
      refine wpAnyH_ready (rs := [13]) (by kernel_rfl) (by simp) ?_
      refine AllReadyH.cons rfl (fun K hK => ?_) AllReadyH.nil
      refine wanted_of (by rfl) (wp_store_mid (P := Tryz.prog) 42 _ _ rfl (b11) 0 #[.int .i64 u.pos, .int .i64 u.charge, .bool u.bolted] rfl rfl (Blk.there hb11 (by show 0 + 3 ≤ 3; omega)) (by kernel_rfl) (by simp [Value.oneCell']) ?_)
      refine hK.out _ _ (by exact hRz.sets (by omega) (by omega) (by omega) _ _) (fun hHeld => ?_)
      clear hK K
      (try simp only [Act.put, List.setIfInBounds_toArray, List.set_cons_zero, List.set_cons_succ])
      have hb12y := hb12.fars (b := b11) (fun h => hne11_12 h.symm) (#[.int .i64 u.pos, .int .i64 u.charge, .bool u.bolted] : Array Value).toList 0
      (try simp only [List.getElem_toArray, List.getElem_cons_zero, List.getElem_cons_succ, Act.put, List.setIfInBounds_toArray, List.set_cons_zero, List.set_cons_succ])
      refine wpAnyH_ready (rs := [14]) (by kernel_rfl) (by simp) ?_
      refine AllReadyH.cons rfl (fun K hK => ?_) AllReadyH.nil
      refine wanted_of (by rfl) (wp_store_mid (P := Tryz.prog) 45 _ _ rfl (b12) 0 #[.int .i64 d.refused, .int .i64 d.moved, .int .i64 d.oil] rfl rfl (Blk.there hb12y (by show 0 + 3 ≤ 3; omega)) (by kernel_rfl) (by simp [Value.oneCell']) ?_)
      refine hK.out _ _ (by exact hHeld.sets (by omega) (by omega) (by omega) _ _) (fun hHeld => ?_)
      clear hK K
      (try simp only [Act.put, List.setIfInBounds_toArray, List.set_cons_zero, List.set_cons_succ])
      refine wpAnyH_take (i := 15) (v := ?_) rfl (by kernel_rfl) (by kernel_rfl) (by kernel_rfl) (fun _ _ _ h => h) (Or.inl ⟨by rfl, ?_⟩) hHeld ?_
      rotate_left
      · intro w hSw; (try dsimp only at hSw); skip; go_simp; (try with_reducible rfl)
      (try simp only [Act.put, List.setIfInBounds_toArray, List.set_cons_zero, List.set_cons_succ])
      refine wpAnyH_done (by kernel_rfl) ?_ _
      (try simp only [List.getElem_toArray, List.getElem_cons_zero, List.getElem_cons_succ, Act.put, List.setIfInBounds_toArray, List.set_cons_zero, List.set_cons_succ])
      have ha : Blk _ b11 _ #[.int .i64 u.pos, .int .i64 u.charge, .bool u.bolted] := (Blk.sets hb11 (#[.int .i64 u.pos, .int .i64 u.charge, .bool u.bolted] : Array Value).toList 0).fars (b := b12) hne11_12 (#[.int .i64 d.refused, .int .i64 d.moved, .int .i64 d.oil] : Array Value).toList 0
      have hm : Blk _ b12 _ #[.int .i64 d.refused, .int .i64 d.moved, .int .i64 d.oil] := Blk.sets hb12y (#[.int .i64 d.refused, .int .i64 d.moved, .int .i64 d.oil] : Array Value).toList 0
      have hBy := below_sets (below_sets hBz (b := b11) (by omega) (#[.int .i64 u.pos, .int .i64 u.charge, .bool u.bolted] : Array Value).toList 0) (b := b12) (by omega) (#[.int .i64 d.refused, .int .i64 d.moved, .int .i64 d.oil] : Array Value).toList 0
      skip
      have HRwa := Lib.hid hHeld
      have Hbwa := Lib.hid hBy
      have hzy : wz.heap.size ≤ ((wz.setCells b11 0 (#[.int .i64 u.pos, .int .i64 u.charge, .bool u.bolted] : Array Value).toList).setCells b12 0 (#[.int .i64 d.refused, .int .i64 d.moved, .int .i64 d.oil] : Array Value).toList).heap.size := Nat.le_of_eq (by rw [size_sets, size_sets])
      have hal := ha.lt
      have hml := hm.lt
      have Hha := Lib.hid ha
      have Hhm := Lib.hid hm
      clear hHeld hBz hRz hb11 hb12 hb12y hBy hwz ha hm
      generalize (wz.setCells b11 0 (#[.int .i64 u.pos, .int .i64 u.charge, .bool u.bolted] : Array Value).toList).setCells b12 0 (#[.int .i64 d.refused, .int .i64 d.moved, .int .i64 d.oil] : Array Value).toList = wa at *
      skip
      obtain ⟨ba, rfl⟩ : ∃ ba : Nat, ba = b11 := ⟨_, rfl⟩
      obtain ⟨bm, rfl⟩ : ∃ bm : Nat, bm = b12 := ⟨_, rfl⟩
      have hnab : ba ≠ bm := hne11_12
      clear hne11_12
      go_wp2_with fail
      refine wp_region_held (S := fun W' => RnS W' w.heap.size g (w.heap.size + 1) s tb (off + k * 4) t) (by kernel_rfl) (by exact HRwa.out.drew) (fun hHeld => ?_)
      refine wpAnyH_take (i := 0) (v := g.v) rfl (by kernel_rfl) (by kernel_rfl) (by kernel_rfl) (fun _ _ _ h => h) (Or.inl ⟨by rfl, fun w hSw => ld_g rfl rfl hSw.r.g⟩) hHeld ?_
      (try simp only [Act.put, List.setIfInBounds_toArray, List.set_cons_zero, List.set_cons_succ])
      refine wpAnyH_take (i := 1) (v := ?_) rfl (by kernel_rfl) (by kernel_rfl) (by kernel_rfl) (fun _ _ _ h => h) (Or.inl ⟨by rfl, ?_⟩) hHeld ?_
      rotate_left
      · intro w hSw; (try dsimp only at hSw); obtain ⟨_, d0, d1, d2, d3⟩ := hSw.r; obtain ⟨s0, s1, s2, _⟩ := hSw.s.three; go_simp; (try with_reducible rfl)
      (try simp only [Act.put, List.setIfInBounds_toArray, List.set_cons_zero, List.set_cons_succ])
      refine wpAnyH_take (i := 2) (v := ?_) rfl (by kernel_rfl) (by kernel_rfl) (by kernel_rfl) (fun _ _ _ h => h) (Or.inl ⟨by rfl, ?_⟩) hHeld ?_
      rotate_left
      · intro w hSw; (try dsimp only at hSw); obtain ⟨_, d0, d1, d2, d3⟩ := hSw.r; obtain ⟨s0, s1, s2, _⟩ := hSw.s.three; go_simp; (try with_reducible rfl)
      (try simp only [Act.put, List.setIfInBounds_toArray, List.set_cons_zero, List.set_cons_succ])
      refine wpAnyH_take (i := 3) (v := ?_) rfl (by kernel_rfl) (by kernel_rfl) (by kernel_rfl) (fun _ _ _ h => h) (Or.inl ⟨by rfl, ?_⟩) hHeld ?_
      rotate_left
      · intro w hSw; (try dsimp only at hSw); obtain ⟨_, d0, d1, d2, d3⟩ := hSw.r; obtain ⟨s0, s1, s2, _⟩ := hSw.s.three; go_simp; (try with_reducible rfl)
      (try simp only [Act.put, List.setIfInBounds_toArray, List.set_cons_zero, List.set_cons_succ])
      refine wpAnyH_take (i := 4) (v := ?_) rfl (by kernel_rfl) (by kernel_rfl) (by kernel_rfl) (fun _ _ _ h => h) (Or.inl ⟨by rfl, ?_⟩) hHeld ?_
      rotate_left
      · intro w hSw; (try dsimp only at hSw); obtain ⟨_, d0, d1, d2, d3⟩ := hSw.r; obtain ⟨s0, s1, s2, _⟩ := hSw.s.three; go_simp; (try with_reducible rfl)
      (try simp only [Act.put, List.setIfInBounds_toArray, List.set_cons_zero, List.set_cons_succ])
      refine wpAnyH_take (i := 5) (v := ?_) rfl (by kernel_rfl) (by kernel_rfl) (by kernel_rfl) (fun _ _ _ h => h) (Or.inl ⟨by rfl, ?_⟩) hHeld ?_
      rotate_left
      · intro w hSw; (try dsimp only at hSw); obtain ⟨_, d0, d1, d2, d3⟩ := hSw.r; obtain ⟨s0, s1, s2, _⟩ := hSw.s.three; go_simp; (try with_reducible rfl)
      (try simp only [Act.put, List.setIfInBounds_toArray, List.set_cons_zero, List.set_cons_succ])
      (try simp only [List.getElem_toArray, List.getElem_cons_zero, List.getElem_cons_succ, Act.put, List.setIfInBounds_toArray, List.set_cons_zero, List.set_cons_succ])
      have hwwad : Below w.heap.size w wa.drew := Hbwa.out.drew
      refine wpAnyH_each [(6, 46, Kind.val (.tuple #[.agg #[.int .i64 u.pos, .int .i64 u.charge, .bool u.bolted], .agg #[.int .i64 d.refused, .int .i64 d.moved, .int .i64 d.oil], .int .i64 fe])), (7, 39, Kind.val (.tuple #[.agg #[.int .i64 u.pos, .int .i64 u.charge, .bool u.bolted], .agg #[.int .i64 d.refused, .int .i64 d.moved, .int .i64 d.oil], .int .i64 fe])), (8, 47, Kind.val (.agg #[.int .i64 u.pos, .int .i64 u.charge, .bool u.bolted])), (9, 48, Kind.val (.agg #[.int .i64 d.refused, .int .i64 d.moved, .int .i64 d.oil])), (10, 49, Kind.val (.int .i64 fe)), (11, 11, Kind.new (wa.heap.size) 42 #[.int .i64 0, .int .i64 0, .bool false]), (12, 12, Kind.new (wa.heap.size) 45 #[.int .i64 0, .int .i64 0, .int .i64 0])] [7, 8, 9, 10] 3 (by kernel_rfl) (by simp [idxs]) (by simp) (fun _ _ d _ _ h => by cases d <;> exact h) (fun W hW => hHeld.below hW) ?_ ?_
      · refine Eachs.cons ?_ (Eachs.cons ?_ (Eachs.cons ?_ (Eachs.cons ?_ (Eachs.cons ?_ (Eachs.cons ?_ (Eachs.cons ?_ (Eachs.nil)))))))
        · refine each_op [] rfl rfl (by kernel_rfl) (fun p hp => by cases hp) rfl ?_
          intro uF w' hw' hps a ha K hK
          simp only [puts, Act.put, List.setIfInBounds_toArray, List.set_cons_zero, List.set_cons_succ] at ha
          subst ha
          have hz' := hw'.size
          (try simp at hz')
          go_simp
          refine (HS2.out _ (Hg.out.grow (hwwad.trans (hw'.mono hwwad.size)))).mono ?_
          rintro e wq ⟨rfl, hq⟩
          (try dsimp only)
          exact hK.out _ (.tuple #[.agg #[.int .i64 u.pos, .int .i64 u.charge, .bool u.bolted], .agg #[.int .i64 d.refused, .int .i64 d.moved, .int .i64 d.oil], .int .i64 fe]) wq rfl hq rfl (fun h => by cases h)
        · refine each_take [(6, 46, Kind.val (.tuple #[.agg #[.int .i64 u.pos, .int .i64 u.charge, .bool u.bolted], .agg #[.int .i64 d.refused, .int .i64 d.moved, .int .i64 d.oil], .int .i64 fe]))] rfl rfl (by kernel_rfl) (fun p hp => by simp only [List.mem_cons, List.not_mem_nil, or_false] at hp; rcases hp with rfl <;> simp only [List.mem_cons, true_or, or_true]) rfl ?_
          refine ⟨rfl, ?_⟩
          intro uF w' hw' hps a ha
          obtain ⟨q6, _⟩ := hps
          have e6 : uF 6 = .tuple #[.agg #[.int .i64 u.pos, .int .i64 u.charge, .bool u.bolted], .agg #[.int .i64 d.refused, .int .i64 d.moved, .int .i64 d.oil], .int .i64 fe] := q6
          simp only [puts, Act.put, List.setIfInBounds_toArray, List.set_cons_zero, List.set_cons_succ, e6] at ha
          subst ha
          exact ⟨.tuple #[.agg #[.int .i64 u.pos, .int .i64 u.charge, .bool u.bolted], .agg #[.int .i64 d.refused, .int .i64 d.moved, .int .i64 d.oil], .int .i64 fe], rfl, Or.inl ⟨by rfl, fun W => by go_simp <;> (try with_reducible rfl)⟩⟩
        · refine each_take [(7, 39, Kind.val (.tuple #[.agg #[.int .i64 u.pos, .int .i64 u.charge, .bool u.bolted], .agg #[.int .i64 d.refused, .int .i64 d.moved, .int .i64 d.oil], .int .i64 fe]))] rfl rfl (by kernel_rfl) (fun p hp => by simp only [List.mem_cons, List.not_mem_nil, or_false] at hp; rcases hp with rfl <;> simp only [List.mem_cons, true_or, or_true]) rfl ?_
          refine ⟨rfl, ?_⟩
          intro uF w' hw' hps a ha
          obtain ⟨q7, _⟩ := hps
          have e7 : uF 7 = .tuple #[.agg #[.int .i64 u.pos, .int .i64 u.charge, .bool u.bolted], .agg #[.int .i64 d.refused, .int .i64 d.moved, .int .i64 d.oil], .int .i64 fe] := q7
          simp only [puts, Act.put, List.setIfInBounds_toArray, List.set_cons_zero, List.set_cons_succ, e7] at ha
          subst ha
          exact ⟨.agg #[.int .i64 u.pos, .int .i64 u.charge, .bool u.bolted], rfl, Or.inl ⟨by rfl, fun W => by go_simp <;> (try with_reducible rfl)⟩⟩
        · refine each_take [(7, 39, Kind.val (.tuple #[.agg #[.int .i64 u.pos, .int .i64 u.charge, .bool u.bolted], .agg #[.int .i64 d.refused, .int .i64 d.moved, .int .i64 d.oil], .int .i64 fe]))] rfl rfl (by kernel_rfl) (fun p hp => by simp only [List.mem_cons, List.not_mem_nil, or_false] at hp; rcases hp with rfl <;> simp only [List.mem_cons, true_or, or_true]) rfl ?_
          refine ⟨rfl, ?_⟩
          intro uF w' hw' hps a ha
          obtain ⟨q7, _⟩ := hps
          have e7 : uF 7 = .tuple #[.agg #[.int .i64 u.pos, .int .i64 u.charge, .bool u.bolted], .agg #[.int .i64 d.refused, .int .i64 d.moved, .int .i64 d.oil], .int .i64 fe] := q7
          simp only [puts, Act.put, List.setIfInBounds_toArray, List.set_cons_zero, List.set_cons_succ, e7] at ha
          subst ha
          exact ⟨.agg #[.int .i64 d.refused, .int .i64 d.moved, .int .i64 d.oil], rfl, Or.inl ⟨by rfl, fun W => by go_simp <;> (try with_reducible rfl)⟩⟩
        · refine each_take [(7, 39, Kind.val (.tuple #[.agg #[.int .i64 u.pos, .int .i64 u.charge, .bool u.bolted], .agg #[.int .i64 d.refused, .int .i64 d.moved, .int .i64 d.oil], .int .i64 fe]))] rfl rfl (by kernel_rfl) (fun p hp => by simp only [List.mem_cons, List.not_mem_nil, or_false] at hp; rcases hp with rfl <;> simp only [List.mem_cons, true_or, or_true]) rfl ?_
          refine ⟨rfl, ?_⟩
          intro uF w' hw' hps a ha
          obtain ⟨q7, _⟩ := hps
          have e7 : uF 7 = .tuple #[.agg #[.int .i64 u.pos, .int .i64 u.charge, .bool u.bolted], .agg #[.int .i64 d.refused, .int .i64 d.moved, .int .i64 d.oil], .int .i64 fe] := q7
          simp only [puts, Act.put, List.setIfInBounds_toArray, List.set_cons_zero, List.set_cons_succ, e7] at ha
          subst ha
          exact ⟨.int .i64 fe, rfl, Or.inl ⟨by rfl, fun W => by go_simp <;> (try with_reducible rfl)⟩⟩
        · refine each_op [] rfl rfl (by kernel_rfl) (fun p hp => by cases hp) rfl ?_
          intro uF w' hw' hps a ha K hK
          simp only [puts, Act.put, List.setIfInBounds_toArray, List.set_cons_zero, List.set_cons_succ] at ha
          subst ha
          have hz' := hw'.size
          (try simp at hz')
          go_simp
          exact hK.out _ (.pointer (some ⟨w'.heap.size, 0, none⟩)) _ rfl ((Below.refl _ _).alloc (Nat.le_refl _) _) ⟨_, rfl, (by omega), Blk.new _ _ _⟩ (fun _ => rfl)
        · refine each_op [] rfl rfl (by kernel_rfl) (fun p hp => by cases hp) rfl ?_
          intro uF w' hw' hps a ha K hK
          simp only [puts, Act.put, List.setIfInBounds_toArray, List.set_cons_zero, List.set_cons_succ] at ha
          subst ha
          have hz' := hw'.size
          (try simp at hz')
          go_simp
          exact hK.out _ (.pointer (some ⟨w'.heap.size, 0, none⟩)) _ rfl ((Below.refl _ _).alloc (Nat.le_refl _) _) ⟨_, rfl, (by omega), Blk.new _ _ _⟩ (fun _ => rfl)
      intro uF wz hwz hps hD a ha
      obtain ⟨q6, q7, q8, q9, q10, q11, q12, _⟩ := hps
      have e6 : uF 6 = .tuple #[.agg #[.int .i64 u.pos, .int .i64 u.charge, .bool u.bolted], .agg #[.int .i64 d.refused, .int .i64 d.moved, .int .i64 d.oil], .int .i64 fe] := q6
      have e7 : uF 7 = .tuple #[.agg #[.int .i64 u.pos, .int .i64 u.charge, .bool u.bolted], .agg #[.int .i64 d.refused, .int .i64 d.moved, .int .i64 d.oil], .int .i64 fe] := q7
      have e8 : uF 8 = .agg #[.int .i64 u.pos, .int .i64 u.charge, .bool u.bolted] := q8
      have e9 : uF 9 = .agg #[.int .i64 d.refused, .int .i64 d.moved, .int .i64 d.oil] := q9
      have e10 : uF 10 = .int .i64 fe := q10
      obtain ⟨b11, e11, hB11, hb11⟩ := (show ∃ b, uF 11 = .pointer (some ⟨b, 0, none⟩) ∧ (wa.heap.size) ≤ b ∧ Blk wz b 42 #[.int .i64 0, .int .i64 0, .bool false] from q11)
      obtain ⟨b12, e12, hB12, hb12⟩ := (show ∃ b, uF 12 = .pointer (some ⟨b, 0, none⟩) ∧ (wa.heap.size) ≤ b ∧ Blk wz b 45 #[.int .i64 0, .int .i64 0, .int .i64 0] from q12)
      have hne11_12 : b11 ≠ b12 := fun hc => hD (11, 11, Kind.new (wa.heap.size) 42 #[.int .i64 0, .int .i64 0, .bool false]) (.tail _ (.tail _ (.tail _ (.tail _ (.tail _ (.head _)))))) (12, 12, Kind.new (wa.heap.size) 45 #[.int .i64 0, .int .i64 0, .int .i64 0]) (.tail _ (.tail _ (.tail _ (.tail _ (.tail _ (.tail _ (.head _))))))) (show (11 : Nat) ≠ 12 by decide) rfl rfl (show uF 11 = uF 12 by rw [e11, e12, hc])
      simp only [puts, Act.put, List.setIfInBounds_toArray, List.set_cons_zero, List.set_cons_succ, e6, e7, e8, e9, e10, e11, e12] at ha
      subst ha
      clear hD q6 q7 q8 q9 q10 q11 q12 e6 e7 e8 e9 e10 e11 e12
      have hBz : Below w.heap.size w wz := hwwad.trans (hwz.mono hwwad.size)
      have hRz := hHeld.below hwz
      have hl10 := hb11.lt
      have hl11 := hb12.lt
      have haz := (show Blk wa.drew ba 42 #[.int .i64 u.pos, .int .i64 u.charge, .bool u.bolted] from Hha.out).thru hwz (by simp; omega)
      have hmz := (show Blk wa.drew bm 45 #[.int .i64 d.refused, .int .i64 d.moved, .int .i64 d.oil] from Hhm.out).thru hwz (by simp; omega)
      
      clear hHeld hwwad HRwa Hbwa
      (try simp only [List.getElem_toArray, List.getElem_cons_zero, List.getElem_cons_succ, Act.put, List.setIfInBounds_toArray, List.set_cons_zero, List.set_cons_succ])
      refine wpAnyH_ready (rs := [13]) (by kernel_rfl) (by simp) ?_
      refine AllReadyH.cons rfl (fun K hK => ?_) AllReadyH.nil
      refine wanted_of (by rfl) (wp_store_mid (P := Tryz.prog) 42 _ _ rfl (b11) 0 #[.int .i64 u.pos, .int .i64 u.charge, .bool u.bolted] rfl rfl (Blk.there hb11 (by show 0 + 3 ≤ 3; omega)) (by kernel_rfl) (by simp [Value.oneCell']) ?_)
      refine hK.out _ _ (by exact hRz.sets (by omega) (by omega) (by omega) _ _) (fun hHeld => ?_)
      clear hK K
      (try simp only [Act.put, List.setIfInBounds_toArray, List.set_cons_zero, List.set_cons_succ])
      have hb12y := hb12.fars (b := b11) (fun h => hne11_12 h.symm) (#[.int .i64 u.pos, .int .i64 u.charge, .bool u.bolted] : Array Value).toList 0
      (try simp only [List.getElem_toArray, List.getElem_cons_zero, List.getElem_cons_succ, Act.put, List.setIfInBounds_toArray, List.set_cons_zero, List.set_cons_succ])
      refine wpAnyH_ready (rs := [14]) (by kernel_rfl) (by simp) ?_
      refine AllReadyH.cons rfl (fun K hK => ?_) AllReadyH.nil
      refine wanted_of (by rfl) (wp_store_mid (P := Tryz.prog) 45 _ _ rfl (b12) 0 #[.int .i64 d.refused, .int .i64 d.moved, .int .i64 d.oil] rfl rfl (Blk.there hb12y (by show 0 + 3 ≤ 3; omega)) (by kernel_rfl) (by simp [Value.oneCell']) ?_)
      refine hK.out _ _ (by exact hHeld.sets (by omega) (by omega) (by omega) _ _) (fun hHeld => ?_)
      clear hK K
      (try simp only [Act.put, List.setIfInBounds_toArray, List.set_cons_zero, List.set_cons_succ])
      refine wpAnyH_take (i := 15) (v := ?_) rfl (by kernel_rfl) (by kernel_rfl) (by kernel_rfl) (fun _ _ _ h => h) (Or.inl ⟨by rfl, ?_⟩) hHeld ?_
      rotate_left
      · intro w hSw; (try dsimp only at hSw); skip; go_simp; (try with_reducible rfl)
      (try simp only [Act.put, List.setIfInBounds_toArray, List.set_cons_zero, List.set_cons_succ])
      refine wpAnyH_done (by kernel_rfl) ?_ _
      (try simp only [List.getElem_toArray, List.getElem_cons_zero, List.getElem_cons_succ, Act.put, List.setIfInBounds_toArray, List.set_cons_zero, List.set_cons_succ])
      have hb_ : Blk _ b11 _ #[.int .i64 u.pos, .int .i64 u.charge, .bool u.bolted] := (Blk.sets hb11 (#[.int .i64 u.pos, .int .i64 u.charge, .bool u.bolted] : Array Value).toList 0).fars (b := b12) hne11_12 (#[.int .i64 d.refused, .int .i64 d.moved, .int .i64 d.oil] : Array Value).toList 0
      have hn_ : Blk _ b12 _ #[.int .i64 d.refused, .int .i64 d.moved, .int .i64 d.oil] := Blk.sets hb12y (#[.int .i64 d.refused, .int .i64 d.moved, .int .i64 d.oil] : Array Value).toList 0
      have hBy := below_sets (below_sets hBz (b := b11) (by omega) (#[.int .i64 u.pos, .int .i64 u.charge, .bool u.bolted] : Array Value).toList 0) (b := b12) (by omega) (#[.int .i64 d.refused, .int .i64 d.moved, .int .i64 d.oil] : Array Value).toList 0
      have Ha := Lib.hid ((haz.fars (b := b11) (by omega) (#[.int .i64 u.pos, .int .i64 u.charge, .bool u.bolted] : Array Value).toList 0).fars (b := b12) (by omega) (#[.int .i64 d.refused, .int .i64 d.moved, .int .i64 d.oil] : Array Value).toList 0)
      have Hm := Lib.hid ((hmz.fars (b := b11) (by omega) (#[.int .i64 u.pos, .int .i64 u.charge, .bool u.bolted] : Array Value).toList 0).fars (b := b12) (by omega) (#[.int .i64 d.refused, .int .i64 d.moved, .int .i64 d.oil] : Array Value).toList 0)
      clear haz hmz Hha Hhm
      have HRwb := Lib.hid hHeld
      have Hbwb := Lib.hid hBy
      have hzy : wz.heap.size ≤ ((wz.setCells b11 0 (#[.int .i64 u.pos, .int .i64 u.charge, .bool u.bolted] : Array Value).toList).setCells b12 0 (#[.int .i64 d.refused, .int .i64 d.moved, .int .i64 d.oil] : Array Value).toList).heap.size := Nat.le_of_eq (by rw [size_sets, size_sets])
      have hb_l := hb_.lt
      have hn_l := hn_.lt
      have Hb_ := Lib.hid hb_
      have Hn_ := Lib.hid hn_
      clear hHeld hBz hRz hb11 hb12 hb12y hBy hwz hb_ hn_
      generalize (wz.setCells b11 0 (#[.int .i64 u.pos, .int .i64 u.charge, .bool u.bolted] : Array Value).toList).setCells b12 0 (#[.int .i64 d.refused, .int .i64 d.moved, .int .i64 d.oil] : Array Value).toList = wb at *
      obtain ⟨a0, a1, a2, _⟩ := Ha.out.three
      obtain ⟨b0, b1, b2, _⟩ := Hb_.out.three
      obtain ⟨m0, m1, m2, _⟩ := Hm.out.three
      obtain ⟨n0, n1, n2, _⟩ := Hn_.out.three
      have hal := Ha.out.lt
      have hml := Hm.out.lt
      go_wp2
      go_roundw
      case rel => exact ⟨k + 1, by omega, by omega, by go_num, HRwb.out.r.g, HRwb.out.s, Hbwb.out⟩
      case measure => simp [intOf]; omega
    · have hex : (k = n) ∨ (k < n ∧ k = 20) := by omega
      obtain ⟨s0, s1, s2, _⟩ := hS.out.three
      have HG := hG
      have HS := hS
      have hw' := hbr.out
      have hz' := hw'.size
      clear hlt hG hS hbr hk
      by_cases h0 : (runFt g s n ts).e = 0
      · have hn3 : n ≤ 2000 := (run_ok Hg.out Hl.out h0).2.2.1
        have HRun := Lib.hid (fun W h1 h2 => HRun.out W h1 h2 h0)
        have HRef := Lib.hid (fun W h1 h2 => (HRef.out W h1 h2).mono fun e w' h => h.1 h0)
        generalize runL g s ts = rl at *
        clear HRunB h0
        rcases hex with rfl | ⟨hlt, rfl⟩
        all_goals
          go_wp2_with (with_reducible refine wpl_g (g := g) (b := w.heap.size) (t := 33) HG.out rfl rfl rfl ?_)
          refine (HRun.out _ (Hg.out.grow hw') (Ht.out.grow hw')).mono ?_
          rintro e w2 ⟨RA, rc, rfl, hrows, hrle, hb2⟩
          have HG2 := Lib.hid (HG.out.thru hb2 HG.out.lt)
          have hS2 := HS.out.thru hb2 HS.out.lt
          have hw2 : Below w.heap.size w w2 := hw'.trans (hb2.mono hz')
          have hzz := hb2.size
          have Hrows := Lib.hid hrows
          clear s0 s1 s2 hb2 hrows
          obtain ⟨s0, s1, s2, _⟩ := hS2.three
          have hsl := hS2.lt
          clear hS2
          go_wp2_with (with_reducible refine wpl_g (g := g) (b := w.heap.size) (t := 33) HG2.out rfl rfl rfl ?_)
          refine (HRef.out _ (Hg.out.grow hw2) (Ht.out.grow hw2)).mono ?_
          rintro e w3 ⟨RB, rd, rfl, hrows2, hrle2, hb3⟩
          have Hrows3 := Lib.hid (Hrows.out.grow hb3)
          have Hrows2 := Lib.hid hrows2
          have hw3 : Below w.heap.size w w3 := hw2.trans (hb3.mono hw2.size)
          clear s0 s1 s2 hrows2 hb3
          go_wp2_with fail
          refine (rStates_same rl RA RB _ rc rd _ Hrows3.out Hrows2.out (by omega)).mono ?_
          rintro e w4 ⟨rfl, hb4⟩
          have hw4 : Below w.heap.size w w4 := hw3.trans (hb4.mono hw3.size)
          clear hb4
          go_wp2_with fail
          refine (Awake_any _).mono ?_
          rintro e w5 ⟨rfl, hb5⟩
          go_wp2
          go_ret
          exact ⟨rfl, hw4.trans (hb5.mono hw4.size)⟩
      · have HRun := Lib.hid (fun W h1 h2 => HRunB.out W h1 h2 h0)
        have HRef := Lib.hid (fun W h1 h2 => (HRef.out W h1 h2).mono fun e w' h => h.2 h0)
        generalize (runFt g s n ts).e = E at *
        have qe : (E == E) = true := beq_self_eq_true E
        clear HRunB h0
        rcases hex with rfl | ⟨hlt, rfl⟩
        all_goals
          go_wp2_with (with_reducible refine wpl_g (g := g) (b := w.heap.size) (t := 33) HG.out rfl rfl rfl ?_)
          refine (HRun.out _ (Hg.out.grow hw') (Ht.out.grow hw')).mono ?_
          rintro e w2 ⟨rfl, hb2⟩
          have HG2 := Lib.hid (HG.out.thru hb2 HG.out.lt)
          have hS2 := HS.out.thru hb2 HS.out.lt
          have hw2 : Below w.heap.size w w2 := hw'.trans (hb2.mono hz')
          have hzz := hb2.size
          clear s0 s1 s2 hb2
          obtain ⟨s0, s1, s2, _⟩ := hS2.three
          have hsl := hS2.lt
          clear hS2
          go_wp2_with (with_reducible refine wpl_g (g := g) (b := w.heap.size) (t := 33) HG2.out rfl rfl rfl ?_)
          refine (HRef.out _ (Hg.out.grow hw2) (Ht.out.grow hw2)).mono ?_
          rintro e w3 ⟨rfl, hb3⟩
          have hw3 : Below w.heap.size w w3 := hw2.trans (hb3.mono hw2.size)
          clear s0 s1 s2 hb3
          go_wp2_with fail
          refine (rStates_same [] none none 0 0 0 _ ⟨rfl, fun h => absurd h (by omega)⟩ ⟨rfl, fun h => absurd h (by omega)⟩ (by omega)).mono ?_
          rintro e w4 ⟨rfl, hb4⟩
          have hw4 : Below w.heap.size w w4 := hw3.trans (hb4.mono hw3.size)
          clear hb4
          go_wp2_with fail
          refine (Awake_any _).mono ?_
          rintro e w5 ⟨rfl, hb5⟩
          go_wp2
          go_ret
          exact ⟨rfl, hw4.trans (hb5.mono hw4.size)⟩
theorem GateSteps_row (g : Ga) (s : Gs) (A : Option Addr) (n c : Nat) (ts : List Gt) (w : World) (hg : g.At w w.heap.size) (ht : Tab w w.heap.size A n 4 (ts.map Gt.cells)) (hn : n ≤ maxLen) (hc : n ≤ c) :
    Calls Tryz.prog 5 #[g.v, s.v, .slice A n c] w fun e w' => e = .returned (.bool true) ∧ Below w.heap.size w w' := GateSteps_any g s ts A n c w hg ht hn
end Go.Proofs.YtgdomaddjiggaaaGreat
