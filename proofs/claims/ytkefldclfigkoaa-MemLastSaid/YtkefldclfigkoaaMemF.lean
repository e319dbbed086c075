/-
  MemLast holds for every input: the call returns true and the arguments read afterwards as before. Conditions: none but what the row itself prints.
-/
import Derived.Test.YtkefldclfigkoaaMemB
import Derived.Test.YtkefldclfigkoaaMemC
import Derived.Test.YtkefldclfigkoaaMemD
import Derived.Test.YtkefldclfigkoaaMemE
import Derived.Test.YtkefldclfigkoaaRows
import Derived.WalkKit
import Derived.ProofKit
import Derived.OpenShut
namespace Go.Proofs.Ytkefldclfigkoaa.memLast
open Go.Rn Go.ChangeShapes Go.WideShapes Go.ChangeAt Go.RowKit

theorem own : ownKnob Try.prog.godebug = none := by kernel_rfl

section
variable {H : Type} {enc : TypeId × Value → H} {P : Program}
/-- The last step where all that is known of the world is that nothing old has turned. -/
theorem post_below {f : Func} {s : ChangeSpec} {apart fresh handsOn again : Bool} {W W' : World} {args : Array Value} {v : Value} {ds gs : List (DataW H)} {before pa pv : List MemPlace}
    (hW : DataW.Whole enc P f.params.toList s.vars apart W args.toList ds gs before)
    (hres : ∀ (b : Nat) (sp : Nat → Bool) (hd : Bool), DataW.TrodAll enc P W' b sp hd f.resultTypes.toList (v.resultList f.resultTypes.size) (s.fn H (ds ++ gs)).results [])
    (hargs : ∀ sp : Nat → Bool, (∀ p ∈ before, sp p.block = true) → DataW.TrodAll enc P W' 0 sp true f.params.toList args.toList (s.fn H (ds ++ gs)).args pa)
    (hvars : ∀ sp : Nat → Bool, (∀ p ∈ before, sp p.block = true) → DataW.TrodVars enc P W' sp s.vars (s.fn H (ds ++ gs)).vars pv)
    (hps : before = pa ++ pv) (hb : Below W.heap.size W W')
    (hok : ∀ (j : Nat) (t : TypeId) (r : Value), f.resultTypes[j]? = some t → (v.resultList f.resultTypes.size)[j]? = some r → Value.okWide P W' .any 0 t r) :
    s.post enc P f apart fresh handsOn again W args v W' := by
  have hlt : ∀ p ∈ before, p.block < W.heap.size := fun p hp => hW.lt p hp
  have hold : ∀ p ∈ before, (fun b => decide (b < W.heap.size)) p.block = true := fun p hp => by simpa using hlt p hp
  refine ⟨ds, gs, before, [], pa, pv, hW, hres _ _ _, hargs _ hold, hvars _ hold, World.keptBut_mono (fun p hp => ⟨hp, ?_⟩) (hb.frame (· ∈ before)), fun _ => ?_⟩
  · rw [hps, List.mem_append] at hp
    exact Or.inr hp
  · obtain ⟨_, _, _, _, _, hz, hn⟩ := hW
    refine ⟨hok, _, _, ([] ++ pa) ++ pv, ⟨[] ++ pa, pv, trodAll_append (hargs _ (fun _ _ => rfl)) (hres _ _ _), hvars _ (fun _ _ => rfl), rfl, ?_, ?_⟩, ?_⟩
    · intro b off hp
      have hin : MemPlace.cell b off ∈ before := by rw [hps]; simpa using hp
      rw [hb.frozen (hlt _ hin)]
      exact hz b off hin
    · intro ha
      have := hn ha
      rw [hps] at this
      simpa using this
    · intro p hp _
      rw [hps]
      simpa using hp
end
theorem all0 : ∀ t, t < 1 → isB (run 0 t) = true
  | 0, _ => c0_0
  | t + 1, h => absurd h (by omega)
theorem all1 : ∀ t, t < 1 → isB (run 1 t) = true
  | 0, _ => c1_0
  | t + 1, h => absurd h (by omega)
theorem all2 : ∀ t, t < 2 → isB (run 2 t) = true
  | 0, _ => c2_0
  | 1, _ => c2_1
  | t + 2, h => absurd h (by omega)
theorem all3 : ∀ t, t < 3 → isB (run 3 t) = true
  | 0, _ => c3_0
  | 1, _ => c3_1
  | 2, _ => c3_2
  | t + 3, h => absurd h (by omega)
theorem all4 : ∀ t, t < 4 → isB (run 4 t) = true
  | 0, _ => c4_0
  | 1, _ => c4_1
  | 2, _ => c4_2
  | 3, _ => c4_3
  | t + 4, h => absurd h (by omega)
theorem all5 : ∀ t, t < 5 → isB (run 5 t) = true
  | 0, _ => c5_0
  | 1, _ => c5_1
  | 2, _ => c5_2
  | 3, _ => c5_3
  | 4, _ => c5_4
  | t + 5, h => absurd h (by omega)
theorem all6 : ∀ t, t < 6 → isB (run 6 t) = true
  | 0, _ => c6_0
  | 1, _ => c6_1
  | 2, _ => c6_2
  | 3, _ => c6_3
  | 4, _ => c6_4
  | 5, _ => c6_5
  | t + 6, h => absurd h (by omega)
theorem all7 : ∀ t, t < 7 → isB (run 7 t) = true
  | 0, _ => c7_0
  | 1, _ => c7_1
  | 2, _ => c7_2
  | 3, _ => c7_3
  | 4, _ => c7_4
  | 5, _ => c7_5
  | 6, _ => c7_6
  | t + 7, h => absurd h (by omega)
theorem all8 : ∀ t, t < 8 → isB (run 8 t) = true
  | 0, _ => c8_0
  | 1, _ => c8_1
  | 2, _ => c8_2
  | 3, _ => c8_3
  | 4, _ => c8_4
  | 5, _ => c8_5
  | 6, _ => c8_6
  | 7, _ => c8_7
  | t + 8, h => absurd h (by omega)
theorem all9 : ∀ t, t < 9 → isB (run 9 t) = true
  | 0, _ => c9_0
  | 1, _ => c9_1
  | 2, _ => c9_2
  | 3, _ => c9_3
  | 4, _ => c9_4
  | 5, _ => c9_5
  | 6, _ => c9_6
  | 7, _ => c9_7
  | 8, _ => c9_8
  | t + 9, h => absurd h (by omega)
theorem all10 : ∀ t, t < 10 → isB (run 10 t) = true
  | 0, _ => c10_0
  | 1, _ => c10_1
  | 2, _ => c10_2
  | 3, _ => c10_3
  | 4, _ => c10_4
  | 5, _ => c10_5
  | 6, _ => c10_6
  | 7, _ => c10_7
  | 8, _ => c10_8
  | 9, _ => c10_9
  | t + 10, h => absurd h (by omega)
theorem all11 : ∀ t, t < 11 → isB (run 11 t) = true
  | 0, _ => c11_0
  | 1, _ => c11_1
  | 2, _ => c11_2
  | 3, _ => c11_3
  | 4, _ => c11_4
  | 5, _ => c11_5
  | 6, _ => c11_6
  | 7, _ => c11_7
  | 8, _ => c11_8
  | 9, _ => c11_9
  | 10, _ => c11_10
  | t + 11, h => absurd h (by omega)
theorem all12 : ∀ t, t < 12 → isB (run 12 t) = true
  | 0, _ => c12_0
  | 1, _ => c12_1
  | 2, _ => c12_2
  | 3, _ => c12_3
  | 4, _ => c12_4
  | 5, _ => c12_5
  | 6, _ => c12_6
  | 7, _ => c12_7
  | 8, _ => c12_8
  | 9, _ => c12_9
  | 10, _ => c12_10
  | 11, _ => c12_11
  | t + 12, h => absurd h (by omega)
theorem all13 : ∀ t, t < 13 → isB (run 13 t) = true
  | 0, _ => c13_0
  | 1, _ => c13_1
  | 2, _ => c13_2
  | 3, _ => c13_3
  | 4, _ => c13_4
  | 5, _ => c13_5
  | 6, _ => c13_6
  | 7, _ => c13_7
  | 8, _ => c13_8
  | 9, _ => c13_9
  | 10, _ => c13_10
  | 11, _ => c13_11
  | 12, _ => c13_12
  | t + 13, h => absurd h (by omega)
theorem all14 : ∀ t, t < 14 → isB (run 14 t) = true
  | 0, _ => c14_0
  | 1, _ => c14_1
  | 2, _ => c14_2
  | 3, _ => c14_3
  | 4, _ => c14_4
  | 5, _ => c14_5
  | 6, _ => c14_6
  | 7, _ => c14_7
  | 8, _ => c14_8
  | 9, _ => c14_9
  | 10, _ => c14_10
  | 11, _ => c14_11
  | 12, _ => c14_12
  | 13, _ => c14_13
  | t + 14, h => absurd h (by omega)
theorem all15 : ∀ t, t < 15 → isB (run 15 t) = true
  | 0, _ => c15_0
  | 1, _ => c15_1
  | 2, _ => c15_2
  | 3, _ => c15_3
  | 4, _ => c15_4
  | 5, _ => c15_5
  | 6, _ => c15_6
  | 7, _ => c15_7
  | 8, _ => c15_8
  | 9, _ => c15_9
  | 10, _ => c15_10
  | 11, _ => c15_11
  | 12, _ => c15_12
  | 13, _ => c15_13
  | 14, _ => c15_14
  | t + 15, h => absurd h (by omega)
theorem all16 : ∀ t, t < 16 → isB (run 16 t) = true
  | 0, _ => c16_0
  | 1, _ => c16_1
  | 2, _ => c16_2
  | 3, _ => c16_3
  | 4, _ => c16_4
  | 5, _ => c16_5
  | 6, _ => c16_6
  | 7, _ => c16_7
  | 8, _ => c16_8
  | 9, _ => c16_9
  | 10, _ => c16_10
  | 11, _ => c16_11
  | 12, _ => c16_12
  | 13, _ => c16_13
  | 14, _ => c16_14
  | 15, _ => c16_15
  | t + 16, h => absurd h (by omega)
theorem all17 : ∀ t, t < 17 → isB (run 17 t) = true
  | 0, _ => c17_0
  | 1, _ => c17_1
  | 2, _ => c17_2
  | 3, _ => c17_3
  | 4, _ => c17_4
  | 5, _ => c17_5
  | 6, _ => c17_6
  | 7, _ => c17_7
  | 8, _ => c17_8
  | 9, _ => c17_9
  | 10, _ => c17_10
  | 11, _ => c17_11
  | 12, _ => c17_12
  | 13, _ => c17_13
  | 14, _ => c17_14
  | 15, _ => c17_15
  | 16, _ => c17_16
  | t + 17, h => absurd h (by omega)
theorem all18 : ∀ t, t < 18 → isB (run 18 t) = true
  | 0, _ => c18_0
  | 1, _ => c18_1
  | 2, _ => c18_2
  | 3, _ => c18_3
  | 4, _ => c18_4
  | 5, _ => c18_5
  | 6, _ => c18_6
  | 7, _ => c18_7
  | 8, _ => c18_8
  | 9, _ => c18_9
  | 10, _ => c18_10
  | 11, _ => c18_11
  | 12, _ => c18_12
  | 13, _ => c18_13
  | 14, _ => c18_14
  | 15, _ => c18_15
  | 16, _ => c18_16
  | 17, _ => c18_17
  | t + 18, h => absurd h (by omega)
theorem all19 : ∀ t, t < 19 → isB (run 19 t) = true
  | 0, _ => c19_0
  | 1, _ => c19_1
  | 2, _ => c19_2
  | 3, _ => c19_3
  | 4, _ => c19_4
  | 5, _ => c19_5
  | 6, _ => c19_6
  | 7, _ => c19_7
  | 8, _ => c19_8
  | 9, _ => c19_9
  | 10, _ => c19_10
  | 11, _ => c19_11
  | 12, _ => c19_12
  | 13, _ => c19_13
  | 14, _ => c19_14
  | 15, _ => c19_15
  | 16, _ => c19_16
  | 17, _ => c19_17
  | 18, _ => c19_18
  | t + 19, h => absurd h (by omega)
theorem alls : ∀ k, k < 20 → ∀ t, t < max 1 k → isB (run k t) = true
  | 0, _, t, h => all0 t h
  | 1, _, t, h => all1 t h
  | 2, _, t, h => all2 t h
  | 3, _, t, h => all3 t h
  | 4, _, t, h => all4 t h
  | 5, _, t, h => all5 t h
  | 6, _, t, h => all6 t h
  | 7, _, t, h => all7 t h
  | 8, _, t, h => all8 t h
  | 9, _, t, h => all9 t h
  | 10, _, t, h => all10 t h
  | 11, _, t, h => all11 t h
  | 12, _, t, h => all12 t h
  | 13, _, t, h => all13 t h
  | 14, _, t, h => all14 t h
  | 15, _, t, h => all15 t h
  | 16, _, t, h => all16 t h
  | 17, _, t, h => all17 t h
  | 18, _, t, h => all18 t h
  | 19, _, t, h => all19 t h
  | k + 20, h, _, _ => absurd h (by omega)
theorem walk (a0 : Int) (a1 : Int) (w : World) :
    Calls Try.prog 4 #[.int .i64 a0, .int .i64 a1] w fun e w' => e = .returned (.bool true) ∧ Below w.heap.size w w' := by
  have hk : (a0 % 20).toNat < 20 := by omega
  have hk2 : ((a0 % 20).toNat : Int) = a0 % 20 := by omega
  generalize (a0 % 20).toNat = k at hk hk2
  have ht : ∃ t : Nat, t < max 1 k ∧ (0 < k → a1 % (k : Int) = t) := by
    rcases Nat.eq_zero_or_pos k with h | h
    · exact ⟨0, by omega, fun h2 => by omega⟩
    · have h1 := Int.emod_nonneg a1 (show (k : Int) ≠ 0 by omega)
      have h2 := Int.emod_lt_of_pos a1 (show (0 : Int) < k by omega)
      exact ⟨(a1 % (k : Int)).toNat, by omega, fun _ => by omega⟩
  obtain ⟨t, ht1, ht2⟩ := ht
  have ho : OrcOk Try.prog (fun x => if x = 0 then a0 else a1) (orc k t) := or_ok (place_ok known5 (fun n k w h1 h2 => place_any n k w h1 h2) (fun e he h0 => by
    simp only [tab, List.mem_cons, List.not_mem_nil, or_false] at he
    rcases he with rfl | rfl
    · exact ⟨by show 20 ≤ 1000000; omega, by simpa using hk2.symm⟩
    · exact ⟨by show k ≤ 1000000; omega, by simpa using ht2 h0⟩)) (const_ok known9 awake_ok)
  have := law_true ho (n := 100) (by rw [globs]; omega) (alls k hk t ht1) (vs := [.int .i64 a0, .int .i64 a1]) (fun m => denC_cons.2 ⟨_, _, rfl, rfl, denC_cons.2 ⟨_, _, rfl, rfl, denC_nil.2 rfl⟩⟩) w
  exact this.mono fun e w' h => ⟨h.1, h.2.below⟩

/-! ### THE ROW's STEP: WRITTEN OUT: LEAVE IT -/
set_option maxRecDepth 100000 in
theorem lifted (os : Os) (started : os.Started) (H : Type) (enc : TypeId × Value → H) :
    ReturnsInHanded {} Try.checked os 4 .any (Rows.memLastSpec.pre6 enc Try.prog Try.f4 Rows.memLastRow.domain false) (Rows.memLastSpec.post enc Try.prog Try.f4 false true false false) := by
  refine returnsInHanded_of_change (C := Try.checked) own started (by kernel_rfl) Try.func4
    (ChangeSpec.witness6 (enc := enc) (C := Try.checked) false ⟨#[], #[.int .i64 0, .int .i64 0], []⟩ 8 (by kernel_rfl) (by kernel_rfl) (by kernel_rfl) (by kernel_rfl)) ?_
  intro W base args ds gs before hval0 hW hcnd _
  have hval : ∀ (j : Nat) t v, Try.f4.params[j]? = some t → args[j]? = some v → Value.okWide Try.prog W .any base t v := hval0
  have hW' := hW
  obtain ⟨p, q, hA0, hV, rfl, hfz, hnd⟩ := hW
  have hA : DataW.TrodAll enc Try.prog W 0 (fun _ => true) true Try.f4.params.toList args.toList ds p := hA0
  rw [Try.params4] at hA hval
  obtain ⟨v0, vs0, d0, ds0, p0, q0, hargs, rfl, rfl, h0, r0⟩ := trodAll_cons hA
  obtain ⟨v1, vs1, d1, ds1, p1, q1, rfl, rfl, rfl, h1, r1⟩ := trodAll_cons r0
  obtain ⟨rfl, rfl, rfl⟩ := trodAll_nil r1
  obtain rfl : args = #[v0, v1] := by cases args; simp_all
  obtain ⟨rfl, rfl⟩ := trodVars_none hV
  obtain ⟨a0, rfl, rfl, rfl, w0⟩ := open_int Try.underlying3 (hval 0 3 v0 rfl rfl) h0
  obtain ⟨a1, rfl, rfl, rfl, w1⟩ := open_int Try.underlying3 (hval 1 3 v1 rfl rfl) h1
  clear hA0 hval0
  simp only [List.append_nil] at hW'
  refine (walk a0 a1 W).mono fun e W' ⟨he, hg⟩ => ?_
  subst he
  exact ⟨_, rfl, post_below (pv := []) hW' (fun _ _ _ => (trodAll_cons_mk (shut_bool Try.underlying4 _) trodAll_mk0)) (fun sp _ => (trodAll_cons_mk (shut_int Try.underlying3 w0) (trodAll_cons_mk (shut_int Try.underlying3 w1) trodAll_mk0))) (fun _ _ => rfl) rfl
    hg (ok_one (by kernel_rfl) rfl (okWide_bool_mk Try.underlying4 _))⟩

theorem over : Rows.memLastRow.holds Try.pinned (OpenSpec.ofChange Rows.memLastSpec) :=
  OpenClaim.holds_of_wide 4 Try.f4 rfl rfl rfl rfl rfl rfl rfl ⟨rfl, rfl, rfl, rfl, rfl⟩ rfl rfl rfl rfl rfl (by kernel_rfl) Try.func4 (by kernel_rfl)
    (of_decide_eq_true (by kernel_rfl)) (by unfold Func.isWrapper; first | (rw [if_pos (by decide +kernel)]; kernel_rfl) | (rw [if_neg (by decide +kernel)]; exact ⟨rfl, rfl⟩))
    (fun os started H enc _ => lifted os started H enc)

/-- ████ THE STATEMENT ████ -/
theorem proved : Rows.MemLastSaid :=
  over
end Go.Proofs.Ytkefldclfigkoaa.memLast
