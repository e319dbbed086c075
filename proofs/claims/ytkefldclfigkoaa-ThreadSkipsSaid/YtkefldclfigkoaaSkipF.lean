/-
  ThreadSkips holds for every input: the call returns true and the arguments read afterwards as before. Conditions: none but what the row itself prints.
-/
import Derived.Test.YtkefldclfigkoaaSkipB
import Derived.Test.YtkefldclfigkoaaSkipC
import Derived.Test.YtkefldclfigkoaaSkipD
import Derived.Test.YtkefldclfigkoaaSkipE
import Derived.Test.YtkefldclfigkoaaRows
import Derived.WalkKit
import Derived.ProofKit
import Derived.OpenShut
namespace Go.Proofs.Ytkefldclfigkoaa.threadSkips
open Go.Rn Go.ChangeShapes Go.WideShapes Go.ChangeAt Go.RowKit

theorem own : ownKnob Try.prog.godebug = none := by kernel_rfl

section
variable {H : Type} {enc : TypeId × Value → H} {P : Program}
/-- The last step where all that is known of the world is that nothing old has turned. -/
theorem post_below {f : Func} {s : ChangeSpec} {apart fresh handsOn again : Bool} {W W' : World} {args : Array Value} {v : Value} {ds gs : List (DataW H)} {before pa pv : List MemPlace}
    (hW : DataW.Whole enc P f.params.toList s.vars apart W args.toList ds gs before)
    (hres : ∀ (b : Nat) (sp : Nat → Bool) (hd : Bool), DataW.TrodAll enc P W' b sp hd f.resultTypes.toList (v.resultList f.resultTypes.size) (s.fn H (ds ++ gs)).results [])
    (hargs : ∀ sp : Nat → Bool, (∀ p ∈ before, sp p.block = true) → DataW.TrodAll enc P W' 0 sp true f.params.toList args.toList (s.fn H (ds ++ gs)).args pa)
    (hvars : ∀ sp : Nat → Bool, (∀ p ∈ before, sp p.block = true) → DataW.TrodVars enc P W' sp s.vars (s.fn H (ds ++ gs)).vars pv)
    (hps : before = pa ++ pv) (hb : Below W.heap.size W W')
    (hok : ∀ (j : Nat) (t : TypeId) (r : Value), f.resultTypes[j]? = some t → (v.resultList f.resultTypes.size)[j]? = some r → Value.okWide P W' .any 0 t r) :
    s.post enc P f apart fresh handsOn again W args v W' := by
  have hlt : ∀ p ∈ before, p.block < W.heap.size := fun p hp => hW.lt p hp
  have hold : ∀ p ∈ before, (fun b => decide (b < W.heap.size)) p.block = true := fun p hp => by simpa using hlt p hp
  refine ⟨ds, gs, before, [], pa, pv, hW, hres _ _ _, hargs _ hold, hvars _ hold, World.keptBut_mono (fun p hp => ⟨hp, ?_⟩) (hb.frame (· ∈ before)), fun _ => ?_⟩
  · rw [hps, List.mem_append] at hp
    exact Or.inr hp
  · obtain ⟨_, _, _, _, _, hz, hn⟩ := hW
    refine ⟨hok, _, _, ([] ++ pa) ++ pv, ⟨[] ++ pa, pv, trodAll_append (hargs _ (fun _ _ => rfl)) (hres _ _ _), hvars _ (fun _ _ => rfl), rfl, ?_, ?_⟩, ?_⟩
    · intro b off hp
      have hin : MemPlace.cell b off ∈ before := by rw [hps]; simpa using hp
      rw [hb.frozen (hlt _ hin)]
      exact hz b off hin
    · intro ha
      have := hn ha
      rw [hps] at this
      simpa using this
    · intro p hp _
      rw [hps]
      simpa using hp
end
theorem all0 : ∀ t, t < 1 → ∀ b2 : Bool, isB (run 0 t b2) = true
  | 0, _, true => c0_0_t
  | 0, _, false => c0_0_f
  | t + 1, h, _ => absurd h (by omega)
theorem all1 : ∀ t, t < 2 → ∀ b2 : Bool, isB (run 1 t b2) = true
  | 0, _, true => c1_0_t
  | 0, _, false => c1_0_f
  | 1, _, true => c1_1_t
  | 1, _, false => c1_1_f
  | t + 2, h, _ => absurd h (by omega)
theorem all2 : ∀ t, t < 3 → ∀ b2 : Bool, isB (run 2 t b2) = true
  | 0, _, true => c2_0_t
  | 0, _, false => c2_0_f
  | 1, _, true => c2_1_t
  | 1, _, false => c2_1_f
  | 2, _, true => c2_2_t
  | 2, _, false => c2_2_f
  | t + 3, h, _ => absurd h (by omega)
theorem all3 : ∀ t, t < 4 → ∀ b2 : Bool, isB (run 3 t b2) = true
  | 0, _, true => c3_0_t
  | 0, _, false => c3_0_f
  | 1, _, true => c3_1_t
  | 1, _, false => c3_1_f
  | 2, _, true => c3_2_t
  | 2, _, false => c3_2_f
  | 3, _, true => c3_3_t
  | 3, _, false => c3_3_f
  | t + 4, h, _ => absurd h (by omega)
theorem all4 : ∀ t, t < 5 → ∀ b2 : Bool, isB (run 4 t b2) = true
  | 0, _, true => c4_0_t
  | 0, _, false => c4_0_f
  | 1, _, true => c4_1_t
  | 1, _, false => c4_1_f
  | 2, _, true => c4_2_t
  | 2, _, false => c4_2_f
  | 3, _, true => c4_3_t
  | 3, _, false => c4_3_f
  | 4, _, true => c4_4_t
  | 4, _, false => c4_4_f
  | t + 5, h, _ => absurd h (by omega)
theorem all5 : ∀ t, t < 6 → ∀ b2 : Bool, isB (run 5 t b2) = true
  | 0, _, true => c5_0_t
  | 0, _, false => c5_0_f
  | 1, _, true => c5_1_t
  | 1, _, false => c5_1_f
  | 2, _, true => c5_2_t
  | 2, _, false => c5_2_f
  | 3, _, true => c5_3_t
  | 3, _, false => c5_3_f
  | 4, _, true => c5_4_t
  | 4, _, false => c5_4_f
  | 5, _, true => c5_5_t
  | 5, _, false => c5_5_f
  | t + 6, h, _ => absurd h (by omega)
theorem all6 : ∀ t, t < 7 → ∀ b2 : Bool, isB (run 6 t b2) = true
  | 0, _, true => c6_0_t
  | 0, _, false => c6_0_f
  | 1, _, true => c6_1_t
  | 1, _, false => c6_1_f
  | 2, _, true => c6_2_t
  | 2, _, false => c6_2_f
  | 3, _, true => c6_3_t
  | 3, _, false => c6_3_f
  | 4, _, true => c6_4_t
  | 4, _, false => c6_4_f
  | 5, _, true => c6_5_t
  | 5, _, false => c6_5_f
  | 6, _, true => c6_6_t
  | 6, _, false => c6_6_f
  | t + 7, h, _ => absurd h (by omega)
theorem all7 : ∀ t, t < 8 → ∀ b2 : Bool, isB (run 7 t b2) = true
  | 0, _, true => c7_0_t
  | 0, _, false => c7_0_f
  | 1, _, true => c7_1_t
  | 1, _, false => c7_1_f
  | 2, _, true => c7_2_t
  | 2, _, false => c7_2_f
  | 3, _, true => c7_3_t
  | 3, _, false => c7_3_f
  | 4, _, true => c7_4_t
  | 4, _, false => c7_4_f
  | 5, _, true => c7_5_t
  | 5, _, false => c7_5_f
  | 6, _, true => c7_6_t
  | 6, _, false => c7_6_f
  | 7, _, true => c7_7_t
  | 7, _, false => c7_7_f
  | t + 8, h, _ => absurd h (by omega)
theorem all8 : ∀ t, t < 9 → ∀ b2 : Bool, isB (run 8 t b2) = true
  | 0, _, true => c8_0_t
  | 0, _, false => c8_0_f
  | 1, _, true => c8_1_t
  | 1, _, false => c8_1_f
  | 2, _, true => c8_2_t
  | 2, _, false => c8_2_f
  | 3, _, true => c8_3_t
  | 3, _, false => c8_3_f
  | 4, _, true => c8_4_t
  | 4, _, false => c8_4_f
  | 5, _, true => c8_5_t
  | 5, _, false => c8_5_f
  | 6, _, true => c8_6_t
  | 6, _, false => c8_6_f
  | 7, _, true => c8_7_t
  | 7, _, false => c8_7_f
  | 8, _, true => c8_8_t
  | 8, _, false => c8_8_f
  | t + 9, h, _ => absurd h (by omega)
theorem all9 : ∀ t, t < 10 → ∀ b2 : Bool, isB (run 9 t b2) = true
  | 0, _, true => c9_0_t
  | 0, _, false => c9_0_f
  | 1, _, true => c9_1_t
  | 1, _, false => c9_1_f
  | 2, _, true => c9_2_t
  | 2, _, false => c9_2_f
  | 3, _, true => c9_3_t
  | 3, _, false => c9_3_f
  | 4, _, true => c9_4_t
  | 4, _, false => c9_4_f
  | 5, _, true => c9_5_t
  | 5, _, false => c9_5_f
  | 6, _, true => c9_6_t
  | 6, _, false => c9_6_f
  | 7, _, true => c9_7_t
  | 7, _, false => c9_7_f
  | 8, _, true => c9_8_t
  | 8, _, false => c9_8_f
  | 9, _, true => c9_9_t
  | 9, _, false => c9_9_f
  | t + 10, h, _ => absurd h (by omega)
theorem all10 : ∀ t, t < 11 → ∀ b2 : Bool, isB (run 10 t b2) = true
  | 0, _, true => c10_0_t
  | 0, _, false => c10_0_f
  | 1, _, true => c10_1_t
  | 1, _, false => c10_1_f
  | 2, _, true => c10_2_t
  | 2, _, false => c10_2_f
  | 3, _, true => c10_3_t
  | 3, _, false => c10_3_f
  | 4, _, true => c10_4_t
  | 4, _, false => c10_4_f
  | 5, _, true => c10_5_t
  | 5, _, false => c10_5_f
  | 6, _, true => c10_6_t
  | 6, _, false => c10_6_f
  | 7, _, true => c10_7_t
  | 7, _, false => c10_7_f
  | 8, _, true => c10_8_t
  | 8, _, false => c10_8_f
  | 9, _, true => c10_9_t
  | 9, _, false => c10_9_f
  | 10, _, true => c10_10_t
  | 10, _, false => c10_10_f
  | t + 11, h, _ => absurd h (by omega)
theorem alls : ∀ k, k < 11 → ∀ t, t < max 1 (k + 1) → ∀ b2 : Bool, isB (run k t b2) = true
  | 0, _, t, h, b2 => all0 t h b2
  | 1, _, t, h, b2 => all1 t h b2
  | 2, _, t, h, b2 => all2 t h b2
  | 3, _, t, h, b2 => all3 t h b2
  | 4, _, t, h, b2 => all4 t h b2
  | 5, _, t, h, b2 => all5 t h b2
  | 6, _, t, h, b2 => all6 t h b2
  | 7, _, t, h, b2 => all7 t h b2
  | 8, _, t, h, b2 => all8 t h b2
  | 9, _, t, h, b2 => all9 t h b2
  | 10, _, t, h, b2 => all10 t h b2
  | k + 11, h, _, _, _ => absurd h (by omega)
theorem walk (a0 : Int) (a1 : Int) (b2 : Bool) (w : World) :
    Calls Try.prog 3 #[.int .i64 a0, .int .i64 a1, .bool b2] w fun e w' => e = .returned (.bool true) ∧ Below w.heap.size w w' := by
  have hk : (a1 % 11).toNat < 11 := by omega
  have hk2 : ((a1 % 11).toNat : Int) = a1 % 11 := by omega
  generalize (a1 % 11).toNat = k at hk hk2
  have ht : ∃ t : Nat, t < max 1 (k + 1) ∧ (0 < k + 1 → a0 % ((k + 1 : Nat) : Int) = t) := by
    rcases Nat.eq_zero_or_pos (k + 1) with h | h
    · exact ⟨0, by omega, fun h2 => by omega⟩
    · have h1 := Int.emod_nonneg a0 (show ((k + 1 : Nat) : Int) ≠ 0 by omega)
      have h2 := Int.emod_lt_of_pos a0 (show (0 : Int) < ((k + 1 : Nat) : Int) by omega)
      exact ⟨(a0 % ((k + 1 : Nat) : Int)).toNat, by omega, fun _ => by omega⟩
  obtain ⟨t, ht1, ht2⟩ := ht
  have ho : OrcOk Try.prog (fun x => if x = 0 then a0 else a1) (orc k t) := or_ok (place_ok knownP (fun n k w h1 h2 => place_any n k w h1 h2) (fun e he h0 => by
    simp only [tab, List.mem_cons, List.not_mem_nil, or_false] at he
    rcases he with rfl | rfl
    · exact ⟨by show 11 ≤ 1000000; omega, by simpa using hk2.symm⟩
    · exact ⟨by show k + 1 ≤ 1000000; omega, by simpa using ht2 h0⟩)) (const_ok knownA awake_ok)
  have := law_true ho (n := 100) globs (alls k hk t ht1 b2) (vs := [.int .i64 a0, .int .i64 a1, .bool b2]) (fun m => denC_cons.2 ⟨_, _, rfl, rfl, denC_cons.2 ⟨_, _, rfl, rfl, denC_cons.2 ⟨_, _, rfl, rfl, denC_nil.2 rfl⟩⟩⟩) w
  exact this.mono fun e w' h => ⟨h.1, h.2.below⟩

/-! ### THE ROW's STEP: WRITTEN OUT: LEAVE IT -/
set_option maxRecDepth 100000 in
theorem lifted (os : Os) (started : os.Started) (H : Type) (enc : TypeId × Value → H) :
    ReturnsInHanded {} Try.checked os 3 .any (Rows.threadSkipsSpec.pre6 enc Try.prog Try.f3 Rows.threadSkipsRow.domain false) (Rows.threadSkipsSpec.post enc Try.prog Try.f3 false true false false) := by
  refine returnsInHanded_of_change (C := Try.checked) own started (by kernel_rfl) Try.func3
    (ChangeSpec.witness6 (enc := enc) (C := Try.checked) false ⟨#[], #[.int .i64 0, .int .i64 0, .bool false], []⟩ 8 (by kernel_rfl) (by kernel_rfl) (by kernel_rfl) (by kernel_rfl)) ?_
  intro W base args ds gs before hval0 hW hcnd _
  have hval : ∀ (j : Nat) t v, Try.f3.params[j]? = some t → args[j]? = some v → Value.okWide Try.prog W .any base t v := hval0
  have hW' := hW
  obtain ⟨p, q, hA0, hV, rfl, hfz, hnd⟩ := hW
  have hA : DataW.TrodAll enc Try.prog W 0 (fun _ => true) true Try.f3.params.toList args.toList ds p := hA0
  rw [Try.params3] at hA hval
  obtain ⟨v0, vs0, d0, ds0, p0, q0, hargs, rfl, rfl, h0, r0⟩ := trodAll_cons hA
  obtain ⟨v1, vs1, d1, ds1, p1, q1, rfl, rfl, rfl, h1, r1⟩ := trodAll_cons r0
  obtain ⟨v2, vs2, d2, ds2, p2, q2, rfl, rfl, rfl, h2, r2⟩ := trodAll_cons r1
  obtain ⟨rfl, rfl, rfl⟩ := trodAll_nil r2
  obtain rfl : args = #[v0, v1, v2] := by cases args; simp_all
  obtain ⟨rfl, rfl⟩ := trodVars_none hV
  obtain ⟨a0, rfl, rfl, rfl, w0⟩ := open_int Try.underlying3 (hval 0 3 v0 rfl rfl) h0
  obtain ⟨a1, rfl, rfl, rfl, w1⟩ := open_int Try.underlying3 (hval 1 3 v1 rfl rfl) h1
  obtain ⟨a2, rfl, rfl, rfl⟩ := open_bool Try.underlying4 (hval 2 4 v2 rfl rfl) h2
  clear hA0 hval0
  simp only [List.append_nil] at hW'
  refine (walk a0 a1 a2 W).mono fun e W' ⟨he, hg⟩ => ?_
  subst he
  exact ⟨_, rfl, post_below (pv := []) hW' (fun _ _ _ => (trodAll_cons_mk (shut_bool Try.underlying4 _) trodAll_mk0)) (fun sp _ => (trodAll_cons_mk (shut_int Try.underlying3 w0) (trodAll_cons_mk (shut_int Try.underlying3 w1) (trodAll_cons_mk (shut_bool Try.underlying4 _) trodAll_mk0)))) (fun _ _ => rfl) rfl
    hg (ok_one (by kernel_rfl) rfl (okWide_bool_mk Try.underlying4 _))⟩

theorem over : Rows.threadSkipsRow.holds Try.pinned (OpenSpec.ofChange Rows.threadSkipsSpec) :=
  OpenClaim.holds_of_wide 3 Try.f3 rfl rfl rfl rfl rfl rfl rfl ⟨rfl, rfl, rfl, rfl, rfl⟩ rfl rfl rfl rfl rfl (by kernel_rfl) Try.func3 (by kernel_rfl)
    (of_decide_eq_true (by kernel_rfl)) (by unfold Func.isWrapper; first | (rw [if_pos (by decide +kernel)]; kernel_rfl) | (rw [if_neg (by decide +kernel)]; exact ⟨rfl, rfl⟩))
    (fun os started H enc _ => lifted os started H enc)

/-- ████ THE STATEMENT ████ -/
theorem proved : Rows.ThreadSkipsSaid :=
  over
end Go.Proofs.Ytkefldclfigkoaa.threadSkips
