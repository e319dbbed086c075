/-
  The law MemSets over what its parts do: it returns true whatever the lists. Conditions: the lists in memory, slices.SortFunc's contract, awake() true.
-/
import Derived.Test.YthahhibenejgfaaMemL3
import Derived.Deep.RegionHeld3
import Derived.Deep.DrawnRows
namespace Go.Proofs.Ythahhibenejgfaa
open Go.RowKit Mem
attribute [local go_sem ↓] Go.wp_at_zero Go.wp_at_succ
set_option maxRecDepth 100000 in
set_option maxHeartbeats 6400000 in
theorem sets_l (HS : SortC) (HN : SortN) (haw : ∀ w, Calls Try.prog 7 #[] w fun e w' => e = .returned (.bool true) ∧ Below w.heap.size w w') (a : Option Addr) (C : List Ls) (c : Nat) (turn : Int) (w : World) (hin : LsIn w a C) (hcl : C.length ≤ maxLen) (hll : ∀ q, q < C.length → (C.getD q Ls.zero).L.length ≤ maxLen) (hc0 : a = none → C = [] ∧ c = 0) (hcap : C.length ≤ c) :
    Calls Try.prog 5 #[.slice a C.length c, .int .i64 turn] w fun e w' => e = .returned (.bool true) ∧ Below w.heap.size w w' := by
  have HAW := Lib.hid haw
  have HFE := Lib.hid (few_l a C c w hin hcl hll)
  have HIN := Lib.hid hin
  have HC0 := Lib.hid hc0
  clear haw hin hll hc0
  obtain ⟨i0, hi, hz0, hz1, hz2⟩ := info_parts info23
  go_enter Try.func5, Try.ntmps5
  go_wp2_with fail
  refine HFE.out.mono ?_
  rintro e w0 ⟨x, rfl, hx, rfl⟩
  cases x with
  | false =>
    go_wp2_with fail
    refine (HAW.out _).mono ?_
    rintro e w' ⟨rfl, hb⟩
    go_wp2_with fail
    go_ret
    exact ⟨rfl, hb⟩
  | true =>
    have hfw := hx rfl
    have HLV := Lib.hid (lv_of HIN.out hfw HC0.out)
    have HFW := Lib.hid hfw
    have hC60 : C.length ≤ 60 := hfw.1
    clear hx hfw
    by_cases hz : C.length = 0
    · have e0 : ((C.length : Int) == 0) = true := by simp [hz]
      go_wp2_with fail
      refine (HAW.out _).mono ?_
      rintro e w' ⟨rfl, hb⟩
      go_wp2_with fail
      go_ret
      exact ⟨rfl, hb⟩
    · have e0 : ((C.length : Int) == 0) = false := by rw [beq_eq_false_iff_ne]; omega
      have HPL := Lib.hid (place_l turn C.length w (by omega) (by omega))
      obtain ⟨k, hk⟩ : ∃ k, k = (turn % (C.length : Int)).toNat := ⟨_, rfl⟩
      have hk1 : turn % (C.length : Int) = (k : Int) := by have hq := Int.emod_nonneg turn (show (C.length : Int) ≠ 0 by omega); omega
      have hk2 : k < C.length := by have := Int.emod_lt_of_pos turn (show (0 : Int) < (C.length : Int) by omega); omega
      rw [hk1] at HPL
      clear hk hk1
      obtain ⟨len, hlen⟩ : ∃ n, n = C.length := ⟨_, rfl⟩
      rcases HIN.out with h0 | ⟨b, o, rfl, hbl, hcc⟩
      · rw [h0] at hz; simp at hz
      have HCC := Lib.hid hcc
      clear hcc
      have j1 : (0 : Int) ≤ (k : Int) := by omega
      have j2 : (k : Int) ≤ (C.length : Int) := by omega
      have j3 : (C.length : Int) ≤ (c : Int) := by omega
      have j5 : ¬ c = k := by omega
      have j4 : (k : Int) ≤ (c : Int) := by omega
      have HV0 := Lib.hid (fun W (hb : Below w.heap.size w W) => ls_news (w := W) (b := b) (o := o + k) (C := C.drop k) (fun q hq => by
        rw [getD_drop, Nat.add_assoc]
        rw [List.length_drop] at hq
        exact cell_next (HCC.out (k + q) (by omega)).1 hb))
      have HV1 := Lib.hid (fun W (hb : Below w.heap.size w W) => ls_news (w := W) (b := b) (o := o) (C := C) (fun q hq => cell_next (HCC.out q hq).1 hb))
      have HV2 := Lib.hid (fun W (hb : Below w.heap.size w W) => ls_news (w := W) (b := b) (o := o) (C := C.take k) (fun q hq => by
        rw [List.length_take] at hq
        rw [getD_take C k q (by omega)]
        exact cell_next (HCC.out q (by omega)).1 hb))
      have HB0 : Hid (Below w.heap.size w w.drew) := Lib.hid (Below.refl _ _).drew
      have HO0 : Hid (w.drew.ownsRow w.heap.size 23 1 (.slice none 0 0) 0 []) := Lib.hid ⟨rfl, .inl ⟨rfl, rfl⟩⟩
      go_wp2_with fail
      refine HPL.out.mono ?_
      rintro e w1 ⟨rfl, rfl⟩
      go_wp2_with fail
      go_region_law (first | (refine step_append_own (by rfl) _ _ _ (by rfl) w.heap.size 23 i0 _ 1 24 Try.underlying22 hi hz0 hz1 hz2 rfl (by omega) _ (0 + (C.length - k) + C.length) ([] ++ lvs (C.drop k) ++ lvs C) (by rfl) HO2.out ⟨b, o, none⟩ (k) (c) (lvs (C.take k)) (by rfl) (by simp [lvs_len]; omega) (HV2.out _ HB2.out) (lvs_one _) (by unfold maxLen; omega) (by omega) HB2.out.size ?_; intro v1 w1 hown1 hgrow1; have HO3 := Lib.hid hown1; have HB3 := Lib.hid (HB2.out.grown hgrow1 HB2.out.size (fun j hj => (HO2.out.lt j hj).1)); clear hown1 hgrow1) | (refine step_append_own (by rfl) _ _ _ (by rfl) w.heap.size 23 i0 _ 1 24 Try.underlying22 hi hz0 hz1 hz2 rfl (by omega) _ (0 + (C.length - k)) ([] ++ lvs (C.drop k)) (by rfl) HO1.out ⟨b, o, none⟩ (C.length) (c) (lvs (C)) (by rfl) (by simp [lvs_len]) (HV1.out _ HB1.out) (lvs_one _) (by unfold maxLen; omega) (by omega) HB1.out.size ?_; intro v1 w1 hown1 hgrow1; have HO2 := Lib.hid hown1; have HB2 := Lib.hid (HB1.out.grown hgrow1 HB1.out.size (fun j hj => (HO1.out.lt j hj).1)); clear hown1 hgrow1) | (refine step_append_own (by rfl) _ _ _ (by rfl) w.heap.size 23 i0 _ 1 24 Try.underlying22 hi hz0 hz1 hz2 rfl (by omega) _ (0) ([]) (by rfl) HO0.out ⟨b, o + k, none⟩ (C.length - k) (c - k) (lvs (C.drop k)) (by rfl) (by simp [lvs_len]) (HV0.out _ HB0.out) (lvs_one _) (by unfold maxLen; omega) (by omega) HB0.out.size ?_; intro v1 w1 hown1 hgrow1; have HO1 := Lib.hid hown1; have HB1 := Lib.hid (HB0.out.grown hgrow1 HB0.out.size (fun j hj => (HO0.out.lt j hj).1)); clear hown1 hgrow1))
      obtain ⟨M, hM⟩ : ∃ M, M = C.drop k ++ C ++ C.take k := ⟨_, rfl⟩
      have hMl : 0 + (C.length - k) + C.length + k = M.length := by rw [hM]; simp; omega
      have HMM : Hid (∀ x, x ∈ M ↔ x ∈ C) := Lib.hid (fun x => by
        rw [hM, List.mem_append, List.mem_append]
        constructor
        · rintro ((h | h) | h)
          · exact List.mem_of_mem_drop h
          · exact h
          · exact List.mem_of_mem_take h
        · exact fun h => .inl (.inr h))
      have HO3 := Lib.hid (by
        have := HO3.out
        rw [hMl] at this
        rw [show [] ++ lvs (C.drop k) ++ lvs C ++ lvs (C.take k) = lvs M by rw [hM]; simp [lvs_append]] at this
        exact this : w1.ownsRow w.heap.size 23 1 v1 M.length (lvs M))
      have hM180 : M.length ≤ 180 := by omega
      clear hM hMl HO0 HO1 HO2 HV0 HV2 HB0 HB1 HB2
      obtain ⟨am, cm, rfl, hma, hma0⟩ := own_ls HO3.out rfl (fun x hx => ((ns_mem HIN.out) x ((HMM.out x).1 hx)).next HB3.out)
      have HLM : Hid (Lv w1 am M cm) := Lib.hid ⟨hma, by omega, fun x hx => by have := few_mem HFW.out ((HMM.out x).1 hx); omega, hma0⟩
      have HLV := Lib.hid (HLV.out.next HB3.out)
      clear HO3 hma hma0
      go_wp2_with fail
      refine (sort_v HS HN HLV.out).mono ?_
      rintro e w2 ⟨D1, a1, c1, S1, rfl, l1, s1, p1, o1, b1⟩
      have HL1 := Lib.hid l1
      have HLV := Lib.hid (HLV.out.next b1)
      have HLM := Lib.hid (HLM.out.next b1)
      have HB4 := Lib.hid (below_next HB3.out b1 HB3.out.size)
      have HS1 := Lib.hid (And.intro s1 (And.intro p1 o1))
      clear HB3 l1 s1 p1 o1 b1
      go_wp2_with fail
      refine (sort_v HS HN HLM.out).mono ?_
      rintro e w3 ⟨D2, a2, c2, S2, rfl, l2, s2, p2, o2, b2⟩
      have HL2 := Lib.hid l2
      have HL1 := Lib.hid (HL1.out.next b2)
      have HLV := Lib.hid (HLV.out.next b2)
      have HLM := Lib.hid (HLM.out.next b2)
      have HB5 := Lib.hid (below_next HB4.out b2 HB4.out.size)
      have HMM2 : Hid (∀ L, L ∈ mL C ↔ L ∈ mL M) := Lib.hid (fun L => by
        unfold mL
        rw [List.mem_map, List.mem_map]
        constructor
        · rintro ⟨x, hx, e⟩; exact ⟨x, (HMM.out x).2 hx, e⟩
        · rintro ⟨x, hx, e⟩; exact ⟨x, (HMM.out x).1 hx, e⟩)
      have HDD : Hid (decide (mL D1 = mL D2) = true) := Lib.hid (by
        have := dd_eq HS1.out.1 HS1.out.2.1 HS1.out.2.2 s2 p2 o2 HMM2.out
        simp [this])
      clear HB4 l2 s2 p2 o2 b2 HS1
      go_wp2_with fail
      have hmk : ∀ w, (Instr.makeSlice 23 (.int .i64 21) (.int .i64 21)).run Try.prog w = .ok (.slice (some ⟨w.heap.size, 0, none⟩) 21 21) (w.alloc Z21) := mk21
      have HAB : Hid (decide (∀ L ∈ mL C, L ∈ mL M) = true) := Lib.hid (by rw [decide_eq_true_iff]; exact fun L hL => (HMM2.out L).1 hL)
      have HBA : Hid (decide (∀ L ∈ mL M, L ∈ mL C) = true) := Lib.hid (by rw [decide_eq_true_iff]; exact fun L hL => (HMM2.out L).2 hL)
      have HZN : Hid (∀ g, decide ((z21 g).L ∈ mL C) = false) := Lib.hid (fun g => by rw [decide_eq_false_iff_not]; exact z21_not HFW.out g)
      have HXC := Lib.hid (HCC.out k hk2).1
      have HXN := Lib.hid (HCC.out k hk2).2
      have HXM : Hid (decide ((C.getD k Ls.zero).L ∈ mL C) = true) := Lib.hid (by rw [decide_eq_true_iff]; exact mem_yes hk2 rfl)
      have hx20 := HFW.out.2 k hk2
      have j6 : (k : Int) < (C.length : Int) := by omega
      generalize C.getD k Ls.zero = x at *
      obtain ⟨xa, xl, xc⟩ := x
      unfold Ls.v at HXC
      dsimp only at HXC HXN HXM hx20
      clear HCC HIN HC0 HPL HMM HMM2
      go_region_law (first | (refine step_append_own (by rfl) _ _ _ (by rfl) _ 23 i0 _ 1 24 Try.underlying22 hi hz0 hz1 hz2 rfl (by omega) _ (0 + C.length) ([] ++ lvs C) (by rfl) ((HO4.out.alloc Z21).alloc (row1 w4.heap.size)) ⟨w4.heap.size + 1, 0, none⟩ 1 1 (lvs [z21 w4.heap.size]) (by rfl) (by rfl) (row1_news (new_at _ _ _ (by simp))) (lvs_one _) (by unfold maxLen; omega) (by omega) (Nat.le_trans HG4.out.size (by simp; omega)) ?_; intro v5 w5 hown5 hgrow5; have HMO : Hid (MoreOk w3 w5 C v5) := Lib.hid (more_a HO4.out HG4.out hown5 hgrow5); clear hown5 hgrow5) | (refine step_append_own (by rfl) _ _ _ (by rfl) _ 23 i0 _ 1 24 Try.underlying22 hi hz0 hz1 hz2 rfl (by omega) _ (0 + C.length) ([] ++ lvs C) (by rfl) (HO4.out.alloc (row1 w3.heap.size)) ⟨w4.heap.size, 0, none⟩ 1 1 (lvs [z21 w3.heap.size]) (by rfl) (by rfl) (row1_news (new_at _ _ _ rfl)) (lvs_one _) (by unfold maxLen; omega) (by omega) (Nat.le_trans HG4.out.size (by simp)) ?_; intro v5 w5 hown5 hgrow5; have HMO : Hid (MoreOk w3 w5 C v5) := Lib.hid (more_b HO4.out HG4.out hown5 hgrow5); clear hown5 hgrow5) | (refine step_append_own (by rfl) _ _ _ (by rfl) _ 23 i0 _ 1 24 Try.underlying22 hi hz0 hz1 hz2 rfl (by omega) _ (0 + C.length) ([] ++ lvs C) (by rfl) (HO4.out) ⟨w3.heap.size + 1, 0, none⟩ 1 1 (lvs [z21 w3.heap.size]) (by rfl) (by rfl) (row1_news (more_c_row HG4.out)) (lvs_one _) (by unfold maxLen; omega) (by omega) (HG4.out.size) ?_; intro v5 w5 hown5 hgrow5; have HMO : Hid (MoreOk w3 w5 C v5) := Lib.hid (more_c HO4.out HG4.out hown5 hgrow5); clear hown5 hgrow5) | (refine step_append_own (by rfl) _ _ _ (by rfl) _ 23 i0 _ 1 24 Try.underlying22 hi hz0 hz1 hz2 rfl (by omega) _ 0 [] (by rfl) ⟨rfl, .inl ⟨rfl, rfl⟩⟩ ⟨b, o, none⟩ C.length c (lvs C) (by rfl) (by simp [lvs_len]) (HV1.out _ (by first | exact HB5.out.drew | exact HB5.out.drew.alloc HB5.out.size _ | exact (HB5.out.drew.alloc HB5.out.size _).alloc (Nat.le_trans HB5.out.size (by simp)) _)) (lvs_one _) (by unfold maxLen; omega) (by omega) (Nat.le_refl _) ?_; intro v4 w4 hown4 hgrow4; have HO4 := Lib.hid hown4; have HG4 := Lib.hid hgrow4; clear hown4 hgrow4))
      all_goals (
        obtain ⟨a5, E, c5, rfl, le, me, be⟩ := more_lv HMO.out HLV.out hC60
        have HLE := Lib.hid le
        have HME := Lib.hid me
        have HLV := Lib.hid (HLV.out.next be)
        have HLM := Lib.hid (HLM.out.next be)
        have HL1 := Lib.hid (HL1.out.next be)
        have HL2 := Lib.hid (HL2.out.next be)
        have HBB := Lib.hid (below_next HB5.out be HB5.out.size)
        clear le me be HMO HO4 HG4 HB5 HV1 HFE
        go_wp2_with fail
        refine (same_v HL1.out HL2.out true HDD.out).mono ?_
        rintro e w6 ⟨rfl, b6⟩
        have HLV := Lib.hid (HLV.out.next b6)
        have HLM := Lib.hid (HLM.out.next b6)
        have HLE := Lib.hid (HLE.out.next b6)
        have HBB := Lib.hid (below_next HBB.out b6 HBB.out.size)
        clear b6
        go_wp2_with fail
        refine (in_v HS HN HLV.out HLM.out true HAB.out).mono ?_
        rintro e w7 ⟨rfl, b7⟩
        have HLV := Lib.hid (HLV.out.next b7)
        have HLM := Lib.hid (HLM.out.next b7)
        have HLE := Lib.hid (HLE.out.next b7)
        have HBB := Lib.hid (below_next HBB.out b7 HBB.out.size)
        clear b7
        go_wp2_with fail
        refine (in_v HS HN HLM.out HLV.out true HBA.out).mono ?_
        rintro e w8 ⟨rfl, b8⟩
        have HLV := Lib.hid (HLV.out.next b8)
        have HLE := Lib.hid (HLE.out.next b8)
        have HBB := Lib.hid (below_next HBB.out b8 HBB.out.size)
        clear b8
        go_wp2_with fail
        refine (in_v HS HN HLV.out HLE.out true (more_has HME.out)).mono ?_
        rintro e w9 ⟨rfl, b9⟩
        have HLV := Lib.hid (HLV.out.next b9)
        have HLE := Lib.hid (HLE.out.next b9)
        have HBB := Lib.hid (below_next HBB.out b9 HBB.out.size)
        clear b9
        go_wp2_with fail
        refine (in_v HS HN HLE.out HLV.out false (more_not HME.out HFW.out)).mono ?_
        rintro e w10 ⟨rfl, b10⟩
        have HLV := Lib.hid (HLV.out.next b10)
        have HBB := Lib.hid (below_next HBB.out b10 HBB.out.size)
        clear b10
        have c1 := cell_next HXC.out HBB.out
        go_wp2_with fail
        refine (has_v HLV.out ⟨xa, xl, xc⟩ (HXN.out.next HBB.out) (show xl.length ≤ 1000 by omega) true HXM.out).mono ?_
        rintro e w11 ⟨rfl, b11⟩
        have HLV := Lib.hid (HLV.out.next b11)
        have HBB := Lib.hid (below_next HBB.out b11 HBB.out.size)
        clear b11
        go_wp2_with fail
        have bz := (Below.refl w11.heap.size w11).alloc (Nat.le_refl _) Z21
        refine (has_v (HLV.out.next bz) (z21 w11.heap.size) (z21_in (new_at w11 Z21 _ rfl)) (by simp [z21]) false (HZN.out _)).mono ?_
        rintro e w12 ⟨rfl, b12⟩
        have HBB := Lib.hid (below_next (HBB.out.alloc HBB.out.size Z21) b12 (Nat.le_trans HBB.out.size bz.size))
        clear bz b12
        go_wp2_with fail
        refine (HAW.out _).mono ?_
        rintro e w13 ⟨rfl, b13⟩
        have HBB := Lib.hid (below_next HBB.out b13 HBB.out.size)
        clear b13
        go_wp2_with fail
        go_ret
        exact ⟨rfl, HBB.out⟩)
end Go.Proofs.Ythahhibenejgfaa
