import Derived.Test.YtepkjnpbdjmlbaaDoorLines
namespace Go.Proofs.YtepkjnpbdjmlbaaDoor
open Go.RowKit RelA
namespace RelA
theorem maybe_lt (n : Nat) (R : Nat → Nat) (hn : n ≤ 40) (hR : ∀ i, R i < 2 ^ 40) (i : Nat) : (if i < n then R i ||| 2 ^ i else R i) < 2 ^ 40 := by
  split
  · exact Nat.or_lt_two_pow (hR i) (Nat.pow_lt_pow_right (by omega) (by omega))
  · exact hR i
theorem maybe_and (n : Nat) (R : Nat → Nat) (i : Nat) (_ : i < 40) : ((if i < n then R i ||| 2 ^ i else R i) &&& (if i < n then 0 ||| 2 ^ i else 0)) = diagR n i := by
  unfold diagR
  split
  · apply Nat.eq_of_testBit_eq
    intro j
    rw [Nat.testBit_and, Nat.testBit_or, Nat.testBit_or, Nat.zero_testBit, Bool.false_or]
    cases (R i).testBit j <;> cases (2 ^ i).testBit j <;> rfl
  · rw [Nat.and_zero]
end RelA
set_option maxHeartbeats 4000000 in
theorem lines_any (n : Int) (ring : Bool) (w : World) (ht : Tab w) :
    Calls Tryd.prog 5 #[.int .i64 n, .bool ring] w fun e w' => e = .returned (.bool true) ∧ Below w.heap.size w w' := by
  have HT := Lib.hid ht
  clear ht
  obtain ⟨i0, hi, hz0, hz1, hz2⟩ := info_parts info37
  obtain ⟨z, hz⟩ : ∃ z : Nat, n % ((40 : Nat) : Int) = (z : Int) := ⟨(n % 40).toNat, by omega⟩
  have hz40 : z < 40 := by omega
  have HP := Lib.hid (fun w => place_any n 40 w (by decide) (by decide))
  rw [hz] at HP
  clear hz
  have hck : clampN (1 + (z : Int)) = 1 + z := by unfold clampN; omega
  have HCK := Lib.hid hck
  have hl := line_loops z ring hz40
  have hp := line_pairs z ring hz40
  have hd := diag_pairs (1 + z) (by omega)
  have HRL := Lib.hid (lineR_lt z ring hz40)
  have HNL := Lib.hid (newR_line z ring)
  have HLL := Lib.hid (lineL_len z ring)
  clear hck
  have hpl : (pairsR (lineR z ring)).length = z + if ring then 1 else 0 := by rw [hp, lineL_len]
  clear hp
  cases ring
  case false =>
    go_enter Tryd.func5, Tryd.ntmps5
    go_wp2_with fail
    refine (HP.out w).mono ?_
    rintro e w' ⟨rfl, rfl⟩
    go_wp2_with fail
    go_loopw [6, 7] (fun v x wr => ∃ q : Nat, q ≤ z ∧ x = .int .i64 q ∧ wr.ownsRow w.heap.size 37 2 v q (pairCells (lineP q)) ∧ Below w.heap.size w wr) (fun _ x _ => 40 - (intOf x).toNat)
    case atStart => exact ⟨0, Nat.zero_le _, rfl, ⟨rfl, .inl ⟨rfl, rfl⟩⟩, Below.refl _ _⟩
    case round =>
      obtain ⟨q, hq, rfl, hown, hbe⟩ := hrel
      have hsz := hbe.size
      obtain ⟨pa0, pc0, rfl⟩ := own_len hown
      have HOWN := Lib.hid hown
      clear hown
      by_cases hlt : q < z
      · go_wp2_with (first
          | (at_builtin; refine wpList_append_own _ rfl (.tmp 21) (.tmp 26) 22 rfl w.heap.size 37 i0 (.agg #[.int .i64 0, .int .i64 0]) 2 16 Tryd.underlying22 hi hz0 hz1 hz2 rfl (by decide) _ _ _ rfl (HOWN.out.alloc _) ⟨wr.heap.size, 0, none⟩ 1 1 [.int .i64 q, .int .i64 (q + 1)] rfl rfl (World.news_of_block (cs := #[.int .i64 q, .int .i64 (q + 1)]) (t := 37) (fr := (0, 0)) (heap_alloc_new wr _)) (by simp [Value.oneCell']) (by unfold maxLen; omega) (by omega) (by simp; omega) ?_; intro v1 w1 hown1 hgrow1 hnil1; have HO1 := Lib.hid hown1; have HG1 := Lib.hid hgrow1; clear hown1 hgrow1 hnil1))
        go_roundw
        case rel =>
          refine ⟨q + 1, by omega, by go_num, ?_, ?_⟩
          · rw [lineP_succ, pairCells_snoc]; exact HO1.out
          · exact (hbe.alloc hsz _).grown HG1.out (by simp; omega) (fun j hj => (HOWN.out.lt j hj).1)
        case measure => simp [intOf]; omega
      · obtain rfl : q = z := by omega
        have hlt2 : ¬ (q : Int) + 1 < 1 + (q : Int) := by omega
        obtain ⟨w2, rfl⟩ : ∃ w2 : World, w2 = wr := ⟨_, rfl⟩
        have HV : Hid (w2.ownsRow w.heap.size 37 2 (.slice pa0 q pc0) (q + if false = true then 1 else 0) (pairCells (lineL q false))) := by
          show w2.ownsRow _ _ _ _ _ (pairCells (lineP q ++ []))
          rw [List.append_nil]; exact HOWN.out
        have HBV : Hid (Below w.heap.size w w2) := hbe
        clear HOWN hbe
        go_wp2_with fail
        refine (new_own (1 + (q : Int)) w.heap.size _ (lineL q false) w2 (by rw [HLL.out]; exact HV.out)).mono ?_
        rintro e w3 ⟨rfl, hat, hbe⟩
        rw [HCK.out, HNL.out] at hat
        have HA3 := Lib.hid hat
        have HB3 := Lib.hid (below_next HBV.out hbe)
        have HT3 := Lib.hid (HT.out.next HB3.out)
        clear hat hbe
        go_wp2_with fail
        refine (plus_any _ (1 + q) (lineR q false) w3 HA3.out HRL.out HT3.out).mono ?_
        rintro e w4 ⟨c, rfl, hcc, hat, hbe⟩
        have HP4 := Lib.hid hat
        have HA4 := Lib.hid (HA3.out.next hbe)
        have HB4 := Lib.hid (below_next HB3.out hbe)
        have HT4 := Lib.hid (HT3.out.next hbe)
        clear hat hbe hcc hlt hq
        go_wp2_with fail
        go_loop [10] (fun x => ∃ a : Nat, a ≤ 1 + q ∧ x = .int .i64 a) (fun x => 41 - (intOf x).toNat)
        case atStart => exact ⟨0, Nat.zero_le _, rfl⟩
        case round =>
          obtain ⟨a, ha, rfl⟩ := hrel
          by_cases hal : a < 1 + q
          · have hda : decide ((a : Int) < 1 + (q : Int)) = true := by simp; omega
            have hai : (a : Int) < 1 + (q : Int) := by omega
            go_wp2_with fail
            go_loop [11] (fun x => ∃ b : Nat, b ≤ 1 + q ∧ x = .int .i64 b) (fun x => 41 - (intOf x).toNat)
            case atStart => exact ⟨0, Nat.zero_le _, rfl⟩
            case round =>
              obtain ⟨b, hb, rfl⟩ := hrel
              by_cases hbl : b < 1 + q
              · have hdb : decide ((b : Int) < 1 + (q : Int)) = true := by simp; omega
                have hv := line_has q false hz40 a b hal hbl
                have HH := Lib.hid (has_any c (1 + q) (plusR (lineR q false)) a b w4 HP4.out (by omega) (fun i _ => lt64 (plusR_lt _ i)))
                rw [hv] at HH
                clear hv
                by_cases hab : a < b
                · have hdab : decide ((a : Int) < (b : Int)) = true := by simp; omega
                  have hdn : decide (a < b) = true := by simp; omega
                  rw [hdn] at HH
                  clear hdn
                  go_wp2_with fail
                  refine HH.out.mono ?_
                  rintro e w' ⟨rfl, rfl⟩
                  go_wp2_with fail
                  go_round
                  case rel => exact ⟨b + 1, by omega, by go_num⟩
                  case measure => simp [intOf]; omega
                · have hdab : decide ((a : Int) < (b : Int)) = false := by simp; omega
                  have hdn : decide (a < b) = false := by simp; omega
                  rw [hdn] at HH
                  clear hdn
                  go_wp2_with fail
                  refine HH.out.mono ?_
                  rintro e w' ⟨rfl, rfl⟩
                  go_wp2_with fail
                  go_round
                  case rel => exact ⟨b + 1, by omega, by go_num⟩
                  case measure => simp [intOf]; omega
              · go_wp2_with fail
                go_round
                case rel => exact ⟨a + 1, by omega, by go_num⟩
                case measure => simp [intOf]; omega
          · go_wp2_with fail
            refine (loops_any _ (1 + q) (lineR q false) w4 HA4.out HRL.out HT4.out).mono ?_
            rintro e w5 ⟨rfl, hbe⟩
            have HA5 := Lib.hid (HA4.out.next hbe)
            have HB5 := Lib.hid (below_next HB4.out hbe)
            have HT5 := Lib.hid (HT4.out.next hbe)
            clear hbe
            go_wp2_with fail
            refine (pairs_any _ (1 + q) (lineR q false) w5 HA5.out HRL.out HT5.out).mono ?_
            rintro e w6 ⟨v, rfl, hown, hbe⟩
            have HA6 := Lib.hid (HA5.out.next hbe)
            have HB6 := Lib.hid (below_next HB5.out hbe)
            have HT6 := Lib.hid (HT5.out.next hbe)
            obtain ⟨pa6, pc6, rfl⟩ := own_len hown
            clear hown hbe
            go_wp2_with fail
            refine (maybe_gen _ (1 + q) (lineR q false) w6 HA6.out (by omega) HRL.out).mono ?_
            rintro e w7 ⟨rfl, hat, hbe⟩
            have HM7 := Lib.hid hat
            have HA7 := Lib.hid (HA6.out.next hbe)
            have HB7 := Lib.hid (below_next HB6.out hbe)
            have HT7 := Lib.hid (HT6.out.next hbe)
            clear hat hbe
            go_wp2_with fail
            refine (len_any _ (1 + q) w7 HM7.out.c0).mono ?_
            rintro e w' ⟨rfl, rfl⟩
            go_wp2_with fail
            refine (maybe_gen _ (1 + q) (lineR q false) w7 HA7.out (by omega) HRL.out).mono ?_
            rintro e w8 ⟨rfl, hat, hbe⟩
            have HM8 := Lib.hid hat
            have HB8 := Lib.hid (below_next HB7.out hbe)
            have HT8 := Lib.hid (HT7.out.next hbe)
            clear hat hbe
            go_wp2_with fail
            refine (new_nil (1 + (q : Int)) w8).mono ?_
            rintro e w9 ⟨rfl, hat, hbe⟩
            rw [HCK.out] at hat
            have HN9 := Lib.hid hat
            have HM9 := Lib.hid (HM8.out.next hbe)
            have HB9 := Lib.hid (below_next HB8.out hbe)
            have HT9 := Lib.hid (HT8.out.next hbe)
            clear hat hbe
            go_wp2_with fail
            refine (maybe_gen _ (1 + q) (fun _ => 0) w9 HN9.out (by omega) (fun _ => by decide)).mono ?_
            rintro e wa ⟨rfl, hat, hbe⟩
            have HNa := Lib.hid hat
            have HMa := Lib.hid (HM9.out.next hbe)
            have HBa := Lib.hid (below_next HB9.out hbe)
            have HTa := Lib.hid (HT9.out.next hbe)
            clear hat hbe
            go_wp2_with fail
            refine (and_any _ (1 + q) _ (1 + q) _ _ wa HMa.out HNa.out (maybe_lt _ _ (by omega) HRL.out) (maybe_lt _ _ (by omega) (fun _ => by decide))).mono ?_
            rintro e wb ⟨rfl, hat, hbe⟩
            have HDb := Lib.hid (hat.congr (S := diagR (1 + q)) (maybe_and _ _))
            have HBb := Lib.hid (below_next HBa.out hbe)
            have HTb := Lib.hid (HTa.out.next hbe)
            clear hat hbe
            go_wp2_with fail
            refine (pairs_any _ _ (diagR (1 + q)) wb HDb.out (diag_lt _ (by omega)) HTb.out).mono ?_
            rintro e wc ⟨v, rfl, hown, hbe⟩
            have HBc := Lib.hid (below_next HBb.out hbe)
            have HTc := Lib.hid (HTb.out.next hbe)
            obtain ⟨pac, pcc, rfl⟩ := own_len hown
            clear hown hbe
            go_wp2_with fail
            refine (awake_any wc HTc.out).mono ?_
            rintro e wd ⟨rfl, hbe⟩
            have HBd := Lib.hid (below_next HBc.out hbe)
            clear hbe
            go_wp2_with fail
            go_ret
            exact ⟨rfl, HBd.out⟩
  case true =>
    go_enter Tryd.func5, Tryd.ntmps5
    go_wp2_with fail
    refine (HP.out w).mono ?_
    rintro e w' ⟨rfl, rfl⟩
    go_wp2_with fail
    go_loopw [6, 7] (fun v x wr => ∃ q : Nat, q ≤ z ∧ x = .int .i64 q ∧ wr.ownsRow w.heap.size 37 2 v q (pairCells (lineP q)) ∧ Below w.heap.size w wr) (fun _ x _ => 40 - (intOf x).toNat)
    case atStart => exact ⟨0, Nat.zero_le _, rfl, ⟨rfl, .inl ⟨rfl, rfl⟩⟩, Below.refl _ _⟩
    case round =>
      obtain ⟨q, hq, rfl, hown, hbe⟩ := hrel
      have hsz := hbe.size
      obtain ⟨pa0, pc0, rfl⟩ := own_len hown
      have HOWN := Lib.hid hown
      clear hown
      by_cases hlt : q < z
      · go_wp2_with (first
          | (at_builtin; refine wpList_append_own _ rfl (.tmp 21) (.tmp 26) 22 rfl w.heap.size 37 i0 (.agg #[.int .i64 0, .int .i64 0]) 2 16 Tryd.underlying22 hi hz0 hz1 hz2 rfl (by decide) _ _ _ rfl (HOWN.out.alloc _) ⟨wr.heap.size, 0, none⟩ 1 1 [.int .i64 q, .int .i64 (q + 1)] rfl rfl (World.news_of_block (cs := #[.int .i64 q, .int .i64 (q + 1)]) (t := 37) (fr := (0, 0)) (heap_alloc_new wr _)) (by simp [Value.oneCell']) (by unfold maxLen; omega) (by omega) (by simp; omega) ?_; intro v1 w1 hown1 hgrow1 hnil1; have HO1 := Lib.hid hown1; have HG1 := Lib.hid hgrow1; clear hown1 hgrow1 hnil1))
        go_roundw
        case rel =>
          refine ⟨q + 1, by omega, by go_num, ?_, ?_⟩
          · rw [lineP_succ, pairCells_snoc]; exact HO1.out
          · exact (hbe.alloc hsz _).grown HG1.out (by simp; omega) (fun j hj => (HOWN.out.lt j hj).1)
        case measure => simp [intOf]; omega
      · obtain rfl : q = z := by omega
        have hlt2 : ¬ (q : Int) + 1 < 1 + (q : Int) := by omega
        go_wp2_with (first
          | (at_builtin; refine wpList_append_own _ rfl (.tmp 29) (.tmp 33) 22 rfl w.heap.size 37 i0 (.agg #[.int .i64 0, .int .i64 0]) 2 16 Tryd.underlying22 hi hz0 hz1 hz2 rfl (by decide) _ _ _ rfl (HOWN.out.alloc _) ⟨wr.heap.size, 0, none⟩ 1 1 [.int .i64 (1 + (q : Int) - 1), .int .i64 0] rfl rfl (World.news_of_block (cs := #[.int .i64 (1 + (q : Int) - 1), .int .i64 0]) (t := 37) (fr := (0, 0)) (heap_alloc_new wr _)) (by simp [Value.oneCell']) (by unfold maxLen; omega) (by omega) (by simp; omega) ?_; intro v1 w2 hown1 hgrow1 hnil1; have HO1 := Lib.hid hown1; have HG1 := Lib.hid hgrow1; clear hown1 hgrow1 hnil1))
        have e1 : (1 + (q : Int) - 1) = (q : Int) := by omega
        rw [e1] at HO1
        clear e1
        obtain ⟨pa, pc, rfl⟩ := own_len HO1.out
        have HV : Hid (w2.ownsRow w.heap.size 37 2 (.slice pa (q + 1) pc) (q + if true = true then 1 else 0) (pairCells (lineL q true))) := by
          show w2.ownsRow _ _ _ _ _ (pairCells (lineP q ++ [(q, 0)]))
          rw [pairCells_snoc]; exact HO1.out
        have HBV : Hid (Below w.heap.size w w2) := (hbe.alloc hsz _).grown HG1.out (by simp; omega) (fun j hj => (HOWN.out.lt j hj).1)
        clear HOWN hbe HO1 HG1
        go_wp2_with fail
        refine (new_own (1 + (q : Int)) w.heap.size _ (lineL q true) w2 (by rw [HLL.out]; exact HV.out)).mono ?_
        rintro e w3 ⟨rfl, hat, hbe⟩
        rw [HCK.out, HNL.out] at hat
        have HA3 := Lib.hid hat
        have HB3 := Lib.hid (below_next HBV.out hbe)
        have HT3 := Lib.hid (HT.out.next HB3.out)
        clear hat hbe
        go_wp2_with fail
        refine (plus_any _ (1 + q) (lineR q true) w3 HA3.out HRL.out HT3.out).mono ?_
        rintro e w4 ⟨c, rfl, hcc, hat, hbe⟩
        have HP4 := Lib.hid hat
        have HA4 := Lib.hid (HA3.out.next hbe)
        have HB4 := Lib.hid (below_next HB3.out hbe)
        have HT4 := Lib.hid (HT3.out.next hbe)
        clear hat hbe hcc hlt hq
        go_wp2_with fail
        go_loop [10] (fun x => ∃ a : Nat, a ≤ 1 + q ∧ x = .int .i64 a) (fun x => 41 - (intOf x).toNat)
        case atStart => exact ⟨0, Nat.zero_le _, rfl⟩
        case round =>
          obtain ⟨a, ha, rfl⟩ := hrel
          by_cases hal : a < 1 + q
          · have hda : decide ((a : Int) < 1 + (q : Int)) = true := by simp; omega
            have hai : (a : Int) < 1 + (q : Int) := by omega
            go_wp2_with fail
            go_loop [11] (fun x => ∃ b : Nat, b ≤ 1 + q ∧ x = .int .i64 b) (fun x => 41 - (intOf x).toNat)
            case atStart => exact ⟨0, Nat.zero_le _, rfl⟩
            case round =>
              obtain ⟨b, hb, rfl⟩ := hrel
              by_cases hbl : b < 1 + q
              · have hdb : decide ((b : Int) < 1 + (q : Int)) = true := by simp; omega
                have hv := line_has q true hz40 a b hal hbl
                have HH := Lib.hid (has_any c (1 + q) (plusR (lineR q true)) a b w4 HP4.out (by omega) (fun i _ => lt64 (plusR_lt _ i)))
                rw [hv] at HH
                clear hv
                by_cases hab : a < b
                · have hdab : decide ((a : Int) < (b : Int)) = true := by simp; omega
                  have hdn : decide (a < b) = true := by simp; omega
                  rw [hdn] at HH
                  clear hdn
                  go_wp2_with fail
                  refine HH.out.mono ?_
                  rintro e w' ⟨rfl, rfl⟩
                  go_wp2_with fail
                  go_round
                  case rel => exact ⟨b + 1, by omega, by go_num⟩
                  case measure => simp [intOf]; omega
                · have hdab : decide ((a : Int) < (b : Int)) = false := by simp; omega
                  have hdn : decide (a < b) = false := by simp; omega
                  rw [hdn] at HH
                  clear hdn
                  go_wp2_with fail
                  refine HH.out.mono ?_
                  rintro e w' ⟨rfl, rfl⟩
                  go_wp2_with fail
                  go_round
                  case rel => exact ⟨b + 1, by omega, by go_num⟩
                  case measure => simp [intOf]; omega
              · go_wp2_with fail
                go_round
                case rel => exact ⟨a + 1, by omega, by go_num⟩
                case measure => simp [intOf]; omega
          · go_wp2_with fail
            refine (loops_any _ (1 + q) (lineR q true) w4 HA4.out HRL.out HT4.out).mono ?_
            rintro e w5 ⟨rfl, hbe⟩
            have HA5 := Lib.hid (HA4.out.next hbe)
            have HB5 := Lib.hid (below_next HB4.out hbe)
            have HT5 := Lib.hid (HT4.out.next hbe)
            clear hbe
            go_wp2_with fail
            refine (pairs_any _ (1 + q) (lineR q true) w5 HA5.out HRL.out HT5.out).mono ?_
            rintro e w6 ⟨v, rfl, hown, hbe⟩
            have HA6 := Lib.hid (HA5.out.next hbe)
            have HB6 := Lib.hid (below_next HB5.out hbe)
            have HT6 := Lib.hid (HT5.out.next hbe)
            obtain ⟨pa6, pc6, rfl⟩ := own_len hown
            clear hown hbe
            go_wp2_with fail
            refine (maybe_gen _ (1 + q) (lineR q true) w6 HA6.out (by omega) HRL.out).mono ?_
            rintro e w7 ⟨rfl, hat, hbe⟩
            have HM7 := Lib.hid hat
            have HA7 := Lib.hid (HA6.out.next hbe)
            have HB7 := Lib.hid (below_next HB6.out hbe)
            have HT7 := Lib.hid (HT6.out.next hbe)
            clear hat hbe
            go_wp2_with fail
            refine (len_any _ (1 + q) w7 HM7.out.c0).mono ?_
            rintro e w' ⟨rfl, rfl⟩
            go_wp2_with fail
            refine (maybe_gen _ (1 + q) (lineR q true) w7 HA7.out (by omega) HRL.out).mono ?_
            rintro e w8 ⟨rfl, hat, hbe⟩
            have HM8 := Lib.hid hat
            have HB8 := Lib.hid (below_next HB7.out hbe)
            have HT8 := Lib.hid (HT7.out.next hbe)
            clear hat hbe
            go_wp2_with fail
            refine (new_nil (1 + (q : Int)) w8).mono ?_
            rintro e w9 ⟨rfl, hat, hbe⟩
            rw [HCK.out] at hat
            have HN9 := Lib.hid hat
            have HM9 := Lib.hid (HM8.out.next hbe)
            have HB9 := Lib.hid (below_next HB8.out hbe)
            have HT9 := Lib.hid (HT8.out.next hbe)
            clear hat hbe
            go_wp2_with fail
            refine (maybe_gen _ (1 + q) (fun _ => 0) w9 HN9.out (by omega) (fun _ => by decide)).mono ?_
            rintro e wa ⟨rfl, hat, hbe⟩
            have HNa := Lib.hid hat
            have HMa := Lib.hid (HM9.out.next hbe)
            have HBa := Lib.hid (below_next HB9.out hbe)
            have HTa := Lib.hid (HT9.out.next hbe)
            clear hat hbe
            go_wp2_with fail
            refine (and_any _ (1 + q) _ (1 + q) _ _ wa HMa.out HNa.out (maybe_lt _ _ (by omega) HRL.out) (maybe_lt _ _ (by omega) (fun _ => by decide))).mono ?_
            rintro e wb ⟨rfl, hat, hbe⟩
            have HDb := Lib.hid (hat.congr (S := diagR (1 + q)) (maybe_and _ _))
            have HBb := Lib.hid (below_next HBa.out hbe)
            have HTb := Lib.hid (HTa.out.next hbe)
            clear hat hbe
            go_wp2_with fail
            refine (pairs_any _ _ (diagR (1 + q)) wb HDb.out (diag_lt _ (by omega)) HTb.out).mono ?_
            rintro e wc ⟨v, rfl, hown, hbe⟩
            have HBc := Lib.hid (below_next HBb.out hbe)
            have HTc := Lib.hid (HTb.out.next hbe)
            obtain ⟨pac, pcc, rfl⟩ := own_len hown
            clear hown hbe
            go_wp2_with fail
            refine (awake_any wc HTc.out).mono ?_
            rintro e wd ⟨rfl, hbe⟩
            have HBd := Lib.hid (below_next HBc.out hbe)
            clear hbe
            go_wp2_with fail
            go_ret
            exact ⟨rfl, HBd.out⟩
end Go.Proofs.YtepkjnpbdjmlbaaDoor
