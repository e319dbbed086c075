import Derived.Test.YtcmjmojbocmcgaaDoorR
namespace Go.Proofs.YtcmjmojbocmcgaaDoor
open Go.RowKit ExprA
theorem ExprA.wrap_same {x : Int} (h : -9223372036854775808 ≤ x ∧ x ≤ 9223372036854775807) : wrap64 x = x := by unfold wrap64; omega
set_option maxRecDepth 100000 in
set_option maxHeartbeats 16000000 in
/-- Wide: an expression that may be -/
theorem wide_any (a : Option Addr) (R : List Int) (c : Nat) (w : World) (h : NIn w a R) (hR : R.length ≤ 20) :
    Calls Tryd.prog 8 #[.slice a R.length c, .int .i64 9] w fun e w' => ∃ pa T c', e = .returned (.slice pa T.length c') ∧ TIn w' pa T ∧ checkB T = true ∧ Below w.heap.size w w' := by
  have HN := Lib.hid h
  clear h
  obtain ⟨i0, hi, hz0, hz1, hz2⟩ := info_parts info34
  have HP := Lib.hid (fun x w => place_any x 1099511627776 w (by decide) (by decide))
  rw [show ((1099511627776 : Nat) : Int) = 1099511627776 from rfl] at HP
  go_enter Tryd.func8, Tryd.ntmps8
  go_wp2_with fail
  go_loopw [5, 6, 7] (fun v d x wr => ∃ (q D : Nat) (T : List (Int × Int)), q ≤ R.length ∧ x = .int .i64 q ∧ d = .int .i64 D ∧ chkTo T T.length = some D ∧ T.length + D ≤ 10 ∧ wr.ownsRow w.heap.size 34 2 v T.length (icells T) ∧ Below w.heap.size w wr) (fun _ _ x _ => R.length - (intOf x).toNat)
  case atStart => exact ⟨0, 0, [], Nat.zero_le _, rfl, rfl, rfl, by decide, ⟨rfl, .inl ⟨rfl, rfl⟩⟩, Below.refl _ _⟩
  case round =>
    obtain ⟨q, D, T, hq, rfl, rfl, hch, hTD, hown, hbe⟩ := hrel
    have hsz := hbe.size
    obtain ⟨pa0, pc0, rfl⟩ := own_len hown
    have HOWN := Lib.hid hown
    have HB := Lib.hid hbe
    have HCH := Lib.hid hch
    clear hown hbe hch
    have HX : Hid (∃ N, N = T.length) := Lib.hid ⟨_, rfl⟩
    obtain ⟨N, hN⟩ := HX.out
    rw [← hN] at HOWN hTD ⊢
    have HNT := Lib.hid hN
    clear hN
    have hq20 : (q : Int) ≤ 20 := by omega
    have hN10 : (N : Int) ≤ 10 := by omega
    have hD10 : (D : Int) ≤ 10 := by omega
    by_cases hlt : q < R.length
    · have hqi : (q : Int) < (R.length : Int) := by omega
      have hdk : decide ((q : Int) < (R.length : Int)) = true := by simp; omega
      by_cases hroom : N + D < 9
      · have hri : (N : Int) + (D : Int) < 9 := by omega
        have hrd : decide ((N : Int) + (D : Int) < 9) = true := by simp; omega
        rcases HN.out.next HB.out with h0 | ⟨b, o, rfl, hbl, hcc⟩
        · rw [h0] at hlt; simp at hlt
        · have hc1 := hcc q hlt
          clear hcc
          generalize R.getD q 0 = rq at *
          have HPX := Lib.hid (fun w => HP.out rq w)
          have hk0 := Int.emod_nonneg rq (show (1099511627776 : Int) ≠ 0 by decide)
          have hk1 := Int.emod_lt_of_pos rq (show (0 : Int) < 1099511627776 by decide)
          obtain ⟨ka, hka⟩ : ∃ k : Nat, rq % 1099511627776 = (k : Int) := ⟨(rq % 1099511627776).toNat, by omega⟩
          rw [hka] at HPX hk0 hk1
          clear hka
          have hbig : (0 : Int) ≤ (ka : Int) ∧ (ka : Int) < 1099511627776 := ⟨hk0, hk1⟩
          have HBIG := Lib.hid hbig
          clear hk0 hk1 hbig
          obtain ⟨k3, hk3⟩ : ∃ k3 : Nat, k3 = ka / 3 := ⟨_, rfl⟩
          have hw3 : wrap64 ((ka : Int) / 3) = (k3 : Int) := by rw [wrap_same (by have := HBIG.out; omega)]; omega
          clear hk3
          obtain ⟨m6, hm6⟩ : ∃ m : Nat, (k3 : Int) % 6 = (m : Int) := ⟨k3 % 6, by omega⟩
          have hl6 : (m6 : Int) < 6 := by omega
          obtain ⟨m8, hm8⟩ : ∃ m : Nat, (k3 : Int) % 8 = (m : Int) := ⟨k3 % 8, by omega⟩
          have hl8 : (m8 : Int) < 8 := by omega
          obtain ⟨m32, hm32⟩ : ∃ m : Nat, (k3 : Int) % 4294967296 = (m : Int) := ⟨k3 % 4294967296, by omega⟩
          have HZ : Hid (-2147483648 ≤ (m32 : Int) - 2147483648 ∧ (m32 : Int) - 2147483648 ≤ 2147483647) := Lib.hid (by omega)
          by_cases hA : 2 ≤ D ∧ ka % 3 = 0
          · have hA1 := hA.1
            have hDi : (2 : Int) ≤ (D : Int) := by omega
            have hDd : decide ((2 : Int) ≤ (D : Int)) = true := by simp; omega
            have hmz : (((ka : Int) % 3) == 0) = true := by rw [beq_iff_eq]; omega
            clear hA
            go_wp2_with fail
            refine (HPX.out _).mono ?_
            rintro e w1 ⟨rfl, rfl⟩
            go_wp2_with fail
            refine (opw_any _ _).mono ?_
            rintro e w3 ⟨rfl, hb3⟩
            have HO3 := Lib.hid (own_below HOWN.out hb3)
            have HB3 := Lib.hid (below_next HB.out hb3)
            clear hb3
            have hsz3 : w.heap.size ≤ w3.heap.size := HB3.out.size
            go_wp2_with (first | (at_builtin; refine wpList_append_own _ rfl (.tmp 46) (.tmp 52) 24 rfl w.heap.size 34 i0 (.agg #[.int .i64 0, .int .i64 0]) 2 16 Tryd.underlying24 hi hz0 hz1 hz2 rfl (by decide) _ _ _ rfl (HO3.out.alloc _) ⟨w3.heap.size, 0, none⟩ 1 1 [.int .i64 3, .int .i64 (1 + (m6 : Int))] rfl rfl (World.news_of_block (cs := #[.int .i64 3, .int .i64 (1 + (m6 : Int))]) (t := 34) (fr := (0, 0)) (heap_alloc_new w3 _)) (by simp [Value.oneCell']) (by unfold maxLen; omega) (by omega) (by simp; omega) ?_; intro v1 w4 hown1 hgrow1 hnil1; have HO4 := Lib.hid hown1; have HB4 := Lib.hid ((HB3.out.alloc hsz3 _).grown hgrow1 (by simp; omega) (fun j hj => (HO3.out.lt j hj).1)); clear hown1 hgrow1 hnil1))
            go_roundw
            case rel =>
              refine ⟨q + 1, D - 1, T ++ [(3, 1 + (m6 : Int))], hlt, by go_num, by congr 1; omega, chk_more HCH.out (by unfold okTok; dsimp only; rw [if_neg (by omega), if_neg (by omega), if_pos (by omega)]), by rw [List.length_append, ← HNT.out]; simp; omega, ?_, HB4.out⟩
              rw [icells_snoc, List.length_append, ← HNT.out]; exact HO4.out
            case measure => simp [intOf]; omega
          · have hnz : ¬ (2 ≤ D ∧ ka % 3 = 0) := hA
            have HNZ := Lib.hid hnz
            clear hA hnz
            by_cases hB : ka % 3 = 1
            · have HBB := Lib.hid hB
              clear hB
              by_cases hD2 : 2 ≤ D
              · have hDi : (2 : Int) ≤ (D : Int) := by omega
                have hDd : decide ((2 : Int) ≤ (D : Int)) = true := by simp; omega
                have hmz : (((ka : Int) % 3) == 0) = false := by rw [beq_eq_false_iff_ne]; intro h; exact HNZ.out ⟨hD2, by omega⟩
                have hmo : (((ka : Int) % 3) == 1) = true := by rw [beq_iff_eq]; have := HBB.out; omega
                clear HNZ
                go_wp2_with fail
                refine (HPX.out _).mono ?_
                rintro e w1 ⟨rfl, rfl⟩
                go_wp2_with fail
                refine (regw_any _ _).mono ?_
                rintro e w3 ⟨rfl, hb3⟩
                have HO3 := Lib.hid (own_below HOWN.out hb3)
                have HB3 := Lib.hid (below_next HB.out hb3)
                clear hb3
                have hsz3 : w.heap.size ≤ w3.heap.size := HB3.out.size
                go_wp2_with (first | (at_builtin; refine wpList_append_own _ rfl (.tmp 60) (.tmp 65) 24 rfl w.heap.size 34 i0 (.agg #[.int .i64 0, .int .i64 0]) 2 16 Tryd.underlying24 hi hz0 hz1 hz2 rfl (by decide) _ _ _ rfl (HO3.out.alloc _) ⟨w3.heap.size, 0, none⟩ 1 1 [.int .i64 2, .int .i64 ((m8 : Int))] rfl rfl (World.news_of_block (cs := #[.int .i64 2, .int .i64 ((m8 : Int))]) (t := 34) (fr := (0, 0)) (heap_alloc_new w3 _)) (by simp [Value.oneCell']) (by unfold maxLen; omega) (by omega) (by simp; omega) ?_; intro v1 w4 hown1 hgrow1 hnil1; have HO4 := Lib.hid hown1; have HB4 := Lib.hid ((HB3.out.alloc hsz3 _).grown hgrow1 (by simp; omega) (fun j hj => (HO3.out.lt j hj).1)); clear hown1 hgrow1 hnil1))
                go_roundw
                case rel =>
                  refine ⟨q + 1, D + 1, T ++ [(2, (m8 : Int))], hlt, by go_num, by go_num, chk_more HCH.out (by unfold okTok; dsimp only; rw [if_neg (by omega), if_pos (by omega)]), by rw [List.length_append, ← HNT.out]; simp; omega, ?_, HB4.out⟩
                  rw [icells_snoc, List.length_append, ← HNT.out]; exact HO4.out
                case measure => simp [intOf]; omega
              · have hDi : ¬ (2 : Int) ≤ (D : Int) := by omega
                have hDd : decide ((2 : Int) ≤ (D : Int)) = false := by simp; omega
                have hmo : (((ka : Int) % 3) == 1) = true := by rw [beq_iff_eq]; have := HBB.out; omega
                clear HNZ
                go_wp2_with fail
                refine (HPX.out _).mono ?_
                rintro e w1 ⟨rfl, rfl⟩
                go_wp2_with fail
                refine (regw_any _ _).mono ?_
                rintro e w3 ⟨rfl, hb3⟩
                have HO3 := Lib.hid (own_below HOWN.out hb3)
                have HB3 := Lib.hid (below_next HB.out hb3)
                clear hb3
                have hsz3 : w.heap.size ≤ w3.heap.size := HB3.out.size
                go_wp2_with (first | (at_builtin; refine wpList_append_own _ rfl (.tmp 60) (.tmp 65) 24 rfl w.heap.size 34 i0 (.agg #[.int .i64 0, .int .i64 0]) 2 16 Tryd.underlying24 hi hz0 hz1 hz2 rfl (by decide) _ _ _ rfl (HO3.out.alloc _) ⟨w3.heap.size, 0, none⟩ 1 1 [.int .i64 2, .int .i64 ((m8 : Int))] rfl rfl (World.news_of_block (cs := #[.int .i64 2, .int .i64 ((m8 : Int))]) (t := 34) (fr := (0, 0)) (heap_alloc_new w3 _)) (by simp [Value.oneCell']) (by unfold maxLen; omega) (by omega) (by simp; omega) ?_; intro v1 w4 hown1 hgrow1 hnil1; have HO4 := Lib.hid hown1; have HB4 := Lib.hid ((HB3.out.alloc hsz3 _).grown hgrow1 (by simp; omega) (fun j hj => (HO3.out.lt j hj).1)); clear hown1 hgrow1 hnil1))
                go_roundw
                case rel =>
                  refine ⟨q + 1, D + 1, T ++ [(2, (m8 : Int))], hlt, by go_num, by go_num, chk_more HCH.out (by unfold okTok; dsimp only; rw [if_neg (by omega), if_pos (by omega)]), by rw [List.length_append, ← HNT.out]; simp; omega, ?_, HB4.out⟩
                  rw [icells_snoc, List.length_append, ← HNT.out]; exact HO4.out
                case measure => simp [intOf]; omega
            · have HBB := Lib.hid hB
              clear hB
              by_cases hD2 : 2 ≤ D
              · have hDi : (2 : Int) ≤ (D : Int) := by omega
                have hDd : decide ((2 : Int) ≤ (D : Int)) = true := by simp; omega
                have hmz : (((ka : Int) % 3) == 0) = false := by rw [beq_eq_false_iff_ne]; intro h; exact HNZ.out ⟨hD2, by omega⟩
                have hmo : (((ka : Int) % 3) == 1) = false := by rw [beq_eq_false_iff_ne]; have := HBB.out; omega
                clear HNZ
                go_wp2_with fail
                refine (HPX.out _).mono ?_
                rintro e w1 ⟨rfl, rfl⟩
                go_wp2_with fail
                refine (numw_any _ _).mono ?_
                rintro e w3 ⟨rfl, hb3⟩
                have HO3 := Lib.hid (own_below HOWN.out hb3)
                have HB3 := Lib.hid (below_next HB.out hb3)
                clear hb3
                have hsz3 : w.heap.size ≤ w3.heap.size := HB3.out.size
                go_wp2_with (first | (at_builtin; refine wpList_append_own _ rfl (.tmp 28) (.tmp 34) 24 rfl w.heap.size 34 i0 (.agg #[.int .i64 0, .int .i64 0]) 2 16 Tryd.underlying24 hi hz0 hz1 hz2 rfl (by decide) _ _ _ rfl (HO3.out.alloc _) ⟨w3.heap.size, 0, none⟩ 1 1 [.int .i64 1, .int .i64 ((m32 : Int) - 2147483648)] rfl rfl (World.news_of_block (cs := #[.int .i64 1, .int .i64 ((m32 : Int) - 2147483648)]) (t := 34) (fr := (0, 0)) (heap_alloc_new w3 _)) (by simp [Value.oneCell']) (by unfold maxLen; omega) (by omega) (by simp; omega) ?_; intro v1 w4 hown1 hgrow1 hnil1; have HO4 := Lib.hid hown1; have HB4 := Lib.hid ((HB3.out.alloc hsz3 _).grown hgrow1 (by simp; omega) (fun j hj => (HO3.out.lt j hj).1)); clear hown1 hgrow1 hnil1))
                go_roundw
                case rel =>
                  refine ⟨q + 1, D + 1, T ++ [(1, (m32 : Int) - 2147483648)], hlt, by go_num, by go_num, chk_more HCH.out (by unfold okTok; dsimp only; rw [if_pos ⟨rfl, HZ.out.1, HZ.out.2⟩]), by rw [List.length_append, ← HNT.out]; simp; omega, ?_, HB4.out⟩
                  rw [icells_snoc, List.length_append, ← HNT.out]; exact HO4.out
                case measure => simp [intOf]; omega
              · have hDi : ¬ (2 : Int) ≤ (D : Int) := by omega
                have hDd : decide ((2 : Int) ≤ (D : Int)) = false := by simp; omega
                have hmo : (((ka : Int) % 3) == 1) = false := by rw [beq_eq_false_iff_ne]; have := HBB.out; omega
                clear HNZ
                go_wp2_with fail
                refine (HPX.out _).mono ?_
                rintro e w1 ⟨rfl, rfl⟩
                go_wp2_with fail
                refine (numw_any _ _).mono ?_
                rintro e w3 ⟨rfl, hb3⟩
                have HO3 := Lib.hid (own_below HOWN.out hb3)
                have HB3 := Lib.hid (below_next HB.out hb3)
                clear hb3
                have hsz3 : w.heap.size ≤ w3.heap.size := HB3.out.size
                go_wp2_with (first | (at_builtin; refine wpList_append_own _ rfl (.tmp 28) (.tmp 34) 24 rfl w.heap.size 34 i0 (.agg #[.int .i64 0, .int .i64 0]) 2 16 Tryd.underlying24 hi hz0 hz1 hz2 rfl (by decide) _ _ _ rfl (HO3.out.alloc _) ⟨w3.heap.size, 0, none⟩ 1 1 [.int .i64 1, .int .i64 ((m32 : Int) - 2147483648)] rfl rfl (World.news_of_block (cs := #[.int .i64 1, .int .i64 ((m32 : Int) - 2147483648)]) (t := 34) (fr := (0, 0)) (heap_alloc_new w3 _)) (by simp [Value.oneCell']) (by unfold maxLen; omega) (by omega) (by simp; omega) ?_; intro v1 w4 hown1 hgrow1 hnil1; have HO4 := Lib.hid hown1; have HB4 := Lib.hid ((HB3.out.alloc hsz3 _).grown hgrow1 (by simp; omega) (fun j hj => (HO3.out.lt j hj).1)); clear hown1 hgrow1 hnil1))
                go_roundw
                case rel =>
                  refine ⟨q + 1, D + 1, T ++ [(1, (m32 : Int) - 2147483648)], hlt, by go_num, by go_num, chk_more HCH.out (by unfold okTok; dsimp only; rw [if_pos ⟨rfl, HZ.out.1, HZ.out.2⟩]), by rw [List.length_append, ← HNT.out]; simp; omega, ?_, HB4.out⟩
                  rw [icells_snoc, List.length_append, ← HNT.out]; exact HO4.out
                case measure => simp [intOf]; omega
      · have hrd : decide ((N : Int) + (D : Int) < 9) = false := by simp; omega
        have hri : ¬ (N : Int) + (D : Int) < 9 := by omega
        by_cases hD0 : D = 0
        · have hd0 : ((D : Int) == 0) = true := by rw [beq_iff_eq]; omega
          clear hD0 HCH HOWN
          go_wp2_with fail
          refine (numw_any _ _).mono ?_
          rintro e w3 ⟨rfl, hb3⟩
          have HB3 := Lib.hid (below_next HB.out hb3)
          clear hb3
          go_wp2_with fail
          go_ret
          exact ⟨_, [(1, 0)], _, rfl, tin_new w3 [(1, 0)] 34, by decide, below_next HB3.out ((Below.refl _ _).alloc (Nat.le_refl _) _)⟩
        · have hd0 : ((D : Int) == 0) = false := by rw [beq_eq_false_iff_ne]; omega
          have HX2 : Hid (∃ (D2 : Nat) (T2 : List (Int × Int)), D = D2 ∧ 1 ≤ D2 ∧ chkTo T2 T2.length = some D2 ∧ T2.length + D2 ≤ 10 ∧ wr.ownsRow w.heap.size 34 2 (.slice pa0 N pc0) T2.length (icells T2)) := Lib.hid ⟨D, T, rfl, by omega, HCH.out, by rw [← HNT.out]; omega, by rw [← HNT.out]; exact HOWN.out⟩
          clear hD0 HCH HOWN HNT
          go_wp2_with fail
          go_loopw [5, 6] (fun v d w2 => ∃ (D2 : Nat) (T2 : List (Int × Int)), d = .int .i64 D2 ∧ 1 ≤ D2 ∧ chkTo T2 T2.length = some D2 ∧ T2.length + D2 ≤ 10 ∧ w2.ownsRow w.heap.size 34 2 v T2.length (icells T2) ∧ Below w.heap.size w w2) (fun _ d _ => (intOf d).toNat)
          case atStart =>
            obtain ⟨D2, T2, rfl, h1, h2, h3, h4⟩ := HX2.out
            exact ⟨D, T2, rfl, h1, h2, h3, h4, HB.out⟩
          case round =>
            clear HX2 HB
            obtain ⟨D2, T2, rfl, h1D, hch, hTD2, hown, hbe⟩ := hrel
            have hsz := hbe.size
            obtain ⟨pa1, pc1, rfl⟩ := own_len hown
            have HOWN := Lib.hid hown
            have HB := Lib.hid hbe
            have HCH := Lib.hid hch
            clear hown hbe hch
            have HX : Hid (∃ N, N = T2.length) := Lib.hid ⟨_, rfl⟩
            obtain ⟨N2, hN2⟩ := HX.out
            rw [← hN2] at HOWN hTD2 ⊢
            have HNT := Lib.hid hN2
            clear hN2
            have hN10 : (N2 : Int) ≤ 10 := by omega
            have hD10 : (D2 : Int) ≤ 10 := by omega
            by_cases hlt2 : 1 < D2
            · have hqi : (1 : Int) < (D2 : Int) := by omega
              have hdk : decide ((1 : Int) < (D2 : Int)) = true := by simp; omega
              obtain ⟨m6, hm6⟩ : ∃ m : Nat, (N2 : Int) % 6 = (m : Int) := ⟨N2 % 6, by omega⟩
              have hl6 : (m6 : Int) < 6 := by omega
              go_wp2_with fail
              refine (opw_any _ _).mono ?_
              rintro e w3 ⟨rfl, hb3⟩
              have HO3 := Lib.hid (own_below HOWN.out hb3)
              have HB3 := Lib.hid (below_next HB.out hb3)
              clear hb3
              have hsz3 : w.heap.size ≤ w3.heap.size := HB3.out.size
              go_wp2_with (first | (at_builtin; refine wpList_append_own _ rfl (.tmp 75) (.tmp 81) 24 rfl w.heap.size 34 i0 (.agg #[.int .i64 0, .int .i64 0]) 2 16 Tryd.underlying24 hi hz0 hz1 hz2 rfl (by decide) _ _ _ rfl (HO3.out.alloc _) ⟨w3.heap.size, 0, none⟩ 1 1 [.int .i64 3, .int .i64 (1 + (m6 : Int))] rfl rfl (World.news_of_block (cs := #[.int .i64 3, .int .i64 (1 + (m6 : Int))]) (t := 34) (fr := (0, 0)) (heap_alloc_new w3 _)) (by simp [Value.oneCell']) (by unfold maxLen; omega) (by omega) (by simp; omega) ?_; intro v1 w4 hown1 hgrow1 hnil1; have HO4 := Lib.hid hown1; have HB4 := Lib.hid ((HB3.out.alloc hsz3 _).grown hgrow1 (by simp; omega) (fun j hj => (HO3.out.lt j hj).1)); clear hown1 hgrow1 hnil1))
              go_roundw
              case rel =>
                refine ⟨D2 - 1, T2 ++ [(3, 1 + (m6 : Int))], by congr 1; omega, by omega, chk_more HCH.out (by unfold okTok; dsimp only; rw [if_neg (by omega), if_neg (by omega), if_pos (by omega)]), by rw [List.length_append, ← HNT.out]; simp; omega, ?_, HB4.out⟩
                rw [icells_snoc, List.length_append, ← HNT.out]; exact HO4.out
              case measure => simp [intOf]; omega
            · have hqi : ¬ (1 : Int) < (D2 : Int) := by omega
              have hdk : decide ((1 : Int) < (D2 : Int)) = false := by simp; omega
              have HCK : Hid (checkB T2 = true) := Lib.hid (by
                have h2 := HCH.out
                have h3 := HNT.out
                have e : D2 = 1 := by omega
                rw [e] at h2
                unfold checkB
                rw [h2]
                simp
                omega)
              go_wp2_with fail
              go_ret
              refine ⟨pa1, T2, ⟨pc1, ?_⟩, tin_own (by rw [← HNT.out]; exact HOWN.out), HCK.out, HB.out⟩
              rw [← HNT.out]
              rfl
    · have hdk : decide ((q : Int) < (R.length : Int)) = false := by simp; omega
      have hqi : ¬ (q : Int) < (R.length : Int) := by omega
      by_cases hD0 : D = 0
      · have hd0 : ((D : Int) == 0) = true := by rw [beq_iff_eq]; omega
        clear hD0 HCH HOWN
        go_wp2_with fail
        refine (numw_any _ _).mono ?_
        rintro e w3 ⟨rfl, hb3⟩
        have HB3 := Lib.hid (below_next HB.out hb3)
        clear hb3
        go_wp2_with fail
        go_ret
        exact ⟨_, [(1, 0)], _, rfl, tin_new w3 [(1, 0)] 34, by decide, below_next HB3.out ((Below.refl _ _).alloc (Nat.le_refl _) _)⟩
      · have hd0 : ((D : Int) == 0) = false := by rw [beq_eq_false_iff_ne]; omega
        have HX2 : Hid (∃ (D2 : Nat) (T2 : List (Int × Int)), D = D2 ∧ 1 ≤ D2 ∧ chkTo T2 T2.length = some D2 ∧ T2.length + D2 ≤ 10 ∧ wr.ownsRow w.heap.size 34 2 (.slice pa0 N pc0) T2.length (icells T2)) := Lib.hid ⟨D, T, rfl, by omega, HCH.out, by rw [← HNT.out]; omega, by rw [← HNT.out]; exact HOWN.out⟩
        clear hD0 HCH HOWN HNT
        go_wp2_with fail
        go_loopw [5, 6] (fun v d w2 => ∃ (D2 : Nat) (T2 : List (Int × Int)), d = .int .i64 D2 ∧ 1 ≤ D2 ∧ chkTo T2 T2.length = some D2 ∧ T2.length + D2 ≤ 10 ∧ w2.ownsRow w.heap.size 34 2 v T2.length (icells T2) ∧ Below w.heap.size w w2) (fun _ d _ => (intOf d).toNat)
        case atStart =>
          obtain ⟨D2, T2, rfl, h1, h2, h3, h4⟩ := HX2.out
          exact ⟨D, T2, rfl, h1, h2, h3, h4, HB.out⟩
        case round =>
          clear HX2 HB
          obtain ⟨D2, T2, rfl, h1D, hch, hTD2, hown, hbe⟩ := hrel
          have hsz := hbe.size
          obtain ⟨pa1, pc1, rfl⟩ := own_len hown
          have HOWN := Lib.hid hown
          have HB := Lib.hid hbe
          have HCH := Lib.hid hch
          clear hown hbe hch
          have HX : Hid (∃ N, N = T2.length) := Lib.hid ⟨_, rfl⟩
          obtain ⟨N2, hN2⟩ := HX.out
          rw [← hN2] at HOWN hTD2 ⊢
          have HNT := Lib.hid hN2
          clear hN2
          have hN10 : (N2 : Int) ≤ 10 := by omega
          have hD10 : (D2 : Int) ≤ 10 := by omega
          by_cases hlt2 : 1 < D2
          · have hqi : (1 : Int) < (D2 : Int) := by omega
            have hdk : decide ((1 : Int) < (D2 : Int)) = true := by simp; omega
            obtain ⟨m6, hm6⟩ : ∃ m : Nat, (N2 : Int) % 6 = (m : Int) := ⟨N2 % 6, by omega⟩
            have hl6 : (m6 : Int) < 6 := by omega
            go_wp2_with fail
            refine (opw_any _ _).mono ?_
            rintro e w3 ⟨rfl, hb3⟩
            have HO3 := Lib.hid (own_below HOWN.out hb3)
            have HB3 := Lib.hid (below_next HB.out hb3)
            clear hb3
            have hsz3 : w.heap.size ≤ w3.heap.size := HB3.out.size
            go_wp2_with (first | (at_builtin; refine wpList_append_own _ rfl (.tmp 75) (.tmp 81) 24 rfl w.heap.size 34 i0 (.agg #[.int .i64 0, .int .i64 0]) 2 16 Tryd.underlying24 hi hz0 hz1 hz2 rfl (by decide) _ _ _ rfl (HO3.out.alloc _) ⟨w3.heap.size, 0, none⟩ 1 1 [.int .i64 3, .int .i64 (1 + (m6 : Int))] rfl rfl (World.news_of_block (cs := #[.int .i64 3, .int .i64 (1 + (m6 : Int))]) (t := 34) (fr := (0, 0)) (heap_alloc_new w3 _)) (by simp [Value.oneCell']) (by unfold maxLen; omega) (by omega) (by simp; omega) ?_; intro v1 w4 hown1 hgrow1 hnil1; have HO4 := Lib.hid hown1; have HB4 := Lib.hid ((HB3.out.alloc hsz3 _).grown hgrow1 (by simp; omega) (fun j hj => (HO3.out.lt j hj).1)); clear hown1 hgrow1 hnil1))
            go_roundw
            case rel =>
              refine ⟨D2 - 1, T2 ++ [(3, 1 + (m6 : Int))], by congr 1; omega, by omega, chk_more HCH.out (by unfold okTok; dsimp only; rw [if_neg (by omega), if_neg (by omega), if_pos (by omega)]), by rw [List.length_append, ← HNT.out]; simp; omega, ?_, HB4.out⟩
              rw [icells_snoc, List.length_append, ← HNT.out]; exact HO4.out
            case measure => simp [intOf]; omega
          · have hqi : ¬ (1 : Int) < (D2 : Int) := by omega
            have hdk : decide ((1 : Int) < (D2 : Int)) = false := by simp; omega
            have HCK : Hid (checkB T2 = true) := Lib.hid (by
              have h2 := HCH.out
              have h3 := HNT.out
              have e : D2 = 1 := by omega
              rw [e] at h2
              unfold checkB
              rw [h2]
              simp
              omega)
            go_wp2_with fail
            go_ret
            refine ⟨pa1, T2, ⟨pc1, ?_⟩, tin_own (by rw [← HNT.out]; exact HOWN.out), HCK.out, HB.out⟩
            rw [← HNT.out]
            rfl
end Go.Proofs.YtcmjmojbocmcgaaDoor
