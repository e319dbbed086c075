import Derived.Test.YtcmjmojbocmcgaaDoorO
import Derived.OwnWalk
import Derived.Laws.AppendOwn
import Derived.Deep.AppendLies
namespace Go.Proofs.YtcmjmojbocmcgaaDoor
open Go.RowKit ExprA
set_option maxRecDepth 100000 in
set_option maxHeartbeats 16000000 in
theorem deep_any (n : Int) (a : Option Addr) (R : List Int) (c : Nat) (w : World) (h : LibIn w) (hN : NIn w a R) (hR : In64s R) :
    Calls Tryd.prog 6 #[.int .i64 n, .slice a R.length c] w fun e w' => e = .returned (.bool true) ∧ Below w.heap.size w w' := by
  have HL := Lib.hid h
  have HN := Lib.hid hN
  have HR := Lib.hid hR
  clear h hN hR
  obtain ⟨i0, hi, hz0, hz1, hz2⟩ := info_parts info34
  have hk0 := Int.emod_nonneg n (show (5 : Int) ≠ 0 by decide)
  have hk5 := Int.emod_lt_of_pos n (show (0 : Int) < 5 by decide)
  have HP := Lib.hid (fun w => place_any n 5 w (by decide) (by decide))
  rw [show ((5 : Nat) : Int) = 5 from rfl] at HP
  obtain ⟨m, hm⟩ : ∃ m : Nat, n % 5 = (m : Int) := ⟨(n % 5).toNat, by omega⟩
  rw [hm] at HP hk0 hk5
  clear hm
  obtain ⟨k, hk⟩ : ∃ k : Nat, k = 1 + m := ⟨_, rfl⟩
  have hki : (1 : Int) + (m : Int) = (k : Int) := by omega
  have hk1 : 1 ≤ k := by omega
  have hkl : k ≤ 5 := by omega
  have HOK := Lib.hid (deep_ok k hk1 hkl)
  have HEV := Lib.hid (deep_eval k hk1 hkl R HR.out)
  have HRG := Lib.hid (deep_regs k hk1 hkl)
  have HSO := Lib.hid (deep_sort k hk1 hkl)
  have HCO := Lib.hid (deep_compact k hk1 hkl)
  clear hk
  go_enter Tryd.func6, Tryd.ntmps6
  go_wp2_with fail
  refine (HP.out _).mono ?_
  rintro e w1 ⟨rfl, rfl⟩
  go_wp2_with fail
  go_loopw [6, 7, 8] (fun v s x wr => ∃ q : Nat, q ≤ k ∧ x = .int .i64 q ∧ s = .int .i64 (deepS R q) ∧ wr.ownsRow w.heap.size 34 2 v q (icells (deepT q)) ∧ Below w.heap.size w wr) (fun _ _ x _ => k - (intOf x).toNat)
  case atStart => exact ⟨0, Nat.zero_le _, rfl, rfl, ⟨rfl, .inl ⟨rfl, rfl⟩⟩, Below.refl _ _⟩
  case round =>
    obtain ⟨q, hq, rfl, rfl, hown, hbe⟩ := hrel
    have hsz := hbe.size
    obtain ⟨pa0, pc0, rfl⟩ := own_len hown
    have HOWN := Lib.hid hown
    have HB := Lib.hid hbe
    clear hown hbe
    have hq5 : (q : Int) ≤ 5 := by omega
    by_cases hlt : q < k
    · have hqi : (q : Int) < (k : Int) := by omega
      have hdk : decide ((q : Int) < (k : Int)) = true := by simp; omega
      have HDT := Lib.hid (deepT_succ q)
      have HDS := Lib.hid (deepS_succ R q)
      by_cases hlr : q < R.length
      · have hlri : (q : Int) < (R.length : Int) := by omega
        have hlrd : decide ((q : Int) < (R.length : Int)) = true := by simp; omega
        rcases HN.out with h0 | ⟨b, o, rfl, hbl, hcc⟩
        · rw [h0] at hlr; simp at hlr
        · have HCQ : Hid (∀ w', Below w.heap.size w w' → w'.cell? ⟨b, o + q, none⟩ = some (.int .i64 (R.getD q 0))) := Lib.hid (fun w' hb => (hb.cell (p := ⟨b, o + q, none⟩) hbl).trans (hcc q hlr))
          clear hcc
          generalize R.getD q 0 = rq at *
          generalize hsq : deepS R q = sq at *
          go_wp2_with (first | (at_builtin; refine wpList_append_own _ rfl (.tmp 19) (.tmp 22) 24 rfl w.heap.size 34 i0 (.agg #[.int .i64 0, .int .i64 0]) 2 16 Tryd.underlying24 hi hz0 hz1 hz2 rfl (by decide) _ _ _ rfl (HOWN.out.alloc _) ⟨wr.heap.size, 0, none⟩ 1 1 [.int .i64 2, .int .i64 (q : Int)] rfl rfl (World.news_of_block (cs := #[.int .i64 2, .int .i64 (q : Int)]) (t := 34) (fr := (0, 0)) (heap_alloc_new wr _)) (by simp [Value.oneCell']) (by unfold maxLen; omega) (by omega) (by simp; omega) ?_; intro v1 w4 hown1 hgrow1 hnil1; have HO4 := Lib.hid hown1; have HB4 := Lib.hid ((HB.out.alloc hsz _).grown hgrow1 (by simp; omega) (fun j hj => (HOWN.out.lt j hj).1)); clear hown1 hgrow1 hnil1; have hcq := HCQ.out _ HB4.out))
          go_roundw
          case rel =>
            refine ⟨q + 1, hlt, by go_num, ?_, ?_, HB4.out⟩
            · rw [HDS.out, ← wrapEq]
            · rw [HDT.out, icells_app]; exact HO4.out
          case measure => simp [intOf]; omega
      · have hlri : ¬ (q : Int) < (R.length : Int) := by omega
        have hlrd : decide ((q : Int) < (R.length : Int)) = false := by simp; omega
        have HDS2 : Hid (deepS R (q + 1) = deepS R q) := Lib.hid (if_neg hlr)
        generalize hsq : deepS R q = sq at *
        go_wp2_with (first | (at_builtin; refine wpList_append_own _ rfl (.tmp 19) (.tmp 22) 24 rfl w.heap.size 34 i0 (.agg #[.int .i64 0, .int .i64 0]) 2 16 Tryd.underlying24 hi hz0 hz1 hz2 rfl (by decide) _ _ _ rfl (HOWN.out.alloc _) ⟨wr.heap.size, 0, none⟩ 1 1 [.int .i64 2, .int .i64 (q : Int)] rfl rfl (World.news_of_block (cs := #[.int .i64 2, .int .i64 (q : Int)]) (t := 34) (fr := (0, 0)) (heap_alloc_new wr _)) (by simp [Value.oneCell']) (by unfold maxLen; omega) (by omega) (by simp; omega) ?_; intro v1 w4 hown1 hgrow1 hnil1; have HO4 := Lib.hid hown1; have HB4 := Lib.hid ((HB.out.alloc hsz _).grown hgrow1 (by simp; omega) (fun j hj => (HOWN.out.lt j hj).1)); clear hown1 hgrow1 hnil1))
        go_roundw
        case rel =>
          refine ⟨q + 1, hlt, by go_num, ?_, ?_, HB4.out⟩
          · rw [HDS2.out]
          · rw [HDT.out, icells_app]; exact HO4.out
        case measure => simp [intOf]; omega
    · have hdk : decide ((q : Int) < (k : Int)) = false := by simp; omega
      have e : q = k := by omega
      subst e
      have HOWN0 : Hid (wr.ownsRow w.heap.size 34 2 (.slice pa0 q pc0) q (icells (deepO q 0))) := Lib.hid (by
        have h1 := HOWN.out
        have e0 : deepO q 0 = deepT q := by unfold deepO; simp
        rw [e0]; exact h1)
      have HB0 := HB
      clear HOWN HB hdk
      go_wp2_with fail
      go_loopw [6, 9] (fun v x w2 => ∃ p : Nat, p + 1 ≤ q ∧ x = .int .i64 (p + 1) ∧ w2.ownsRow w.heap.size 34 2 v (q + p) (icells (deepO q p)) ∧ Below w.heap.size w w2) (fun _ x _ => q - (intOf x).toNat)
      case atStart => exact ⟨0, by omega, rfl, HOWN0.out, HB0.out⟩
      case round =>
        obtain ⟨p, hp, rfl, hown, hbe⟩ := hrel
        clear HOWN0 HB0
        have hsz := hbe.size
        obtain ⟨pa1, pc1, rfl⟩ := own_len hown
        have HOWN := Lib.hid hown
        have HB := Lib.hid hbe
        clear hown hbe
        by_cases hlt : p + 1 < q
        · have hqi : (p : Int) + 1 < (q : Int) := by omega
          have hdk : decide ((p : Int) + 1 < (q : Int)) = true := by simp; omega
          have HDT := Lib.hid (deepO_succ q p)
          go_wp2_with (first | (at_builtin; refine wpList_append_own _ rfl (.tmp 39) (.tmp 41) 24 rfl w.heap.size 34 i0 (.agg #[.int .i64 0, .int .i64 0]) 2 16 Tryd.underlying24 hi hz0 hz1 hz2 rfl (by decide) _ _ _ rfl (HOWN.out.alloc _) ⟨wr.heap.size, 0, none⟩ 1 1 [.int .i64 3, .int .i64 1] rfl rfl (World.news_of_block (cs := #[.int .i64 3, .int .i64 1]) (t := 34) (fr := (0, 0)) (heap_alloc_new wr _)) (by simp [Value.oneCell']) (by unfold maxLen; omega) (by omega) (by simp; omega) ?_; intro v1 w4 hown1 hgrow1 hnil1; have HO4 := Lib.hid hown1; have HB4 := Lib.hid ((HB.out.alloc hsz _).grown hgrow1 (by simp; omega) (fun j hj => (HOWN.out.lt j hj).1)); clear hown1 hgrow1 hnil1))
          go_roundw
          case rel =>
            refine ⟨p + 1, by omega, by go_num, ?_, HB4.out⟩
            rw [HDT.out, icells_app]; exact HO4.out
          case measure => simp [intOf]; omega
        · have hqi : ¬ (p : Int) + 1 < (q : Int) := by omega
          have hdk : decide ((p : Int) + 1 < (q : Int)) = false := by simp; omega
          have ep : p = q - 1 := by omega
          have HT : Hid (checkB (deepO q p) = true ∧ evalB (deepO q p) R = deepS R q ∧ regsTo (deepO q p) (deepO q p).length = deepR q ∧ (deepO q p).length = q + p) := Lib.hid (by
            rw [ep]; exact ⟨HOK.out, HEV.out, HRG.out, deepO_len _ _⟩)
          clear HOK HEV HRG
          generalize deepO q p = T at *
          have HX : Hid (∃ N, N = q + p ∧ T.length = N) := Lib.hid ⟨_, rfl, HT.out.2.2.2⟩
          obtain ⟨N, hNq, hTN⟩ := HX.out
          rw [← hNq] at HOWN
          rw [← hNq]
          subst hTN
          have HTI := Lib.hid (tin_own HOWN.out)
          have HRGS : Hid (Calls Tryd.prog 17 #[.slice pa1 T.length pc1] wr fun e w' => ∃ g, e = .returned (.slice (some ⟨g, 0, none⟩) q q) ∧ NIn w' (some ⟨g, 0, none⟩) (deepR q) ∧ Below wr.heap.size wr w') := Lib.hid (by
            have h1 := regs_any pa1 T pc1 wr HTI.out (by omega) (by rw [HT.out.2.2.1]; intro h; have := deepR_len q; rw [h] at this; simp at this; omega) (by rw [HT.out.2.2.1]; exact HSO.out) (by rw [HT.out.2.2.1]; exact HCO.out)
            rw [HT.out.2.2.1, deepR_len] at h1
            exact h1)
          have hq0 : (0 : Int) ≤ (q : Int) - 1 := by omega
          have hqq : (q : Int) - 1 < (q : Int) := by omega
          have htn : ((q : Int) - 1).toNat = q - 1 := by omega
          clear hNq HOWN HSO HCO hki
          go_wp2_with fail
          refine HRGS.out.mono ?_
          rintro e w5 ⟨g, rfl, hn5, hb5⟩
          have HN5 := Lib.hid hn5
          have HB5 := Lib.hid (below_next HB.out hb5)
          have HTI5 := Lib.hid (HTI.out.next hb5)
          clear hn5 hb5 HRGS
          go_wp2_with fail
          refine (check_any pa1 T pc1 w5 HTI5.out).mono ?_
          rw [HT.out.1]
          rintro e w6 ⟨rfl, hb6⟩
          have HB6 := Lib.hid (below_next HB5.out hb6)
          have HTI6 := Lib.hid (HTI5.out.next hb6)
          have HN6 := Lib.hid (HN5.out.next hb6)
          clear hb6
          go_wp2_with fail
          refine (eval_any pa1 T pc1 a R c w6 HTI6.out (HN.out.next HB6.out)).mono ?_
          rw [HT.out.2.1]
          rintro e w7 ⟨rfl, hb7⟩
          have HB7 := Lib.hid (below_next HB6.out hb7)
          have hcl : w7.cell? ⟨g, q - 1, none⟩ = some (.int .i64 ((q : Int) - 1)) := by
            rcases HN6.out.next hb7 with h0 | ⟨b, o, e, _, hcc⟩
            · have := deepR_len q; rw [h0] at this; simp at this; omega
            · simp only [Option.some.injEq, Addr.mk.injEq, and_true] at e
              obtain ⟨rfl, rfl⟩ := e
              have h1 := hcc (q - 1) (by rw [deepR_len]; omega)
              rw [deepR_last q (by omega), Nat.zero_add] at h1
              rw [h1]
              congr 2; omega
          clear hb7
          generalize deepS R q = sq at *
          go_wp2_with fail
          refine (awake_any _ (HL.out.next HB7.out)).mono ?_
          rintro e w8 ⟨rfl, hb8⟩
          go_wp2_with fail
          go_ret
          exact ⟨rfl, below_next HB7.out hb8⟩
end Go.Proofs.YtcmjmojbocmcgaaDoor
