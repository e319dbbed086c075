import Derived.Test.YtepkjnpbdjmlbaaDoorAllN
import Derived.Test.YtepkjnpbdjmlbaaDoorLinesW
import Derived.Deep.RegionWith
import Derived.Deep.DrawnRows
namespace Go.Proofs.YtepkjnpbdjmlbaaDoor
open Go.RowKit RelA
attribute [local irreducible] RelA.rcells
set_option maxRecDepth 100000 in
set_option maxHeartbeats 4000000 in
theorem all_big (n m : Int) (a1 : Option Addr) (l1 c1 : Nat) (a2 : Option Addr) (l2 c2 : Nat) (w : World) (ht : Tab w) (hb : 200 < l1 ∨ 200 < l2) :
    Calls Tryd.prog 3 #[.int .i64 n, .int .i64 m, .slice a1 l1 c1, .slice a2 l2 c2] w fun e w' => e = .returned (.bool true) ∧ Below w.heap.size w w' := by
  have HA := Lib.hid (awake_any w ht)
  clear ht
  have hd : decide ((200 : Int) < (l1 : Int)) = true ∨ (decide ((200 : Int) < (l1 : Int)) = false ∧ decide ((200 : Int) < (l2 : Int)) = true) := by
    by_cases h : 200 < l1
    · left; simp; omega
    · right; simp; omega
  clear hb
  rcases hd with hd1 | ⟨hd1, hd2⟩
  all_goals
    go_enter Tryd.func3, Tryd.ntmps3
    go_wp2_with fail
    refine HA.out.mono ?_
    rintro e w1 ⟨rfl, hbe⟩
    go_wp2_with fail
    go_ret
    exact ⟨rfl, hbe⟩

section
attribute [local go_sem ↓] Go.wp_at_zero Go.wp_at_succ
set_option maxRecDepth 100000 in
set_option maxHeartbeats 40000000 in
theorem all_small (n m : Int) (a1 : Option Addr) (L1 : List (Int × Int)) (c1 : Nat) (a2 : Option Addr) (L2 : List (Int × Int)) (c2 : Nat) (w : World) (ht : Tab w) (hl1 : L1.length ≤ 200) (hl2 : L2.length ≤ 200) (h1 : PIn w a1 L1 c1) (h2 : PIn w a2 L2 c2) :
    Calls Tryd.prog 3 #[.int .i64 n, .int .i64 m, .slice a1 L1.length c1, .slice a2 L2.length c2] w fun e w' => e = .returned (.bool true) ∧ Below w.heap.size w w' := by
  have HT := Lib.hid ht
  have HI1 := Lib.hid h1
  have HI2 := Lib.hid h2
  have hd1 : decide ((200 : Int) < (L1.length : Int)) = false := by simp; omega
  have hd2 : decide ((200 : Int) < (L2.length : Int)) = false := by simp; omega
  have hK := clampN_le n
  have hJ := clampN_le m
  have hN : max (clampN n) (clampN m) ≤ 40 := by omega
  have HR := Lib.hid (newR_lt40 (clampN n) L1 hK)
  have HS := Lib.hid (newR_lt40 (clampN m) L2 hJ)
  have LR := Lib.hid (lk_new (clampN n) L1)
  have LS := Lib.hid (lk_new (clampN m) L2)
  have WR := Lib.hid (wf_new (clampN n) L1)
  have WS := Lib.hid (wf_new (clampN m) L2)
  have G1 := Lib.hid (fun base v w h => new_ownI n base v L1 w h)
  have G2 := Lib.hid (fun base v w h => new_ownI m base v L2 w h)
  have G3 := Lib.hid (fun w h => rnew_in n a1 L1 c1 w hl1 h)
  have G4 := Lib.hid (fun w h => rnew_in m a2 L2 c2 w hl2 h)
  clear ht h1 h2
  generalize clampN n = K at *
  generalize clampN m = J at *
  generalize newR K L1 = R at *
  generalize newR J L2 = S at *
  generalize rnewM K L1 = M at *
  generalize rnewM J L2 = T at *
  go_enter Tryd.func3, Tryd.ntmps3
  go_wp2_with ((with_reducible refine wpList_copy_pairs rfl _ rfl a1 L1 c1 rfl HI1.out hl1 ?_); intro v1 w1 hown hbe; have HO1 := Lib.hid hown; have HB1 := Lib.hid hbe; clear hown hbe)
  refine (G1.out _ _ w1 HO1.out).mono ?_
  rintro e w2 ⟨rfl, hat, hbe⟩
  have Hr2 := Lib.hid hat
  have HB2 := Lib.hid (below_next HB1.out hbe)
  clear hat hbe HO1 HB1
  go_wp2_with ((with_reducible refine wpList_copy_pairs rfl _ rfl a2 L2 c2 rfl (HI2.out.next HB2.out) hl2 ?_); intro v3 w3 hown hbe; have HO3 := Lib.hid hown; have Hr3 := Lib.hid (Hr2.out.next hbe); have HB3 := Lib.hid (below_next HB2.out hbe); clear hown hbe)
  refine (G2.out _ _ w3 HO3.out).mono ?_
  rintro e w4 ⟨rfl, hat, hbe⟩
  have Hr4 := Lib.hid (Hr3.out.next hbe)
  have Hs4 := Lib.hid hat
  have HB4 := Lib.hid (below_next HB3.out hbe)
  clear hat hbe HO3 HB3 Hr3 Hr2 HB2
  go_wp2_with fail
  refine (G3.out w4 (HI1.out.next HB4.out)).mono ?_
  rintro e w5 ⟨rfl, hat, hbe⟩
  have Hr5 := Lib.hid (Hr4.out.next hbe)
  have Hs5 := Lib.hid (Hs4.out.next hbe)
  have Hw5 := Lib.hid hat
  have HB5 := Lib.hid (below_next HB4.out hbe)
  clear hat hbe Hr4 Hs4 HB4
  go_wp2_with fail
  refine (G4.out w5 (HI2.out.next HB5.out)).mono ?_
  rintro e w6 ⟨rfl, hat, hbe⟩
  have Hr_w6 := Lib.hid (Hr5.out.next hbe)
  have Hs_w6 := Lib.hid (Hs5.out.next hbe)
  have Hw_w6 := Lib.hid (Hw5.out.next hbe)
  have Hx_w6 := Lib.hid hat
  have HB_w6 := Lib.hid (below_next HB5.out hbe)
  have HT_w6 := Lib.hid (HT.out.next HB_w6.out)
  clear hat hbe Hr5 Hs5 Hw5 HB5 HT G1 G2 G3 G4 HI2
  go_wp2_with fail
  refine (same_any _ _ K _ _ w6 Hr_w6.out Hw_w6.out hK HR.out HT_w6.out (pairs_eq hK LR.out WR.out)).mono ?_
  rintro e w7 ⟨rfl, hbe⟩
  have Hr_w7 := Lib.hid (Hr_w6.out.next hbe)
  have Hs_w7 := Lib.hid (Hs_w6.out.next hbe)
  have Hw_w7 := Lib.hid (Hw_w6.out.next hbe)
  have Hx_w7 := Lib.hid (Hx_w6.out.next hbe)
  have HB_w7 := Lib.hid (below_next HB_w6.out hbe)
  have HT_w7 := Lib.hid (HT_w6.out.next hbe)
  clear Hr_w6 Hs_w6 Hw_w6 Hx_w6 HB_w6 HT_w6
  clear hbe
  go_wp2_with fail
  refine (same_any _ _ J _ _ w7 Hs_w7.out Hx_w7.out hJ HS.out HT_w7.out (pairs_eq hJ LS.out WS.out)).mono ?_
  rintro e w8 ⟨rfl, hbe⟩
  have Hr_w8 := Lib.hid (Hr_w7.out.next hbe)
  have Hs_w8 := Lib.hid (Hs_w7.out.next hbe)
  have Hw_w8 := Lib.hid (Hw_w7.out.next hbe)
  have Hx_w8 := Lib.hid (Hx_w7.out.next hbe)
  have HB_w8 := Lib.hid (below_next HB_w7.out hbe)
  have HT_w8 := Lib.hid (HT_w7.out.next hbe)
  clear Hr_w7 Hs_w7 Hw_w7 Hx_w7 HB_w7 HT_w7
  clear hbe
  go_wp2_with fail
  refine (or_any _ K _ J R S w8 Hr_w8.out Hs_w8.out HR.out HS.out).mono ?_
  rintro e w9 ⟨rfl, hat, hbe⟩
  have Hr_w9 := Lib.hid (Hr_w8.out.next hbe)
  have Hs_w9 := Lib.hid (Hs_w8.out.next hbe)
  have Hw_w9 := Lib.hid (Hw_w8.out.next hbe)
  have Hx_w9 := Lib.hid (Hx_w8.out.next hbe)
  have HB_w9 := Lib.hid (below_next HB_w8.out hbe)
  have HT_w9 := Lib.hid (HT_w8.out.next hbe)
  clear Hr_w8 Hs_w8 Hw_w8 Hx_w8 HB_w8 HT_w8
  have Ha_w9 : Hid (At w9 _ (max K J) (fun i => R i ||| S i)) := hat
  clear hat hbe
  go_wp2_with fail
  refine (ror_any _ K _ J M T w9 Hw_w9.out Hx_w9.out hK hJ).mono ?_
  rintro e w10 ⟨rfl, hat, hbe⟩
  have Hr_w10 := Lib.hid (Hr_w9.out.next hbe)
  have Hs_w10 := Lib.hid (Hs_w9.out.next hbe)
  have Hw_w10 := Lib.hid (Hw_w9.out.next hbe)
  have Hx_w10 := Lib.hid (Hx_w9.out.next hbe)
  have Ha_w10 := Lib.hid (Ha_w9.out.next hbe)
  have HB_w10 := Lib.hid (below_next HB_w9.out hbe)
  have HT_w10 := Lib.hid (HT_w9.out.next hbe)
  clear Hr_w9 Hs_w9 Hw_w9 Hx_w9 Ha_w9 HB_w9 HT_w9
  have Hb_w10 : Hid (RAt w10 _ (max K J) (rfull (max K J) fun i j => M i j || T i j)) := hat
  clear hat hbe
  go_wp2_with fail
  refine (same_any _ _ (max K J) _ _ w10 Ha_w10.out Hb_w10.out hN (fun i => or_lt40 (HR.out i) (HS.out i)) HT_w10.out (pairs_eq hN (lk_or LR.out LS.out WR.out WS.out) (wf_full _ _))).mono ?_
  rintro e w11 ⟨rfl, hbe⟩
  have Hr_w11 := Lib.hid (Hr_w10.out.next hbe)
  have Hs_w11 := Lib.hid (Hs_w10.out.next hbe)
  have Hw_w11 := Lib.hid (Hw_w10.out.next hbe)
  have Hx_w11 := Lib.hid (Hx_w10.out.next hbe)
  have Ha_w11 := Lib.hid (Ha_w10.out.next hbe)
  have Hb_w11 := Lib.hid (Hb_w10.out.next hbe)
  have HB_w11 := Lib.hid (below_next HB_w10.out hbe)
  have HT_w11 := Lib.hid (HT_w10.out.next hbe)
  clear Hr_w10 Hs_w10 Hw_w10 Hx_w10 Ha_w10 Hb_w10 HB_w10 HT_w10
  clear hbe
  go_wp2_with fail
  clear Ha_w11 Hb_w11
  refine (and_any _ K _ J R S w11 Hr_w11.out Hs_w11.out HR.out HS.out).mono ?_
  rintro e w12 ⟨rfl, hat, hbe⟩
  have Hr_w12 := Lib.hid (Hr_w11.out.next hbe)
  have Hs_w12 := Lib.hid (Hs_w11.out.next hbe)
  have Hw_w12 := Lib.hid (Hw_w11.out.next hbe)
  have Hx_w12 := Lib.hid (Hx_w11.out.next hbe)
  have HB_w12 := Lib.hid (below_next HB_w11.out hbe)
  have HT_w12 := Lib.hid (HT_w11.out.next hbe)
  clear Hr_w11 Hs_w11 Hw_w11 Hx_w11 HB_w11 HT_w11
  have Ha_w12 : Hid (At w12 _ (max K J) (fun i => R i &&& S i)) := hat
  clear hat hbe
  go_wp2_with fail
  refine (rand_any _ K _ J M T w12 Hw_w12.out Hx_w12.out hK hJ).mono ?_
  rintro e w13 ⟨rfl, hat, hbe⟩
  have Hr_w13 := Lib.hid (Hr_w12.out.next hbe)
  have Hs_w13 := Lib.hid (Hs_w12.out.next hbe)
  have Hw_w13 := Lib.hid (Hw_w12.out.next hbe)
  have Hx_w13 := Lib.hid (Hx_w12.out.next hbe)
  have Ha_w13 := Lib.hid (Ha_w12.out.next hbe)
  have HB_w13 := Lib.hid (below_next HB_w12.out hbe)
  have HT_w13 := Lib.hid (HT_w12.out.next hbe)
  clear Hr_w12 Hs_w12 Hw_w12 Hx_w12 Ha_w12 HB_w12 HT_w12
  have Hb_w13 : Hid (RAt w13 _ (max K J) (rfull (max K J) fun i j => M i j && T i j)) := hat
  clear hat hbe
  go_wp2_with fail
  refine (same_any _ _ (max K J) _ _ w13 Ha_w13.out Hb_w13.out hN (fun i => and_lt40 (HS.out i)) HT_w13.out (pairs_eq hN (lk_and LR.out LS.out WR.out) (wf_full _ _))).mono ?_
  rintro e w14 ⟨rfl, hbe⟩
  have Hr_w14 := Lib.hid (Hr_w13.out.next hbe)
  have Hs_w14 := Lib.hid (Hs_w13.out.next hbe)
  have Hw_w14 := Lib.hid (Hw_w13.out.next hbe)
  have Hx_w14 := Lib.hid (Hx_w13.out.next hbe)
  have Ha_w14 := Lib.hid (Ha_w13.out.next hbe)
  have Hb_w14 := Lib.hid (Hb_w13.out.next hbe)
  have HB_w14 := Lib.hid (below_next HB_w13.out hbe)
  have HT_w14 := Lib.hid (HT_w13.out.next hbe)
  clear Hr_w13 Hs_w13 Hw_w13 Hx_w13 Ha_w13 Hb_w13 HB_w13 HT_w13
  clear hbe
  go_wp2_with fail
  clear Ha_w14 Hb_w14
  refine (less_any _ K _ J R S w14 Hr_w14.out Hs_w14.out HR.out HS.out).mono ?_
  rintro e w15 ⟨rfl, hat, hbe⟩
  have Hr_w15 := Lib.hid (Hr_w14.out.next hbe)
  have Hs_w15 := Lib.hid (Hs_w14.out.next hbe)
  have Hw_w15 := Lib.hid (Hw_w14.out.next hbe)
  have Hx_w15 := Lib.hid (Hx_w14.out.next hbe)
  have HB_w15 := Lib.hid (below_next HB_w14.out hbe)
  have HT_w15 := Lib.hid (HT_w14.out.next hbe)
  clear Hr_w14 Hs_w14 Hw_w14 Hx_w14 HB_w14 HT_w14
  have Ha_w15 : Hid (At w15 _ (max K J) (fun i => R i ^^^ (R i &&& S i))) := hat
  clear hat hbe
  go_wp2_with fail
  refine (rless_any _ K _ J M T w15 Hw_w15.out Hx_w15.out hK hJ).mono ?_
  rintro e w16 ⟨rfl, hat, hbe⟩
  have Hr_w16 := Lib.hid (Hr_w15.out.next hbe)
  have Hs_w16 := Lib.hid (Hs_w15.out.next hbe)
  have Hw_w16 := Lib.hid (Hw_w15.out.next hbe)
  have Hx_w16 := Lib.hid (Hx_w15.out.next hbe)
  have Ha_w16 := Lib.hid (Ha_w15.out.next hbe)
  have HB_w16 := Lib.hid (below_next HB_w15.out hbe)
  have HT_w16 := Lib.hid (HT_w15.out.next hbe)
  clear Hr_w15 Hs_w15 Hw_w15 Hx_w15 Ha_w15 HB_w15 HT_w15
  have Hb_w16 : Hid (RAt w16 _ (max K J) (rfull (max K J) fun i j => M i j && !T i j)) := hat
  clear hat hbe
  go_wp2_with fail
  refine (same_any _ _ (max K J) _ _ w16 Ha_w16.out Hb_w16.out hN (fun i => xor_lt40 (HR.out i) (and_lt40 (HS.out i))) HT_w16.out (pairs_eq hN (lk_less LR.out LS.out WR.out) (wf_full _ _))).mono ?_
  rintro e w17 ⟨rfl, hbe⟩
  have Hr_w17 := Lib.hid (Hr_w16.out.next hbe)
  have Hs_w17 := Lib.hid (Hs_w16.out.next hbe)
  have Hw_w17 := Lib.hid (Hw_w16.out.next hbe)
  have Hx_w17 := Lib.hid (Hx_w16.out.next hbe)
  have Ha_w17 := Lib.hid (Ha_w16.out.next hbe)
  have Hb_w17 := Lib.hid (Hb_w16.out.next hbe)
  have HB_w17 := Lib.hid (below_next HB_w16.out hbe)
  have HT_w17 := Lib.hid (HT_w16.out.next hbe)
  clear Hr_w16 Hs_w16 Hw_w16 Hx_w16 Ha_w16 Hb_w16 HB_w16 HT_w16
  clear hbe
  go_wp2_with fail
  clear Ha_w17 Hb_w17
  refine (then_ge _ K _ J R S w17 Hr_w17.out Hs_w17.out HR.out HS.out HT_w17.out).mono ?_
  rintro e w18 ⟨rfl, hat, hbe⟩
  have Hr_w18 := Lib.hid (Hr_w17.out.next hbe)
  have Hs_w18 := Lib.hid (Hs_w17.out.next hbe)
  have Hw_w18 := Lib.hid (Hw_w17.out.next hbe)
  have Hx_w18 := Lib.hid (Hx_w17.out.next hbe)
  have HB_w18 := Lib.hid (below_next HB_w17.out hbe)
  have HT_w18 := Lib.hid (HT_w17.out.next hbe)
  clear Hr_w17 Hs_w17 Hw_w17 Hx_w17 HB_w17 HT_w17
  have Ha_w18 : Hid (At w18 _ (max K J) (fun i => U S (R i))) := hat
  clear hat hbe
  go_wp2_with fail
  refine (rthen_any _ K _ J M T w18 Hw_w18.out Hx_w18.out hK hJ).mono ?_
  rintro e w19 ⟨rfl, hat, hbe⟩
  have Hr_w19 := Lib.hid (Hr_w18.out.next hbe)
  have Hs_w19 := Lib.hid (Hs_w18.out.next hbe)
  have Hw_w19 := Lib.hid (Hw_w18.out.next hbe)
  have Hx_w19 := Lib.hid (Hx_w18.out.next hbe)
  have Ha_w19 := Lib.hid (Ha_w18.out.next hbe)
  have HB_w19 := Lib.hid (below_next HB_w18.out hbe)
  have HT_w19 := Lib.hid (HT_w18.out.next hbe)
  clear Hr_w18 Hs_w18 Hw_w18 Hx_w18 Ha_w18 HB_w18 HT_w18
  have Hb_w19 : Hid (RAt w19 _ (max K J) (thenM (max K J) M T)) := hat
  clear hat hbe
  go_wp2_with fail
  refine (same_any _ _ (max K J) _ _ w19 Ha_w19.out Hb_w19.out hN (fun _ => U_lt _ _) HT_w19.out (pairs_eq hN (lk_then LR.out LS.out WR.out WS.out HR.out HS.out) (wf_full _ _))).mono ?_
  rintro e w20 ⟨rfl, hbe⟩
  have Hr_w20 := Lib.hid (Hr_w19.out.next hbe)
  have Hs_w20 := Lib.hid (Hs_w19.out.next hbe)
  have Hw_w20 := Lib.hid (Hw_w19.out.next hbe)
  have Hx_w20 := Lib.hid (Hx_w19.out.next hbe)
  have Ha_w20 := Lib.hid (Ha_w19.out.next hbe)
  have Hb_w20 := Lib.hid (Hb_w19.out.next hbe)
  have HB_w20 := Lib.hid (below_next HB_w19.out hbe)
  have HT_w20 := Lib.hid (HT_w19.out.next hbe)
  clear Hr_w19 Hs_w19 Hw_w19 Hx_w19 Ha_w19 Hb_w19 HB_w19 HT_w19
  clear hbe
  go_wp2_with fail
  clear Ha_w20 Hb_w20
  refine (back_any _ K R w20 Hr_w20.out HR.out HT_w20.out).mono ?_
  rintro e w21 ⟨rfl, hat, hbe⟩
  have Hr_w21 := Lib.hid (Hr_w20.out.next hbe)
  have Hs_w21 := Lib.hid (Hs_w20.out.next hbe)
  have Hw_w21 := Lib.hid (Hw_w20.out.next hbe)
  have Hx_w21 := Lib.hid (Hx_w20.out.next hbe)
  have HB_w21 := Lib.hid (below_next HB_w20.out hbe)
  have HT_w21 := Lib.hid (HT_w20.out.next hbe)
  clear Hr_w20 Hs_w20 Hw_w20 Hx_w20 HB_w20 HT_w20
  have Ha_w21 : Hid (At w21 _ K (backR R)) := hat
  clear hat hbe
  go_wp2_with fail
  refine (rback_any _ K M w21 Hw_w21.out hK).mono ?_
  rintro e w22 ⟨rfl, hat, hbe⟩
  have Hr_w22 := Lib.hid (Hr_w21.out.next hbe)
  have Hs_w22 := Lib.hid (Hs_w21.out.next hbe)
  have Hw_w22 := Lib.hid (Hw_w21.out.next hbe)
  have Hx_w22 := Lib.hid (Hx_w21.out.next hbe)
  have Ha_w22 := Lib.hid (Ha_w21.out.next hbe)
  have HB_w22 := Lib.hid (below_next HB_w21.out hbe)
  have HT_w22 := Lib.hid (HT_w21.out.next hbe)
  clear Hr_w21 Hs_w21 Hw_w21 Hx_w21 Ha_w21 HB_w21 HT_w21
  have Hb_w22 : Hid (RAt w22 _ K (fun i j => rfull K M j i)) := hat
  clear hat hbe
  go_wp2_with fail
  refine (same_any _ _ K _ _ w22 Ha_w22.out Hb_w22.out hK (fun _ => bitsOf_lt _ _) HT_w22.out (pairs_eq hK (lk_back LR.out WR.out hK) (wf_back _ _))).mono ?_
  rintro e w23 ⟨rfl, hbe⟩
  have Hr_w23 := Lib.hid (Hr_w22.out.next hbe)
  have Hs_w23 := Lib.hid (Hs_w22.out.next hbe)
  have Hw_w23 := Lib.hid (Hw_w22.out.next hbe)
  have Hx_w23 := Lib.hid (Hx_w22.out.next hbe)
  have Ha_w23 := Lib.hid (Ha_w22.out.next hbe)
  have Hb_w23 := Lib.hid (Hb_w22.out.next hbe)
  have HB_w23 := Lib.hid (below_next HB_w22.out hbe)
  have HT_w23 := Lib.hid (HT_w22.out.next hbe)
  clear Hr_w22 Hs_w22 Hw_w22 Hx_w22 Ha_w22 Hb_w22 HB_w22 HT_w22
  clear hbe
  go_wp2_with fail
  clear Ha_w23 Hb_w23
  refine (plus_any _ K R w23 Hr_w23.out HR.out HT_w23.out).mono ?_
  rintro e w24 ⟨cp, rfl, _, hat, hbe⟩
  have Hr_w24 := Lib.hid (Hr_w23.out.next hbe)
  have Hs_w24 := Lib.hid (Hs_w23.out.next hbe)
  have Hw_w24 := Lib.hid (Hw_w23.out.next hbe)
  have Hx_w24 := Lib.hid (Hx_w23.out.next hbe)
  have HB_w24 := Lib.hid (below_next HB_w23.out hbe)
  have HT_w24 := Lib.hid (HT_w23.out.next hbe)
  clear Hr_w23 Hs_w23 Hw_w23 Hx_w23 HB_w23 HT_w23
  have Ha_w24 : Hid (At w24 _ K (plusR R)) := hat
  clear hat hbe
  go_wp2_with fail
  refine (rplus_any _ K M w24 Hw_w24.out hK WR.out).mono ?_
  rintro e w25 ⟨TP, rfl, hat, hTP, hWP, hbe⟩
  have Hr_w25 := Lib.hid (Hr_w24.out.next hbe)
  have Hs_w25 := Lib.hid (Hs_w24.out.next hbe)
  have Hw_w25 := Lib.hid (Hw_w24.out.next hbe)
  have Hx_w25 := Lib.hid (Hx_w24.out.next hbe)
  have Ha_w25 := Lib.hid (Ha_w24.out.next hbe)
  have HB_w25 := Lib.hid (below_next HB_w24.out hbe)
  have HT_w25 := Lib.hid (HT_w24.out.next hbe)
  clear Hr_w24 Hs_w24 Hw_w24 Hx_w24 Ha_w24 HB_w24 HT_w24
  have HTP := Lib.hid hTP
  have HWP := Lib.hid hWP
  have Hb_w25 : Hid (RAt w25 _ K TP) := hat
  clear hat hbe hTP hWP
  go_wp2_with fail
  refine (same_any _ _ K _ _ w25 Ha_w25.out Hb_w25.out hK (plusR_lt R) HT_w25.out (pairs_eq hK (lk_plus LR.out HTP.out HR.out) HWP.out)).mono ?_
  rintro e w26 ⟨rfl, hbe⟩
  have Hr_w26 := Lib.hid (Hr_w25.out.next hbe)
  have Hs_w26 := Lib.hid (Hs_w25.out.next hbe)
  have Hw_w26 := Lib.hid (Hw_w25.out.next hbe)
  have Hx_w26 := Lib.hid (Hx_w25.out.next hbe)
  have Ha_w26 := Lib.hid (Ha_w25.out.next hbe)
  have Hb_w26 := Lib.hid (Hb_w25.out.next hbe)
  have HB_w26 := Lib.hid (below_next HB_w25.out hbe)
  have HT_w26 := Lib.hid (HT_w25.out.next hbe)
  clear Hr_w25 Hs_w25 Hw_w25 Hx_w25 Ha_w25 Hb_w25 HB_w25 HT_w25
  clear hbe
  go_wp2_with fail
  clear Ha_w26 Hb_w26
  refine (maybe_gen _ K R w26 Hr_w26.out hK HR.out).mono ?_
  rintro e w27 ⟨rfl, hat, hbe⟩
  have Hr_w27 := Lib.hid (Hr_w26.out.next hbe)
  have Hs_w27 := Lib.hid (Hs_w26.out.next hbe)
  have Hw_w27 := Lib.hid (Hw_w26.out.next hbe)
  have Hx_w27 := Lib.hid (Hx_w26.out.next hbe)
  have HB_w27 := Lib.hid (below_next HB_w26.out hbe)
  have HT_w27 := Lib.hid (HT_w26.out.next hbe)
  clear Hr_w26 Hs_w26 Hw_w26 Hx_w26 HB_w26 HT_w26
  have Ha_w27 : Hid (At w27 _ K (fun i => if i < K then R i ||| 2 ^ i else R i)) := hat
  clear hat hbe
  go_wp2_with fail
  refine (rmaybe_any _ K M w27 Hw_w27.out hK).mono ?_
  rintro e w28 ⟨rfl, hat, hbe⟩
  have Hr_w28 := Lib.hid (Hr_w27.out.next hbe)
  have Hs_w28 := Lib.hid (Hs_w27.out.next hbe)
  have Hw_w28 := Lib.hid (Hw_w27.out.next hbe)
  have Hx_w28 := Lib.hid (Hx_w27.out.next hbe)
  have Ha_w28 := Lib.hid (Ha_w27.out.next hbe)
  have HB_w28 := Lib.hid (below_next HB_w27.out hbe)
  have HT_w28 := Lib.hid (HT_w27.out.next hbe)
  clear Hr_w27 Hs_w27 Hw_w27 Hx_w27 Ha_w27 HB_w27 HT_w27
  have Hb_w28 : Hid (RAt w28 _ K (fun i j => (decide (i = j) && decide (i < K)) || M i j)) := hat
  clear hat hbe
  go_wp2_with fail
  refine (same_any _ _ K _ _ w28 Ha_w28.out Hb_w28.out hK (maybe_lt K R hK HR.out) HT_w28.out (pairs_eq hK (lk_maybe LR.out) (wf_maybe WR.out))).mono ?_
  rintro e w29 ⟨rfl, hbe⟩
  have Hr_w29 := Lib.hid (Hr_w28.out.next hbe)
  have Hs_w29 := Lib.hid (Hs_w28.out.next hbe)
  have Hw_w29 := Lib.hid (Hw_w28.out.next hbe)
  have Hx_w29 := Lib.hid (Hx_w28.out.next hbe)
  have Ha_w29 := Lib.hid (Ha_w28.out.next hbe)
  have Hb_w29 := Lib.hid (Hb_w28.out.next hbe)
  have HB_w29 := Lib.hid (below_next HB_w28.out hbe)
  have HT_w29 := Lib.hid (HT_w28.out.next hbe)
  clear Hr_w28 Hs_w28 Hw_w28 Hx_w28 Ha_w28 Hb_w28 HB_w28 HT_w28
  clear hbe
  go_wp2_with fail
  clear Ha_w29 Hb_w29
  refine (in_any _ K _ J R S w29 Hr_w29.out Hs_w29.out HR.out HS.out).mono ?_
  rintro e w30 ⟨rfl, hbe⟩
  have Hr_w30 := Lib.hid (Hr_w29.out.next hbe)
  have Hs_w30 := Lib.hid (Hs_w29.out.next hbe)
  have Hw_w30 := Lib.hid (Hw_w29.out.next hbe)
  have Hx_w30 := Lib.hid (Hx_w29.out.next hbe)
  have HB_w30 := Lib.hid (below_next HB_w29.out hbe)
  have HT_w30 := Lib.hid (HT_w29.out.next hbe)
  clear Hr_w29 Hs_w29 Hw_w29 Hx_w29 HB_w29 HT_w29
  clear hbe
  go_wp2_with fail
  refine (rin_any _ K _ J M T w30 Hw_w30.out Hx_w30.out hK hJ (inR R S) (in_eq LR.out LS.out WR.out hK hJ HR.out)).mono ?_
  rintro e w31 ⟨rfl, hbe⟩
  have Hr_w31 := Lib.hid (Hr_w30.out.next hbe)
  have Hs_w31 := Lib.hid (Hs_w30.out.next hbe)
  have Hw_w31 := Lib.hid (Hw_w30.out.next hbe)
  have Hx_w31 := Lib.hid (Hx_w30.out.next hbe)
  have HB_w31 := Lib.hid (below_next HB_w30.out hbe)
  have HT_w31 := Lib.hid (HT_w30.out.next hbe)
  clear Hr_w30 Hs_w30 Hw_w30 Hx_w30 HB_w30 HT_w30
  clear hbe
  go_wp2_with fail
  refine (loops_any _ K R w31 Hr_w31.out HR.out HT_w31.out).mono ?_
  rintro e w32 ⟨rfl, hbe⟩
  have Hr_w32 := Lib.hid (Hr_w31.out.next hbe)
  have Hs_w32 := Lib.hid (Hs_w31.out.next hbe)
  have Hw_w32 := Lib.hid (Hw_w31.out.next hbe)
  have Hx_w32 := Lib.hid (Hx_w31.out.next hbe)
  have HB_w32 := Lib.hid (below_next HB_w31.out hbe)
  have HT_w32 := Lib.hid (HT_w31.out.next hbe)
  clear Hr_w31 Hs_w31 Hw_w31 Hx_w31 HB_w31 HT_w31
  clear hbe
  go_wp2_with fail
  refine (rloops_any _ K M w32 Hw_w32.out hK WR.out (loopsB (plusR R)) (loops_iff2 LR.out WR.out hK)).mono ?_
  rintro e w33 ⟨rfl, hbe⟩
  have Hr_w33 := Lib.hid (Hr_w32.out.next hbe)
  have Hs_w33 := Lib.hid (Hs_w32.out.next hbe)
  have Hw_w33 := Lib.hid (Hw_w32.out.next hbe)
  have Hx_w33 := Lib.hid (Hx_w32.out.next hbe)
  have HB_w33 := Lib.hid (below_next HB_w32.out hbe)
  have HT_w33 := Lib.hid (HT_w32.out.next hbe)
  clear Hr_w32 Hs_w32 Hw_w32 Hx_w32 HB_w32 HT_w32
  clear hbe
  go_wp2_with fail
  have HI1Z := Lib.hid (HI1.out.next HB_w33.out)
  go_loopw [13] (fun y wr => ∃ q : Nat, q ≤ L1.length ∧ y = .int .i64 q ∧ Below w33.heap.size w33 wr) (fun y _ => L1.length - (intOf y).toNat)
  case atStart => exact ⟨0, Nat.zero_le _, rfl, Below.refl _ _⟩
  case round =>
    obtain ⟨q, hq, rfl, hbe⟩ := hrel
    by_cases hlt : q < L1.length ∧ q < 20
    · obtain ⟨hq1, hq2⟩ := hlt
      have hd1 : decide ((q : Int) < (L1.length : Int)) = true := by simp; omega
      have hd2 : decide ((q : Int) < 20) = true := by simp; omega
      have hqi : (q : Int) < (L1.length : Int) := by omega
      rcases HI1Z.out.next hbe with ⟨_, h0, _⟩ | ⟨_, _, h0⟩ | ⟨lb, lo, rfl, hlb, hcc⟩
      · rw [h0] at hq1; simp at hq1
      · rw [h0] at hq1; simp at hq1
      · have hc1 := (hcc q hq1).1
        have hc2 := (hcc q hq1).2
        clear hcc hlb
        generalize L1.getD q (0, 0) = pp at *
        obtain ⟨pa, pb⟩ := pp
        simp only at hc1 hc2
        have HH1 := Lib.hid (has_any _ K R pa pb wr.drew (Hr_w33.out.next hbe).drew hK (fun i _ => lt64 (HR.out i)))
        have HH2 := Lib.hid (rhas_any _ K M pa pb wr.drew (Hw_w33.out.next hbe).drew hK)
        rw [has_eq LR.out] at HH1
        generalize hasM K M pa pb = hm at *
        go_wp2_with fail
        go_region_with (first
          | (go_at_call 29; refine HH1.out.mono ?_; rintro e w' ⟨rfl, rfl⟩)
          | (go_at_call 30; refine HH2.out.mono ?_; rintro e w' ⟨rfl, rfl⟩))
        all_goals go_wp2_with fail
        all_goals
          go_roundw
          case rel => exact ⟨q + 1, by omega, by go_num, hbe.drew⟩
          case measure => simp [intOf]; omega
    · have hd : (decide ((q : Int) < (L1.length : Int)) = true ∧ decide ((q : Int) < 20) = false) ∨ decide ((q : Int) < (L1.length : Int)) = false := by
        by_cases h : q < L1.length
        · left; simp; omega
        · right; simp; omega
      have HRz := Lib.hid (Hr_w33.out.next hbe)
      have HSz := Lib.hid (Hs_w33.out.next hbe)
      have HWz := Lib.hid (Hw_w33.out.next hbe)
      have HXz := Lib.hid (Hx_w33.out.next hbe)
      have HTz := Lib.hid (HT_w33.out.next hbe)
      have HBz := Lib.hid (below_next HB_w33.out hbe)
      rcases hd with ⟨hd1, hd2⟩ | hd1
      · go_wp2_with fail
        all_goals (try (exfalso; simp at hd1; omega))
        refine (same_any _ _ K R M wr HRz.out HWz.out hK HR.out HTz.out (pairs_eq hK LR.out WR.out)).mono ?_
        rintro e wa ⟨rfl, hbe2⟩
        have HSa := Lib.hid (HSz.out.next hbe2)
        have HXa := Lib.hid (HXz.out.next hbe2)
        have HTa := Lib.hid (HTz.out.next hbe2)
        have HBa := Lib.hid (below_next HBz.out hbe2)
        clear hbe2
        go_wp2_with fail
        refine (same_any _ _ J S T wa HSa.out HXa.out hJ HS.out HTa.out (pairs_eq hJ LS.out WS.out)).mono ?_
        rintro e wb ⟨rfl, hbe2⟩
        have HTb := Lib.hid (HTa.out.next hbe2)
        have HBb := Lib.hid (below_next HBa.out hbe2)
        clear hbe2
        go_wp2_with fail
        refine (awake_any wb HTb.out).mono ?_
        rintro e wc ⟨rfl, hbe2⟩
        have HBc := Lib.hid (below_next HBb.out hbe2)
        clear hbe2
        go_wp2_with fail
        go_ret
        exact ⟨rfl, HBc.out⟩
      · go_wp2_with fail
        all_goals (try (exfalso; simp at hd1; omega))
        refine (same_any _ _ K R M wr HRz.out HWz.out hK HR.out HTz.out (pairs_eq hK LR.out WR.out)).mono ?_
        rintro e wa ⟨rfl, hbe2⟩
        have HSa := Lib.hid (HSz.out.next hbe2)
        have HXa := Lib.hid (HXz.out.next hbe2)
        have HTa := Lib.hid (HTz.out.next hbe2)
        have HBa := Lib.hid (below_next HBz.out hbe2)
        clear hbe2
        go_wp2_with fail
        refine (same_any _ _ J S T wa HSa.out HXa.out hJ HS.out HTa.out (pairs_eq hJ LS.out WS.out)).mono ?_
        rintro e wb ⟨rfl, hbe2⟩
        have HTb := Lib.hid (HTa.out.next hbe2)
        have HBb := Lib.hid (below_next HBa.out hbe2)
        clear hbe2
        go_wp2_with fail
        refine (awake_any wb HTb.out).mono ?_
        rintro e wc ⟨rfl, hbe2⟩
        have HBc := Lib.hid (below_next HBb.out hbe2)
        clear hbe2
        go_wp2_with fail
        go_ret
        exact ⟨rfl, HBc.out⟩
end
end Go.Proofs.YtepkjnpbdjmlbaaDoor
