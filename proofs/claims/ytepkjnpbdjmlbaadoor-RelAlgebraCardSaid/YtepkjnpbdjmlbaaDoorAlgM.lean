import Derived.Test.YtepkjnpbdjmlbaaDoorAlgW
namespace Go.Proofs.YtepkjnpbdjmlbaaDoor
open Go.RowKit RelA
set_option maxHeartbeats 400000 in
theorem is_eq (b n c m : Nat) (R S : Nat → Nat) (w : World) (hb : At w b n R) (hc : At w c m S) (hR : ∀ i, R i < 2 ^ 40) (hS : ∀ i, S i < 2 ^ 40) (h : ∀ i, i < 40 → R i = S i) :
    Calls Tryd.prog 33 #[.pointer (some ⟨b, 0, none⟩), .pointer (some ⟨c, 0, none⟩)] w fun e w' => e = .returned (.bool true) ∧ Below w.heap.size w w' := by
  have h1 := inR_same h
  have h2 := inR_same fun i hi => (h i hi).symm
  have HB := Lib.hid hb
  have HC := Lib.hid hc
  have HR := Lib.hid hR
  have HS := Lib.hid hS
  clear hb hc hR hS h
  go_enter Tryd.func33, Tryd.ntmps33
  go_wp2_with fail
  refine (in_any _ n _ m R S w HB.out HC.out HR.out HS.out).mono ?_
  rintro e w1 ⟨rfl, hbe⟩
  have HB1 := Lib.hid hbe
  clear hbe
  go_wp2_with fail
  refine (in_any _ m _ n S R w1 (HC.out.next HB1.out) (HB.out.next HB1.out) HS.out HR.out).mono ?_
  rintro e w2 ⟨rfl, hbe⟩
  have HB2 := Lib.hid (below_next HB1.out hbe)
  clear hbe
  go_wp2_with fail
  go_ret
  exact ⟨rfl, HB2.out⟩

set_option maxHeartbeats 8000000 in
theorem algebra_any (n : Int) (a1 : Option Addr) (l1 c1 : Nat) (a2 : Option Addr) (l2 c2 : Nat) (a3 : Option Addr) (l3 c3 : Nat) (w : World) (ht : Tab w)
    (m1 : l1 ≤ maxLen) (m2 : l2 ≤ maxLen) (m3 : l3 ≤ maxLen) (i1 : IntsAt w a1 l1) (i2 : IntsAt w a2 l2) (i3 : IntsAt w a3 l3) :
    Calls Tryd.prog 4 #[.int .i64 n, .slice a1 l1 c1, .slice a2 l2 c2, .slice a3 l3 c3] w fun e w' => e = .returned (.bool true) ∧ Below w.heap.size w w' := by
  obtain ⟨z, hz⟩ : ∃ z : Nat, n % ((12 : Nat) : Int) = (z : Int) := ⟨(n % 12).toNat, by omega⟩
  have hz12 : z < 12 := by omega
  have HP := Lib.hid (fun w => place_any n 12 w (by decide) (by decide))
  rw [hz] at HP
  clear hz
  obtain ⟨K, hK⟩ : ∃ K : Nat, K = 1 + z := ⟨_, rfl⟩
  have hKz : 1 + (z : Int) = (K : Int) := by omega
  have hK1 : 1 ≤ K := by omega
  have hK2 : K ≤ 12 := by omega
  clear hK hz12
  have G1 := Lib.hid (fun w (h : IntsAt w a1 l1) => some_any K a1 l1 c1 w hK1 hK2 m1 h)
  have G2 := Lib.hid (fun w (h : IntsAt w a2 l2) => some_any K a2 l2 c2 w hK1 hK2 m2 h)
  have G3 := Lib.hid (fun w (h : IntsAt w a3 l3) => some_any K a3 l3 c3 w hK1 hK2 m3 h)
  have I1 := Lib.hid i1
  have I2 := Lib.hid i2
  have I3 := Lib.hid i3
  have HT := Lib.hid ht
  clear i1 i2 i3 m1 m2 m3 ht hK1
  go_enter Tryd.func4, Tryd.ntmps4
  go_wp2_with fail
  refine (HP.out w).mono ?_
  rintro e w' ⟨rfl, rfl⟩
  go_wp2_with fail
  refine (G1.out w I1.out).mono ?_
  rintro e w1 ⟨R, cr, rfl, hat, hlt, hbe⟩
  have Hr_w1 := Lib.hid hat
  have HR := Lib.hid hlt
  have HB_w1 := Lib.hid hbe
  clear hat hlt hbe
  go_wp2_with fail
  refine (G2.out w1 (I2.out.next HB_w1.out)).mono ?_
  rintro e w2 ⟨S, cs, rfl, hat, hlt, hbe⟩
  have Hr_w2 := Lib.hid (Hr_w1.out.next hbe)
  have Hs_w2 := Lib.hid hat
  have HS := Lib.hid hlt
  have HB_w2 := Lib.hid (below_next HB_w1.out hbe)
  clear hat hlt hbe Hr_w1 HB_w1
  go_wp2_with fail
  refine (G3.out w2 (I3.out.next HB_w2.out)).mono ?_
  rintro e w3 ⟨T, ct, rfl, hat, hlt, hbe⟩
  have Hr_w3 := Lib.hid (Hr_w2.out.next hbe)
  have Hs_w3 := Lib.hid (Hs_w2.out.next hbe)
  have Ht_w3 := Lib.hid hat
  have HTT := Lib.hid hlt
  have HB_w3 := Lib.hid (below_next HB_w2.out hbe)
  have HT_w3 := Lib.hid (HT.out.next HB_w3.out)
  clear hat hlt hbe Hr_w2 Hs_w2 HB_w2 HT G1 G2 G3 I1 I2 I3 HP
  have hl8 := alg8 R HR.out
  have hl9 := alg9 R HR.out
  go_wp2_with fail
  refine (plus_any _ K _ _ Hr_w3.out HR.out HT_w3.out).mono ?_
  rintro e w4 ⟨cp, rfl, hcc, hat, hbe⟩
  have Hr_w4 := Lib.hid (Hr_w3.out.next hbe)
  have Hs_w4 := Lib.hid (Hs_w3.out.next hbe)
  have Ht_w4 := Lib.hid (Ht_w3.out.next hbe)
  have HB_w4 := Lib.hid (below_next HB_w3.out hbe)
  have HT_w4 := Lib.hid (HT_w3.out.next hbe)
  clear Hr_w3 Hs_w3 Ht_w3 HB_w3 HT_w3
  have Hp_w4 : Hid (At w4 _ K (plusR R)) := hat
  clear hat hbe hcc
  go_wp2_with fail
  refine (then_ge _ K _ K _ _ _ Hr_w4.out Hs_w4.out HR.out HS.out HT_w4.out).mono ?_
  rintro e w5 ⟨rfl, hat, hbe⟩
  rw [Nat.max_self] at hat
  have Hr_w5 := Lib.hid (Hr_w4.out.next hbe)
  have Hs_w5 := Lib.hid (Hs_w4.out.next hbe)
  have Ht_w5 := Lib.hid (Ht_w4.out.next hbe)
  have Hp_w5 := Lib.hid (Hp_w4.out.next hbe)
  have HB_w5 := Lib.hid (below_next HB_w4.out hbe)
  have HT_w5 := Lib.hid (HT_w4.out.next hbe)
  clear Hr_w4 Hs_w4 Ht_w4 Hp_w4 HB_w4 HT_w4
  have Ha_w5 : Hid (At w5 _ K (fun i => U S (R i))) := hat
  clear hat hbe
  go_wp2_with fail
  refine (then_ge _ K _ K _ _ _ Ha_w5.out Ht_w5.out (fun _ => U_lt _ _) HTT.out HT_w5.out).mono ?_
  rintro e w6 ⟨rfl, hat, hbe⟩
  rw [Nat.max_self] at hat
  have Hr_w6 := Lib.hid (Hr_w5.out.next hbe)
  have Hs_w6 := Lib.hid (Hs_w5.out.next hbe)
  have Ht_w6 := Lib.hid (Ht_w5.out.next hbe)
  have Hp_w6 := Lib.hid (Hp_w5.out.next hbe)
  have Ha_w6 := Lib.hid (Ha_w5.out.next hbe)
  have HB_w6 := Lib.hid (below_next HB_w5.out hbe)
  have HT_w6 := Lib.hid (HT_w5.out.next hbe)
  clear Hr_w5 Hs_w5 Ht_w5 Hp_w5 Ha_w5 HB_w5 HT_w5
  have Hb_w6 : Hid (At w6 _ K (fun i => U T (U S (R i)))) := hat
  clear hat hbe
  go_wp2_with fail
  refine (then_ge _ K _ K _ _ _ Hs_w6.out Ht_w6.out HS.out HTT.out HT_w6.out).mono ?_
  rintro e w7 ⟨rfl, hat, hbe⟩
  rw [Nat.max_self] at hat
  have Hr_w7 := Lib.hid (Hr_w6.out.next hbe)
  have Hs_w7 := Lib.hid (Hs_w6.out.next hbe)
  have Ht_w7 := Lib.hid (Ht_w6.out.next hbe)
  have Hp_w7 := Lib.hid (Hp_w6.out.next hbe)
  have Ha_w7 := Lib.hid (Ha_w6.out.next hbe)
  have Hb_w7 := Lib.hid (Hb_w6.out.next hbe)
  have HB_w7 := Lib.hid (below_next HB_w6.out hbe)
  have HT_w7 := Lib.hid (HT_w6.out.next hbe)
  clear Hr_w6 Hs_w6 Ht_w6 Hp_w6 Ha_w6 Hb_w6 HB_w6 HT_w6
  have Hc_w7 : Hid (At w7 _ K (fun i => U T (S i))) := hat
  clear hat hbe
  go_wp2_with fail
  refine (then_ge _ K _ K _ _ _ Hr_w7.out Hc_w7.out HR.out (fun _ => U_lt _ _) HT_w7.out).mono ?_
  rintro e w8 ⟨rfl, hat, hbe⟩
  rw [Nat.max_self] at hat
  have Hr_w8 := Lib.hid (Hr_w7.out.next hbe)
  have Hs_w8 := Lib.hid (Hs_w7.out.next hbe)
  have Ht_w8 := Lib.hid (Ht_w7.out.next hbe)
  have Hp_w8 := Lib.hid (Hp_w7.out.next hbe)
  have Ha_w8 := Lib.hid (Ha_w7.out.next hbe)
  have Hb_w8 := Lib.hid (Hb_w7.out.next hbe)
  have Hc_w8 := Lib.hid (Hc_w7.out.next hbe)
  have HB_w8 := Lib.hid (below_next HB_w7.out hbe)
  have HT_w8 := Lib.hid (HT_w7.out.next hbe)
  clear Hr_w7 Hs_w7 Ht_w7 Hp_w7 Ha_w7 Hb_w7 Hc_w7 HB_w7 HT_w7
  have Hd_w8 : Hid (At w8 _ K (fun i => U (fun k => U T (S k)) (R i))) := hat
  clear hat hbe
  go_wp2_with fail
  refine (is_eq _ K _ K _ _ _ Hb_w8.out Hd_w8.out (fun _ => U_lt _ _) (fun _ => U_lt _ _) (fun i _ => alg1 R S T HR.out HS.out HTT.out i)).mono ?_
  rintro e w9 ⟨rfl, hbe⟩
  have Hr_w9 := Lib.hid (Hr_w8.out.next hbe)
  have Hs_w9 := Lib.hid (Hs_w8.out.next hbe)
  have Ht_w9 := Lib.hid (Ht_w8.out.next hbe)
  have Hp_w9 := Lib.hid (Hp_w8.out.next hbe)
  have Ha_w9 := Lib.hid (Ha_w8.out.next hbe)
  have Hb_w9 := Lib.hid (Hb_w8.out.next hbe)
  have Hc_w9 := Lib.hid (Hc_w8.out.next hbe)
  have Hd_w9 := Lib.hid (Hd_w8.out.next hbe)
  have HB_w9 := Lib.hid (below_next HB_w8.out hbe)
  have HT_w9 := Lib.hid (HT_w8.out.next hbe)
  clear Hr_w8 Hs_w8 Ht_w8 Hp_w8 Ha_w8 Hb_w8 Hc_w8 Hd_w8 HB_w8 HT_w8
  clear hbe
  go_wp2_with fail
  clear Ha_w9 Hb_w9 Hc_w9 Hd_w9
  refine (or_any _ K _ K _ _ _ Hs_w9.out Ht_w9.out HS.out HTT.out).mono ?_
  rintro e w10 ⟨rfl, hat, hbe⟩
  rw [Nat.max_self] at hat
  have Hr_w10 := Lib.hid (Hr_w9.out.next hbe)
  have Hs_w10 := Lib.hid (Hs_w9.out.next hbe)
  have Ht_w10 := Lib.hid (Ht_w9.out.next hbe)
  have Hp_w10 := Lib.hid (Hp_w9.out.next hbe)
  have HB_w10 := Lib.hid (below_next HB_w9.out hbe)
  have HT_w10 := Lib.hid (HT_w9.out.next hbe)
  clear Hr_w9 Hs_w9 Ht_w9 Hp_w9 HB_w9 HT_w9
  have Ha_w10 : Hid (At w10 _ K (fun i => S i ||| T i)) := hat
  clear hat hbe
  go_wp2_with fail
  refine (then_ge _ K _ K _ _ _ Hr_w10.out Ha_w10.out HR.out (fun i => or_lt40 (HS.out i) (HTT.out i)) HT_w10.out).mono ?_
  rintro e w11 ⟨rfl, hat, hbe⟩
  rw [Nat.max_self] at hat
  have Hr_w11 := Lib.hid (Hr_w10.out.next hbe)
  have Hs_w11 := Lib.hid (Hs_w10.out.next hbe)
  have Ht_w11 := Lib.hid (Ht_w10.out.next hbe)
  have Hp_w11 := Lib.hid (Hp_w10.out.next hbe)
  have Ha_w11 := Lib.hid (Ha_w10.out.next hbe)
  have HB_w11 := Lib.hid (below_next HB_w10.out hbe)
  have HT_w11 := Lib.hid (HT_w10.out.next hbe)
  clear Hr_w10 Hs_w10 Ht_w10 Hp_w10 Ha_w10 HB_w10 HT_w10
  have Hb_w11 : Hid (At w11 _ K (fun i => U (fun k => S k ||| T k) (R i))) := hat
  clear hat hbe
  go_wp2_with fail
  refine (then_ge _ K _ K _ _ _ Hr_w11.out Hs_w11.out HR.out HS.out HT_w11.out).mono ?_
  rintro e w12 ⟨rfl, hat, hbe⟩
  rw [Nat.max_self] at hat
  have Hr_w12 := Lib.hid (Hr_w11.out.next hbe)
  have Hs_w12 := Lib.hid (Hs_w11.out.next hbe)
  have Ht_w12 := Lib.hid (Ht_w11.out.next hbe)
  have Hp_w12 := Lib.hid (Hp_w11.out.next hbe)
  have Ha_w12 := Lib.hid (Ha_w11.out.next hbe)
  have Hb_w12 := Lib.hid (Hb_w11.out.next hbe)
  have HB_w12 := Lib.hid (below_next HB_w11.out hbe)
  have HT_w12 := Lib.hid (HT_w11.out.next hbe)
  clear Hr_w11 Hs_w11 Ht_w11 Hp_w11 Ha_w11 Hb_w11 HB_w11 HT_w11
  have Hc_w12 : Hid (At w12 _ K (fun i => U S (R i))) := hat
  clear hat hbe
  go_wp2_with fail
  refine (then_ge _ K _ K _ _ _ Hr_w12.out Ht_w12.out HR.out HTT.out HT_w12.out).mono ?_
  rintro e w13 ⟨rfl, hat, hbe⟩
  rw [Nat.max_self] at hat
  have Hr_w13 := Lib.hid (Hr_w12.out.next hbe)
  have Hs_w13 := Lib.hid (Hs_w12.out.next hbe)
  have Ht_w13 := Lib.hid (Ht_w12.out.next hbe)
  have Hp_w13 := Lib.hid (Hp_w12.out.next hbe)
  have Ha_w13 := Lib.hid (Ha_w12.out.next hbe)
  have Hb_w13 := Lib.hid (Hb_w12.out.next hbe)
  have Hc_w13 := Lib.hid (Hc_w12.out.next hbe)
  have HB_w13 := Lib.hid (below_next HB_w12.out hbe)
  have HT_w13 := Lib.hid (HT_w12.out.next hbe)
  clear Hr_w12 Hs_w12 Ht_w12 Hp_w12 Ha_w12 Hb_w12 Hc_w12 HB_w12 HT_w12
  have Hd_w13 : Hid (At w13 _ K (fun i => U T (R i))) := hat
  clear hat hbe
  go_wp2_with fail
  refine (or_any _ K _ K _ _ _ Hc_w13.out Hd_w13.out (fun _ => U_lt _ _) (fun _ => U_lt _ _)).mono ?_
  rintro e w14 ⟨rfl, hat, hbe⟩
  rw [Nat.max_self] at hat
  have Hr_w14 := Lib.hid (Hr_w13.out.next hbe)
  have Hs_w14 := Lib.hid (Hs_w13.out.next hbe)
  have Ht_w14 := Lib.hid (Ht_w13.out.next hbe)
  have Hp_w14 := Lib.hid (Hp_w13.out.next hbe)
  have Ha_w14 := Lib.hid (Ha_w13.out.next hbe)
  have Hb_w14 := Lib.hid (Hb_w13.out.next hbe)
  have Hc_w14 := Lib.hid (Hc_w13.out.next hbe)
  have Hd_w14 := Lib.hid (Hd_w13.out.next hbe)
  have HB_w14 := Lib.hid (below_next HB_w13.out hbe)
  have HT_w14 := Lib.hid (HT_w13.out.next hbe)
  clear Hr_w13 Hs_w13 Ht_w13 Hp_w13 Ha_w13 Hb_w13 Hc_w13 Hd_w13 HB_w13 HT_w13
  have He_w14 : Hid (At w14 _ K (fun i => U S (R i) ||| U T (R i))) := hat
  clear hat hbe
  go_wp2_with fail
  refine (is_eq _ K _ K _ _ _ Hb_w14.out He_w14.out (fun _ => U_lt _ _) (fun i => or_lt40 (U_lt _ _) (U_lt _ _)) (fun i _ => alg2 R S T HR.out HS.out HTT.out i)).mono ?_
  rintro e w15 ⟨rfl, hbe⟩
  have Hr_w15 := Lib.hid (Hr_w14.out.next hbe)
  have Hs_w15 := Lib.hid (Hs_w14.out.next hbe)
  have Ht_w15 := Lib.hid (Ht_w14.out.next hbe)
  have Hp_w15 := Lib.hid (Hp_w14.out.next hbe)
  have Ha_w15 := Lib.hid (Ha_w14.out.next hbe)
  have Hb_w15 := Lib.hid (Hb_w14.out.next hbe)
  have Hc_w15 := Lib.hid (Hc_w14.out.next hbe)
  have Hd_w15 := Lib.hid (Hd_w14.out.next hbe)
  have He_w15 := Lib.hid (He_w14.out.next hbe)
  have HB_w15 := Lib.hid (below_next HB_w14.out hbe)
  have HT_w15 := Lib.hid (HT_w14.out.next hbe)
  clear Hr_w14 Hs_w14 Ht_w14 Hp_w14 Ha_w14 Hb_w14 Hc_w14 Hd_w14 He_w14 HB_w14 HT_w14
  clear hbe
  go_wp2_with fail
  clear Ha_w15 Hb_w15 Hc_w15 Hd_w15 He_w15
  refine (then_ge _ K _ K _ _ _ Hr_w15.out Hs_w15.out HR.out HS.out HT_w15.out).mono ?_
  rintro e w16 ⟨rfl, hat, hbe⟩
  rw [Nat.max_self] at hat
  have Hr_w16 := Lib.hid (Hr_w15.out.next hbe)
  have Hs_w16 := Lib.hid (Hs_w15.out.next hbe)
  have Ht_w16 := Lib.hid (Ht_w15.out.next hbe)
  have Hp_w16 := Lib.hid (Hp_w15.out.next hbe)
  have HB_w16 := Lib.hid (below_next HB_w15.out hbe)
  have HT_w16 := Lib.hid (HT_w15.out.next hbe)
  clear Hr_w15 Hs_w15 Ht_w15 Hp_w15 HB_w15 HT_w15
  have Ha_w16 : Hid (At w16 _ K (fun i => U S (R i))) := hat
  clear hat hbe
  go_wp2_with fail
  refine (back_any _ K _ _ Ha_w16.out (fun _ => U_lt _ _) HT_w16.out).mono ?_
  rintro e w17 ⟨rfl, hat, hbe⟩
  have Hr_w17 := Lib.hid (Hr_w16.out.next hbe)
  have Hs_w17 := Lib.hid (Hs_w16.out.next hbe)
  have Ht_w17 := Lib.hid (Ht_w16.out.next hbe)
  have Hp_w17 := Lib.hid (Hp_w16.out.next hbe)
  have Ha_w17 := Lib.hid (Ha_w16.out.next hbe)
  have HB_w17 := Lib.hid (below_next HB_w16.out hbe)
  have HT_w17 := Lib.hid (HT_w16.out.next hbe)
  clear Hr_w16 Hs_w16 Ht_w16 Hp_w16 Ha_w16 HB_w16 HT_w16
  have Hb_w17 : Hid (At w17 _ K (backR fun i => U S (R i))) := hat
  clear hat hbe
  go_wp2_with fail
  refine (back_any _ K _ _ Hs_w17.out HS.out HT_w17.out).mono ?_
  rintro e w18 ⟨rfl, hat, hbe⟩
  have Hr_w18 := Lib.hid (Hr_w17.out.next hbe)
  have Hs_w18 := Lib.hid (Hs_w17.out.next hbe)
  have Ht_w18 := Lib.hid (Ht_w17.out.next hbe)
  have Hp_w18 := Lib.hid (Hp_w17.out.next hbe)
  have Ha_w18 := Lib.hid (Ha_w17.out.next hbe)
  have Hb_w18 := Lib.hid (Hb_w17.out.next hbe)
  have HB_w18 := Lib.hid (below_next HB_w17.out hbe)
  have HT_w18 := Lib.hid (HT_w17.out.next hbe)
  clear Hr_w17 Hs_w17 Ht_w17 Hp_w17 Ha_w17 Hb_w17 HB_w17 HT_w17
  have Hc_w18 : Hid (At w18 _ K (backR S)) := hat
  clear hat hbe
  go_wp2_with fail
  refine (back_any _ K _ _ Hr_w18.out HR.out HT_w18.out).mono ?_
  rintro e w19 ⟨rfl, hat, hbe⟩
  have Hr_w19 := Lib.hid (Hr_w18.out.next hbe)
  have Hs_w19 := Lib.hid (Hs_w18.out.next hbe)
  have Ht_w19 := Lib.hid (Ht_w18.out.next hbe)
  have Hp_w19 := Lib.hid (Hp_w18.out.next hbe)
  have Ha_w19 := Lib.hid (Ha_w18.out.next hbe)
  have Hb_w19 := Lib.hid (Hb_w18.out.next hbe)
  have Hc_w19 := Lib.hid (Hc_w18.out.next hbe)
  have HB_w19 := Lib.hid (below_next HB_w18.out hbe)
  have HT_w19 := Lib.hid (HT_w18.out.next hbe)
  clear Hr_w18 Hs_w18 Ht_w18 Hp_w18 Ha_w18 Hb_w18 Hc_w18 HB_w18 HT_w18
  have Hd_w19 : Hid (At w19 _ K (backR R)) := hat
  clear hat hbe
  go_wp2_with fail
  refine (then_ge _ K _ K _ _ _ Hc_w19.out Hd_w19.out (fun _ => bitsOf_lt _ _) (fun _ => bitsOf_lt _ _) HT_w19.out).mono ?_
  rintro e w20 ⟨rfl, hat, hbe⟩
  rw [Nat.max_self] at hat
  have Hr_w20 := Lib.hid (Hr_w19.out.next hbe)
  have Hs_w20 := Lib.hid (Hs_w19.out.next hbe)
  have Ht_w20 := Lib.hid (Ht_w19.out.next hbe)
  have Hp_w20 := Lib.hid (Hp_w19.out.next hbe)
  have Ha_w20 := Lib.hid (Ha_w19.out.next hbe)
  have Hb_w20 := Lib.hid (Hb_w19.out.next hbe)
  have Hc_w20 := Lib.hid (Hc_w19.out.next hbe)
  have Hd_w20 := Lib.hid (Hd_w19.out.next hbe)
  have HB_w20 := Lib.hid (below_next HB_w19.out hbe)
  have HT_w20 := Lib.hid (HT_w19.out.next hbe)
  clear Hr_w19 Hs_w19 Ht_w19 Hp_w19 Ha_w19 Hb_w19 Hc_w19 Hd_w19 HB_w19 HT_w19
  have He_w20 : Hid (At w20 _ K (fun i => U (backR R) (backR S i))) := hat
  clear hat hbe
  go_wp2_with fail
  refine (is_eq _ K _ K _ _ _ Hb_w20.out He_w20.out (fun _ => bitsOf_lt _ _) (fun _ => U_lt _ _) (fun i _ => alg3 R S HR.out HS.out i)).mono ?_
  rintro e w21 ⟨rfl, hbe⟩
  have Hr_w21 := Lib.hid (Hr_w20.out.next hbe)
  have Hs_w21 := Lib.hid (Hs_w20.out.next hbe)
  have Ht_w21 := Lib.hid (Ht_w20.out.next hbe)
  have Hp_w21 := Lib.hid (Hp_w20.out.next hbe)
  have Ha_w21 := Lib.hid (Ha_w20.out.next hbe)
  have Hb_w21 := Lib.hid (Hb_w20.out.next hbe)
  have Hc_w21 := Lib.hid (Hc_w20.out.next hbe)
  have Hd_w21 := Lib.hid (Hd_w20.out.next hbe)
  have He_w21 := Lib.hid (He_w20.out.next hbe)
  have HB_w21 := Lib.hid (below_next HB_w20.out hbe)
  have HT_w21 := Lib.hid (HT_w20.out.next hbe)
  clear Hr_w20 Hs_w20 Ht_w20 Hp_w20 Ha_w20 Hb_w20 Hc_w20 Hd_w20 He_w20 HB_w20 HT_w20
  clear hbe
  go_wp2_with fail
  clear Ha_w21 Hb_w21 Hc_w21 Hd_w21 He_w21
  refine (back_any _ K _ _ Hr_w21.out HR.out HT_w21.out).mono ?_
  rintro e w22 ⟨rfl, hat, hbe⟩
  have Hr_w22 := Lib.hid (Hr_w21.out.next hbe)
  have Hs_w22 := Lib.hid (Hs_w21.out.next hbe)
  have Ht_w22 := Lib.hid (Ht_w21.out.next hbe)
  have Hp_w22 := Lib.hid (Hp_w21.out.next hbe)
  have HB_w22 := Lib.hid (below_next HB_w21.out hbe)
  have HT_w22 := Lib.hid (HT_w21.out.next hbe)
  clear Hr_w21 Hs_w21 Ht_w21 Hp_w21 HB_w21 HT_w21
  have Ha_w22 : Hid (At w22 _ K (backR R)) := hat
  clear hat hbe
  go_wp2_with fail
  refine (back_any _ K _ _ Ha_w22.out (fun _ => bitsOf_lt _ _) HT_w22.out).mono ?_
  rintro e w23 ⟨rfl, hat, hbe⟩
  have Hr_w23 := Lib.hid (Hr_w22.out.next hbe)
  have Hs_w23 := Lib.hid (Hs_w22.out.next hbe)
  have Ht_w23 := Lib.hid (Ht_w22.out.next hbe)
  have Hp_w23 := Lib.hid (Hp_w22.out.next hbe)
  have Ha_w23 := Lib.hid (Ha_w22.out.next hbe)
  have HB_w23 := Lib.hid (below_next HB_w22.out hbe)
  have HT_w23 := Lib.hid (HT_w22.out.next hbe)
  clear Hr_w22 Hs_w22 Ht_w22 Hp_w22 Ha_w22 HB_w22 HT_w22
  have Hb_w23 : Hid (At w23 _ K (backR (backR R))) := hat
  clear hat hbe
  go_wp2_with fail
  refine (is_eq _ K _ K _ _ _ Hb_w23.out Hr_w23.out (fun _ => bitsOf_lt _ _) HR.out (fun i hi => alg4 R HR.out i hi)).mono ?_
  rintro e w24 ⟨rfl, hbe⟩
  have Hr_w24 := Lib.hid (Hr_w23.out.next hbe)
  have Hs_w24 := Lib.hid (Hs_w23.out.next hbe)
  have Ht_w24 := Lib.hid (Ht_w23.out.next hbe)
  have Hp_w24 := Lib.hid (Hp_w23.out.next hbe)
  have Ha_w24 := Lib.hid (Ha_w23.out.next hbe)
  have Hb_w24 := Lib.hid (Hb_w23.out.next hbe)
  have HB_w24 := Lib.hid (below_next HB_w23.out hbe)
  have HT_w24 := Lib.hid (HT_w23.out.next hbe)
  clear Hr_w23 Hs_w23 Ht_w23 Hp_w23 Ha_w23 Hb_w23 HB_w23 HT_w23
  clear hbe
  go_wp2_with fail
  clear Ha_w24 Hb_w24
  refine (plus_any _ K _ _ Hp_w24.out (plusR_lt R) HT_w24.out).mono ?_
  rintro e w25 ⟨ca, rfl, hcc, hat, hbe⟩
  have Hr_w25 := Lib.hid (Hr_w24.out.next hbe)
  have Hs_w25 := Lib.hid (Hs_w24.out.next hbe)
  have Ht_w25 := Lib.hid (Ht_w24.out.next hbe)
  have Hp_w25 := Lib.hid (Hp_w24.out.next hbe)
  have HB_w25 := Lib.hid (below_next HB_w24.out hbe)
  have HT_w25 := Lib.hid (HT_w24.out.next hbe)
  clear Hr_w24 Hs_w24 Ht_w24 Hp_w24 HB_w24 HT_w24
  have Ha_w25 : Hid (At w25 _ K (plusR (plusR R))) := hat
  clear hat hbe hcc
  go_wp2_with fail
  refine (is_eq _ K _ K _ _ _ Ha_w25.out Hp_w25.out (plusR_lt _) (plusR_lt R) (fun i _ => alg5 R HR.out i)).mono ?_
  rintro e w26 ⟨rfl, hbe⟩
  have Hr_w26 := Lib.hid (Hr_w25.out.next hbe)
  have Hs_w26 := Lib.hid (Hs_w25.out.next hbe)
  have Ht_w26 := Lib.hid (Ht_w25.out.next hbe)
  have Hp_w26 := Lib.hid (Hp_w25.out.next hbe)
  have Ha_w26 := Lib.hid (Ha_w25.out.next hbe)
  have HB_w26 := Lib.hid (below_next HB_w25.out hbe)
  have HT_w26 := Lib.hid (HT_w25.out.next hbe)
  clear Hr_w25 Hs_w25 Ht_w25 Hp_w25 Ha_w25 HB_w25 HT_w25
  clear hbe
  go_wp2_with fail
  clear Ha_w26
  refine (then_ge _ K _ K _ _ _ Hr_w26.out Hp_w26.out HR.out (plusR_lt R) HT_w26.out).mono ?_
  rintro e w27 ⟨rfl, hat, hbe⟩
  rw [Nat.max_self] at hat
  have Hr_w27 := Lib.hid (Hr_w26.out.next hbe)
  have Hs_w27 := Lib.hid (Hs_w26.out.next hbe)
  have Ht_w27 := Lib.hid (Ht_w26.out.next hbe)
  have Hp_w27 := Lib.hid (Hp_w26.out.next hbe)
  have HB_w27 := Lib.hid (below_next HB_w26.out hbe)
  have HT_w27 := Lib.hid (HT_w26.out.next hbe)
  clear Hr_w26 Hs_w26 Ht_w26 Hp_w26 HB_w26 HT_w26
  have Ha_w27 : Hid (At w27 _ K (fun i => U (plusR R) (R i))) := hat
  clear hat hbe
  go_wp2_with fail
  refine (or_any _ K _ K _ _ _ Hr_w27.out Ha_w27.out HR.out (fun _ => U_lt _ _)).mono ?_
  rintro e w28 ⟨rfl, hat, hbe⟩
  rw [Nat.max_self] at hat
  have Hr_w28 := Lib.hid (Hr_w27.out.next hbe)
  have Hs_w28 := Lib.hid (Hs_w27.out.next hbe)
  have Ht_w28 := Lib.hid (Ht_w27.out.next hbe)
  have Hp_w28 := Lib.hid (Hp_w27.out.next hbe)
  have Ha_w28 := Lib.hid (Ha_w27.out.next hbe)
  have HB_w28 := Lib.hid (below_next HB_w27.out hbe)
  have HT_w28 := Lib.hid (HT_w27.out.next hbe)
  clear Hr_w27 Hs_w27 Ht_w27 Hp_w27 Ha_w27 HB_w27 HT_w27
  have Hb_w28 : Hid (At w28 _ K (fun i => R i ||| U (plusR R) (R i))) := hat
  clear hat hbe
  go_wp2_with fail
  refine (is_eq _ K _ K _ _ _ Hp_w28.out Hb_w28.out (plusR_lt R) (fun i => or_lt40 (HR.out i) (U_lt _ _)) (fun i _ => alg6 R HR.out i)).mono ?_
  rintro e w29 ⟨rfl, hbe⟩
  have Hr_w29 := Lib.hid (Hr_w28.out.next hbe)
  have Hs_w29 := Lib.hid (Hs_w28.out.next hbe)
  have Ht_w29 := Lib.hid (Ht_w28.out.next hbe)
  have Hp_w29 := Lib.hid (Hp_w28.out.next hbe)
  have Ha_w29 := Lib.hid (Ha_w28.out.next hbe)
  have Hb_w29 := Lib.hid (Hb_w28.out.next hbe)
  have HB_w29 := Lib.hid (below_next HB_w28.out hbe)
  have HT_w29 := Lib.hid (HT_w28.out.next hbe)
  clear Hr_w28 Hs_w28 Ht_w28 Hp_w28 Ha_w28 Hb_w28 HB_w28 HT_w28
  clear hbe
  go_wp2_with fail
  clear Ha_w29 Hb_w29
  refine (and_any _ K _ K _ _ _ Hr_w29.out Hs_w29.out HR.out HS.out).mono ?_
  rintro e w30 ⟨rfl, hat, hbe⟩
  rw [Nat.max_self] at hat
  have Hr_w30 := Lib.hid (Hr_w29.out.next hbe)
  have Hs_w30 := Lib.hid (Hs_w29.out.next hbe)
  have Ht_w30 := Lib.hid (Ht_w29.out.next hbe)
  have Hp_w30 := Lib.hid (Hp_w29.out.next hbe)
  have HB_w30 := Lib.hid (below_next HB_w29.out hbe)
  have HT_w30 := Lib.hid (HT_w29.out.next hbe)
  clear Hr_w29 Hs_w29 Ht_w29 Hp_w29 HB_w29 HT_w29
  have Ha_w30 : Hid (At w30 _ K (fun i => R i &&& S i)) := hat
  clear hat hbe
  go_wp2_with fail
  refine (less_any _ K _ K _ _ _ Hr_w30.out Hs_w30.out HR.out HS.out).mono ?_
  rintro e w31 ⟨rfl, hat, hbe⟩
  rw [Nat.max_self] at hat
  have Hr_w31 := Lib.hid (Hr_w30.out.next hbe)
  have Hs_w31 := Lib.hid (Hs_w30.out.next hbe)
  have Ht_w31 := Lib.hid (Ht_w30.out.next hbe)
  have Hp_w31 := Lib.hid (Hp_w30.out.next hbe)
  have Ha_w31 := Lib.hid (Ha_w30.out.next hbe)
  have HB_w31 := Lib.hid (below_next HB_w30.out hbe)
  have HT_w31 := Lib.hid (HT_w30.out.next hbe)
  clear Hr_w30 Hs_w30 Ht_w30 Hp_w30 Ha_w30 HB_w30 HT_w30
  have Hb_w31 : Hid (At w31 _ K (fun i => R i ^^^ (R i &&& S i))) := hat
  clear hat hbe
  go_wp2_with fail
  refine (less_any _ K _ K _ _ _ Hr_w31.out Hb_w31.out HR.out (fun i => xor_lt40 (HR.out i) (and_lt40 (HS.out i)))).mono ?_
  rintro e w32 ⟨rfl, hat, hbe⟩
  rw [Nat.max_self] at hat
  have Hr_w32 := Lib.hid (Hr_w31.out.next hbe)
  have Hs_w32 := Lib.hid (Hs_w31.out.next hbe)
  have Ht_w32 := Lib.hid (Ht_w31.out.next hbe)
  have Hp_w32 := Lib.hid (Hp_w31.out.next hbe)
  have Ha_w32 := Lib.hid (Ha_w31.out.next hbe)
  have Hb_w32 := Lib.hid (Hb_w31.out.next hbe)
  have HB_w32 := Lib.hid (below_next HB_w31.out hbe)
  have HT_w32 := Lib.hid (HT_w31.out.next hbe)
  clear Hr_w31 Hs_w31 Ht_w31 Hp_w31 Ha_w31 Hb_w31 HB_w31 HT_w31
  have Hc_w32 : Hid (At w32 _ K (fun i => R i ^^^ (R i &&& (R i ^^^ (R i &&& S i))))) := hat
  clear hat hbe
  go_wp2_with fail
  refine (is_eq _ K _ K _ _ _ Ha_w32.out Hc_w32.out (fun i => and_lt40 (HS.out i)) (fun i => xor_lt40 (HR.out i) (and_lt40 (xor_lt40 (HR.out i) (and_lt40 (HS.out i))))) (fun i _ => alg7 (R i) (S i))).mono ?_
  rintro e w33 ⟨rfl, hbe⟩
  have Hr_w33 := Lib.hid (Hr_w32.out.next hbe)
  have Hs_w33 := Lib.hid (Hs_w32.out.next hbe)
  have Ht_w33 := Lib.hid (Ht_w32.out.next hbe)
  have Hp_w33 := Lib.hid (Hp_w32.out.next hbe)
  have Ha_w33 := Lib.hid (Ha_w32.out.next hbe)
  have Hb_w33 := Lib.hid (Hb_w32.out.next hbe)
  have Hc_w33 := Lib.hid (Hc_w32.out.next hbe)
  have HB_w33 := Lib.hid (below_next HB_w32.out hbe)
  have HT_w33 := Lib.hid (HT_w32.out.next hbe)
  clear Hr_w32 Hs_w32 Ht_w32 Hp_w32 Ha_w32 Hb_w32 Hc_w32 HB_w32 HT_w32
  clear hbe
  go_wp2_with fail
  clear Ha_w33 Hb_w33 Hc_w33
  refine (loops_any _ K _ _ Hp_w33.out (plusR_lt R) HT_w33.out).mono ?_
  rintro e w34 ⟨rfl, hbe⟩
  have Hr_w34 := Lib.hid (Hr_w33.out.next hbe)
  have Hs_w34 := Lib.hid (Hs_w33.out.next hbe)
  have Ht_w34 := Lib.hid (Ht_w33.out.next hbe)
  have Hp_w34 := Lib.hid (Hp_w33.out.next hbe)
  have HB_w34 := Lib.hid (below_next HB_w33.out hbe)
  have HT_w34 := Lib.hid (HT_w33.out.next hbe)
  clear Hr_w33 Hs_w33 Ht_w33 Hp_w33 HB_w33 HT_w33
  clear hbe
  go_wp2_with fail
  refine (loops_any _ K _ _ Hr_w34.out HR.out HT_w34.out).mono ?_
  rintro e w35 ⟨rfl, hbe⟩
  have Hr_w35 := Lib.hid (Hr_w34.out.next hbe)
  have Hs_w35 := Lib.hid (Hs_w34.out.next hbe)
  have Ht_w35 := Lib.hid (Ht_w34.out.next hbe)
  have Hp_w35 := Lib.hid (Hp_w34.out.next hbe)
  have HB_w35 := Lib.hid (below_next HB_w34.out hbe)
  have HT_w35 := Lib.hid (HT_w34.out.next hbe)
  clear Hr_w34 Hs_w34 Ht_w34 Hp_w34 HB_w34 HT_w34
  clear hbe
  go_wp2_with fail
  refine (loops_any _ K _ _ Hr_w35.out HR.out HT_w35.out).mono ?_
  rintro e w36 ⟨rfl, hbe⟩
  have Hr_w36 := Lib.hid (Hr_w35.out.next hbe)
  have Hs_w36 := Lib.hid (Hs_w35.out.next hbe)
  have Ht_w36 := Lib.hid (Ht_w35.out.next hbe)
  have Hp_w36 := Lib.hid (Hp_w35.out.next hbe)
  have HB_w36 := Lib.hid (below_next HB_w35.out hbe)
  have HT_w36 := Lib.hid (HT_w35.out.next hbe)
  clear Hr_w35 Hs_w35 Ht_w35 Hp_w35 HB_w35 HT_w35
  clear hbe
  go_wp2_with fail
  refine (back_any _ K _ _ Hr_w36.out HR.out HT_w36.out).mono ?_
  rintro e w37 ⟨rfl, hat, hbe⟩
  have Hr_w37 := Lib.hid (Hr_w36.out.next hbe)
  have Hs_w37 := Lib.hid (Hs_w36.out.next hbe)
  have Ht_w37 := Lib.hid (Ht_w36.out.next hbe)
  have Hp_w37 := Lib.hid (Hp_w36.out.next hbe)
  have HB_w37 := Lib.hid (below_next HB_w36.out hbe)
  have HT_w37 := Lib.hid (HT_w36.out.next hbe)
  clear Hr_w36 Hs_w36 Ht_w36 Hp_w36 HB_w36 HT_w36
  have Ha_w37 : Hid (At w37 _ K (backR R)) := hat
  clear hat hbe
  go_wp2_with fail
  refine (loops_any _ K _ _ Ha_w37.out (fun _ => bitsOf_lt _ _) HT_w37.out).mono ?_
  rintro e w38 ⟨rfl, hbe⟩
  have Hr_w38 := Lib.hid (Hr_w37.out.next hbe)
  have Hs_w38 := Lib.hid (Hs_w37.out.next hbe)
  have Ht_w38 := Lib.hid (Ht_w37.out.next hbe)
  have Hp_w38 := Lib.hid (Hp_w37.out.next hbe)
  have Ha_w38 := Lib.hid (Ha_w37.out.next hbe)
  have HB_w38 := Lib.hid (below_next HB_w37.out hbe)
  have HT_w38 := Lib.hid (HT_w37.out.next hbe)
  clear Hr_w37 Hs_w37 Ht_w37 Hp_w37 Ha_w37 HB_w37 HT_w37
  clear hbe
  go_wp2_with fail
  refine (awake_any w38 HT_w38.out).mono ?_
  rintro e wz ⟨rfl, hbe⟩
  have HB_z := Lib.hid (below_next HB_w38.out hbe)
  clear hbe
  go_wp2_with fail
  go_ret
  exact ⟨rfl, HB_z.out⟩
end Go.Proofs.YtepkjnpbdjmlbaaDoor
