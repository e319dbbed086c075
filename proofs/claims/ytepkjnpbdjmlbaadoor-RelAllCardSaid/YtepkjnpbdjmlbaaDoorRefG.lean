import Derived.Test.YtepkjnpbdjmlbaaDoorRefF
namespace Go.Proofs.YtepkjnpbdjmlbaaDoor
open Go.RowKit RelA
attribute [local irreducible] RelA.rcells
set_option maxHeartbeats 1600000 in
theorem sp_any (L : List (Nat × Nat)) (a1 a2 : Option Addr) (c1 c2 : Nat) (w : World) (h1 : PairsRd w a1 L) (h2 : PairsRd w a2 L) (hL : L.length ≤ 100000) :
    Calls Tryd.prog 37 #[.slice a1 L.length c1, .slice a2 L.length c2] w fun e w' => e = .returned (.bool true) ∧ Below w.heap.size w w' := by
  have H1 := Lib.hid h1
  have H2 := Lib.hid h2
  clear h1 h2
  go_enter Tryd.func37, Tryd.ntmps37
  go_wp2_with fail
  go_loopw [5] (fun x wr => ∃ k : Nat, k ≤ L.length ∧ x = .int .i64 k ∧ Below w.heap.size w wr) (fun x _ => L.length - (intOf x).toNat)
  case atStart => exact ⟨0, Nat.zero_le _, rfl, Below.refl _ _⟩
  case round =>
    obtain ⟨k, hk, rfl, hbe⟩ := hrel
    by_cases hlt : k < L.length
    · have hdk : decide ((k : Int) < (L.length : Int)) = true := by simp; omega
      have hki : (k : Int) < (L.length : Int) := by omega
      rcases (H1.out.next hbe) with h0 | ⟨g1, rfl, hg1, hc1⟩
      · rw [h0] at hlt; simp at hlt
      · rcases (H2.out.next hbe) with h0 | ⟨g2, rfl, hg2, hc2⟩
        · rw [h0] at hlt; simp at hlt
        · have e1 := (hc1 k hlt).1
          have e2 := (hc1 k hlt).2
          have e3 := (hc2 k hlt).1
          have e4 := (hc2 k hlt).2
          clear hc1 hc2 hg1 hg2
          generalize (castP L).getD k (0, 0) = p at *
          obtain ⟨pa, pb⟩ := p
          simp only at e1 e2 e3 e4
          go_wp2_with fail
          go_region
          go_wp2_with fail
          go_roundw
          case rel => exact ⟨k + 1, by omega, by go_num, hbe.drew⟩
          case measure => simp [intOf]; omega
    · have hdk : decide ((k : Int) < (L.length : Int)) = false := by simp; omega
      go_wp2_with fail
      go_ret
      exact ⟨rfl, hbe⟩

section
attribute [local go_sem ↓] Go.wp_at_zero Go.wp_at_succ
set_option maxHeartbeats 3200000 in
theorem same_any (b c n : Nat) (R : Nat → Nat) (M : Nat → Nat → Bool) (w : World) (hb : At w b n R) (hc : RAt w c n M) (hn : n ≤ 40) (hR : ∀ i, R i < 2 ^ 40) (ht : Tab w) (he : pairsR R = rpairs n M) :
    Calls Tryd.prog 10 #[.pointer (some ⟨b, 0, none⟩), .pointer (some ⟨c, 0, none⟩)] w fun e w' => e = .returned (.bool true) ∧ Below w.heap.size w w' := by
  have hc0 := hc.c0
  have HL := Lib.hid (len_any b n w.drew hb.c0)
  have HP := Lib.hid (pairs_any b n R w.drew hb hR ht)
  have HQ := Lib.hid (fun w1 (h : Below w.heap.size w w1) => rpairs_any c n M w1 (hc.next h) hn)
  have HE := Lib.hid he
  have hlen : (rpairs n M).length ≤ 100000 := by have := rpre_len n M hn n; unfold rpairs; omega
  have HS := Lib.hid (fun a1 a2 c1 c2 w1 (h1 : PairsRd w1 a1 (rpairs n M)) (h2 : PairsRd w1 a2 (rpairs n M)) => sp_any (rpairs n M) a1 a2 c1 c2 w1 h1 h2 hlen)
  clear hb hc hR ht he hn
  go_enter Tryd.func10, Tryd.ntmps10
  go_wp2_with fail
  go_region_with (first
    | (go_at_call 35; refine HL.out.mono ?_; rintro e w' ⟨rfl, rfl⟩)
    | (go_at_call 34; refine HP.out.mono ?_; rintro e w1 ⟨v, rfl, hown, hbe⟩; have hbe1 : Below w.heap.size w w1 := ⟨hbe.os, hbe.tape, hbe.output, hbe.size, hbe.block⟩; rw [HE.out] at hown; obtain ⟨p1, q1, rfl, hrd1⟩ := PairsRd.of_own hown; clear hown hbe; have HR1 := Lib.hid hrd1; have HBE1 := Lib.hid hbe1; clear hrd1 hbe1)
    | (go_at_call 38; refine (HQ.out _ HBE1.out).mono ?_; rintro e w2 ⟨v, rfl, hown, hbe⟩; obtain ⟨p2, q2, rfl, hrd2⟩ := PairsRd.of_own hown; have HR2 := Lib.hid hrd2; have HR12 := Lib.hid (HR1.out.next hbe); have HBE2 := Lib.hid (below_next HBE1.out hbe); clear hown hrd2 hbe)
    | (go_at_call 37; refine (HS.out _ _ _ _ _ HR12.out HR2.out).mono ?_; rintro e w3 ⟨rfl, hbe⟩; have HBE3 := Lib.hid (below_next HBE2.out hbe); clear hbe))
  all_goals go_wp2_with fail
  all_goals go_ret
  all_goals exact ⟨rfl, HBE3.out⟩
end
end Go.Proofs.YtepkjnpbdjmlbaaDoor
