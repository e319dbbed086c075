import Derived.Test.YtepkjnpbdjmlbaaDoorAlg
import Derived.Deep.RegionLaw
import Derived.Deep.AppendLies
namespace Go.Proofs.YtepkjnpbdjmlbaaDoor
open Go.RowKit RelA
theorem place_int (n k : Int) (w : World) (hk : 0 < k) (hk2 : k ≤ 1000000) :
    Calls Tryd.prog 31 #[.int .i64 n, .int .i64 k] w fun e w' => e = .returned (.int .i64 (n % k)) ∧ w = w' := by
  obtain ⟨m, rfl⟩ := Int.eq_ofNat_of_zero_le (Int.le_of_lt hk)
  exact place_any n m w (by omega) (by omega)
/-- a slice of integers that came in -/
def IntsAt (w : World) (a : Option Addr) (len : Nat) : Prop := len = 0 ∨ ∃ b o, a = some ⟨b, o, none⟩ ∧ b < w.heap.size ∧ ∀ i, i < len → ∃ x : Int, w.cell? ⟨b, o + i, none⟩ = some (.int .i64 x)
theorem IntsAt.next {w w' : World} {a : Option Addr} {len : Nat} (h : IntsAt w a len) (hb : Below w.heap.size w w') : IntsAt w' a len := by
  rcases h with h | ⟨b, o, h1, h2, h3⟩
  · exact .inl h
  · refine .inr ⟨b, o, h1, Nat.lt_of_lt_of_le h2 hb.size, fun i hi => ?_⟩
    obtain ⟨x, hx⟩ := h3 i hi
    exact ⟨x, (hb.cell (p := ⟨b, o + i, none⟩) h2).trans hx⟩
set_option maxHeartbeats 1600000 in
theorem some_any (K : Nat) (a : Option Addr) (len cap : Nat) (w : World) (hK1 : 1 ≤ K) (hK2 : K ≤ 12) (_hlen : len ≤ maxLen) (hint : IntsAt w a len) :
    Calls Tryd.prog 32 #[.int .i64 K, .slice a len cap] w fun e w' => ∃ (R : Nat → Nat) (c : Nat), e = .returned (.pointer (some ⟨c, 0, none⟩)) ∧ At w' c K R ∧ (∀ i, R i < 2 ^ 40) ∧ Below w.heap.size w w' := by
  have HI := Lib.hid hint
  clear hint
  obtain ⟨i0, hi, hz0, hz1, hz2⟩ := info_parts info37
  have hKi : (1 : Int) ≤ (K : Int) := by omega
  have hKK : K * K ≤ 144 := Nat.mul_le_mul hK2 hK2
  have hKK1 : 1 ≤ K * K := Nat.mul_le_mul hK1 hK1
  have hKKi : (K : Int) * (K : Int) ≤ 144 := by exact_mod_cast hKK
  have hKKi1 : (1 : Int) ≤ (K : Int) * (K : Int) := by exact_mod_cast hKK1
  have HCK : Hid (clampN (K : Int) = K) := by show clampN _ = _; unfold clampN; omega
  go_enter Tryd.func32, Tryd.ntmps32
  go_wp2_with fail
  go_loopw [5, 6] (fun v x wr => ∃ (q : Nat) (L : List (Nat × Nat)), q ≤ 100 ∧ x = .int .i64 q ∧ Hid (L.length = q) ∧ wr.ownsRow w.heap.size 37 2 v q (pairCells L) ∧ Below w.heap.size w wr) (fun _ x _ => 101 - (intOf x).toNat)
  case atStart => exact ⟨0, [], Nat.zero_le _, rfl, (show _ = _ from rfl), ⟨rfl, .inl ⟨rfl, rfl⟩⟩, Below.refl _ _⟩
  case round =>
    obtain ⟨q, L, hq, rfl, hL, hown, hbe⟩ := hrel
    have hsz := hbe.size
    obtain ⟨pa0, pc0, rfl⟩ := own_len hown
    have HOWN := Lib.hid hown
    clear hown
    by_cases hlt : q < len ∧ q < 100
    · obtain ⟨hl1, hl2⟩ := hlt
      have hd1 : decide ((q : Int) < (len : Int)) = true := by simp; omega
      have hd2 : decide ((q : Int) < 100) = true := by simp; omega
      have hi1 : (q : Int) < (len : Int) := by omega
      rcases HI.out with h0 | ⟨b, o, rfl, hb, hcells⟩
      · omega
      · obtain ⟨x, hx⟩ := hcells q hl1
        have hcell : wr.cell? ⟨b, o + q, none⟩ = some (.int .i64 x) := (hbe.cell (p := ⟨b, o + q, none⟩) hb).trans hx
        clear hx hcells
        obtain ⟨kk, hkk⟩ : ∃ kk : Nat, x % ((K : Int) * (K : Int)) = (kk : Int) := ⟨(x % ((K : Int) * (K : Int))).toNat, by have := Int.emod_nonneg x (show (K : Int) * (K : Int) ≠ 0 by omega); omega⟩
        have hkl : kk ≤ 144 := by have := Int.emod_lt_of_pos x (show (0 : Int) < (K : Int) * (K : Int) by omega); omega
        have HP := Lib.hid (fun w => place_int x ((K : Int) * (K : Int)) w (by omega) (by omega))
        rw [hkk] at HP
        clear hkk
        have hqd : (kk : Int) / (K : Int) = ((kk / K : Nat) : Int) := by simp
        have hrm : (kk : Int) % (K : Int) = ((kk % K : Nat) : Int) := by simp
        have hqt : (kk : Int).tdiv (K : Int) = ((kk / K : Nat) : Int) := by rw [← hqd]; exact Int.tdiv_eq_ediv_of_nonneg (by omega)
        have hrt : (kk : Int).tmod (K : Int) = ((kk % K : Nat) : Int) := by rw [← hrm]; exact Int.tmod_eq_emod_of_nonneg (by omega)
        have hga : kk / K ≤ 144 := Nat.le_trans (Nat.div_le_self _ _) hkl
        have hK0 : ¬ K = 0 := by omega
        generalize kk / K = ga at *
        generalize kk % K = gb at *
        have hgw : IntKind.i64.wrap (ga : Int) = (ga : Int) := by rw [IntKind.wrap_i64]; omega
        go_wp2_with fail
        refine (HP.out _).mono ?_
        rintro e w' ⟨rfl, rfl⟩
        go_wp2_with fail
        go_region_law ((refine step_append_lies _ (by rfl) _ _ _ (by rfl) w.heap.size 37 i0 _ 2 16 Tryd.underlying22 hi hz0 hz1 hz2 rfl (by omega) _ q (pairCells L) (by rfl) ((HOWN.out.alloc _).drew) ⟨wr.heap.size, 0, none⟩ 1 1 [.int .i64 ga, .int .i64 gb] (by rfl) (by rfl) (World.news_of_block (cs := #[.int .i64 ga, .int .i64 gb]) (t := 37) (fr := (0, 0)) (heap_alloc_new wr _)) (by simp [Value.oneCell']) (by omega) (by unfold maxLen; omega) (by omega) (by simp; omega) (wr.heap.size + 1) (by simp) ?_; intro gg gcap w1 hown1 hgrow1 hat1 hlt1))
        have HO1 := Lib.hid hown1
        have HG1 := Lib.hid hgrow1
        clear hown1 hgrow1 hat1 hlt1
        go_wp2_with fail
        go_roundw
        case rel =>
          refine ⟨q + 1, L ++ [(ga, gb)], by omega, by go_num, ?_, ?_, ?_⟩
          · show _ = _
            rw [List.length_append, hL.out]; rfl
          · rw [pairCells_snoc]; exact HO1.out
          · exact ((hbe.alloc hsz _).drew).grown HG1.out (by simp; omega) (fun j hj => (HOWN.out.lt j hj).1)
        case measure => simp [intOf]; omega
    · have HL := Lib.hid hL.out
      have HE : ∀ w', w' = wr → Calls Tryd.prog 8 #[.int .i64 (K : Int), .slice pa0 q pc0] w' fun e w'' => e = .returned (.pointer (some ⟨w'.heap.size, 0, none⟩)) ∧ At w'' w'.heap.size (clampN (K : Int)) (newR (clampN (K : Int)) (castP L)) ∧ Below w'.heap.size w' w'' := by
        rintro w' rfl
        have h1 := HOWN.out
        rw [← HL.out] at h1
        have h2 := new_own (K : Int) w.heap.size _ L w' h1
        rw [HL.out] at h2
        exact h2
      have HE2 := Lib.hid (HE wr rfl)
      clear HE
      have hR := Lib.hid (newR_lt40 K (castP L) (by omega))
      by_cases hl1 : q < len
      · have hd1 : decide ((q : Int) < (len : Int)) = true := by simp; omega
        have hd2 : decide ((q : Int) < 100) = false := by simp; omega
        go_wp2_with fail
        refine HE2.out.mono ?_
        rintro e w1 ⟨rfl, hat, hbe1⟩
        rw [HCK.out] at hat
        have HAT := Lib.hid hat
        clear hat
        go_wp2_with fail
        go_ret
        exact ⟨_, _, rfl, HAT.out, hR.out, below_next hbe hbe1⟩
      · have hd1 : decide ((q : Int) < (len : Int)) = false := by simp; omega
        go_wp2_with fail
        refine HE2.out.mono ?_
        rintro e w1 ⟨rfl, hat, hbe1⟩
        rw [HCK.out] at hat
        have HAT := Lib.hid hat
        clear hat
        go_wp2_with fail
        go_ret
        exact ⟨_, _, rfl, HAT.out, hR.out, below_next hbe hbe1⟩
end Go.Proofs.YtepkjnpbdjmlbaaDoor
