import Derived.Test.YtepkjnpbdjmlbaaDoorRelJ
import Derived.OwnWalk
import Derived.Deep.AppendLies
namespace Go.Proofs.YtepkjnpbdjmlbaaDoor
open Go.RowKit RelA
namespace RelA
theorem ctz_low (x : Nat) (h0 : x ≠ 0) (hx : x < 2 ^ 64) (j : Nat) (hj : j < Lib.ctz 64 x) : x.testBit j = false := by
  obtain ⟨m, hm, hk⟩ := Lib.ctzFrom_spec 64 x (by omega) hx
  have e : Lib.ctz 64 x = Lib.ctzFrom 64 x := by simp [Lib.ctz, h0]
  rw [e] at hj
  generalize Lib.ctzFrom 64 x = k at *
  rw [hm, Nat.testBit_two_pow_mul]
  have : ¬ k ≤ j := by omega
  simp [this]
def bitList (x : Nat) : List Nat := (List.range 40).filter fun j => x.testBit j
theorem bitList_zero : bitList 0 = [] := by unfold bitList; simp
theorem bitList_step (x : Nat) (h0 : x ≠ 0) (hx : x < 2 ^ 40) : bitList x = Lib.ctz 64 x :: bitList (x &&& (x - 1)) := by
  have hz := ctz_lt40 x h0 hx
  have hb := ctz_bits x h0 (by omega)
  have hl := ctz_low x h0 (by omega)
  generalize Lib.ctz 64 x = z at *
  unfold bitList
  have hr : List.range 40 = List.range' 0 z ++ (z :: List.range' (z + 1) (40 - z - 1)) := by
    rw [List.range_eq_range']
    have e1 : (40 : Nat) = z + ((40 - z - 1) + 1) := by omega
    have := List.range'_append_1 (s := 0) (m := z) (n := (40 - z - 1) + 1)
    rw [Nat.zero_add, List.range'_succ] at this
    rw [this]
    congr 1
  rw [hr, List.filter_append, List.filter_append, List.filter_cons, List.filter_cons]
  have f1 : (List.range' 0 z).filter (fun j => x.testBit j) = [] := by
    rw [List.filter_eq_nil_iff]
    intro a ha
    have := List.mem_range'_1.1 ha
    rw [hl a (by omega)]; simp
  have f2 : (List.range' 0 z).filter (fun j => (x &&& (x - 1)).testBit j) = [] := by
    rw [List.filter_eq_nil_iff]
    intro a ha
    have := List.mem_range'_1.1 ha
    rw [(hb a).1, hl a (by omega)]; simp
  rw [f1, f2, (hb 0).2, (hb z).1]
  simp only [List.nil_append, if_true, ne_eq, not_true_eq_false, decide_false, Bool.and_false, Bool.false_eq_true, if_false, List.cons.injEq, true_and]
  apply List.filter_congr
  intro a ha
  have := List.mem_range'_1.1 ha
  rw [(hb a).1]
  have : a ≠ z := by omega
  simp [this]
def rowPairs (i x : Nat) : List (Nat × Nat) := (bitList x).map fun j => (i, j)
def pre (R : Nat → Nat) (k : Nat) : List (Nat × Nat) := (List.range k).flatMap fun i => rowPairs i (R i)
def pairsR (R : Nat → Nat) : List (Nat × Nat) := pre R 40
theorem pre_succ (R : Nat → Nat) (k : Nat) : pre R (k + 1) = pre R k ++ rowPairs k (R k) := by
  unfold pre; rw [List.range_succ, List.flatMap_append]; simp
theorem rowPairs_len (i x : Nat) : (rowPairs i x).length ≤ 40 := by
  unfold rowPairs bitList
  rw [List.length_map]
  have := List.length_filter_le (fun j => x.testBit j) (List.range 40)
  simpa using this
theorem pre_len (R : Nat → Nat) (k : Nat) : (pre R k).length ≤ 40 * k := by
  induction k with
  | zero => simp [pre]
  | succ k ih =>
    rw [pre_succ, List.length_append]
    have := rowPairs_len k (R k)
    omega
def pairCells (l : List (Nat × Nat)) : List Value := l.flatMap fun p => [.int .i64 p.1, .int .i64 p.2]
theorem pairCells_snoc (l : List (Nat × Nat)) (a b : Nat) : pairCells (l ++ [(a, b)]) = pairCells l ++ [.int .i64 a, .int .i64 b] := by
  unfold pairCells; rw [List.flatMap_append]; rfl
theorem info37 : (Tryd.prog.info? 37).map (fun i => (i.zero, i.size, i.bytes)) = some (some (.agg #[.int .i64 0, .int .i64 0]), 2, 16) := by kernel_rfl
end RelA

set_option maxHeartbeats 1600000 in
theorem pairs_any (b n : Nat) (R : Nat → Nat) (w : World) (hb : At w b n R) (hR : ∀ i, R i < 2 ^ 40) (htab : Tab w) :
    Calls Tryd.prog 34 #[.pointer (some ⟨b, 0, none⟩)] w fun e w' => ∃ v, e = .returned v ∧ w'.ownsRow w.heap.size 37 2 v (pairsR R).length (pairCells (pairsR R)) ∧ Below w.heap.size w w' := by
  have HR := Lib.hid hR
  have HB := Lib.hid hb
  have HTAB := Lib.hid htab
  clear hR hb htab
  obtain ⟨i0, hi, hz0, hz1, hz2⟩ := info_parts info37
  go_enter Tryd.func34, Tryd.ntmps34
  go_wp2_with ((with_reducible refine wpList_load_rows rfl _ rfl b n R rfl HB.out ?_))
  go_loop [3, 13] (fun s i => ∃ k N : Nat, k ≤ 40 ∧ N ≤ 128 * k ∧ s = .int .i64 N ∧ i = .int .i64 k) (fun _ i => 40 - (intOf i).toNat)
  case atStart => exact ⟨0, 0, by omega, by omega, rfl, rfl⟩
  case round =>
    obtain ⟨k, N, hk, hN, rfl, rfl⟩ := hrel
    by_cases hlt : k < 40
    · have hix := run_index_rows R k hlt
      go_wp2_with fail
      refine (ones_any (R k) _).mono ?_
      rintro e w' ⟨⟨q, hq, rfl⟩, rfl⟩
      go_wp2_with fail
      go_round
      case rel => exact ⟨k + 1, N + q, by omega, by omega, by go_num, by go_num⟩
      case measure => simp [intOf]; omega
    · go_wp2_with (first
        | (at_make; refine wpList_make_own _ rfl _ _ 22 rfl w.heap.size 37 i0 (.agg #[.int .i64 0, .int .i64 0]) 2 Tryd.underlying22 hi hz0 hz1 .i64 .i64 _ N rfl rfl (by rfl) (by rw [hz2]; omega) (by unfold maxLen; omega) (Nat.le_refl _) ?_; intro w0 hown0 hgrow0; have HBW : Hid (Below w.heap.size w w0) := (Below.refl _ _).grown hgrow0 (Nat.le_refl _) (fun k h => by cases h))
        | (with_reducible refine wpList_load_rows rfl _ rfl b n R rfl (HB.out.below HBW.out HB.out.lt) ?_))
      go_loopw [6, 27] (fun v i wr => ∃ k : Nat, k ≤ 40 ∧ i = .int .i64 k ∧ wr.ownsRow w.heap.size 37 2 v (pre R k).length (pairCells (pre R k)) ∧ Below w.heap.size w wr) (fun _ i _ => 40 - (intOf i).toNat)
      case atStart => exact ⟨0, Nat.zero_le _, rfl, hown0, HBW.out⟩
      case round =>
        obtain ⟨k, hk, rfl, hown, hbe⟩ := hrel
        by_cases hlt : k < 40
        · obtain ⟨wo, rfl⟩ : ∃ wo : World, wo = wr := ⟨_, rfl⟩
          have hix := run_index_rows R k hlt
          have hdk : decide ((k : Int) < 40) = true := by simp; omega
          have HOWN := Lib.hid hown
          have HPL := Lib.hid (pre_len R (k + 1))
          clear hown
          go_wp2_with fail
          go_loopw [6, 8] (fun v x wi => ∃ (y : Nat) (L : List (Nat × Nat)), y < 2 ^ 40 ∧ x = .int .u64 y ∧ Hid (L ++ rowPairs k y = pre R (k + 1)) ∧ wi.ownsRow w.heap.size 37 2 v L.length (pairCells L) ∧ Below w.heap.size w wi) (fun _ x _ => (intOf x).toNat)
          case atStart => exact ⟨R k, pre R k, HR.out k, rfl, (show _ = _ from (pre_succ R k).symm), HOWN.out, hbe⟩
          case round =>
            obtain ⟨y, L, hy, rfl, hL, hown, hbi⟩ := hrel
            by_cases hy0 : y = 0
            · subst hy0
              have HOWNI := Lib.hid hown
              clear hown
              go_wp2_with fail
              go_roundw
              case rel =>
                refine ⟨k + 1, by omega, by go_num, ?_, hbi⟩
                have h1 := hL.out
                unfold rowPairs at h1
                rw [bitList_zero, List.map_nil, List.append_nil] at h1
                rw [← h1]; exact HOWNI.out
              case measure => simp [intOf]; omega
            · have hyb : ((y : Int) != 0) = true := by simpa using hy0
              have hy1 : 1 ≤ y := by omega
              have hz := ctz_lt40 y hy0 hy
              have HTZ := Lib.hid (tz_any y wr (HTAB.out.below hbi (Nat.lt_of_le_of_lt (Nat.zero_le _) HB.out.lt)) hy0 (lt64 hy))
              have HOWNI := Lib.hid hown
              have HY0 := Lib.hid hy0
              have hand : bits .and .u64 (y : Int) ((y : Int) - 1) = ((y &&& (y - 1) : Nat) : Int) := by
                have := bits_and_u64_nat y (y - 1) (lt64 hy) (by omega)
                rwa [Int.ofNat_sub hy1] at this
              have HST : Hid (rowPairs k y = (k, Lib.ctz 64 y) :: rowPairs k (y &&& (y - 1))) := by
                show _ = _
                unfold rowPairs; rw [bitList_step y hy0 hy]; rfl
              have hLlen : L.length + 1 ≤ 1640 := by
                have h1 := congrArg List.length hL.out
                have h2 := HPL.out
                have h3 := HST.out
                rw [List.length_append, h3, List.length_cons] at h1
                omega
              clear hown hy0
              generalize Lib.ctz 64 y = z at *
              have hsz := hbi.size
              go_wp2_with fail
              refine HTZ.out.mono ?_
              rintro e w' ⟨rfl, rfl⟩
              go_wp2_with (first
                | (at_builtin; refine wpList_append_own _ rfl (.tmp 37) (.tmp 42) 22 rfl w.heap.size 37 i0 (.agg #[.int .i64 0, .int .i64 0]) 2 16 Tryd.underlying22 hi hz0 hz1 hz2 rfl (by decide) _ _ _ rfl (HOWNI.out.alloc _) ⟨wr.heap.size, 0, none⟩ 1 1 [.int .i64 k, .int .i64 z] rfl rfl (World.news_of_block (cs := #[.int .i64 k, .int .i64 z]) (t := 37) (fr := (0, 0)) (heap_alloc_new wr _)) (by simp [Value.oneCell']) (by unfold maxLen; omega) (by omega) (by simp; omega) ?_; intro v1 w1 hown1 hgrow1 hnil1; have HO1 := Lib.hid hown1; have HG1 := Lib.hid hgrow1; clear hown1 hgrow1 hnil1))
              go_roundw
              case rel =>
                refine ⟨y &&& (y - 1), L ++ [(k, z)], ?_, rfl, ?_, ?_, ?_⟩
                · exact Nat.lt_of_lt_of_le (clear_lt y HY0.out) (by omega)
                · show _ = _
                  rw [← hL.out, HST.out, List.append_assoc]; rfl
                · rw [List.length_append, pairCells_snoc]; exact HO1.out
                · exact (hbi.alloc hsz _).grown HG1.out (by simp; omega) (fun j hj => (HOWNI.out.lt j hj).1)
              case measure =>
                have := clear_lt y HY0.out
                simp [intOf]; omega
        · have hk40 : k = 40 := by omega
          have HK := Lib.hid hk40
          have HOWN := Lib.hid hown
          clear hk40 hown
          go_wp2_with fail
          go_ret
          refine ⟨_, rfl, ?_, hbe⟩
          have := HOWN.out
          rw [HK.out] at this
          exact this
end Go.Proofs.YtepkjnpbdjmlbaaDoor
