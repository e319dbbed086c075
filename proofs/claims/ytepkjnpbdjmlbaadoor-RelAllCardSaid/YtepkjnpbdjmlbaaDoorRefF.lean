import Derived.Test.YtepkjnpbdjmlbaaDoorRefE
import Derived.Deep.RegionWith
import Derived.Deep.DrawnRows
namespace Go.Proofs.YtepkjnpbdjmlbaaDoor
open Go.RowKit RelA
attribute [local irreducible] RelA.rcells
namespace RelA
def rrow (M : Nat → Nat → Bool) (i q : Nat) : List (Nat × Nat) := ((List.range q).filter fun j => M i j).map fun j => (i, j)
def rpre (N : Nat) (M : Nat → Nat → Bool) (k : Nat) : List (Nat × Nat) := (List.range k).flatMap fun i => rrow M i N
def rpairs (N : Nat) (M : Nat → Nat → Bool) : List (Nat × Nat) := rpre N M N
theorem rrow_yes (M : Nat → Nat → Bool) (i q : Nat) (h : M i q = true) : rrow M i (q + 1) = rrow M i q ++ [(i, q)] := by
  unfold rrow; rw [List.range_succ, List.filter_append, List.map_append]; simp [h]
theorem rrow_no (M : Nat → Nat → Bool) (i q : Nat) (h : M i q = false) : rrow M i (q + 1) = rrow M i q := by
  unfold rrow; rw [List.range_succ, List.filter_append, List.map_append]; simp [h]
theorem rrow_len (M : Nat → Nat → Bool) (i q : Nat) : (rrow M i q).length ≤ q := by
  unfold rrow; rw [List.length_map]
  have := List.length_filter_le (fun j => M i j) (List.range q)
  simpa using this
theorem rpre_succ (N : Nat) (M : Nat → Nat → Bool) (k : Nat) : rpre N M (k + 1) = rpre N M k ++ rrow M k N := by
  unfold rpre; rw [List.range_succ, List.flatMap_append]; simp
theorem rpre_len (N : Nat) (M : Nat → Nat → Bool) (hN : N ≤ 40) (k : Nat) : (rpre N M k).length ≤ 40 * k := by
  induction k with
  | zero => simp [rpre]
  | succ k ih =>
    rw [rpre_succ, List.length_append]
    have := rrow_len M k N
    omega
/-- a list of pairs of the call's own, or none -/
def PairsRd (w : World) (a : Option Addr) (L : List (Nat × Nat)) : Prop := L = [] ∨ ∃ g, a = some ⟨g, 0, none⟩ ∧ g < w.heap.size ∧ ∀ i, i < L.length →
  w.cell? ⟨g, i * 2, none⟩ = some (.int .i64 ((castP L).getD i (0, 0)).1) ∧ w.cell? ⟨g, i * 2 + 1, none⟩ = some (.int .i64 ((castP L).getD i (0, 0)).2)
theorem PairsRd.next {w w' : World} {a : Option Addr} {L : List (Nat × Nat)} (h : PairsRd w a L) (hb : Below w.heap.size w w') : PairsRd w' a L := by
  rcases h with h | ⟨g, h1, h2, h3⟩
  · exact .inl h
  · exact .inr ⟨g, h1, Nat.lt_of_lt_of_le h2 hb.size, fun i hi => ⟨(hb.cell (p := ⟨g, i * 2, none⟩) h2).trans (h3 i hi).1, (hb.cell (p := ⟨g, i * 2 + 1, none⟩) h2).trans (h3 i hi).2⟩⟩
theorem PairsRd.of_own {w : World} {base : Nat} {v : Value} {L : List (Nat × Nat)} (hown : w.ownsRow base 37 2 v L.length (pairCells L)) : ∃ a cap, v = .slice a L.length cap ∧ PairsRd w a L := by
  obtain ⟨hl, ⟨rfl, h0⟩ | ⟨g, cap, cur, rfl, hg, hcur, hc1, hc2, hc3, hc4⟩⟩ := hown
  · have : L = [] := List.length_eq_zero_iff.1 h0
    subst this
    exact ⟨none, 0, rfl, .inl rfl⟩
  · have hget : ∀ j, j < L.length * 2 → w.cell? ⟨g, j, none⟩ = (pairCells L)[j]? := by
      intro j hj
      rw [cell_of_row w g j cur _ _ hcur, ← hc4, List.getElem?_take, if_pos hj]
      simp
    refine ⟨_, _, rfl, .inr ⟨g, rfl, (Array.getElem?_eq_some_iff.1 hcur).1, fun i hi => ?_⟩⟩
    have hp := pairCells_get L i hi
    rw [hget _ (by omega), hget _ (by omega)]
    exact hp
def hasM (n : Nat) (M : Nat → Nat → Bool) (a b : Int) : Bool := (inB n a && inB n b) && M a.toNat b.toNat
end RelA

set_option maxHeartbeats 3200000 in
theorem rpairs_any (b n : Nat) (M : Nat → Nat → Bool) (w : World) (hb : RAt w b n M) (hn : n ≤ 40) :
    Calls Tryd.prog 38 #[.pointer (some ⟨b, 0, none⟩)] w fun e w' => ∃ v, e = .returned v ∧ w'.ownsRow w.heap.size 37 2 v (rpairs n M).length (pairCells (rpairs n M)) ∧ Below w.heap.size w w' := by
  have HB := Lib.hid hb
  clear hb
  obtain ⟨i0, hi, hz0, hz1, hz2⟩ := info_parts info37
  go_enter Tryd.func38, Tryd.ntmps38
  go_wp2_with fail
  go_loopw [3, 4] (fun v x wr => ∃ k : Nat, k ≤ n ∧ x = .int .i64 k ∧ wr.ownsRow w.heap.size 37 2 v (rpre n M k).length (pairCells (rpre n M k)) ∧ Below w.heap.size w wr) (fun _ x _ => n - (intOf x).toNat)
  case atStart => exact ⟨0, Nat.zero_le _, rfl, ⟨rfl, .inl ⟨rfl, rfl⟩⟩, Below.refl _ _⟩
  case round =>
    obtain ⟨k, hk, rfl, hown, hbe⟩ := hrel
    have hr0 := (HB.out.below hbe HB.out.lt).c0
    by_cases hlt : k < n
    · obtain ⟨wo, rfl⟩ : ∃ wo : World, wo = wr := ⟨_, rfl⟩
      have hdk : decide ((k : Int) < (n : Int)) = true := by simp; omega
      have hki : (k : Int) < (n : Int) := by omega
      have hk40 : (k : Int) < 40 := by omega
      have HOWN := Lib.hid hown
      have hpl := rpre_len n M hn k
      clear hown
      go_wp2_with fail
      clear hr0
      go_loopw [3, 5] (fun v x wi => ∃ q : Nat, q ≤ n ∧ x = .int .i64 q ∧ wi.ownsRow w.heap.size 37 2 v (rpre n M k ++ rrow M k q).length (pairCells (rpre n M k ++ rrow M k q)) ∧ Below w.heap.size w wi) (fun _ x _ => n - (intOf x).toNat)
      case atStart =>
        refine ⟨0, Nat.zero_le _, rfl, ?_, hbe⟩
        have h1 := HOWN.out
        show World.ownsRow _ _ _ _ _ (rpre n M k ++ []).length (pairCells (rpre n M k ++ []))
        rw [List.append_nil]; exact h1
      case round =>
        obtain ⟨q, hq, rfl, hown, hbi⟩ := hrel
        have hsz := hbi.size
        have hrl := rrow_len M k q
        have hll : (rpre n M k ++ rrow M k q).length ≤ 1700 := by rw [List.length_append]; omega
        have hr0 := (HB.out.below hbi HB.out.lt).c0
        have HOWNI := Lib.hid hown
        clear hown
        by_cases hql : q < n
        · have hdq : decide ((q : Int) < (n : Int)) = true := by simp; omega
          have hqi : (q : Int) < (n : Int) := by omega
          have hq40 : (q : Int) < 40 := by omega
          have hm1 := (HB.out.below hbi HB.out.lt).ci k q (by omega) (by omega)
          cases hx : M k q
          · rw [hx] at hm1
            have HX := Lib.hid hx
            clear hx
            go_wp2_with fail
            go_roundw
            case rel =>
              refine ⟨q + 1, by omega, by go_num, ?_, hbi⟩
              rw [rrow_no M k q HX.out]; exact HOWNI.out
            case measure => simp [intOf]; omega
          · rw [hx] at hm1
            have HX := Lib.hid hx
            clear hx
            go_wp2_with (first
              | (at_builtin; refine wpList_append_own _ rfl (.tmp 30) (.tmp 34) 22 rfl w.heap.size 37 i0 (.agg #[.int .i64 0, .int .i64 0]) 2 16 Tryd.underlying22 hi hz0 hz1 hz2 rfl (by decide) _ _ _ rfl (HOWNI.out.alloc _) ⟨wr.heap.size, 0, none⟩ 1 1 [.int .i64 k, .int .i64 q] rfl rfl (World.news_of_block (cs := #[.int .i64 k, .int .i64 q]) (t := 37) (fr := (0, 0)) (heap_alloc_new wr _)) (by simp [Value.oneCell']) (by unfold maxLen; omega) (by omega) (by simp; omega) ?_; intro v1 w1 hown1 hgrow1 hnil1; have HO1 := Lib.hid hown1; have HG1 := Lib.hid hgrow1; clear hown1 hgrow1 hnil1))
            go_roundw
            case rel =>
              refine ⟨q + 1, by omega, by go_num, ?_, ?_⟩
              · rw [rrow_yes M k q HX.out, ← List.append_assoc, pairCells_snoc, List.length_append]
                exact HO1.out
              · exact (hbi.alloc hsz _).grown HG1.out (by simp; omega) (fun j hj => (HOWNI.out.lt j hj).1)
            case measure => simp [intOf]; omega
        · have hqN : q = n := by omega
          have HQ := Lib.hid hqN
          have hdq : decide ((q : Int) < (n : Int)) = false := by simp; omega
          clear hqN
          go_wp2_with fail
          go_roundw
          case rel =>
            refine ⟨k + 1, by omega, by go_num, ?_, hbi⟩
            have h1 := HOWNI.out
            rw [HQ.out] at h1
            rw [rpre_succ]; exact h1
          case measure => simp [intOf]; omega
    · have hkN : k = n := by omega
      have HKN := Lib.hid hkN
      have hdk : decide ((k : Int) < (n : Int)) = false := by simp; omega
      have HOWN := Lib.hid hown
      clear hkN hown
      go_wp2_with fail
      go_ret
      refine ⟨_, rfl, ?_, hbe⟩
      have h1 := HOWN.out
      rw [HKN.out] at h1
      exact h1

set_option maxHeartbeats 800000 in
theorem rhas_any (c n : Nat) (M : Nat → Nat → Bool) (a b : Int) (w : World) (h : RAt w c n M) (hn : n ≤ 40) :
    Calls Tryd.prog 30 #[.pointer (some ⟨c, 0, none⟩), .int .i64 a, .int .i64 b] w fun e w' => e = .returned (.bool (hasM n M a b)) ∧ w = w' := by
  have hr0 := h.c0
  rcases five n a b with ⟨g1, g2, g3, g4, g5⟩ | ⟨g1, g5⟩ | ⟨g1, g2, g5⟩ | ⟨g1, g2, g3, g5⟩ | ⟨g1, g2, g3, g4, g5⟩
  · obtain ⟨i, rfl⟩ := Int.eq_ofNat_of_zero_le g1
    obtain ⟨j, rfl⟩ := Int.eq_ofNat_of_zero_le g2
    have hi40 : (i : Int) < 40 := by omega
    have hj40 : (j : Int) < 40 := by omega
    have hd := h.ci i j (by omega) (by omega)
    have HV : Hid (hasM n M i j = M i j) := by
      show _ = _
      unfold hasM; rw [g5]; simp
    clear g5 h
    go_enter Tryd.func30, Tryd.ntmps30
    go_wp2_with fail
    go_ret
    exact ⟨by rw [HV.out]; rfl, rfl⟩
  all_goals
    have HV : Hid (hasM n M a b = false) := by
      show _ = _
      unfold hasM; rw [g5]; simp
    clear g5 h
    go_enter Tryd.func30, Tryd.ntmps30
    go_wp2_with fail
    go_ret
    refine ⟨?_, rfl⟩
    rw [HV.out]
    first
      | rfl
      | (show Ending.returned (Value.bool (decide _)) = _; rw [decide_eq_false (by omega)])

set_option maxHeartbeats 800000 in
theorem rin_any (b n c m : Nat) (M S : Nat → Nat → Bool) (w : World) (hb : RAt w b n M) (hc : RAt w c m S) (hn : n ≤ 40) (hm : m ≤ 40) (x : Bool)
    (hx : (((rpairs (max n m) (rfull (max n m) fun i j => M i j && !S i j)).length : Int) == 0) = x) :
    Calls Tryd.prog 26 #[.pointer (some ⟨b, 0, none⟩), .pointer (some ⟨c, 0, none⟩)] w fun e w' => e = .returned (.bool x) ∧ Below w.heap.size w w' := by
  have H1 := Lib.hid (rless_any b n c m M S w hb hc hn hm)
  have hN : max n m ≤ 40 := by omega
  generalize max n m = N at *
  clear hb hc hn hm
  generalize (rfull N fun i j => M i j && !S i j) = X at *
  go_enter Tryd.func26, Tryd.ntmps26
  go_wp2_with fail
  refine H1.out.mono ?_
  rintro e w1 ⟨rfl, hat, hbe1⟩
  have HAT := Lib.hid hat
  clear hat
  go_wp2_with fail
  refine (rpairs_any _ N X w1 HAT.out hN).mono ?_
  rintro e w2 ⟨v, rfl, hown, hbe2⟩
  obtain ⟨pa, pc, rfl⟩ := own_len hown
  have HB2 := Lib.hid (below_next hbe1 hbe2)
  clear hown hbe1 hbe2
  go_wp2_with fail
  go_ret
  exact ⟨rfl, HB2.out⟩

set_option maxHeartbeats 800000 in
theorem rloops_any (b n : Nat) (M : Nat → Nat → Bool) (w : World) (hb : RAt w b n M) (hn : n ≤ 40) (hW : WFM n M) (x : Bool) (hx : x = true ↔ ∃ a, a < n ∧ MPath M a a) :
    Calls Tryd.prog 28 #[.pointer (some ⟨b, 0, none⟩)] w fun e w' => e = .returned (.bool x) ∧ Below w.heap.size w w' := by
  have H1 := Lib.hid (rplus_any b n M w hb hn hW)
  have HX := Lib.hid hx
  clear hb hW hx
  go_enter Tryd.func28, Tryd.ntmps28
  go_wp2_with fail
  refine H1.out.mono ?_
  rintro e w1 ⟨T, rfl, hat, hT, _, hbe⟩
  have HAT := Lib.hid hat
  have HTT := Lib.hid hT
  have hr0 := hat.c0
  clear hat hT
  go_wp2_with fail
  go_loop [4] (fun y => ∃ k : Nat, k ≤ n ∧ y = .int .i64 k ∧ Hid (∀ a, a < k → T a a = false)) (fun y => n - (intOf y).toNat)
  case atStart => exact ⟨0, Nat.zero_le _, rfl, fun a ha => absurd ha (by omega)⟩
  case round =>
    obtain ⟨k, hk, rfl, hno⟩ := hrel
    by_cases hlt : k < n
    · have hdk : decide ((k : Int) < (n : Int)) = true := by simp; omega
      have hki : (k : Int) < (n : Int) := by omega
      have hk40 : (k : Int) < 40 := by omega
      have hd := HAT.out.ci k k (by omega) (by omega)
      cases hb : T k k
      · rw [hb] at hd
        have HB := Lib.hid hb
        clear hb
        go_wp2_with fail
        go_round
        case rel =>
          refine ⟨k + 1, by omega, by go_num, ?_⟩
          intro a ha
          by_cases e : a = k
          · subst e; exact HB.out
          · exact hno.out a (by omega)
        case measure => simp [intOf]; omega
      · rw [hb] at hd
        have HF := Lib.hid (HX.out.2 ⟨k, hlt, (HTT.out k k).1 hb⟩)
        clear hb
        go_wp2_with fail
        go_ret
        exact ⟨by rw [HF.out]; rfl, hbe⟩
    · have hdk : decide ((k : Int) < (n : Int)) = false := by simp; omega
      have HF : Hid (x = false) := by
        show _ = _
        rw [← Bool.not_eq_true, HX.out]
        rintro ⟨a, ha, hp⟩
        have h1 := (HTT.out a a).2 hp
        rw [hno.out a (by omega)] at h1; cases h1
      go_wp2_with fail
      go_ret
      exact ⟨by rw [HF.out]; rfl, hbe⟩
end Go.Proofs.YtepkjnpbdjmlbaaDoor
